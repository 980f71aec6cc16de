import PyProof.Rows.All
import HandS.ForExc
import HandS.ExcInit
import HandS.Nested
import KE.KExcSuper
import HandS.ForMost
import HandS.IsInst
import HandS.Style
import HandS.Wide
import HandS.More
import HandS.RaiseMore
import HandS.Conv
import HandS.TupAny
import HandS.Deep
import HandS.TupMul
import HandS.TryOnly
import HandS.Comp
import HandS.ExcField
import HandS.FStr
import HandS.Exc
import HandS.StrMore
import HandS.NoneIn
import KE.GoesEnum
import HandS.Rev
import HandS.ExcIs
import HandS.TryMany
import HandS.HotCalls
import HandS.FStrTup
import HandS.Defaults
import HandS.CallSlots
import HandS.OwnEq
import PySem.Challenge.RW_whosetomorrow_k05_whole_tongues_and_situ
set_option Elab.async false
set_option linter.all false
set_option maxRecDepth 100000
set_option maxHeartbeats 2000000
/-! an own error over ValueError whose __init__ says super().__init__(x) and then stores its fields -/
namespace SupX
open PySem PySem.Spec PyProof.Rows L2 NdefX
open PySem.W (Frag)

/-- what the written part says of an error's class at C, its __init__ at fI, the cell at cc -/
structure SupC (P : Program) (K : Frag) (C fI : Addr) (qual : Str) (st : Stmt) (fd : FuncData) : Prop where
  cls : OexC K C
  iC : PySem.W.findIn K (.ref C) "__init__" = some (some (.ref fI))
  tI : PySem.W.typeIn K (.ref fI) = some (.type "function")
  isV : PySem.W.subIn K (.ref C) (.type "ValueError") = some true
  nx : PySem.W.ks_superIn K C C "__init__" = some (some (.builtin "ValueError.__init__"))
  me : PySem.W.mroIn K C (.ref C) = some true
  fn : ∃ (cc cda : Addr) (oc kV doc pm ct : Value) (od an : Option Addr) (osl : Array (Option Value)) (ccl cl : Value) (cdd cld : Option Addr) (vs : Array Value) (ccs csl : Array (Option Value)) (file : Str) (tf : Tok),
    fd = PySem.W.fnX "__init__" qual (defArgs st) (defBody st) (defScope st) [("__class__", cc)] .none kV doc pm an (.ref cda) ct ∧
    K.lookup fI = some ⟨oc, od, .func fd, osl⟩ ∧ PySem.W.codeIn K (.ref cda) qual = true ∧
    K.lookup cda = some ⟨ccl, cdd, .fields vs, ccs⟩ ∧ vs[2]? = some (.str file tf) ∧ ((P.main.file : Str) == file) = true ∧
    K.lookup cc = some ⟨cl, cld, .cell (some (.ref C)), csl⟩
  opq : PySem.W.nsIn K cStatics "thirdparty.any" = some none
  top : (P.main.scope.names.lookup ("super" : Str)).isSome = false
  sup : PySem.W.nsIn K mainGlobals "super" = some none

section
variable {P : Program} {w : World} {K : Frag} {mg : Str → Option Value} {base : Heap} {CX : CXT} {k : Nat} {C fI : Addr} {qual : Str} {st : Stmt} {fd : FuncData} {N ps : List Str} {sp : Sp}

theorem fn_sup {e : Expr} {rest : List Stmt} {p0 p1 p2 p3 p4 : Pos} (T : SupC P K C fI qual st fd) (S : NScope N ps ["__class__"] (defScope st))
    (hst : defBody st = .Expr (.Call (.Attribute (.Call (.Name "super" p0) [] [] p1) "__init__" p2) [e] [] p3) p4 :: rest)
    (hks : (defScope st).names.lookup ("super" : Str) = some .globalImplicit) (h0 : ((defArgs st).posonlyargs ++ (defArgs st).args).head?.map (·.arg) = some "self") (hself : ps.head? = some "self")
    (hse : ∀ env : Env, starEach [e] env = [(false, eval e env)])
    (hsw : ∀ env : Env, swapsWith (.Call (.Attribute (.Call (.Name "super" p0) [] [] p1) "__init__" p2) [e] [] p3) none p4.line env = pure false)
    (hev : ∀ env : Env, ∃ pl : Sem Bool, eval (.Call (.Attribute (.Call (.Name "super" p0) [] [] p1) "__init__" p2) [e] [] p3) env = (do
      let ov ← attributeBase (.Call (.Name "super" p0) [] [] p1) "__init__" env (eval (.Call (.Name "super" p0) [] [] p1) env)
      standAt p2.atName
      let (f, first) ← holding [ov] (getMethod ov "__init__" pl)
      callWith p3 f first (backTo p3 (starEach [e] env)) []))
    (len : ∀ vs H Q E, sp vs H Q E → vs.length = ps.length)
    (hbody : ∀ (F : NF) (A : Around) (outer : List Env) (s : Shared) (H : Hp) (vs : List V) (Q : VK) (E : XK), F.qual = qual → F.scope = defScope st → Room k (A.deeper (envF F fI s.heap.objs.size)) → sp vs H Q E →
      ∃ (a : Addr) (rs : List V), vs = .ref a :: rs ∧ H a = some (exo a C none) ∧
      ∃ te, PE (ncx CX P w K mg base N F fI A outer s H E) e te ∧
        ∃ t, PSs (ncx CX P w K mg base N F fI A outer s H E) rest t ∧
          te (startF N vs [none]) H fun x H1 => H1 a = some (exo a C none) ∧ t { nx := fun _ H' => Q .non H', rt := Q } (startF N vs [none]) H1) :
    FnOk P w K mg base CX (k + 1) fI fd ps sp := by
  obtain ⟨cc, cda, oc, kV, doc, pm, ct, od, an, osl, ccl, cl, cdd, cld, cvs, ccs, csl, file, tf, rfl, lk, hcd, hcda, hcvs, hfile, hcc⟩ := T.fn
  refine ⟨len, fun A outer s H args us vs Q E hr e0 hb r hsp => ?_⟩
  have hl := len _ _ _ _ hsp
  have KX : K.In s.heap := e0.mod.kin.keeps fun b o e => (e0.bs b o e).1
  have lim : s.heap.NoLimit := e0.mod.nolimit.keeps fun b o e => (e0.bs b o e).1
  let G : NF := ⟨"__init__", qual, defArgs st, defBody st, defScope st, [("__class__", cc)], cda⟩
  refine codeAny_call_function hr.depth (KX _ _ lk) rfl S.co S.gen rfl (PySem.W.codeRec_of KX hcd) (hb _ _ _ _ ?_)
  refine wpAny_newFunctionEnv S.nocell (fun ⟨n, _⟩ hy => S.par n (List.of_mem_zip hy).1) (fun h₁ hns hsb => ⟨lim.fresh _ hsb, ?_⟩) S.kind
  show codeAny _ _ (.func (defBody st) (envF G fI s.heap.objs.size)) _ _
  have kp : ∀ b o, s.heap.get? b = some o → h₁.get? b = some o := fun b o e => hsb.extBut b o (Nat.ne_of_lt (Heap.lt_size e)) (Heap.get?_push_of_some _ e)
  have KX1 : K.In h₁ := KX.keeps kp
  have hccN : H cc = none := (e0.bs cc _ (e0.mod.kin _ _ hcc)).2
  have C0 : CellsAt G.cl ["__class__"] [none] s.heap H := by
    refine ⟨rfl, fun y c e => ?_, fun x y c e1 e2 => ?_, fun i y e => ?_⟩
    · have h1 : (List.lookup y [(("__class__" : Str), cc)]) = some c := e
      simp only [List.lookup] at h1
      split at h1
      · cases h1
        exact ⟨hccN, _, _, KX _ _ hcc, rfl⟩
      · cases h1
    · have h1 : (List.lookup x [(("__class__" : Str), cc)]) = some c := e1
      have h2 : (List.lookup y [(("__class__" : Str), cc)]) = some c := e2
      simp only [List.lookup] at h1 h2
      split at h1
      · rename_i g1
        split at h2
        · rename_i g2
          have := eq_of_beq g1
          have := eq_of_beq g2
          simp_all
        · cases h2
      · cases h1
    · cases i with
      | zero =>
        cases e
        refine ⟨cc, by simp [G, List.lookup], fun v hv => ?_⟩
        cases hv
      | succ i => cases e
  obtain ⟨a, rs, rfl, ea, te, he, t, ht, hq⟩ := hbody G A outer s H vs Q E rfl rfl (hr.deeper _) hsp
  have I : Inv (ncx CX P w K mg base N G fI A outer s H E) [] (startF N (.ref a :: rs) [none]) H { s with heap := h₁, toks := s.toks + (ps.zip us).length } := inv_startN S hr.hd e0 hl r C0 hns kp
  obtain ⟨nm, q, Nc, bs, bm, sn, sub, ab, col, dd, k0, k1, k2, k3, k5, hC, hbm⟩ := T.cls.cls
  have hcl : PySem.W.clsIn K C = some { name := nm, bases := bs, mro := .ref C :: bm, ns := Nc, qualname := q, hasDict := true, slotNames := sn, subclasses := sub, abstract := ab, collection := col, hasDel := false } := by unfold PySem.W.clsIn; rw [hC] <;> rfl
  obtain ⟨t1, hoa⟩ := exo_at I.hok ea
  have hkc : (defScope st).names.lookup ("__class__" : Str) = some .free := S.frk _ (by simp)
  have hka : (defScope st).names.lookup ("self" : Str) = some .local := S.par _ (List.mem_of_mem_head? (by rw [hself]; rfl))
  obtain ⟨ar, har, hara⟩ : ∃ ar, ((defArgs st).posonlyargs ++ (defArgs st).args).head? = some ar ∧ ar.arg = "self" := by
    cases z : ((defArgs st).posonlyargs ++ (defArgs st).args).head? with
    | none => rw [z] at h0; cases h0
    | some ar => rw [z] at h0; exact ⟨ar, rfl, Option.some.inj h0⟩
  have hlast : (ps.zip us).reverse.lookup ("self" : Str) = some (.ref a) := by
    have nd : ps.Nodup := by
      have q := S.nd.sublist (List.take_sublist (ps.length + 1) N)
      have z := S.pre
      rw [show (["__class__"] : List Str).length = 1 from rfl] at z
      rw [z] at q
      exact (List.nodup_append.mp q).1
    cases r with
    | cons ra rr =>
      cases ra
      refine zip_look (i := 0) nd ?_ rfl
      rw [← List.head?_eq_getElem?]
      exact hself
  obtain ⟨mb, hmb, hbb⟩ := e0.mod.blt
  have kb : ∀ b o, base.get? b = some o → h₁.get? b = some o := fun b o e => kp b o (e0.bs b o e).1
  refine ks_codeAny_funcAt ?_
  rw [hst]
  refine ks_wpAt_execs_cons (ks_wpAt_Expr_any ?_ I.quiet (hsw _))
  obtain ⟨pl, hpl⟩ := hev (envF G fI s.heap.objs.size)
  refine ks_wpAt_MethodCall (pl := pl) ?_ hpl
  refine ks_wpAt_super_base (f := fI) hks hkc (by decide) rfl (KX1 _ _ lk) rfl har rfl (KX1 _ _ hcda) rfl hcvs hfile T.top ?_
  refine PySem.W.ks_loadName_global S.kind hks (PySem.Calls.loadGlobal_builtin (env := envF G fI s.heap.objs.size) (e0.mod.glob.keeps kb) (PySem.W.mg_none_of e0.mod.kin e0.mod.glob T.sup) (hmb.keeps kb) ((hbb _ (by decide +kernel)).trans (by decide +kernel : bootBuiltins "super" = some (.type "super"))) ⟨rfl, ?_⟩)
  refine wpAny_loadName_free S.kind hkc rfl ⟨_, KX1 _ _ hcc, rfl⟩ ?_
  rw [hara]
  refine wpAny_loadName_local S.kind hka hns hlast ?_
  refine ks_wpAny_isType_cls (KX1 _ _ hC) rfl ⟨rfl, ?_⟩
  refine ks_wpAny_call_super (KX1 _ _ hC) rfl hoa rfl (fun c e => nomatch e) (PySem.W.looks_mroIn KX1 T.me) (fun h' eso kso => ?_)
  have kx' : ∀ b o, h₁.get? b = some o → h'.get? b = some o := kso
  have KX2 : K.In h' := KX1.keeps kx'
  have hoa' := kx' _ _ hoa
  have Ia : PySem.W.InstAt h' a { cls := .ref C, dict := none, data := .fields #[.ref t1, .none, .none, .none, .bool false, .none] } C none := ⟨hoa', rfl, rfl, trivial⟩
  have nx := T.nx
  unfold PySem.W.ks_superIn at nx
  rw [hcl] at nx
  refine PySem.W.kxs_getMethod (l₀ := .ref C :: bm) PySem.W.kxs_ValueError eso (PySem.W.looks_opaque KX2 T.opq) ?_ rfl KX2 nx (Ia.type.andThen (PySem.W.looks_subIn KX2 T.isV)) (PySem.W.ks_ne KX2 Ia hcl) (by decide) ?_
  · exact fun A Q E s k q => wpAny_bind ((PySem.W.looks_clsIn KX2 hcl) A _ E s k (wpAny_pure q))
  have kp2 : ∀ b o, h'.get? b = some o → (h'.push (PySem.W.kxs_mw "ValueError.__init__" a)).get? b = some o := fun b o e => Heap.get?_push_of_some _ e
  have J0 : Inv (ncx CX P w K mg base N G fI A outer s H E) [] (startF N (.ref a :: rs) [none]) H ⟨h'.push (PySem.W.kxs_mw "ValueError.__init__" a), s.gens, s.drawn, s.toks + (ps.zip us).length + 1, s.os⟩ :=
    I.kept (t' := s.toks + (ps.zip us).length + 1) (h' := h'.push (PySem.W.kxs_mw "ValueError.__init__" a)) fun b o e => kp2 b o (kx' b o e)
  have hqm : (h'.push (PySem.W.kxs_mw "ValueError.__init__" a)).get? h'.objs.size = some (PySem.W.kxs_mw "ValueError.__init__" a) := Heap.get?_push_at rfl rfl
  have hle : h₁.objs.size ≤ h'.objs.size := Nat.le_of_lt (Heap.lt_size eso)
  have J : Inv (ncx CX P w K mg base N G fI A outer s H E) [(h'.objs.size, PySem.W.kxs_mw "ValueError.__init__" a)] (startF N (.ref a :: rs) [none]) H ⟨h'.push (PySem.W.kxs_mw "ValueError.__init__" a), s.gens, s.drawn, s.toks + (ps.zip us).length + 1, s.os⟩ := by
    refine J0.pins_of fun p hp => ?_
    have hp : p ∈ [(h'.objs.size, PySem.W.kxs_mw "ValueError.__init__" a)] := hp
    rw [List.mem_singleton] at hp
    subst hp
    exact ⟨hqm, I.hok.fresh hle, Nat.ne_of_gt (Nat.lt_of_lt_of_le I.lt hle), I.nofs hle, fun v z => nomatch z⟩
  refine PySem.W.kxs_callWith (i := "ValueError.__init__") (x := a) (by rw [hse]; rfl) ?_
  rw [hse]
  refine PySem.Calls.evalArgs_plain ?_
  show wpAny _ _ (spliced ((false, eval e (envF G fI s.heap.objs.size)) :: backTo p3 [])) _ _ _
  refine PySem.Calls.spliced_cons (thn (he.run _ _ _ _ _ J hq) fun u s2 ⟨x2, H2, J2, r2, ea2, q2⟩ => ?_)
  refine PySem.Calls.spliced_nil ?_
  have hmw := (J2.pin (h'.objs.size, PySem.W.kxs_mw "ValueError.__init__" a) (List.mem_append_right _ (List.mem_singleton.mpr rfl))).1
  refine ⟨hmw, ?_⟩
  obtain ⟨t2, hoa2⟩ := exo_at J2.hok ea2
  have hC2 := J2.kIn _ _ hC
  have fin : ∀ (s3 : Shared), Inv (ncx CX P w K mg base N G fI A outer s H E) [(h'.objs.size, PySem.W.kxs_mw "ValueError.__init__" a)] (startF N (.ref a :: rs) [none]) H2 s3 →
      wpAny (model P w) (A.deeper (envF G fI s.heap.objs.size)) (execs rest (envF G fI s.heap.objs.size)) (fun f s' => CR CX outer P w H s Q E (Except.ok (Flow.ret (match f with | Flow.ret v => v | x => Value.none))) s')
        (fun e s' => wpAny (model P w) (A.deeper (envF G fI s.heap.objs.size)) (leaving (envF G fI s.heap.objs.size) e) (fun x s'' => CR CX outer P w H s Q E (Except.error e) s'') (fun e' s'' => CR CX outer P w H s Q E (Except.error e') s'') s') s3 := fun s3 J3 => by
    refine wpAny_mono (ht.run _ _ _ _ _ J3 q2) (fun fl s' hs => ?_) fun e s' hs => hs
    have fin : ∀ {σ' : L2.St} {H' : Hp} {v : V} {u : Value}, Inv (ncx CX P w K mg base N G fI A outer s H E) [(h'.objs.size, PySem.W.kxs_mw "ValueError.__init__" a)] σ' H' s' → L2.RelV v u → Q v H' → CE outer P w H s Q u s' :=
      fun {σ' H' v u} J rv q => ⟨v, H', J.os, J.bare, J.base, J.hok, rv, q⟩
    cases fl with
    | ret u =>
      obtain ⟨v, σ', H', J, rv, q⟩ := hs
      exact fin J rv q
    | next =>
      obtain ⟨σ', H', J, q⟩ := hs
      exact fin (v := V.non) (u := Value.none) J rfl q
    | brk =>
      obtain ⟨_, _, _, q⟩ := hs
      exact False.elim q
    | cont =>
      obtain ⟨_, _, _, q⟩ := hs
      exact False.elim q
  obtain ⟨hp2, g2, d2, tk2, os2⟩ := s2
  refine wpAny_call (codeAny_of_tree ?_)
  show wpAny _ (A.deeper (envF G fI s.heap.objs.size)).in1 (callAny (.ref h'.objs.size) ⟨[u], []⟩) _ _ _
  simp only [callAny]
  refine wpAny_bind (wpAny_load hmw ?_)
  simp only [PySem.W.kxs_mw, show (Value.type "method-wrapper" == Value.type "method" || Value.type "method-wrapper" == Value.type "builtin_function_or_method" || Value.type "method-wrapper" == Value.type "method-wrapper") = true by decide, if_true]
  refine PySem.W.KFB.if_so (by decide) ?_
  refine wpAny_bind (PySem.W.check_bound_init F.excBase_ValueError.toExcCallFacts hC2 hoa2 rfl ?_)
  refine wpAny_bind (wpAny_pure (wpAny_pure ?_))
  refine ⟨plainId_quiet F.excBase_ValueError.init.plain _, codeAny_builtin F.excBase_ValueError.initEntry ?_⟩
  refine PySem.W.exc_init_tree (cls := .ref C) (t0 := t2) (dv := none) (c2 := .none) (c3 := .none) (b4 := .bool false) hoa2 (by rw [sizeLine_eq]; exact (by decide : 1 ≤ 16777216)) fun h3 k3 ha3 _ => ?_
  have J3 := J2.write (t' := tk2) (x := a) (e := a) (o := exo a C none) (by rw [ea2]; exact True.intro) (.inl rfl) k3 ⟨_, ha3⟩ (exo_ok ha3)
  have eu : upd H2 a (exo a C none) = H2 := by
    funext b
    by_cases hb : b = a
    · rw [hb, upd_same, ea2]
    · rw [upd_ne hb]
  rw [eu] at J3
  exact wpAt_of_wpAny (fin _ J3)
end

section
variable {X : Cx} {o e : Expr} {es : List Expr} {to te : TE} {ta : TA} {f : Str} {p p' p1 p2 pos : Pos}
/-- the end of C(e, ..) where __init__ stores no field -/
theorem mk_endN {pins : List (Addr × Obj)} {σ : L2.St} {H1 H2 : Hp} {Q : XK} {hp hp2 h2 : Heap} {g1 g2 : Array GenState} {d1 d2 : Drawn} {t1 t2 : Nat} {os1 os2 : OsState} {a C : Addr} (T : Raises X (.ref C)) (I1 : Inv X pins σ H1 ⟨hp, g1, d1, t1, os1⟩)
    (ha : hp.objs.size ≤ a) (k : ∀ b o, hp.get? b = some o → hp2.get? b = some o) (un : Un (frs X.stack) [] (upd H1 a (exo a C none)) H2 hp2 h2) (hok : HOk X.prog X.w H2 h2) (ho : os2 = os1) (hb : AllBare g2)
    (ea : H2 a = some (exo a C none)) (q : Q (.ref C) none (del H2 a)) : MkP X pins σ Q (.ref a) ⟨h2, g2, d2, t2, os2⟩ := by
  obtain ⟨t0, hoe⟩ := exo_at hok ea
  have hn : H1 a = none := I1.hok.fresh ha
  obtain ⟨G, g1', g2'⟩ := restrict h2 fun b => decide (b ≠ a)
  have gk : ∀ b, b ≠ a → G.get? b = h2.get? b := fun b hb => g1' b (decide_eq_true hb)
  have ge : G.get? a = none := g2' a (by simp)
  have nha : ∀ {b : Addr} {o : Obj}, hp.get? b = some o → b ≠ a := fun {b o} z => Nat.ne_of_lt (Nat.lt_of_lt_of_le (Heap.lt_size z) ha)
  have up : ∀ {b : Addr}, b ≠ a → H1 b = none → upd H1 a (exo a C none) b = none := fun {b} hb n => by rw [upd_ne hb]; exact n
  have U : Un (frs X.stack) [] H1 (del H2 a) hp G := {
    keep := fun b o z n hf hx => by
      rw [gk b (nha z)]
      exact un.keep b o (k b o z) (up (nha z) n) hf hx
    slot := fun b o z n hf hx => by
      rw [gk b (nha z)]
      exact un.slot b o (k b o z) (up (nha z) n) hf hx
    free := fun b o z n hx => by
      rw [del_ne (nha z)]
      exact un.free b o (k b o z) (up (nha z) n) hx
    there := fun b o z hx => by
      rw [gk b (nha z)]
      exact un.there b o (k b o z) hx
    tups := fun b xs z => by
      rw [del_ne (ne_of_none z hn)]
      exact un.tups b xs (by rw [upd_ne (ne_of_none z hn)]; exact z)
    frzs := fun b o v z => by
      rw [del_ne (ne_of_none z hn)]
      exact un.frzs b o v (by rw [upd_ne (ne_of_none z hn)]; exact z)
    tbls := fun b ps z => by
      rw [del_ne (ne_of_none z hn)]
      exact un.tbls b ps (by rw [upd_ne (ne_of_none z hn)]; exact z) }
  have hok3 : HOk X.prog X.w (del H2 a) G := fun b o z => by
    have hba : b ≠ a := fun e => by
      rw [e, del_same] at z
      cases z
    rw [del_ne hba] at z
    have noa : ∀ {c : Addr}, H2 c = some (.own b) → c ≠ a := fun {c} hc => at_ne ea hc exo_own
    exact (hok b o z).stay (fun c v hc y => by
        have hca : c ≠ a := by
          rcases hc with hc | hc
          · rw [hc]
            exact hba
          · exact noa hc
        rw [gk c hca]
        exact y)
      (fun c hc => by rw [del_ne (noa hc)]; exact hc) (fun c xs hc => by rw [del_ne (at_ne ea hc exo_tup)]; exact hc)
  have J : Inv X pins σ (del H2 a) ⟨G, g2, d2, t2, os2⟩ := I1.call' (ch := []) ho U hok3 hb (fun b z => absurd z (by simp))
  refine ⟨a, _, _, ⟨G, g2, d2, t2, os2⟩, _, .ref C, none, rfl, J, fun b o z => ?_, ge, hoe, ⟨rfl, rfl⟩, rfl, rfl, del_same, rfl, hb, T, q⟩
  by_cases hba : b = a
  · rw [hba] at z
    have z : G.get? a = some o := z
    rw [ge] at z
    cases z
  · exact (gk b hba).symm.trans z
/-- C(e, ..): what is wanted of its __init__'s promise sp, then of the error -/
def tMkS (C : Addr) (sp : Sp) (ta : TA) : L2.St → Hp → XK → Prop := fun σ H Q => ta σ H fun vs H1 => vs.length ≤ 1000 ∧ ∀ a, H1 a = none → sp (.ref a :: vs) (upd H1 a (exo a C none))
  (fun v H2 => v = .non ∧ ((H2 a = some (exo a C none) ∧ Q (.ref C) none (del H2 a)) ∨ ∃ (d : Addr) (fs : List (Str × V)), H2 a = some (exo a C (some d)) ∧ H2 d = some (exd d fs) ∧ H1 d = none ∧ Q (.ref C) (some d) (upd (del H2 a) d (.xd fs)))) (fun _ _ _ => False)
theorem mk_call {CX : CXT} {C fI : Addr} {k : Nat} {fd : FuncData} {ps : List Str} {sp : Sp} {qual : Str} {st : Stmt} (T : SupC X.prog X.K C fI qual st fd)
    (F1 : FnOk X.prog X.w X.K X.mg X.base CX k fI fd ps sp) (hr : Room (k + 1) X.A) (hb : Binds X.K fd ps []) (hx : Passes CX X (fun _ _ _ => False)) {pins : List (Addr × Obj)} {σ : L2.St} {H1 : Hp} {s1 : Shared} {Q : XK} {vs : List V} {us : List Value}
    (I1 : Inv X pins σ H1 s1) (r1 : Vals vs us) (hz : vs.length ≤ 1000) (q1 : ∀ a, H1 a = none → sp (.ref a :: vs) (upd H1 a (exo a C none))
  (fun v H2 => v = .non ∧ ((H2 a = some (exo a C none) ∧ Q (.ref C) none (del H2 a)) ∨ ∃ (d : Addr) (fs : List (Str × V)), H2 a = some (exo a C (some d)) ∧ H2 d = some (exd d fs) ∧ H1 d = none ∧ Q (.ref C) (some d) (upd (del H2 a) d (.xd fs)))) (fun _ _ _ => False)) :
    wpAny (model X.prog X.w) X.A (call (.ref C) us) (MkP X pins σ Q) X.xe s1 := by
  obtain ⟨nm, q, N, bs, bm, sn, sub, ab, col, dd, k0, k1, k2, k3, k5, hC, hbm⟩ := T.cls.cls
  obtain ⟨hp, g, dr, tk, os⟩ := s1
  have hsz : hp.objs.size ≤ hp.objs.size + 1 := Nat.le_succ _
  have hn : H1 (hp.objs.size + 1) = none := I1.hok.fresh hsz
  have hq := q1 (hp.objs.size + 1) hn
  have kk : ∀ b o, hp.get? b = some o → ((hp.push (PySem.W.kdv_tup us)).push (PySem.HandSPX.excO C hp.objs.size)).get? b = some o := fun b o e => Heap.get?_push_of_some _ (Heap.get?_push_of_some _ e)
  have hget : ((hp.push (PySem.W.kdv_tup us)).push (PySem.HandSPX.excO C hp.objs.size)).get? (hp.objs.size + 1) = some (PySem.HandSPX.excO C hp.objs.size) := by heap_get
  have I2 : Inv X pins σ (upd H1 (hp.objs.size + 1) (exo (hp.objs.size + 1) C none)) ⟨(hp.push (PySem.W.kdv_tup us)).push (PySem.HandSPX.excO C hp.objs.size), g, dr, tk, os⟩ :=
    I1.laid (t' := tk) (a := hp.objs.size + 1) (o := exo (hp.objs.size + 1) C none) (h' := (hp.push (PySem.W.kdv_tup us)).push (PySem.HandSPX.excO C hp.objs.size)) kk hsz (exo_ok hget)
  have r2 : Vals (V.ref (hp.objs.size + 1) :: vs) (Value.ref (hp.objs.size + 1) :: us) := .cons rfl r1
  have hl : (Value.ref (hp.objs.size + 1) :: us ++ []).length = ps.length := by
    have e := r2.length
    rw [F1.len _ _ _ _ hq] at e
    rw [List.append_nil]
    exact e.symm
  have hus : us.length ≤ sizeLine := by
    rw [← Paired.length r1, sizeLine_eq]
    omega
  have hbb := hb (s := ⟨(hp.push (PySem.W.kdv_tup us)).push (PySem.HandSPX.excO C hp.objs.size), g, dr, tk, os⟩) (Value.ref (hp.objs.size + 1) :: us) I2.kIn hl
  rw [List.append_nil] at hbb
  refine wpAny_call (PySem.HandSPX.call_own F.excBase_ValueError (fun Y => PySem.HandSPX.refsVE_contains Y bm hbm) (I1.kIn _ _ hC) (PySem.W.looks_findIn I1.kIn T.iC) (fun self => PySem.W.bind_fn I1.kIn self T.tI) hus
    (codeAny_mono (F1.run _ X.stack _ _ ⟨Value.ref (hp.objs.size + 1) :: us, []⟩ (Value.ref (hp.objs.size + 1) :: us) _ _ (fun _ _ _ => False) (hr.make C us []) (I2.env0.make C us []) hbb r2 hq) fun r s' hq' => ?_))
  cases r with
  | error er => exact hx pins σ _ _ er s' I2 hq'
  | ok fl =>
    cases fl with
    | ret u =>
      obtain ⟨v, H2, os2, bare2, un2, hok2, rv, ev, q2⟩ := hq'
      subst ev
      obtain ⟨h2, g2, d2, t2, os'⟩ := s'
      rcases q2 with ⟨ea, q2⟩ | ⟨d, fs, ea, ed, hd1, q2⟩
      · exact ⟨rv, mk_endN (raises_own T.cls.exC T.cls.tyC) I1 hsz kk un2 hok2 os2 bare2 ea q2⟩
      · exact ⟨rv, mk_end (raises_own T.cls.exC T.cls.tyC) I1 hsz kk un2 hok2 os2 bare2 ea ed hd1 q2⟩
    | next => exact False.elim hq'
    | brk => exact False.elim hq'
    | cont => exact False.elim hq'
theorem pmk_sup {CX : CXT} {x : Str} {C fI : Addr} {k : Nat} {fd : FuncData} {ps : List Str} {sp : Sp} {qual : Str} {st : Stmt} (T : SupC X.prog X.K C fI qual st fd)
    (F1 : FnOk X.prog X.w X.K X.mg X.base CX k fI fd ps sp) (hr : Room (k + 1) X.A) (hb : Binds X.K fd ps []) (hx : Passes CX X (fun _ _ _ => False)) (hg : Gl X x) (hm : X.mg x = some (.ref C)) (ha : PA X (e :: es) ta)
    (hdb : (x == ("__debug__" : Str)) = false := by decide) (he : starEach (e :: es) X.env = (false, eval e X.env) :: starEach es X.env := by rfl) (hpl : (backTo pos (starEach es X.env)).any (·.1) = false := by rfl) :
    PMk X (.Call (.Name x p) (e :: es) [] pos) (tMkS C sp ta) := by
  intro pins s σ H Q I h
  refine wpAny_Call_Name_kw (ld_glob I hg hm ?_ hdb)
  refine PySem.W.callWith_K (h₀ := X.base) I.ok.mod.kin T.cls.kC (thn (ha.run pos pins s σ H _ I h) fun us s1 ⟨vs, H1, I1, r1, hz, q1⟩ => ⟨I1.kIn, ?_⟩) he hpl
  exact mk_call T F1 hr hb hx I1 r1 hz q1
theorem pmk_sup0 {CX : CXT} {x : Str} {C fI : Addr} {k : Nat} {fd : FuncData} {ps : List Str} {sp : Sp} {qual : Str} {st : Stmt} (T : SupC X.prog X.K C fI qual st fd)
    (F1 : FnOk X.prog X.w X.K X.mg X.base CX k fI fd ps sp) (hr : Room (k + 1) X.A) (hb : Binds X.K fd ps []) (hx : Passes CX X (fun _ _ _ => False)) (hg : Gl X x) (hm : X.mg x = some (.ref C))
    (hdb : (x == ("__debug__" : Str)) = false := by decide) :
    PMk X (.Call (.Name x p) [] [] pos) (tMkS C sp tNil) := by
  intro pins s σ H Q I h
  refine wpAny_Call_Name_kw (ld_glob I hg hm ?_ hdb)
  refine PySem.W.callWith_K0 I.kIn T.cls.kC ?_
  exact mk_call T F1 hr hb hx I .nil h.1 h.2
end
end SupX

set_option Elab.async false
set_option linter.all false
set_option maxRecDepth 100000
set_option maxHeartbeats 2000000
/-! data: what a def makes of plain data, as a plain function; the layer's readings are answered once and for all, construct by construct -/
namespace De
open PySem PySem.Spec PyProof.Rows L2
open PySem.W (Frag)

/-! ### data -/
inductive D where
  | non | bl (b : Bool) | int (i : Int) | str (s : Str) | tup (xs : List D) | lst (xs : List D) | scr (xs : List D) | ins (c : Str) (fs : List (Str × D)) | fn (x : Str) | xn (a : Addr) (dd : Option Addr) (c : Str) (fs : List (Str × D))

def WrL (K : Frag) (a : Addr) (xs : List V) : Prop := ∃ (o : Obj) (its : Array Value) (n : Nat), K.lookup a = some o ∧ o.cls = .type "list" ∧ o.dict = none ∧ o.data = .seq its n ∧ its.size ≤ sizeLine ∧ Vals xs its.toList
def WrT (K : Frag) (a : Addr) (xs : List V) : Prop := ∃ (o : Obj) (its : Array Value) (n : Nat), K.lookup a = some o ∧ o.cls = .type "tuple" ∧ o.data = .seq its n ∧ its.size ≤ sizeLine ∧ Vals xs its.toList
abbrev ZS := Addr → Prop
def AtT (K : Frag) (Z : ZS) (H : Hp) (a : Addr) (xs : List V) : Prop := (Z a ∧ Rd H a (.tup xs)) ∨ WrT K a xs
def AtL (K : Frag) (Z : ZS) (H : Hp) (a : Addr) (xs : List V) : Prop := (Z a ∧ Rd H a (.lst xs)) ∨ WrL K a xs
theorem AtT.sq {K : Frag} {Z : ZS} {H : Hp} {a : Addr} {xs : List V} (h : AtT K Z H a xs) : SqT K H a xs := h.elim (fun z => .inl z.2) .inr
theorem AtL.sq {K : Frag} {Z : ZS} {H : Hp} {a : Addr} {xs : List V} (h : AtL K Z H a xs) : SqL K H a xs := h.elim (fun z => .inl z.2) .inr

mutual
/-- a value is this datum; its objects lie in Z (nothing in Z is changed any more), or in the written part -/
inductive Rp (K : Frag) (cm : Str → Option Addr) (Z : ZS) (H : Hp) : V → D → Prop
  | non : Rp K cm Z H .non .non
  | bl (b : Bool) : Rp K cm Z H (.bl b) (.bl b)
  | int (i : Int) : Rp K cm Z H (.int i) (.int i)
  | str (s : Str) : Rp K cm Z H (.str s) (.str s)
  | tup {a : Addr} {xs : List V} {ds : List D} : AtT K Z H a xs → RpA K cm Z H xs ds → Rp K cm Z H (.ref a) (.tup ds)
  | lst {a : Addr} {xs : List V} {ds : List D} : Z a → H a = some (.lst xs) → RpA K cm Z H xs ds → Rp K cm Z H (.ref a) (.lst ds)
  | scr {a : Addr} {xs : List V} {ds : List D} : AtL K Z H a xs → RpA K cm Z H xs ds → Rp K cm Z H (.ref a) (.scr ds)
  | ins {a C dx : Addr} {fs : List (Str × V)} {c : Str} {gs : List (Str × D)} : Z a → H a = some (.ins C dx fs) → cm c = some C → RpF K cm Z H fs gs → Rp K cm Z H (.ref a) (.ins c gs)
  /-- the error that a suite holds: where it is, where its own dict is -/
  | xn0 {a C : Addr} {c : Str} : cm c = some C → Rp K cm Z H (.ref a) (.xn a none c [])
  | xn {a C dx : Addr} {fs : List (Str × V)} {c : Str} {gs : List (Str × D)} : Z dx → H dx = some (.xd fs) → cm c = some C → RpF K cm Z H fs gs → Rp K cm Z H (.ref a) (.xn a (some dx) c gs)
inductive RpA (K : Frag) (cm : Str → Option Addr) (Z : ZS) (H : Hp) : List V → List D → Prop
  | nil : RpA K cm Z H [] []
  | cons {v : V} {vs : List V} {d : D} {ds : List D} : Rp K cm Z H v d → RpA K cm Z H vs ds → RpA K cm Z H (v :: vs) (d :: ds)
inductive RpF (K : Frag) (cm : Str → Option Addr) (Z : ZS) (H : Hp) : List (Str × V) → List (Str × D) → Prop
  | nil : RpF K cm Z H [] []
  | cons {x : Str} {v : V} {vs : List (Str × V)} {d : D} {ds : List (Str × D)} : Rp K cm Z H v d → RpF K cm Z H vs ds → RpF K cm Z H ((x, v) :: vs) ((x, d) :: ds)
end

/-- Z grows, what lies in it stays -/
def Grow (Z : ZS) (H : Hp) (Z' : ZS) (H' : Hp) : Prop := ∀ a, Z a → Z' a ∧ H' a = H a
theorem Grow.refl {Z : ZS} {H : Hp} : Grow Z H Z H := fun _ z => ⟨z, rfl⟩
theorem Grow.trans {Z Z1 Z2 : ZS} {H H1 H2 : Hp} (a : Grow Z H Z1 H1) (b : Grow Z1 H1 Z2 H2) : Grow Z H Z2 H2 := fun x z => ⟨(b x (a x z).1).1, ((b x (a x z).1).2).trans (a x z).2⟩

section
variable {K : Frag} {cm : Str → Option Addr} {Z Z' : ZS} {H H' : Hp}
theorem AtT.grow {a : Addr} {xs : List V} (g : Grow Z H Z' H') (h : AtT K Z H a xs) : AtT K Z' H' a xs := by
  rcases h with ⟨z, r⟩ | r
  · refine .inl ⟨(g a z).1, ?_⟩
    unfold Rd
    rw [(g a z).2]
    exact r
  · exact .inr r
theorem AtL.grow {a : Addr} {xs : List V} (g : Grow Z H Z' H') (h : AtL K Z H a xs) : AtL K Z' H' a xs := by
  rcases h with ⟨z, r⟩ | r
  · refine .inl ⟨(g a z).1, ?_⟩
    unfold Rd
    rw [(g a z).2]
    exact r
  · exact .inr r
mutual
theorem Rp.grow (g : Grow Z H Z' H') : ∀ {v : V} {d : D}, Rp K cm Z H v d → Rp K cm Z' H' v d
  | _, _, .non => .non
  | _, _, .bl b => .bl b
  | _, _, .int i => .int i
  | _, _, .str s => .str s
  | _, _, .tup h t => .tup (h.grow g) (RpA.grow g t)
  | _, _, .lst z h t => .lst (g _ z).1 ((g _ z).2.trans h) (RpA.grow g t)
  | _, _, .scr h t => .scr (h.grow g) (RpA.grow g t)
  | _, _, .ins z h c t => .ins (g _ z).1 ((g _ z).2.trans h) c (RpF.grow g t)
  | _, _, .xn0 c => .xn0 c
  | _, _, .xn z h c t => .xn (g _ z).1 ((g _ z).2.trans h) c (RpF.grow g t)
theorem RpA.grow (g : Grow Z H Z' H') : ∀ {vs : List V} {ds : List D}, RpA K cm Z H vs ds → RpA K cm Z' H' vs ds
  | _, _, .nil => .nil
  | _, _, .cons h t => .cons (Rp.grow g h) (RpA.grow g t)
theorem RpF.grow (g : Grow Z H Z' H') : ∀ {vs : List (Str × V)} {ds : List (Str × D)}, RpF K cm Z H vs ds → RpF K cm Z' H' vs ds
  | _, _, .nil => .nil
  | _, _, .cons h t => .cons (Rp.grow g h) (RpF.grow g t)
end
theorem RpA.length : ∀ {vs : List V} {ds : List D}, RpA K cm Z H vs ds → vs.length = ds.length
  | _, _, .nil => rfl
  | _, _, .cons _ t => congrArg (· + 1) (RpA.length t)
theorem RpA.get : ∀ {vs : List V} {ds : List D} {i : Nat} {v : V}, RpA K cm Z H vs ds → vs[i]? = some v → ∃ d, ds[i]? = some d ∧ Rp K cm Z H v d
  | _, _, _, _, .nil, e => by simp at e
  | _, _, 0, _, .cons h _, e => by simp at e; subst e; exact ⟨_, rfl, h⟩
  | _, _, i + 1, v, .cons _ t, e => by
    obtain ⟨d, h1, h2⟩ := RpA.get (i := i) t (by simpa using e)
    exact ⟨d, by simpa using h1, h2⟩
theorem RpA.getD : ∀ {vs : List V} {ds : List D} {i : Nat} {d : D}, RpA K cm Z H vs ds → ds[i]? = some d → ∃ v, vs[i]? = some v ∧ Rp K cm Z H v d
  | _, _, _, _, .nil, e => by simp at e
  | _, _, 0, _, .cons h _, e => by simp at e; subst e; exact ⟨_, rfl, h⟩
  | _, _, i + 1, v, .cons _ t, e => by
    obtain ⟨d, h1, h2⟩ := RpA.getD (i := i) t (by simpa using e)
    exact ⟨d, by simpa using h1, h2⟩
theorem RpA.append : ∀ {vs ws : List V} {ds es : List D}, RpA K cm Z H vs ds → RpA K cm Z H ws es → RpA K cm Z H (vs ++ ws) (ds ++ es)
  | _, _, _, _, .nil, s => s
  | _, _, _, _, .cons h t, s => .cons h (RpA.append t s)
theorem RpA.take : ∀ {vs : List V} {ds : List D} (n : Nat), RpA K cm Z H vs ds → RpA K cm Z H (vs.take n) (ds.take n)
  | _, _, 0, _ => .nil
  | _, _, _ + 1, .nil => .nil
  | _, _, n + 1, .cons h t => .cons h (RpA.take n t)
theorem RpA.drop : ∀ {vs : List V} {ds : List D} (n : Nat), RpA K cm Z H vs ds → RpA K cm Z H (vs.drop n) (ds.drop n)
  | _, _, 0, h => h
  | _, _, _ + 1, .nil => .nil
  | _, _, n + 1, .cons h t => RpA.drop n t
theorem RpA.set : ∀ {vs : List V} {ds : List D} {v : V} {d : D} (i : Nat), RpA K cm Z H vs ds → Rp K cm Z H v d → RpA K cm Z H (vs.set i v) (ds.set i d)
  | _, _, _, _, _, .nil, _ => .nil
  | _, _, _, _, 0, .cons _ t, r => .cons r t
  | _, _, _, _, i + 1, .cons h t, r => .cons h (RpA.set i t r)
theorem RpF.names : ∀ {vs : List (Str × V)} {ds : List (Str × D)}, RpF K cm Z H vs ds → vs.map (·.1) = ds.map (·.1)
  | _, _, .nil => rfl
  | _, _, .cons _ t => congrArg (_ :: ·) (RpF.names t)
theorem RpF.lookup {f : Str} : ∀ {vs : List (Str × V)} {ds : List (Str × D)} {d : D}, RpF K cm Z H vs ds → ds.lookup f = some d → ∃ v, vs.lookup f = some v ∧ Rp K cm Z H v d
  | _, _, _, .nil, e => by simp [List.lookup] at e
  | _, _, d, .cons (x := x) h t, e => by
    rw [List.lookup_cons] at e ⊢
    cases hb : f == x with
    | true =>
      rw [hb] at e
      cases e
      exact ⟨_, rfl, h⟩
    | false =>
      rw [hb] at e
      exact RpF.lookup t e
end

/-! ### what the names hold, and results -/
/-- a name's value: none yet | a datum | a list of the def's own, that this name alone holds | a list that was handed in and may be changed | an instance that is being made -/
inductive EV where
  | u | d (x : D) | m (xs : List D) | h (xs : List D) | mi (c : Str) (fs : List (Str × D))
abbrev Rho := List EV
inductive Res (α : Type) where
  | ok (a : α) (ρ : Rho) | ex (c : Str) (fs : List (Str × D)) (ρ : Rho) | bad
abbrev M (α : Type) := Rho → Res α
def ret {α : Type} (a : α) : M α := fun ρ => .ok a ρ
def bind {α β : Type} (m : M α) (k : α → M β) : M β := fun ρ => match m ρ with
  | .ok a ρ' => k a ρ'
  | .ex c fs ρ' => .ex c fs ρ'
  | .bad => .bad
def bad {α : Type} : M α := fun _ => .bad

/-- what is tracked at the entry, what of it stays for ever, who of it may be changed -/
structure Bs where
  H0 : Hp
  Z0 : ZS
  O0 : Addr → Prop
  Pr : List (Addr × HO)

def OwnM (ρ : Rho) (σ : L2.St) (i : Nat) (a : Addr) : Prop := σ[i]? = some (some (.ref a)) ∧ ∃ xs, ρ[i]? = some (.m xs)
def OwnH (ρ : Rho) (σ : L2.St) (i : Nat) (a : Addr) : Prop := σ[i]? = some (some (.ref a)) ∧ ((∃ xs, ρ[i]? = some (.h xs)) ∨ ∃ c fs, ρ[i]? = some (.mi c fs))
def OwnAt (ρ : Rho) (σ : L2.St) (i : Nat) (a : Addr) : Prop := OwnM ρ σ i a ∨ OwnH ρ σ i a
section
variable (K : Frag) (cm : Str → Option Addr)
def RE (Z : ZS) (H : Hp) (s : Option (Option V)) : EV → Prop
  | .u => True
  | .d x => ∃ v, s = some (some v) ∧ Rp K cm Z H v x
  | .m xs => ∃ a vs, s = some (some (.ref a)) ∧ H a = some (.lst vs) ∧ ¬ Z a ∧ RpA K cm Z H vs xs
  | .h xs => ∃ a vs, s = some (some (.ref a)) ∧ H a = some (.lst vs) ∧ ¬ Z a ∧ RpA K cm Z H vs xs
  | .mi c gs => ∃ a C dx fs, s = some (some (.ref a)) ∧ H a = some (.ins C dx fs) ∧ ¬ Z a ∧ cm c = some C ∧ RpF K cm Z H fs gs
structure St0 (Z : ZS) (B : Bs) (σ : L2.St) (ρ : Rho) (H : Hp) : Prop where
  len : ρ.length = σ.length
  zin : ∀ a, Z a → H a ≠ none
  zb : ∀ a, Z a → B.Z0 a ∨ B.H0 a = none
  sl : ∀ (i : Nat) (e : EV), ρ[i]? = some e → RE K cm Z H σ[i]? e
  inj : ∀ (i j : Nat) (a : Addr), OwnAt ρ σ i a → OwnAt ρ σ j a → i = j
  base : ∀ b o, B.H0 b = some o → H b ≠ none ∧ (¬ B.O0 b → H b = some o)
  ownM : ∀ (i : Nat) (a : Addr), OwnM ρ σ i a → B.H0 a = none
  ownH : ∀ (i : Nat) (a : Addr), OwnH ρ σ i a → B.O0 a
  pr : ∀ p ∈ B.Pr, H p.1 = some p.2 ∧ ¬ Z p.1 ∧ ∀ i, ¬ OwnAt ρ σ i p.1
/-- what an error carries: its own dict -/
def XRp (Z : ZS) (H : Hp) (dd : Option Addr) (fs : List (Str × D)) : Prop := (dd = none ∧ fs = []) ∨ ∃ d vs, dd = some d ∧ Z d ∧ H d = some (.xd vs) ∧ RpF K cm Z H vs fs ∧ fs ≠ []
end

section
variable {K : Frag} {cm : Str → Option Addr} {Z Z' : ZS} {H H' : Hp} {B : Bs} {σ : L2.St} {ρ : Rho}
theorem RE.own {s : Option (Option V)} : ∀ {e : EV}, RE K cm Z H s e → ((∃ xs, e = .m xs) ∨ (∃ xs, e = .h xs) ∨ ∃ c fs, e = .mi c fs) → ∃ a, s = some (some (.ref a)) ∧ ¬ Z a ∧ H a ≠ none
  | .u, _, h => by rcases h with ⟨_, h⟩ | ⟨_, h⟩ | ⟨_, _, h⟩ <;> cases h
  | .d x, _, h => by rcases h with ⟨_, h⟩ | ⟨_, h⟩ | ⟨_, _, h⟩ <;> cases h
  | .m xs, ⟨a, vs, e, h, z, _⟩, _ => ⟨a, e, z, by rw [h]; exact fun q => nomatch q⟩
  | .h xs, ⟨a, vs, e, h, z, _⟩, _ => ⟨a, e, z, by rw [h]; exact fun q => nomatch q⟩
  | .mi c gs, ⟨a, C, dx, fs, e, h, z, _⟩, _ => ⟨a, e, z, by rw [h]; exact fun q => nomatch q⟩
theorem St0.nz (S : St0 K cm Z B σ ρ H) {i : Nat} {a : Addr} (o : OwnAt ρ σ i a) : ¬ Z a ∧ H a ≠ none := by
  have key : ∀ {e : EV}, ρ[i]? = some e → σ[i]? = some (some (.ref a)) → ((∃ xs, e = .m xs) ∨ (∃ xs, e = .h xs) ∨ ∃ c fs, e = .mi c fs) → ¬ Z a ∧ H a ≠ none := fun {e} h1 h2 h3 => by
    obtain ⟨b, e', z⟩ := (S.sl i _ h1).own h3
    rw [h2] at e'
    cases e'
    exact z
  rcases o with ⟨e, xs, o⟩ | ⟨e, ⟨xs, o⟩ | ⟨c, fs, o⟩⟩
  · exact key o e (.inl ⟨xs, rfl⟩)
  · exact key o e (.inr (.inl ⟨xs, rfl⟩))
  · exact key o e (.inr (.inr ⟨c, fs, rfl⟩))
def Kind (e : EV) : Prop := (∃ xs, e = .m xs) ∨ (∃ xs, e = .h xs) ∨ ∃ c fs, e = .mi c fs
theorem RE.keep {s : Option (Option V)} (g : Grow Z H Z' H') : ∀ {e : EV}, (Kind e → ∀ a, s = some (some (.ref a)) → ¬ Z a → H a ≠ none → ¬ Z' a ∧ H' a = H a) → RE K cm Z H s e → RE K cm Z' H' s e
  | .u, _, _ => True.intro
  | .d x, _, ⟨v, e, r⟩ => ⟨v, e, r.grow g⟩
  | .m xs, k, ⟨a, vs, e, h, z, r⟩ => by
    obtain ⟨z', h'⟩ := k (.inl ⟨_, rfl⟩) a e z (by rw [h]; exact fun q => nomatch q)
    exact ⟨a, vs, e, h'.trans h, z', r.grow g⟩
  | .h xs, k, ⟨a, vs, e, h, z, r⟩ => by
    obtain ⟨z', h'⟩ := k (.inr (.inl ⟨_, rfl⟩)) a e z (by rw [h]; exact fun q => nomatch q)
    exact ⟨a, vs, e, h'.trans h, z', r.grow g⟩
  | .mi c gs, k, ⟨a, C, dx, fs, e, h, z, hc, r⟩ => by
    obtain ⟨z', h'⟩ := k (.inr (.inr ⟨_, _, rfl⟩)) a e z (by rw [h]; exact fun q => nomatch q)
    exact ⟨a, C, dx, fs, e, h'.trans h, z', hc, r.grow g⟩
theorem own_of {i : Nat} {e : EV} {a : Addr} (hs : σ[i]? = some (some (.ref a))) (hr : ρ[i]? = some e) (k : Kind e) : OwnAt ρ σ i a := by
  rcases k with ⟨xs, q⟩ | ⟨xs, q⟩ | ⟨c, fs, q⟩
  · subst q
    exact .inl ⟨hs, xs, hr⟩
  · subst q
    exact .inr ⟨hs, .inl ⟨xs, hr⟩⟩
  · subst q
    exact .inr ⟨hs, .inr ⟨c, fs, hr⟩⟩
/-- what is new to H was not there at the entry -/
theorem St0.new0 (S : St0 K cm Z B σ ρ H) {a : Addr} (h : H a = none) : B.H0 a = none := by
  cases e : B.H0 a with
  | none => rfl
  | some o => exact absurd h (S.base a o e).1
/-- what was tracked stays, Z takes in only what is new -/
theorem St0.step (S : St0 K cm Z B σ ρ H) (hz : ∀ a, Z a → Z' a) (hn : ∀ a, Z' a → Z a ∨ H a = none) (hi : ∀ a, Z' a → H' a ≠ none) (hs : ∀ b, H b ≠ none → H' b = H b) : St0 K cm Z' B σ ρ H' ∧ Grow Z H Z' H' := by
  have g : Grow Z H Z' H' := fun a z => ⟨hz a z, hs a (S.zin a z)⟩
  refine ⟨⟨S.len, hi, fun a z => ?_, fun i e h => ?_, S.inj, fun b o e => ?_, S.ownM, S.ownH, fun p hp => ?_⟩, g⟩
  · exact (hn a z).elim (S.zb a) fun q => .inr (S.new0 q)
  · exact (S.sl i e h).keep g fun _ a _ z n => ⟨fun z' => (hn a z').elim z n, hs a n⟩
  · obtain ⟨q1, q2⟩ := S.base b o e
    rw [hs b q1]
    exact ⟨q1, q2⟩
  · obtain ⟨q1, q2, q3⟩ := S.pr p hp
    have n1 : H p.1 ≠ none := by rw [q1]; exact fun q => nomatch q
    exact ⟨(hs p.1 n1).trans q1, fun z => (hn p.1 z).elim q2 n1, q3⟩
theorem St0.new (S : St0 K cm Z B σ ρ H) {p : Addr} {o : HO} (hp : H p = none) : St0 K cm (fun a => Z a ∨ a = p) B σ ρ (upd H p o) ∧ Grow Z H (fun a => Z a ∨ a = p) (upd H p o) := by
  refine S.step (fun a z => .inl z) (fun a z => z.elim .inl fun e => .inr (by rw [e]; exact hp)) (fun a z => ?_) fun b n => upd_ne fun e => n (by rw [e]; exact hp)
  by_cases e : a = p
  · rw [e, upd_same]
    exact fun q => nomatch q
  · rw [upd_ne e]
    exact z.elim (S.zin a) fun q => absurd q e
/-- a new object that is nobody's yet -/
theorem St0.newU (S : St0 K cm Z B σ ρ H) {p : Addr} {o : HO} (hp : H p = none) : St0 K cm Z B σ ρ (upd H p o) ∧ Grow Z H Z (upd H p o) ∧ ¬ Z p := by
  obtain ⟨a, b⟩ := S.step (Z' := Z) (H' := upd H p o) (fun a z => z) (fun a z => .inl z) (fun a z => by
    by_cases e : a = p
    · rw [e, upd_same]
      exact fun q => nomatch q
    · rw [upd_ne e]
      exact S.zin a z) fun b n => upd_ne fun e => n (by rw [e]; exact hp)
  exact ⟨a, b, fun z => S.zin p z hp⟩
/-! a name is given another value -/
theorem get_set {α : Type} {l : List α} {i j : Nat} {x y : α} (h : (l.set i x)[j]? = some y) : (j = i ∧ i < l.length ∧ y = x) ∨ (j ≠ i ∧ l[j]? = some y) := by
  by_cases e : j = i
  · subst e
    rw [List.getElem?_set] at h
    simp only [if_true] at h
    split at h
    · cases h
      exact .inl ⟨rfl, ‹_›, rfl⟩
    · cases h
  · rw [List.getElem?_set_ne (Ne.symm e)] at h
    exact .inr ⟨e, h⟩
theorem own_set {ρ : Rho} {σ : L2.St} {i j : Nat} {a : Addr} {e : EV} {v : V} (hij : j ≠ i) (o : OwnAt (ρ.set i e) (σ.set i (some v)) j a) : OwnAt ρ σ j a := by
  unfold OwnAt OwnM OwnH at o ⊢
  rw [List.getElem?_set_ne (Ne.symm hij), List.getElem?_set_ne (Ne.symm hij)] at o
  exact o
theorem ownM_set {ρ : Rho} {σ : L2.St} {i j : Nat} {a : Addr} {e : EV} {v : V} (hij : j ≠ i) (o : OwnM (ρ.set i e) (σ.set i (some v)) j a) : OwnM ρ σ j a := by
  unfold OwnM at o ⊢
  rw [List.getElem?_set_ne (Ne.symm hij), List.getElem?_set_ne (Ne.symm hij)] at o
  exact o
theorem ownH_set {ρ : Rho} {σ : L2.St} {i j : Nat} {a : Addr} {e : EV} {v : V} (hij : j ≠ i) (o : OwnH (ρ.set i e) (σ.set i (some v)) j a) : OwnH ρ σ j a := by
  unfold OwnH at o ⊢
  rw [List.getElem?_set_ne (Ne.symm hij), List.getElem?_set_ne (Ne.symm hij)] at o
  exact o
theorem own_at {ρ : Rho} {σ : L2.St} {i : Nat} {a : Addr} {e : EV} {v : V} (o : OwnAt (ρ.set i e) (σ.set i (some v)) i a) : v = .ref a ∧ ((∃ xs, e = .m xs) ∨ (∃ xs, e = .h xs) ∨ ∃ c fs, e = .mi c fs) := by
  have h1 : ∀ {x : Option V}, (σ.set i (some v))[i]? = some x → x = some v := fun {x} h => by
    rcases get_set h with ⟨_, _, q⟩ | ⟨q, _⟩
    · exact q
    · exact absurd rfl q
  have h2 : ∀ {x : EV}, (ρ.set i e)[i]? = some x → x = e := fun {x} h => by
    rcases get_set h with ⟨_, _, q⟩ | ⟨q, _⟩
    · exact q
    · exact absurd rfl q
  rcases o with ⟨q, xs, o⟩ | ⟨q, ⟨xs, o⟩ | ⟨c, fs, o⟩⟩
  · cases h1 q
    exact ⟨rfl, .inl ⟨xs, (h2 o).symm⟩⟩
  · cases h1 q
    exact ⟨rfl, .inr (.inl ⟨xs, (h2 o).symm⟩)⟩
  · cases h1 q
    exact ⟨rfl, .inr (.inr ⟨c, fs, (h2 o).symm⟩)⟩
theorem St0.set (S : St0 K cm Z B σ ρ H) {i : Nat} {v : V} {x : D} (r : Rp K cm Z H v x) : St0 K cm Z B (σ.set i (some v)) (ρ.set i (.d x)) H := by
  refine ⟨by rw [List.length_set, List.length_set]; exact S.len, S.zin, S.zb, fun j e h => ?_, fun j k a o1 o2 => ?_, S.base, fun j a o => ?_, fun j a o => ?_, fun p hp => ⟨(S.pr p hp).1, (S.pr p hp).2.1, fun j o => ?_⟩⟩
  · rcases get_set h with ⟨q, hl, e1⟩ | ⟨q, h⟩
    · subst q
      subst e1
      refine ⟨v, ?_, r⟩
      rw [List.getElem?_set_self (by rw [← S.len]; exact hl)]
    · rw [List.getElem?_set_ne (Ne.symm q)]
      exact S.sl j e h
  · have no : ∀ {j : Nat}, OwnAt (ρ.set i (.d x)) (σ.set i (some v)) j a → j ≠ i := fun {j} o q => by
      subst q
      rcases (own_at o).2 with ⟨_, z⟩ | ⟨_, z⟩ | ⟨_, _, z⟩ <;> cases z
    exact S.inj j k a (own_set (no o1) o1) (own_set (no o2) o2)
  · have q : j ≠ i := fun q => by
      subst q
      rcases (own_at (.inl o)).2 with ⟨_, z⟩ | ⟨_, z⟩ | ⟨_, _, z⟩ <;> cases z
    exact S.ownM j a (ownM_set q o)
  · have q : j ≠ i := fun q => by
      subst q
      rcases (own_at (.inr o)).2 with ⟨_, z⟩ | ⟨_, z⟩ | ⟨_, _, z⟩ <;> cases z
    exact S.ownH j a (ownH_set q o)
  · have q : j ≠ i := fun q => by
      subst q
      rcases (own_at o).2 with ⟨_, z⟩ | ⟨_, z⟩ | ⟨_, _, z⟩ <;> cases z
    exact (S.pr p hp).2.2 j (own_set q o)
/-- a list of nobody's becomes a name's own -/
theorem St0.setM (S : St0 K cm Z B σ ρ H) {i : Nat} {a : Addr} {vs : List V} {xs : List D} (ha : H a = some (.lst vs)) (hz : ¬ Z a) (hno : ∀ j, ¬ OwnAt ρ σ j a) (h0 : B.H0 a = none) (hp0 : ∀ p ∈ B.Pr, p.1 ≠ a) (r : RpA K cm Z H vs xs) : St0 K cm Z B (σ.set i (some (.ref a))) (ρ.set i (.m xs)) H := by
  refine ⟨by rw [List.length_set, List.length_set]; exact S.len, S.zin, S.zb, fun j e h => ?_, fun j k b o1 o2 => ?_, S.base, fun j b o => ?_, fun j b o => ?_, fun p hp => ⟨(S.pr p hp).1, (S.pr p hp).2.1, fun j o => ?_⟩⟩
  · rcases get_set h with ⟨q, hl, e1⟩ | ⟨q, h⟩
    · subst q
      subst e1
      refine ⟨a, vs, ?_, ha, hz, r⟩
      rw [List.getElem?_set_self (by rw [← S.len]; exact hl)]
    · rw [List.getElem?_set_ne (Ne.symm q)]
      exact S.sl j e h
  · by_cases q1 : j = i
    · by_cases q2 : k = i
      · rw [q1, q2]
      · subst q1
        cases (own_at o1).1
        exact absurd (own_set q2 o2) (hno k)
    · by_cases q2 : k = i
      · subst q2
        cases (own_at o2).1
        exact absurd (own_set q1 o1) (hno j)
      · exact S.inj j k b (own_set q1 o1) (own_set q2 o2)
  · by_cases q : j = i
    · subst q
      cases (own_at (.inl o)).1
      exact h0
    · exact S.ownM j b (ownM_set q o)
  · by_cases q : j = i
    · subst q
      obtain ⟨_, o⟩ := o
      rcases o with ⟨xs', o⟩ | ⟨c, fs, o⟩
      · rcases get_set o with ⟨_, _, z⟩ | ⟨z, _⟩
        · cases z
        · exact absurd rfl z
      · rcases get_set o with ⟨_, _, z⟩ | ⟨z, _⟩
        · cases z
        · exact absurd rfl z
    · exact S.ownH j b (ownH_set q o)
  · by_cases q : j = i
    · subst q
      exact hp0 p hp (V.ref.inj (own_at o).1).symm
    · exact (S.pr p hp).2.2 j (own_set q o)
/-- what a name alone holds is changed -/
inductive Like : EV → EV → Prop
  | m (xs ys : List D) : Like (.m xs) (.m ys)
  | h (xs ys : List D) : Like (.h xs) (.h ys)
  | mi (c : Str) (fs : List (Str × D)) (c' : Str) (gs : List (Str × D)) : Like (.mi c fs) (.mi c' gs)
theorem St0.put (S : St0 K cm Z B σ ρ H) {i : Nat} {a : Addr} {e e' : EV} {o' : HO} (hs : σ[i]? = some (some (.ref a))) (hr : ρ[i]? = some e) (hk : Like e e') (hn : Grow Z H Z (upd H a o') → RE K cm Z (upd H a o') (some (some (.ref a))) e') : St0 K cm Z B σ (ρ.set i e') (upd H a o') ∧ Grow Z H Z (upd H a o') := by
  have ke : Kind e := by
    cases hk with
    | m xs ys => exact .inl ⟨_, rfl⟩
    | h xs ys => exact .inr (.inl ⟨_, rfl⟩)
    | mi c fs c' gs => exact .inr (.inr ⟨_, _, rfl⟩)
  have oi : OwnAt ρ σ i a := own_of hs hr ke
  obtain ⟨nz, nn⟩ := S.nz oi
  have g : Grow Z H Z (upd H a o') := fun b z => ⟨z, upd_ne fun e => nz (by rw [← e]; exact z)⟩
  have nnone : ∀ b, H b ≠ none → upd H a o' b ≠ none := fun b h => by
    by_cases e : b = a
    · rw [e, upd_same]
      exact fun q => nomatch q
    · rw [upd_ne e]
      exact h
  have hil : i < ρ.length := (List.getElem?_eq_some_iff.mp hr).1
  have hself : (ρ.set i e')[i]? = some e' := List.getElem?_set_self hil
  have backM : ∀ {j : Nat} {b : Addr}, OwnM (ρ.set i e') σ j b → OwnM ρ σ j b := fun {j b} o => by
    by_cases q : j = i
    · subst q
      obtain ⟨h1, xs, h2⟩ := o
      rw [hself] at h2
      cases h2
      cases hk with
      | m ys _ => exact ⟨h1, ys, hr⟩
    · unfold OwnM at o ⊢
      rw [List.getElem?_set_ne (Ne.symm q)] at o
      exact o
  have backH : ∀ {j : Nat} {b : Addr}, OwnH (ρ.set i e') σ j b → OwnH ρ σ j b := fun {j b} o => by
    by_cases q : j = i
    · subst q
      obtain ⟨h1, ⟨xs, h2⟩ | ⟨c, fs, h2⟩⟩ := o
      · rw [hself] at h2
        cases h2
        cases hk with
        | h ys _ => exact ⟨h1, .inl ⟨ys, hr⟩⟩
      · rw [hself] at h2
        cases h2
        cases hk with
        | mi c0 f0 _ _ => exact ⟨h1, .inr ⟨c0, f0, hr⟩⟩
    · unfold OwnH at o ⊢
      rw [List.getElem?_set_ne (Ne.symm q)] at o
      exact o
  have back : ∀ {j : Nat} {b : Addr}, OwnAt (ρ.set i e') σ j b → OwnAt ρ σ j b := fun o => o.elim (fun o => .inl (backM o)) fun o => .inr (backH o)
  refine ⟨⟨by rw [List.length_set]; exact S.len, fun b z => nnone b (S.zin b z), S.zb, fun j e h => ?_, fun j k b o1 o2 => S.inj j k b (back o1) (back o2), fun b o e => ?_, fun j b o => S.ownM j b (backM o), fun j b o => S.ownH j b (backH o), fun p hp => ⟨?_, (S.pr p hp).2.1, fun j o => (S.pr p hp).2.2 j (back o)⟩⟩, g⟩
  · rcases get_set h with ⟨q, hl, e1⟩ | ⟨q, h⟩
    · subst q
      subst e1
      rw [hs]
      exact hn g
    · refine (S.sl j e h).keep g fun kj b eb z n => ⟨z, upd_ne fun eq => ?_⟩
      subst eq
      exact q (S.inj j i b (own_of eb h kj) oi)
  · obtain ⟨q1, q2⟩ := S.base b o e
    refine ⟨nnone b q1, fun n => ?_⟩
    rw [upd_ne fun eq => ?_]
    · exact q2 n
    · subst eq
      rcases oi with oi | oi
      · rw [S.ownM i b oi] at e
        cases e
      · exact n (S.ownH i b oi)
  · rw [upd_ne fun eq => (S.pr p hp).2.2 i (by rw [eq]; exact oi)]
    exact (S.pr p hp).1
/-- a name's own list is taken as a datum; it is not changed any more -/
theorem St0.freeze (S : St0 K cm Z B σ ρ H) {i : Nat} {a : Addr} {vs : List V} {xs : List D} (hs : σ[i]? = some (some (.ref a))) (hr : ρ[i]? = some (.m xs)) (ha : H a = some (.lst vs)) (r : RpA K cm Z H vs xs) :
    St0 K cm (fun b => Z b ∨ b = a) B σ (ρ.set i (.d (.lst xs))) H ∧ Grow Z H (fun b => Z b ∨ b = a) H ∧ Rp K cm (fun b => Z b ∨ b = a) H (.ref a) (.lst xs) := by
  have om : OwnM ρ σ i a := ⟨hs, xs, hr⟩
  have oi : OwnAt ρ σ i a := .inl om
  have g : Grow Z H (fun b => Z b ∨ b = a) H := fun b z => ⟨.inl z, rfl⟩
  have hil : i < ρ.length := (List.getElem?_eq_some_iff.mp hr).1
  have hself : (ρ.set i (.d (.lst xs)))[i]? = some (.d (.lst xs)) := List.getElem?_set_self hil
  have rr : Rp K cm (fun b => Z b ∨ b = a) H (.ref a) (.lst xs) := .lst (.inr rfl) ha (RpA.grow g r)
  have backM : ∀ {j : Nat} {b : Addr}, OwnM (ρ.set i (.d (.lst xs))) σ j b → j ≠ i ∧ OwnM ρ σ j b := fun {j b} o => by
    by_cases q : j = i
    · subst q
      obtain ⟨h1, ys, h2⟩ := o
      rw [hself] at h2
      cases h2
    · unfold OwnM at o ⊢
      rw [List.getElem?_set_ne (Ne.symm q)] at o
      exact ⟨q, o⟩
  have backH : ∀ {j : Nat} {b : Addr}, OwnH (ρ.set i (.d (.lst xs))) σ j b → j ≠ i ∧ OwnH ρ σ j b := fun {j b} o => by
    by_cases q : j = i
    · subst q
      obtain ⟨h1, ⟨ys, h2⟩ | ⟨c, fs, h2⟩⟩ := o
      · rw [hself] at h2
        cases h2
      · rw [hself] at h2
        cases h2
    · unfold OwnH at o ⊢
      rw [List.getElem?_set_ne (Ne.symm q)] at o
      exact ⟨q, o⟩
  have back : ∀ {j : Nat} {b : Addr}, OwnAt (ρ.set i (.d (.lst xs))) σ j b → OwnAt ρ σ j b := fun o => o.elim (fun o => .inl (backM o).2) fun o => .inr (backH o).2
  refine ⟨⟨by rw [List.length_set]; exact S.len, fun b z => z.elim (S.zin b) fun e => by rw [e, ha]; exact fun q => (nomatch q), fun b z => z.elim (S.zb b) fun e => .inr (by rw [e]; exact S.ownM i a om), fun j e h => ?_, fun j k b o1 o2 => S.inj j k b (back o1) (back o2), S.base, fun j b o => S.ownM j b (backM o).2, fun j b o => S.ownH j b (backH o).2, fun p hp => ⟨(S.pr p hp).1, fun z => z.elim (S.pr p hp).2.1 fun eq => (S.pr p hp).2.2 i (by rw [eq]; exact oi), fun j o => (S.pr p hp).2.2 j (back o)⟩⟩, g, rr⟩
  rcases get_set h with ⟨q, hl, e1⟩ | ⟨q, h⟩
  · subst q
    subst e1
    exact ⟨_, hs, rr⟩
  · refine (S.sl j e h).keep g fun kj b eb z n => ⟨fun z' => z'.elim z fun eq => ?_, rfl⟩
    subst eq
    exact q (S.inj j i b (own_of eb h kj) oi)
end
end De

set_option Elab.async false
set_option linter.all false
set_option maxRecDepth 100000
set_option maxHeartbeats 2000000
namespace De
open PySem PySem.Spec PyProof.Rows L2
open PySem.W (Frag)

/-! ### what is wanted behind a result -/
def Post {α β : Type} (K : Frag) (cm : Str → Option Addr) (W : WX) (B : Bs) (rel : ZS → Hp → β → α → Prop) (Z : ZS) (σ : L2.St) (H : Hp) (r : Res α) (Q : β → Hp → Prop) : Prop := match r with
  | .ok d ρ' => ∀ v Z' H', Grow Z H Z' H' → St0 K cm Z' B σ ρ' H' → rel Z' H' v d → Q v H'
  | .ex c fs ρ' => ∀ C dd Z' H', Grow Z H Z' H' → St0 K cm Z' B σ ρ' H' → cm c = some C → XRp K cm Z' H' dd fs → W (.ref C) dd σ H'
  | .bad => False
section
variable {α β γ δ : Type} {K : Frag} {cm : Str → Option Addr} {W : WX} {B : Bs} {Z Z1 : ZS} {σ : L2.St} {H H1 : Hp} {rel : ZS → Hp → β → α → Prop} {rel2 : ZS → Hp → δ → γ → Prop}
theorem Post.rebase {r : Res α} {Q : β → Hp → Prop} (g : Grow Z H Z1 H1) (h : Post K cm W B rel Z σ H r Q) : Post K cm W B rel Z1 σ H1 r Q := by
  cases r with
  | ok d ρ' => exact fun v Z' H' g' => h v Z' H' (g.trans g')
  | ex c fs ρ' => exact fun C dd Z' H' g' => h C dd Z' H' (g.trans g')
  | bad => exact h
theorem Post.bind {m : M α} {k : α → M γ} {ρ : Rho} {Q : δ → Hp → Prop} {R : β → Hp → Prop} (h : Post K cm W B rel2 Z σ H (De.bind m k ρ) Q)
    (hk : ∀ d ρ' v Z' H', Grow Z H Z' H' → St0 K cm Z' B σ ρ' H' → rel Z' H' v d → Post K cm W B rel2 Z' σ H' (k d ρ') Q → R v H') : Post K cm W B rel Z σ H (m ρ) R := by
  unfold De.bind at h
  cases e : m ρ with
  | ok d ρ' =>
    rw [e] at h
    exact fun v Z' H' g S r => hk d ρ' v Z' H' g S r (h.rebase g)
  | ex c fs ρ' =>
    rw [e] at h
    exact h
  | bad =>
    rw [e] at h
    exact h
theorem Post.ret {d : α} {ρ : Rho} {Q : β → Hp → Prop} {v : β} (h : Post K cm W B rel Z σ H (De.ret d ρ) Q) (S : St0 K cm Z B σ ρ H) (r : rel Z H v d) : Q v H := h v Z H Grow.refl S r
end

def rpD (K : Frag) (cm : Str → Option Addr) : ZS → Hp → V → D → Prop := fun Z H v d => Rp K cm Z H v d
def rpA (K : Frag) (cm : Str → Option Addr) : ZS → Hp → List V → List D → Prop := fun Z H v d => RpA K cm Z H v d
def rpU : ZS → Hp → Unit → Unit → Prop := fun _ _ _ _ => True
def rpB : ZS → Hp → Bool → Bool → Prop := fun _ _ b c => b = c
/-- a new list that nobody else holds yet -/
def rpL (K : Frag) (cm : Str → Option Addr) : ZS → Hp → V → List D → Prop := fun Z H v ds => ∃ a vs, v = .ref a ∧ H a = some (.lst vs) ∧ ¬ Z a ∧ RpA K cm Z H vs ds

section
variable (X : Cx) (cm : Str → Option Addr) (W : WX)
/-- an expression gives the datum f tells -/
def Ex (e : Expr) (f : M D) : Prop := ∃ t, PE X e t ∧ ∀ B Z σ ρ H Q, St0 X.K cm Z B σ ρ H → Post X.K cm W B (rpD X.K cm) Z σ H (f ρ) Q → t σ H Q
def Exs (es : List Expr) (f : M (List D)) : Prop := ∃ t, PA X es t ∧ ∀ B Z σ ρ H Q, St0 X.K cm Z B σ ρ H → Post X.K cm W B (rpA X.K cm) Z σ H (f ρ) Q → t σ H Q
def Tx (e : Expr) (f : M Bool) : Prop := ∃ t, PT X e t ∧ ∀ B Z σ ρ H Q, St0 X.K cm Z B σ ρ H → Post X.K cm W B rpB Z σ H (f ρ) Q → t σ H Q
def Wx (e : Expr) (f : M Bool) : Prop := ∃ t, PW X e t ∧ ∀ B Z σ ρ H Q, St0 X.K cm Z B σ ρ H → Post X.K cm W B rpB Z σ H (f ρ) Q → t σ H Q
/-- a two-place operation on data -/
def OpD (r : R2) (g : D → D → M D) : Prop := ∀ B Z σ ρ H x y d e Q, St0 X.K cm Z B σ ρ H → Rp X.K cm Z H x d → Rp X.K cm Z H y e → Post X.K cm W B (rpD X.K cm) Z σ H (g d e ρ) Q → r x y H Q
def UnD (r : V → Hp → VK → Prop) (g : D → M D) : Prop := ∀ B Z σ ρ H x d Q, St0 X.K cm Z B σ ρ H → Rp X.K cm Z H x d → Post X.K cm W B (rpD X.K cm) Z σ H (g d ρ) Q → r x H Q
def CallD (r : List V → Hp → VK → Prop) (g : List D → M D) : Prop := ∀ B Z σ ρ H xs ds Q, St0 X.K cm Z B σ ρ H → RpA X.K cm Z H xs ds → Post X.K cm W B (rpD X.K cm) Z σ H (g ds ρ) Q → r xs H Q
end

section
variable {X : Cx} {cm : Str → Option Addr} {W : WX} {a b c e : Expr} {es : List Expr} {fa fb fc : M D} {fs : M (List D)} {pos : Pos}
/-! ### names, constants -/
def rd (i : Nat) : M D := fun ρ => match ρ[i]? with
  | some (.d x) => .ok x ρ
  | some (.m xs) => .ok (.lst xs) (ρ.set i (.d (.lst xs)))
  | _ => .bad
theorem rd_ok {i : Nat} {K : Frag} {B : Bs} {Z : ZS} {σ : L2.St} {ρ : Rho} {H : Hp} {Q : VK} (S : St0 K cm Z B σ ρ H) (h : Post K cm W B (rpD K cm) Z σ H (rd i ρ) Q) : tVar i σ H Q := by
  unfold rd at h
  split at h
  · rename_i d e
    obtain ⟨v, e1, r⟩ := S.sl i _ e
    exact ⟨v, e1, h v Z H Grow.refl S r⟩
  · rename_i xs e
    obtain ⟨a, vs, e1, ha, nz, r⟩ := S.sl i _ e
    obtain ⟨S', g, r'⟩ := S.freeze e1 e ha r
    exact ⟨_, e1, h _ _ H g S' r'⟩
  · exact h.elim
theorem ex_rd (i : Nat) {x : Str} (hN : X.N[i]? = some x := by rfl) (hv : Vis X.env.scope x := by first | exact Or.inl rfl | exact Or.inr (Or.inl rfl) | exact Or.inr (Or.inr rfl)) (hd : (x == ("__debug__" : Str)) = false := by decide)
    (hcd : (x == ("__classdict__" : Str)) = false := by decide) : Ex X cm W (.Name x pos) (rd i) :=
  ⟨_, pe_var hN hv hd hcd, fun B Z σ ρ H Q S h => rd_ok S h⟩
theorem ex_const {t : V} {d : D} (h : PE X e (tC t)) (r : ∀ Z H, Rp X.K cm Z H t d) : Ex X cm W e (ret d) :=
  ⟨_, h, fun B Z σ ρ H Q S q => q t Z H Grow.refl S (r Z H)⟩
theorem ex_int {i : Int} {j} : Ex X cm W (.Constant (.int i) j pos) (ret (.int i)) := ex_const pe_int fun _ _ => .int i
theorem ex_str {s : Str} {j} : Ex X cm W (.Constant (.str s) j pos) (ret (.str s)) := ex_const pe_str fun _ _ => .str s
theorem ex_bl {s : Bool} {j} : Ex X cm W (.Constant (.bool s) j pos) (ret (.bl s)) := ex_const pe_bl fun _ _ => .bl s
theorem ex_non {j} : Ex X cm W (.Constant .none j pos) (ret .non) := ex_const pe_non fun _ _ => .non
/-- a constant of the module -/
theorem ex_glob {x : Str} {v : V} {u : Value} {d : D} (hm : X.mg x = some u) (r : RelV v u) (rd : ∀ Z H, Rp X.K cm Z H v d) (hg : Gl X x := by rfl) (hd : (x == ("__debug__" : Str)) = false := by decide) : Ex X cm W (.Name x pos) (ret d) := ex_const (pe_glob hg hm r hd) rd
/-! ### lists of expressions -/
def consM (f : M D) (g : M (List D)) : M (List D) := bind f fun d => bind g fun ds => ret (d :: ds)
theorem exs_nil : Exs X cm W [] (ret []) := ⟨_, pa_nil, fun B Z σ ρ H Q S h => h [] Z H Grow.refl S .nil⟩
theorem exs_cons (ha : Ex X cm W e fa) (hr : Exs X cm W es fs) (hs : starEach (e :: es) X.env = (false, eval e X.env) :: starEach es X.env := by rfl) : Exs X cm W (e :: es) (consM fa fs) := by
  obtain ⟨ta, pa, qa⟩ := ha
  obtain ⟨tr, pr, qr⟩ := hr
  refine ⟨_, pa_cons pa pr hs, fun B Z σ ρ H Q S h => qa B Z σ ρ H _ S (Post.bind h fun d ρ1 v Z1 H1 g1 S1 r1 h1 => qr B Z1 σ ρ1 H1 _ S1 (Post.bind h1 fun ds ρ2 vs Z2 H2 g2 S2 r2 h2 => ?_))⟩
  exact Post.ret h2 S2 (.cons (Rp.grow g2 r1) r2)
/-! ### displays -/
theorem St0.newT {K : Frag} {B : Bs} {Z : ZS} {σ : L2.St} {ρ : Rho} {H : Hp} {p : Addr} {xs : List V} {ds : List D} (S : St0 K cm Z B σ ρ H) (hp : H p = none) (r : RpA K cm Z H xs ds) :
    ∃ Z', Grow Z H Z' (upd H p (.tup xs)) ∧ St0 K cm Z' B σ ρ (upd H p (.tup xs)) ∧ Rp K cm Z' (upd H p (.tup xs)) (.ref p) (.tup ds) := by
  obtain ⟨S', g⟩ := S.new (o := .tup xs) hp
  exact ⟨_, g, S', .tup (.inl ⟨.inr rfl, .inl upd_same⟩) (RpA.grow g r)⟩
theorem St0.newL {K : Frag} {B : Bs} {Z : ZS} {σ : L2.St} {ρ : Rho} {H : Hp} {p : Addr} {xs : List V} {ds : List D} (S : St0 K cm Z B σ ρ H) (hp : H p = none) (r : RpA K cm Z H xs ds) :
    ∃ Z', Grow Z H Z' (upd H p (.lst xs)) ∧ St0 K cm Z' B σ ρ (upd H p (.lst xs)) ∧ Rp K cm Z' (upd H p (.lst xs)) (.ref p) (.lst ds) := by
  obtain ⟨S', g⟩ := S.new (o := .lst xs) hp
  exact ⟨_, g, S', .lst (.inr rfl) upd_same (RpA.grow g r)⟩
def small (n : Nat) : Bool := decide (n ≤ sizeLine)
def tupM (f : M (List D)) : M D := bind f fun ds => if small ds.length then ret (.tup ds) else bad
def lstM (f : M (List D)) : M D := bind f fun ds => if small ds.length then ret (.lst ds) else bad
theorem ex_tup {k} (h : Exs X cm W es fs) : Ex X cm W (.Tuple es k pos) (tupM fs) := by
  obtain ⟨t, p, q⟩ := h
  refine ⟨_, pe_tup p, fun B Z σ ρ H Q S h => q B Z σ ρ H _ S (Post.bind h fun ds ρ1 vs Z1 H1 g1 S1 r1 h1 => ?_)⟩
  split at h1
  · rename_i hs
    refine ⟨by rw [RpA.length r1]; exact of_decide_eq_true hs, fun p hp => ?_⟩
    obtain ⟨Z2, g2, S2, r2⟩ := S1.newT hp r1
    exact h1 _ Z2 _ g2 S2 r2
  · exact h1.elim
theorem ex_lst (h : Exs X cm W es fs) : Ex X cm W (.List es pos) (lstM fs) := by
  obtain ⟨t, p, q⟩ := h
  refine ⟨_, pe_lst p, fun B Z σ ρ H Q S h => q B Z σ ρ H _ S (Post.bind h fun ds ρ1 vs Z1 H1 g1 S1 r1 h1 => ?_)⟩
  split at h1
  · rename_i hs
    refine ⟨by rw [RpA.length r1]; exact of_decide_eq_true hs, fun p hp => ?_⟩
    obtain ⟨Z2, g2, S2, r2⟩ := S1.newL hp r1
    exact h1 _ Z2 _ g2 S2 r2
  · exact h1.elim
/-! ### operators -/
def bin (g : D → D → M D) (fa fb : M D) : M D := bind fa fun x => bind fb fun y => g x y
def un (g : D → M D) (fa : M D) : M D := bind fa g
theorem tOp_ok {ta tb : TE} {r : R2} {g : D → D → M D} (qa : ∀ B Z σ ρ H Q, St0 X.K cm Z B σ ρ H → Post X.K cm W B (rpD X.K cm) Z σ H (fa ρ) Q → ta σ H Q) (qb : ∀ B Z σ ρ H Q, St0 X.K cm Z B σ ρ H → Post X.K cm W B (rpD X.K cm) Z σ H (fb ρ) Q → tb σ H Q) (hr : OpD X cm W r g) :
    ∀ B Z σ ρ H Q, St0 X.K cm Z B σ ρ H → Post X.K cm W B (rpD X.K cm) Z σ H (bin g fa fb ρ) Q → tOp r ta tb σ H Q := fun B Z σ ρ H Q S h =>
  qa B Z σ ρ H _ S (Post.bind h fun d ρ1 v Z1 H1 g1 S1 r1 h1 => qb B Z1 σ ρ1 H1 _ S1 (Post.bind h1 fun d2 ρ2 v2 Z2 H2 g2 S2 r2 h2 => hr B Z2 σ ρ2 H2 v v2 d d2 Q S2 (Rp.grow g2 r1) r2 h2))
theorem ex_op {op : Operator} {r : R2} {g : D → D → M D} (ho : OpR X (binaryOp op) r) (hr : OpD X cm W r g) (ha : Ex X cm W a fa) (hb : Ex X cm W b fb) : Ex X cm W (.BinOp a op b pos) (bin g fa fb) := by
  obtain ⟨ta, pa, qa⟩ := ha
  obtain ⟨tb, pb, qb⟩ := hb
  exact ⟨_, pe_op ho pa pb, tOp_ok qa qb hr⟩
theorem ex_un {op : UnaryOp} {r : V → Hp → VK → Prop} {g : D → M D} (ho : UnR X (unaryOp op) r) (hr : UnD X cm W r g) (ha : Ex X cm W a fa) : Ex X cm W (.UnaryOp op a pos) (un g fa) := by
  obtain ⟨ta, pa, qa⟩ := ha
  exact ⟨_, pe_un ho pa, fun B Z σ ρ H Q S h => qa B Z σ ρ H _ S (Post.bind h fun d ρ1 v Z1 H1 g1 S1 r1 h1 => hr B Z1 σ ρ1 H1 v d Q S1 r1 h1)⟩
theorem ex_cmp {op : CmpOp} {r : R2} {g : D → D → M D} (ho : OpR X (compareOp op) r) (hr : OpD X cm W r g) (ha : Ex X cm W a fa) (hb : Ex X cm W b fb) (hm : behindInMarks op b = false := by first | exact nomark _ | rfl) : Ex X cm W (.Compare a [op] [b] pos) (bin g fa fb) := by
  obtain ⟨ta, pa, qa⟩ := ha
  obtain ⟨tb, pb, qb⟩ := hb
  exact ⟨_, pe_cmpR ho pa pb hm, tOp_ok qa qb hr⟩
def blM (f : M D) : M Bool := bind f fun d => match d with
  | .bl b => ret b
  | _ => bad
theorem blM_ok {t : TE} {f : M D} (q : ∀ B Z σ ρ H Q, St0 X.K cm Z B σ ρ H → Post X.K cm W B (rpD X.K cm) Z σ H (f ρ) Q → t σ H Q) : ∀ B Z σ ρ H Q, St0 X.K cm Z B σ ρ H → Post X.K cm W B rpB Z σ H (blM f ρ) Q → tTest t σ H Q := fun B Z σ ρ H Q S h =>
  q B Z σ ρ H _ S (Post.bind h fun d ρ1 v Z1 H1 g1 S1 r1 h1 => by
    cases d with
    | bl k =>
      cases r1
      exact ⟨k, rfl, h1 k Z1 H1 Grow.refl S1 rfl⟩
    | _ => exact h1.elim)
theorem tx_cmp {op : CmpOp} {r : R2} {g : D → D → M D} (ho : OpR X (compareOp op) r) (hr : OpD X cm W r g) (ha : Ex X cm W a fa) (hb : Ex X cm W b fb) (hm : behindInMarks op b = false := by first | exact nomark _ | rfl) : Tx X cm W (.Compare a [op] [b] pos) (blM (bin g fa fb)) := by
  obtain ⟨ta, pa, qa⟩ := ha
  obtain ⟨tb, pb, qb⟩ := hb
  exact ⟨_, pt_cmpR ho pa pb hm, blM_ok (tOp_ok qa qb hr)⟩
/-- x < y < z -/
def chain (g g' : D → D → M D) (fa fb fc : M D) : M D := bind fa fun x => bind fb fun y => bind (g x y) fun k => match k with
  | .bl true => bind fc fun z => g' y z
  | .bl false => ret (.bl false)
  | _ => bad
theorem chain_ok {ta tb tc : TE} {r r' : R2} {g g' : D → D → M D} (qa : ∀ B Z σ ρ H Q, St0 X.K cm Z B σ ρ H → Post X.K cm W B (rpD X.K cm) Z σ H (fa ρ) Q → ta σ H Q) (qb : ∀ B Z σ ρ H Q, St0 X.K cm Z B σ ρ H → Post X.K cm W B (rpD X.K cm) Z σ H (fb ρ) Q → tb σ H Q)
    (qc : ∀ B Z σ ρ H Q, St0 X.K cm Z B σ ρ H → Post X.K cm W B (rpD X.K cm) Z σ H (fc ρ) Q → tc σ H Q) (hr : OpD X cm W r g) (hr' : OpD X cm W r' g') :
    ∀ B Z σ ρ H Q, St0 X.K cm Z B σ ρ H → Post X.K cm W B (rpD X.K cm) Z σ H (chain g g' fa fb fc ρ) Q → tChain r r' ta tb tc σ H Q := fun B Z σ ρ H Q S h =>
  qa B Z σ ρ H _ S (Post.bind h fun d ρ1 v Z1 H1 g1 S1 r1 h1 => qb B Z1 σ ρ1 H1 _ S1 (Post.bind h1 fun d2 ρ2 v2 Z2 H2 g2 S2 r2 h2 => by
    refine hr B Z2 σ ρ2 H2 v v2 d d2 _ S2 (Rp.grow g2 r1) r2 (Post.bind h2 fun k ρ3 kv Z3 H3 g3 S3 r3 h3 => ?_)
    split at h3
    · cases r3
      refine ⟨true, rfl, ?_⟩
      rw [if_pos rfl]
      exact qc B Z3 σ ρ3 H3 _ S3 (Post.bind h3 fun d4 ρ4 v4 Z4 H4 g4 S4 r4 h4 => hr' B Z4 σ ρ4 H4 v2 v4 d2 d4 Q S4 (Rp.grow (g3.trans g4) r2) r4 h4)
    · cases r3
      refine ⟨false, rfl, ?_⟩
      rw [if_neg Bool.false_ne_true]
      exact Post.ret h3 S3 (.bl false)
    · exact h3.elim))
theorem ex_chain {op op' : CmpOp} {r r' : R2} {g g' : D → D → M D} (ho : OpR X (compareOp op) r) (hr : OpD X cm W r g) (ho' : OpR X (compareOp op') r') (hr' : OpD X cm W r' g') (ha : Ex X cm W a fa) (hb : Ex X cm W b fb) (hc : Ex X cm W c fc)
    (hm : lastMarks [op, op'] [b, c] = false := by rfl) : Ex X cm W (.Compare a [op, op'] [b, c] pos) (chain g g' fa fb fc) := by
  obtain ⟨ta, pa, qa⟩ := ha
  obtain ⟨tb, pb, qb⟩ := hb
  obtain ⟨tc, pc, qc⟩ := hc
  exact ⟨_, pe_chain ho ho' pa pb pc hm, chain_ok qa qb qc hr hr'⟩
theorem tx_chain {op op' : CmpOp} {r r' : R2} {g g' : D → D → M D} (ho : OpR X (compareOp op) r) (hr : OpD X cm W r g) (ho' : OpR X (compareOp op') r') (hr' : OpD X cm W r' g') (ha : Ex X cm W a fa) (hb : Ex X cm W b fb) (hc : Ex X cm W c fc)
    (hm : lastMarks [op, op'] [b, c] = false := by rfl) : Tx X cm W (.Compare a [op, op'] [b, c] pos) (blM (chain g g' fa fb fc)) := by
  obtain ⟨ta, pa, qa⟩ := ha
  obtain ⟨tb, pb, qb⟩ := hb
  obtain ⟨tc, pc, qc⟩ := hc
  exact ⟨_, pt_chain ho ho' pa pb pc hm, blM_ok (chain_ok qa qb qc hr hr')⟩
/-! ### tests -/
theorem tx_val (ha : Ex X cm W a fa) (he : ∀ whole, isTrue a X.env whole = (do let v ← whole; standAt a.pos; holding [v] (truthy v)) := by intro _; rfl) : Tx X cm W a (blM fa) := by
  obtain ⟨ta, pa, qa⟩ := ha
  exact ⟨_, pt_val pa he, blM_ok qa⟩
def notM (f : M Bool) : M Bool := bind f fun b => ret (!b)
def andM (f g : M Bool) : M Bool := bind f fun b => if b then g else ret false
def orM (f g : M Bool) : M Bool := bind f fun b => if b then ret true else g
theorem tx_not {f : M Bool} (h : Tx X cm W a f) : Tx X cm W (.UnaryOp .Not a pos) (notM f) := by
  obtain ⟨t, p, q⟩ := h
  exact ⟨_, pt_not p, fun B Z σ ρ H Q S h => q B Z σ ρ H _ S (Post.bind h fun b ρ1 v Z1 H1 g1 S1 r1 h1 => by
    cases (show v = b from r1)
    exact h1 _ Z1 H1 Grow.refl S1 rfl)⟩
theorem wx_and1 {f : M Bool} (h : Tx X cm W a f) : Wx X cm W (.BoolOp .And [a] pos) f := let ⟨t, p, q⟩ := h; ⟨_, pw_and1 p, q⟩
theorem wx_or1 {f : M Bool} (h : Tx X cm W a f) : Wx X cm W (.BoolOp .Or [a] pos) f := let ⟨t, p, q⟩ := h; ⟨_, pw_or1 p, q⟩
theorem wx_and {f g : M Bool} {rest : List Expr} (h : Tx X cm W a f) (hb : Wx X cm W (.BoolOp .And (b :: rest) pos) g) : Wx X cm W (.BoolOp .And (a :: b :: rest) pos) (andM f g) := by
  obtain ⟨t, p, q⟩ := h
  obtain ⟨t2, p2, q2⟩ := hb
  refine ⟨_, pw_and p p2, fun B Z σ ρ H Q S h => q B Z σ ρ H _ S (Post.bind h fun b ρ1 v Z1 H1 g1 S1 r1 h1 => ?_)⟩
  cases (show v = b from r1)
  cases b with
  | true => exact iteT (q2 B Z1 σ ρ1 H1 Q S1 h1)
  | false => exact iteF (h1 false Z1 H1 Grow.refl S1 rfl)
theorem wx_or {f g : M Bool} {rest : List Expr} (h : Tx X cm W a f) (hb : Wx X cm W (.BoolOp .Or (b :: rest) pos) g) : Wx X cm W (.BoolOp .Or (a :: b :: rest) pos) (orM f g) := by
  obtain ⟨t, p, q⟩ := h
  obtain ⟨t2, p2, q2⟩ := hb
  refine ⟨_, pw_or p p2, fun B Z σ ρ H Q S h => q B Z σ ρ H _ S (Post.bind h fun b ρ1 v Z1 H1 g1 S1 r1 h1 => ?_)⟩
  cases (show v = b from r1)
  cases b with
  | true => exact iteT (h1 true Z1 H1 Grow.refl S1 rfl)
  | false => exact iteF (q2 B Z1 σ ρ1 H1 Q S1 h1)
theorem tx_w {f : M Bool} (h : Wx X cm W a f) : Tx X cm W a f := let ⟨t, p, q⟩ := h; ⟨_, p.pt, q⟩
/-! ### truths as values -/
def andV (f g : M D) : M D := bind f fun d => match d with
  | .bl true => g
  | .bl false => ret (.bl false)
  | _ => bad
def orV (f g : M D) : M D := bind f fun d => match d with
  | .bl true => ret (.bl true)
  | .bl false => g
  | _ => bad
def notV (f : M D) : M D := bind f fun d => match d with
  | .bl k => ret (.bl (!k))
  | _ => bad
theorem ex_one {op} (h : Ex X cm W a fa) : Ex X cm W (.BoolOp op [a] pos) fa := let ⟨t, p, q⟩ := h; ⟨_, pe_one p, q⟩
theorem ex_and {rest : List Expr} (h : Ex X cm W a fa) (hb : Ex X cm W (.BoolOp .And (b :: rest) pos) fb) : Ex X cm W (.BoolOp .And (a :: b :: rest) pos) (andV fa fb) := by
  obtain ⟨t, p, q⟩ := h
  obtain ⟨t2, p2, q2⟩ := hb
  refine ⟨_, pe_and p p2, fun B Z σ ρ H Q S h => q B Z σ ρ H _ S (Post.bind h fun d ρ1 v Z1 H1 g1 S1 r1 h1 => ?_)⟩
  split at h1
  · cases r1
    exact ⟨true, rfl, iteT (q2 B Z1 σ ρ1 H1 Q S1 h1)⟩
  · cases r1
    exact ⟨false, rfl, iteF (h1 _ Z1 H1 Grow.refl S1 (.bl false))⟩
  · exact h1.elim
theorem ex_or {rest : List Expr} (h : Ex X cm W a fa) (hb : Ex X cm W (.BoolOp .Or (b :: rest) pos) fb) : Ex X cm W (.BoolOp .Or (a :: b :: rest) pos) (orV fa fb) := by
  obtain ⟨t, p, q⟩ := h
  obtain ⟨t2, p2, q2⟩ := hb
  refine ⟨_, pe_or p p2, fun B Z σ ρ H Q S h => q B Z σ ρ H _ S (Post.bind h fun d ρ1 v Z1 H1 g1 S1 r1 h1 => ?_)⟩
  split at h1
  · cases r1
    exact ⟨true, rfl, iteT (h1 _ Z1 H1 Grow.refl S1 (.bl true))⟩
  · cases r1
    exact ⟨false, rfl, iteF (q2 B Z1 σ ρ1 H1 Q S1 h1)⟩
  · exact h1.elim
theorem ex_not (h : Ex X cm W a fa) : Ex X cm W (.UnaryOp .Not a pos) (notV fa) := by
  obtain ⟨t, p, q⟩ := h
  refine ⟨_, pe_not p, fun B Z σ ρ H Q S h => q B Z σ ρ H _ S (Post.bind h fun d ρ1 v Z1 H1 g1 S1 r1 h1 => ?_)⟩
  cases d with
  | bl k =>
    cases r1
    exact ⟨k, rfl, h1 _ Z1 H1 Grow.refl S1 (.bl _)⟩
  | _ => exact h1.elim
def iteM {α : Type} (t : M Bool) (f g : M α) : M α := bind t fun b => if b then f else g
theorem ex_if {t : M Bool} (hc : Tx X cm W c t) (ha : Ex X cm W a fa) (hb : Ex X cm W b fb) : Ex X cm W (.IfExp c a b pos) (iteM t fa fb) := by
  obtain ⟨t, p, q⟩ := hc
  obtain ⟨t1, p1, q1⟩ := ha
  obtain ⟨t2, p2, q2⟩ := hb
  refine ⟨_, pe_ifExp p p1 p2, fun B Z σ ρ H Q S h => q B Z σ ρ H _ S (Post.bind h fun b ρ1 v Z1 H1 g1 S1 r1 h1 => ?_)⟩
  cases (show v = b from r1)
  cases b with
  | true => exact iteT (q1 B Z1 σ ρ1 H1 Q S1 h1)
  | false => exact iteF (q2 B Z1 σ ρ1 H1 Q S1 h1)
end
end De

set_option Elab.async false
set_option linter.all false
set_option maxRecDepth 100000
set_option maxHeartbeats 2000000
namespace De
open PySem PySem.Spec PyProof.Rows L2
open PySem.W (Frag)
/-! ### an item by a truth; a text times a number; repr -/
section
variable {prog : Program} {w : World} {M : Model} {A : Around} {E : Value → Shared → Prop} {s : Shared}
theorem sub_bool {b : Bool} {Q : Option Int → Shared → Prop} (h : Q (some (if b then 1 else 0)) s) : wpAny M A (Builtin.List.listSubscript? (.bool b)) Q E s := by
  unfold Builtin.List.listSubscript?
  refine wpAny_bind (wpAny_specialOf (T := "bool") (show s.TypeIs (.bool b) "bool" from rfl) (r := some (.builtin "int.__index__")) (name := Str.ofString "__index__") (by rw [typeLookup_type, builtinLookup_eq_fast]; kernel_rfl) ?_)
  show wpAny M A (asIndex (.bool b) >>= _) Q E s
  refine wpAny_bind (wpAny_of_eq (a := if b then 1 else 0) (by cases b <;> rfl) ?_)
  show wpAny M A (if (!Builtin.List.listFitsIndex (if b then 1 else 0)) = true then _ else _) Q E s
  rw [if_neg (by cases b <;> decide)]
  exact wpAny_pure h
theorem get_bool {l : Addr} {items : Array Value} {b : Bool} {x : Value} {Q : Value → Shared → Prop} (hl : s.heap.IsList l items)
    (hx : items[if b then 1 else 0]? = some x) (h : Q x s) : wpAny (model prog w) A (getItem (.ref l) (.bool b)) Q E s := by
  obtain ⟨o, ho, hc, ne, hd⟩ := id hl
  unfold getItem
  try with_reducible refine wpAny_holding ?_
  first | refine wpAny_bind (wpAny_pure ?_) | skip
  refine wpAny_bind (wpAny_sequenceKey hl.typeIs (by decide) ?_)
  refine wpAny_bind (wpAny_callSpecial?_slot (name := Str.ofString "__getitem__") hl.typeIs slot_list_getitem
    (wpAny_call_entry slot_list_getitem hl.typeIs entry_list_getitem ?_ (args_list_getitem _ _)))
  show wpAny _ _ (Builtin.List.listSubscript? (.bool b) >>= _) _ _ s
  refine wpAny_bind (sub_bool ?_)
  cases b
  · show wpAny _ _ ((seqItemAt l 0 >>= fun r => pure (r.map (0, ·))) >>= _) _ _ s
    refine wpAny_bind (wpAny_bind (wpAny_seqItemAt ho hd (wpAny_pure ?_)))
    rw [show items[0]? = some x from hx]
    first
      | exact wpAny_bind (wpAny_pure (wpAny_pure ⟨x, rfl, wpAny_pure h⟩))
      | exact wpAny_pure ⟨x, rfl, wpAny_pure h⟩
  · show wpAny _ _ ((seqItemAt l 1 >>= fun r => pure (r.map (1, ·))) >>= _) _ _ s
    refine wpAny_bind (wpAny_bind (wpAny_seqItemAt ho hd (wpAny_pure ?_)))
    rw [show items[1]? = some x from hx]
    first
      | exact wpAny_bind (wpAny_pure (wpAny_pure ⟨x, rfl, wpAny_pure h⟩))
      | exact wpAny_pure ⟨x, rfl, wpAny_pure h⟩
end
section
variable {X : Cx}
def rIxB (K : Frag) : R2 := fun x y H Q => ∃ p xs b v, x = .ref p ∧ y = .bl b ∧ SqL K H p xs ∧ xs[if b then 1 else 0]? = some v ∧ Q v H
theorem ix_bool : IxR X (rIxB X.K) := by
  intro value slice pins s σ H x y v u Q I rx ry h hs
  obtain ⟨p, xs, b, z, rfl, rfl, hq, he, q⟩ := h
  cases rx
  cases ry
  obtain ⟨its, r, pl, hz⟩ := I.list hq
  obtain ⟨w, ew, rw'⟩ := r.get he
  exact subscriptTail_builtinR (x := w) pl.isList.typeIs slot_list_getitem.lookup
    (get_bool (Q := fun r s' => r = w ∧ EP X pins σ Q r s') pl.isList (by cases b <;> simpa using ew) ⟨rfl, ⟨z, H, I, rw', q⟩⟩) hs
theorem foldl_cps : ∀ (n : Nat) (c : Array Nat) (acc : Array Nat), (List.replicate n c).foldl (· ++ ·) acc = acc ++ ((List.replicate n c.toList).flatten).toArray
  | 0, c, acc => by simp
  | n + 1, c, acc => by
    rw [List.replicate_succ, List.foldl_cons, foldl_cps n c, List.replicate_succ, List.flatten_cons]
    apply Array.ext'
    simp
/-- a text n times -/
def repS (x : Str) (n : Nat) : Str := ⟨((List.replicate n x.cps.toList).flatten).toArray⟩
def rRepS : R2 := fun x y H Q => ∃ z k, x = .str z ∧ y = .int k ∧ 0 ≤ k ∧ k ≤ 1000 ∧ z.length ≤ 1000 ∧ Q (.str (repS z k.toNat)) H
theorem op_repS : OpR X (binaryOp .Mult) rRepS := by
  intro pins s σ H x y v u Q I rx ry h
  obtain ⟨z, k, rfl, rfl, h0, h1, hz, q⟩ := h
  obtain ⟨t, rfl⟩ := rx
  obtain ⟨t', rfl⟩ := ry
  have e1 : decide (k < -(2 ^ 63 : Int)) = false := decide_eq_false (by omega)
  have e2 : decide (k ≥ 2 ^ 63) = false := decide_eq_false (by omega)
  refine PySem.P.mul_str (by rw [e1, e2]; rfl) (fun hk _ hgt => ?_) (fun hk _ => ?_) ?_
  · have hk' : 1 ≤ k := by omega
    have := Int.ediv_le_ediv (c := 1000) (a := 2 ^ 63 - 1) (b := 2 ^ 63 - 1)
    have h3 : (1000 : Int) ≤ (2 ^ 63 - 1) / k := by
      rw [Int.le_ediv_iff_mul_le (by omega)]
      have : (1000 : Int) * k ≤ 1000 * 1000 := by omega
      omega
    omega
  · have hk2 : k.toNat ≤ 1000 := by omega
    have : z.length * k.toNat ≤ 1000 * 1000 := Nat.mul_le_mul hz hk2
    show decide (z.length * k.toNat > sizeLine) = false
    refine decide_eq_false ?_
    have hs := sizeLine_eq
    omega
  · by_cases hk : k < 1
    · rw [if_pos hk]
      have hk0 : k = 0 := by omega
      subst hk0
      exact ⟨by decide, ⟨.str (repS z 0), H, I.tok _, ⟨_, rfl⟩, q⟩⟩
    · rw [if_neg hk]
      split
      · rename_i hh
        rw [Bool.or_eq_true] at hh
        have er : repS z k.toNat = z := by
          rcases hh with hh | hh
          · have : k = 1 := by simpa using hh
            subst this
            show (⟨_⟩ : Str) = z
            simp [repS]
          · have hl : z.length = 0 := by simpa using hh
            have hc : z.cps = #[] := Array.eq_empty_of_size_eq_zero hl
            show (⟨_⟩ : Str) = z
            obtain ⟨c⟩ := z
            simp only at hc
            subst hc
            simp [repS]
        rw [er] at q
        exact ⟨.str z, H, I, ⟨t, rfl⟩, q⟩
      · have e : (⟨(List.replicate k.toNat z.cps).foldl (· ++ ·) #[]⟩ : Str) = repS z k.toNat := by
          rw [foldl_cps]
          simp [repS]
        rw [e]
        refine ⟨?_, ⟨.str (repS z k.toNat), H, I.tok _, ⟨_, rfl⟩, q⟩⟩
        show (repS z k.toNat).length ≤ sizeLine
        have hk2 : k.toNat ≤ 1000 := by omega
        have : k.toNat * z.length ≤ 1000 * 1000 := Nat.mul_le_mul hk2 hz
        have hs := sizeLine_eq
        have hl : (repS z k.toNat).length = k.toNat * z.length := by
          show ((List.replicate k.toNat z.cps.toList).flatten).toArray.size = _
          simp [Str.length]
        omega
theorem call_repr_str : CallR X (.builtin "repr") (fun xs H Q => ∃ z, xs = [.str z] ∧ (reprText z).length ≤ sizeLine ∧ Q (.str (reprText z)) H) := by
  intro pins s σ H xs us Q I r h
  obtain ⟨i, rfl, hz, q⟩ := h
  obtain ⟨u, rfl, t, rfl⟩ := vals1 r
  exact PySem.P.repr_of_str ⟨.str _, H, I.tok _, ⟨_, rfl⟩, q⟩ hz
end
end De

set_option Elab.async false
set_option linter.all false
set_option maxRecDepth 100000
set_option maxHeartbeats 2000000
namespace De
open PySem PySem.Spec PyProof.Rows L2
open PySem.W (Frag)
/-! ### plain data: == and in -/
mutual
def toP : D → Option PyData
  | .non => some .none
  | .bl b => some (.bool b)
  | .int i => some (.int i)
  | .str s => some (.str s)
  | .tup xs => match toPs xs with | some ys => some (.tuple ys) | none => none
  | .lst xs => match toPs xs with | some ys => some (.list ys) | none => none
  | .scr _ => none
  | .ins _ _ => none
  | .fn _ => none
  | .xn _ _ _ _ => none
def toPs : List D → Option (List PyData)
  | [] => some []
  | x :: xs => match toP x with | some y => (match toPs xs with | some ys => some (y :: ys) | none => none) | none => none
end
section
variable {K : Frag} {cm : Str → Option Addr} {Z : ZS} {H : Hp}
mutual
theorem Rp.dp : ∀ {v : V} {d : D} {p : PyData}, Rp K cm Z H v d → toP d = some p → Dp K H v p
  | _, _, _, .non, e => by unfold toP at e; cases e; exact .non
  | _, _, _, .bl b, e => by unfold toP at e; cases e; exact .bl b
  | _, _, _, .int i, e => by unfold toP at e; cases e; exact .int i
  | _, _, _, .str s, e => by unfold toP at e; cases e; exact .str s
  | _, _, _, .tup h t, e => by
    unfold toP at e
    split at e
    · rename_i ys h2
      cases e
      exact .tup h.sq (RpA.dp t h2)
    · cases e
  | _, _, _, .lst z h t, e => by
    unfold toP at e
    split at e
    · rename_i ys h2
      cases e
      exact .lst (.inl (.inl h)) (RpA.dp t h2)
    · cases e
  | _, _, _, .scr _ _, e => by unfold toP at e; cases e
  | _, _, _, .ins _ _ _ _, e => by unfold toP at e; cases e
  | _, _, _, .xn0 _, e => by unfold toP at e; cases e
  | _, _, _, .xn _ _ _ _, e => by unfold toP at e; cases e
theorem RpA.dp : ∀ {vs : List V} {ds : List D} {ps : List PyData}, RpA K cm Z H vs ds → toPs ds = some ps → DpAll K H vs ps
  | _, _, _, .nil, e => by unfold toPs at e; cases e; exact .nil
  | _, _, _, .cons h t, e => by
    unfold toPs at e
    split at e
    · rename_i y h1
      split at e
      · rename_i ys h2
        cases e
        exact .cons (Rp.dp h h1) (RpA.dp t h2)
      · cases e
    · cases e
end
end
def eqS : D → D → Option Bool
  | .non, .non => some true
  | .str a, .str b => some (a == b)
  | .int a, .int b => some (a == b)
  | .bl a, .bl b => some (a == b)
  | .non, .int _ => some false
  | .int _, .non => some false
  | .non, .bl _ => some false
  | .bl _, .non => some false
  | .non, .str _ => some false
  | .str _, .non => some false
  | .int _, .str _ => some false
  | .str _, .int _ => some false
  | .bl _, .str _ => some false
  | .str _, .bl _ => some false
  | _, _ => none
def eqP (x y : D) : Option Bool := match eqS x y with
  | some b => some b
  | none => match toP x, toP y with
    | some p, some q => if SeqAt.shaped p && SeqAt.shaped q then some (PyData.eqv p q) else none
    | _, _ => none
theorem Rp.eqS {K : Frag} {Z : ZS} {H : Hp} {v w : V} {d e : D} {b : Bool} (rx : Rp K cm Z H v d) (ry : Rp K cm Z H w e) (h : De.eqS d e = some b) : scal v w = true ∧ decide (v = w) = b := by
  have hb : ∀ {a b : Bool}, decide (V.bl a = V.bl b) = (a == b) := fun {a b} => by cases a <;> cases b <;> rfl
  have hi : ∀ {a b : Int}, decide (V.int a = V.int b) = (a == b) := fun {a b} => by
    by_cases e : a = b
    · subst e; simp
    · rw [decide_eq_false (fun q => e (by injection q))]; simp [e]
  have hs : ∀ {a b : Str}, decide (V.str a = V.str b) = (a == b) := fun {a b} => by
    by_cases e : a = b
    · subst e; simp
    · rw [decide_eq_false (fun q => e (by injection q))]; simp [e]
  cases rx <;> cases ry <;> first
    | (exact ⟨rfl, by cases h; rfl⟩)
    | (exact ⟨rfl, by cases h; exact hb⟩)
    | (exact ⟨rfl, by cases h; exact hi⟩)
    | (exact ⟨rfl, by cases h; exact hs⟩)
    | (exact ⟨rfl, by cases h; exact decide_eq_false (fun q => nomatch q)⟩)
    | cases h
def optM (o : Option Bool) : M D := match o with
  | some b => ret (.bl b)
  | none => bad
def eqD (x y : D) : M D := optM (eqP x y)
def neD (x y : D) : M D := optM ((eqP x y).map (!·))
def inP (x y : D) : Option Bool := match y with
  | .tup xs => if flat x && xs.all flat then some (xs.any fun z => eqF z x) else none
  | .lst xs => if flat x && xs.all flat then some (xs.any fun z => eqF z x) else (match toP x, toPs xs with
    | some p, some ps => if SeqAt.shaped p && SeqAt.shaped (.list ps) then some (ps.any fun z => PyData.eqv z p) else none
    | _, _ => none)
  | .str t => (match x with
    | .str ⟨⟨[c]⟩⟩ => some (decide (c ∈ t.cps.toList))
    | _ => none)
  | _ => none
where
  flat : D → Bool
    | .non => true | .bl _ => true | .int _ => true | .str _ => true | _ => false
  eqF : D → D → Bool
    | .non, .non => true
    | .bl a, .bl b => a == b
    | .bl a, .int b => (if a = true then 1 else 0) == b
    | .int a, .bl b => a == if b = true then 1 else 0
    | .int a, .int b => a == b
    | .str a, .str b => a == b
    | _, _ => false
def inD (x y : D) : M D := optM (inP x y)
def notInD (x y : D) : M D := optM ((inP x y).map (!·))
def intD (f : Int → Int → M D) (x y : D) : M D := match x, y with
  | .int i, .int j => f i j
  | _, _ => bad
def subD : D → D → M D := intD fun i j => ret (.int (i - j))
def ltD : D → D → M D := intD fun i j => ret (.bl (decide (i < j)))
def leD : D → D → M D := intD fun i j => ret (.bl (decide (i ≤ j)))
def gtD : D → D → M D := intD fun i j => ret (.bl (decide (j < i)))
def geD : D → D → M D := intD fun i j => ret (.bl (decide (j ≤ i)))
def modD : D → D → M D := intD fun i j => if 0 < j then ret (.int (i % j)) else bad
def fdivD : D → D → M D := intD fun i j => if 0 < j ∧ j.natAbs.log2 < 9000 then ret (.int (i / j)) else bad
def powD : D → D → M D := intD fun i j => if 0 ≤ j ∧ j ≤ 1000 ∧ i.natAbs < 1000 then ret (.int (i ^ j.toNat)) else bad
def in64 (i : Int) : Bool := decide (-(2 ^ 64) < i) && decide (i < 2 ^ 64)
def mulD (x y : D) : M D := match x, y with
  | .int i, .int j => if in64 i || in64 j then ret (.int (i * j)) else bad
  | .str s, .int k => if decide (0 ≤ k) && decide (k ≤ 1000) && decide (s.length ≤ 1000) then ret (.str (repS s k.toNat)) else bad
  | .lst xs, .int k => if decide (0 ≤ k) && decide (k ≤ 1000) && decide (xs.length ≤ 1000) then ret (.lst (List.replicate k.toNat xs).flatten) else bad
  | .tup xs, .int k => if !xs.isEmpty && decide (2 ≤ k) && decide (k ≤ 1000) && decide (xs.length ≤ 1000) then ret (.tup (List.replicate k.toNat xs).flatten) else bad
  | _, _ => bad
def addD (x y : D) : M D := match x, y with
  | .int i, .int j => ret (.int (i + j))
  | .str s, .str t => if small (s.length + t.length) then ret (.str (s ++ t)) else bad
  | .tup xs, .tup ys => if small (xs.length + ys.length) then ret (.tup (xs ++ ys)) else bad
  | .lst xs, .lst ys => if small (xs.length + ys.length) then ret (.lst (xs ++ ys)) else bad
  | _, _ => bad
def negD : D → M D
  | .int i => ret (.int (-i))
  | _ => bad
def isNonD (x y : D) : M D := match y with
  | .non => (match x with | .non => ret (.bl true) | _ => ret (.bl false))
  | .bl b => (match x with | .bl a => ret (.bl (decide (a = b))) | _ => bad)
  | _ => bad
def notNonD (x y : D) : M D := match y with
  | .non => (match x with | .non => ret (.bl false) | _ => ret (.bl true))
  | .bl b => (match x with | .bl a => ret (.bl (!decide (a = b))) | _ => bad)
  | _ => bad
def optD (o : Option D) : M D := match o with
  | some d => ret d
  | none => bad
def ixD (x y : D) : M D := match x, y with
  | .tup xs, .int i => optD (atI xs i)
  | .lst xs, .int i => optD (atI xs i)
  | .scr xs, .int i => optD (atI xs i)
  | .lst xs, .bl b => optD xs[if b then 1 else 0]?
  | .str s, .int i => (match atI s.cps.toList i with
    | some c => if small s.length then ret (.str ⟨#[c]⟩) else bad
    | none => bad)
  | _, _ => bad

section
variable {X : Cx} {cm : Str → Option Addr} {W : WX} {K : Frag} {Z : ZS} {H : Hp}
theorem opd_int {f : Int → Int → V} {C : Int → Int → Prop} {g : Int → Int → M D} (h : ∀ B Z σ ρ H i j Q, St0 X.K cm Z B σ ρ H → Post X.K cm W B (rpD X.K cm) Z σ H (g i j ρ) Q → C i j ∧ Q (f i j) H) : OpD X cm W (rI C f) (intD g) := fun B Z σ ρ H x y d e Q S rx ry h1 => by
  unfold intD at h1
  split at h1
  · cases rx
    cases ry
    obtain ⟨h2, h3⟩ := h B Z σ ρ H _ _ Q S h1
    exact ⟨_, _, rfl, rfl, h2, h3⟩
  · exact h1.elim
theorem opd_int0 {f : Int → Int → V} {g : Int → Int → M D} (h : ∀ B Z σ ρ H i j Q, St0 X.K cm Z B σ ρ H → Post X.K cm W B (rpD X.K cm) Z σ H (g i j ρ) Q → Q (f i j) H) : OpD X cm W (rI0 f) (intD g) := fun B Z σ ρ H x y d e Q S rx ry h1 => by
  unfold intD at h1
  split at h1
  · cases rx
    cases ry
    exact ⟨_, _, rfl, rfl, h B Z σ ρ H _ _ Q S h1⟩
  · exact h1.elim
theorem opd_sub : OpD X cm W (rI0 fun i j => .int (i - j)) subD := opd_int0 fun B Z σ ρ H i j Q S h => Post.ret h S (.int _)
theorem opd_lt : OpD X cm W (rI0 fun i j => .bl (decide (i < j))) ltD := opd_int0 fun B Z σ ρ H i j Q S h => Post.ret h S (.bl _)
theorem opd_le : OpD X cm W (rI0 fun i j => .bl (decide (i ≤ j))) leD := opd_int0 fun B Z σ ρ H i j Q S h => Post.ret h S (.bl _)
theorem opd_gt : OpD X cm W (rI0 fun i j => .bl (decide (j < i))) gtD := opd_int0 fun B Z σ ρ H i j Q S h => Post.ret h S (.bl _)
theorem opd_ge : OpD X cm W (rI0 fun i j => .bl (decide (j ≤ i))) geD := opd_int0 fun B Z σ ρ H i j Q S h => Post.ret h S (.bl _)
theorem opd_mod : OpD X cm W (rI (fun _ j => 0 < j) fun i j => .int (i % j)) modD := opd_int fun B Z σ ρ H i j Q S h => by
  split at h
  · rename_i hj
    exact ⟨hj, Post.ret h S (.int _)⟩
  · exact h.elim
theorem opd_fdiv : OpD X cm W (rI CDivW fun i j => .int (i / j)) fdivD := opd_int fun B Z σ ρ H i j Q S h => by
  split at h
  · rename_i hj
    exact ⟨hj, Post.ret h S (.int _)⟩
  · exact h.elim
theorem opd_pow : OpD X cm W (rI CPow fun i j => .int (i ^ j.toNat)) powD := opd_int fun B Z σ ρ H i j Q S h => by
  split at h
  · rename_i hj
    exact ⟨⟨hj.1, by omega, by omega⟩, Post.ret h S (.int _)⟩
  · exact h.elim
theorem RpA.flat {vs : List V} {ds : List D} (r : RpA K cm Z H vs ds) : ds.all inP.flat = true → vs.all flatV = true ∧ ∀ x d, Rp K cm Z H x d → inP.flat d = true → flatV x = true ∧ (vs.any fun y => eqV y x) = ds.any fun z => inP.eqF z d := by
  have one : ∀ {v : V} {d : D}, Rp K cm Z H v d → inP.flat d = true → flatV v = true := by
    intro v d h e
    cases h <;> first | rfl | cases e
  have eq : ∀ {v w : V} {d e : D}, Rp K cm Z H v d → Rp K cm Z H w e → inP.flat d = true → inP.flat e = true → eqV v w = inP.eqF d e := by
    intro v w d e h1 h2 f1 f2
    cases h1 <;> cases h2 <;> first | rfl | cases f1 | cases f2
  have go : ∀ (vs : List V) (ds : List D), RpA K cm Z H vs ds → ds.all inP.flat = true → vs.all flatV = true ∧ ∀ x d, Rp K cm Z H x d → inP.flat d = true → (vs.any fun y => eqV y x) = ds.any fun z => inP.eqF z d := by
    intro vs
    induction vs with
    | nil =>
      intro ds r e
      cases r
      exact ⟨rfl, fun _ _ _ _ => rfl⟩
    | cons v vs ih =>
      intro ds r e
      cases r with
      | cons h t =>
        rw [List.all_cons, Bool.and_eq_true] at e
        obtain ⟨i1, i2⟩ := ih _ t e.2
        refine ⟨by rw [List.all_cons, one h e.1, i1]; rfl, fun x d r f => ?_⟩
        rw [List.any_cons, List.any_cons, eq h r e.1 f, i2 x d r f]
  intro e
  obtain ⟨a, b⟩ := go vs ds r e
  exact ⟨a, fun x d r f => ⟨one r f, b x d r f⟩⟩
/-- == , != of data -/
def rEqA (K : Frag) : R2 := fun x y H Q => rEq x y H Q ∨ rEqD K x y H Q
def rNeA (K : Frag) : R2 := fun x y H Q => rNe x y H Q ∨ rNeD K x y H Q
theorem or_eq (hu : X.A.units + 64 < cLine) : OpR X (compareOp .Eq) (rEqA X.K) := op_eq.or (op_eqD hu)
theorem or_ne (hu : X.A.units + 64 < cLine) : OpR X (compareOp .NotEq) (rNeA X.K) := op_ne.or (op_neD hu)
theorem opd_eq : OpD X cm W (rEqA X.K) eqD := fun B Z σ ρ H x y d e Q S rx ry h => by
  unfold eqD eqP at h
  split at h
  · rename_i b hb
    obtain ⟨h1, h2⟩ := rx.eqS ry hb
    refine .inl ⟨h1, ?_⟩
    rw [h2]
    exact Post.ret h S (.bl _)
  · split at h
    · rename_i p q hp hq
      split at h
      · rename_i hs
        rw [Bool.and_eq_true] at hs
        exact .inr ⟨p, q, rx.dp hp, ry.dp hq, hs.1, hs.2, Post.ret h S (.bl _)⟩
      · exact h.elim
    · exact h.elim
theorem opd_ne : OpD X cm W (rNeA X.K) neD := fun B Z σ ρ H x y d e Q S rx ry h => by
  unfold neD eqP at h
  split at h
  · rename_i b hb
    obtain ⟨h1, h2⟩ := rx.eqS ry hb
    refine .inl ⟨h1, ?_⟩
    rw [h2]
    exact Post.ret h S (.bl _)
  · split at h
    · rename_i p q hp hq
      split at h
      · rename_i hs
        rw [Bool.and_eq_true] at hs
        exact .inr ⟨p, q, rx.dp hp, ry.dp hq, hs.1, hs.2, Post.ret h S (.bl _)⟩
      · exact h.elim
    · exact h.elim
def rInA (K : Frag) : R2 := fun x y H Q => rIn K false x y H Q ∨ (rInD K x y H Q ∨ ∃ (c : Nat) (z : Str), x = .str ⟨#[c]⟩ ∧ y = .str z ∧ Q (.bl (decide (c ∈ z.cps.toList))) H)
def rNotInA (K : Frag) : R2 := fun x y H Q => rIn K true x y H Q ∨ (rNotInD K x y H Q ∨ ∃ (c : Nat) (z : Str), x = .str ⟨#[c]⟩ ∧ y = .str z ∧ Q (.bl (!decide (c ∈ z.cps.toList))) H)
theorem or_in (hu : X.A.units + 65 < cLine) : OpR X (compareOp .In) (rInA X.K) := op_in_seq.or ((op_inD hu).or op_in_sign)
theorem or_notin (hu : X.A.units + 65 < cLine) : OpR X (compareOp .NotIn) (rNotInA X.K) := op_notIn_seq.or ((op_notInD hu).or op_notIn_sign)
theorem opd_in : OpD X cm W (rInA X.K) inD := fun B Z σ ρ H x y d e Q S rx ry h => by
  unfold inD inP at h
  split at h
  · rename_i xs
    cases ry with
    | tup hT rs =>
      split at h
      · rename_i hf
        rw [Bool.and_eq_true] at hf
        obtain ⟨f1, f2⟩ := RpA.flat rs hf.2
        obtain ⟨f3, f4⟩ := f2 x d rx hf.1
        refine .inl ⟨_, _, rfl, .inr hT.sq, f3, f1, ?_⟩
        show Q (.bl (inV x _)) H
        unfold inV
        rw [f4]
        exact Post.ret h S (.bl _)
      · exact h.elim
  · rename_i xs
    split at h
    · rename_i hf
      cases ry with
      | lst z1 h1 rs =>
        rw [Bool.and_eq_true] at hf
        obtain ⟨f1, f2⟩ := RpA.flat rs hf.2
        obtain ⟨f3, f4⟩ := f2 x d rx hf.1
        refine .inl ⟨_, _, rfl, .inl (.inl (.inl h1)), f3, f1, ?_⟩
        show Q (.bl (inV x _)) H
        unfold inV
        rw [f4]
        exact Post.ret h S (.bl _)
    · split at h
      · rename_i p ps hp hps
        split at h
        · rename_i hs
          rw [Bool.and_eq_true] at hs
          have hl : toP (.lst xs) = some (.list ps) := by unfold toP; rw [hps]
          exact .inr (.inl ⟨p, ps, rx.dp hp, ry.dp hl, hs.1, hs.2, Post.ret h S (.bl _)⟩)
        · exact h.elim
      · exact h.elim
  · rename_i t
    split at h
    · rename_i c
      cases rx
      cases ry
      exact .inr (.inr ⟨c, t, rfl, rfl, Post.ret h S (.bl _)⟩)
    · exact h.elim
  · exact h.elim
theorem opd_notin : OpD X cm W (rNotInA X.K) notInD := fun B Z σ ρ H x y d e Q S rx ry h => by
  unfold notInD inP at h
  split at h
  · rename_i xs
    cases ry with
    | tup hT rs =>
      split at h
      · rename_i hf
        rw [Bool.and_eq_true] at hf
        obtain ⟨f1, f2⟩ := RpA.flat rs hf.2
        obtain ⟨f3, f4⟩ := f2 x d rx hf.1
        refine .inl ⟨_, _, rfl, .inr hT.sq, f3, f1, ?_⟩
        show Q (.bl (!inV x _)) H
        unfold inV
        rw [f4]
        exact Post.ret h S (.bl _)
      · exact h.elim
  · rename_i xs
    split at h
    · rename_i hf
      cases ry with
      | lst z1 h1 rs =>
        rw [Bool.and_eq_true] at hf
        obtain ⟨f1, f2⟩ := RpA.flat rs hf.2
        obtain ⟨f3, f4⟩ := f2 x d rx hf.1
        refine .inl ⟨_, _, rfl, .inl (.inl (.inl h1)), f3, f1, ?_⟩
        show Q (.bl (!inV x _)) H
        unfold inV
        rw [f4]
        exact Post.ret h S (.bl _)
    · split at h
      · rename_i p ps hp hps
        split at h
        · rename_i hs
          rw [Bool.and_eq_true] at hs
          have hl : toP (.lst xs) = some (.list ps) := by unfold toP; rw [hps]
          exact .inr (.inl ⟨p, ps, rx.dp hp, ry.dp hl, hs.1, hs.2, Post.ret h S (.bl _)⟩)
        · exact h.elim
      · exact h.elim
  · rename_i t
    split at h
    · rename_i c
      cases rx
      cases ry
      exact .inr (.inr ⟨c, t, rfl, rfl, Post.ret h S (.bl _)⟩)
    · exact h.elim
  · exact h.elim
theorem St0.lstAt {B : Bs} {σ : L2.St} {ρ : Rho} {v : V} {ds : List D} (r : Rp K cm Z H v (.lst ds)) : ∃ a vs, v = .ref a ∧ Z a ∧ H a = some (.lst vs) ∧ RpA K cm Z H vs ds := by
  cases r with
  | lst z h t => exact ⟨_, _, rfl, z, h, t⟩
def rAddA (K : Frag) : R2 := fun x y H Q => rI0 (fun i j => .int (i + j)) x y H Q ∨ ((∃ i j, x = .str i ∧ y = .str j ∧ i.length + j.length ≤ sizeLine ∧ Q (.str (i ++ j)) H) ∨ (rCatA K x y H Q ∨ rCat x y H Q))
theorem or_add : OpR X (binaryOp .Add) (rAddA X.K) := op_add.or (op_add_str.or (op_catA.or op_cat))
theorem opd_add : OpD X cm W (rAddA X.K) addD := fun B Z σ ρ H x y d e Q S rx ry h => by
  unfold addD at h
  split at h
  · cases rx
    cases ry
    exact .inl ⟨_, _, rfl, rfl, Post.ret h S (.int _)⟩
  · split at h
    · rename_i hs
      cases rx
      cases ry
      exact .inr (.inl ⟨_, _, rfl, rfl, of_decide_eq_true hs, Post.ret h S (.str _)⟩)
    · exact h.elim
  · split at h
    · rename_i hs
      have hs := of_decide_eq_true hs
      cases rx with
      | tup h1 r1 =>
        cases ry with
        | tup h2 r2 =>
          refine .inr (.inr (.inl ⟨_, _, _, _, rfl, rfl, h1.sq, h2.sq, by rw [RpA.length r1, RpA.length r2]; exact hs, fun e1 => ?_, fun e1 e2 => ?_, fun e1 e2 p hp => ?_⟩))
          · subst e1
            cases r1
            exact Post.ret h S (.tup h2 r2)
          · subst e2
            cases r2
            rw [List.append_nil] at h
            exact Post.ret h S (.tup h1 r1)
          · obtain ⟨Z2, g2, S2, r3⟩ := S.newT hp (RpA.append r1 r2)
            exact h _ Z2 _ g2 S2 r3
    · exact h.elim
  · split at h
    · rename_i hs
      have hs := of_decide_eq_true hs
      cases rx with
      | lst z1 h1 r1 =>
        cases ry with
        | lst z2 h2 r2 =>
          refine .inr (.inr (.inr ⟨_, _, _, _, rfl, rfl, h1, h2, by rw [RpA.length r1, RpA.length r2]; exact hs, fun p hp => ?_⟩))
          obtain ⟨Z2, g2, S2, r3⟩ := S.newL hp (RpA.append r1 r2)
          exact h _ Z2 _ g2 S2 r3
    · exact h.elim
  · exact h.elim
theorem RpA.rep {vs : List V} {ds : List D} (r : RpA K cm Z H vs ds) : ∀ n : Nat, RpA K cm Z H (List.replicate n vs).flatten (List.replicate n ds).flatten
  | 0 => .nil
  | n + 1 => by
    rw [List.replicate_succ, List.flatten_cons, List.replicate_succ, List.flatten_cons]
    exact RpA.append r (RpA.rep r n)
def rMulA (K : Frag) : R2 := fun x y H Q => rI CMul (fun i j => .int (i * j)) x y H Q ∨ (rRepS x y H Q ∨ (rRep x y H Q ∨ rRepT K x y H Q))
theorem or_mul : OpR X (binaryOp .Mult) (rMulA X.K) := op_mul.or (op_repS.or (op_rep.or op_repT))
theorem opd_mul : OpD X cm W (rMulA X.K) mulD := fun B Z σ ρ H x y d e Q S rx ry h => by
  unfold mulD at h
  split at h
  · split at h
    · rename_i hs
      cases rx
      cases ry
      refine .inl ⟨_, _, rfl, rfl, ?_, Post.ret h S (.int _)⟩
      rw [Bool.or_eq_true] at hs
      unfold in64 at hs
      rw [Bool.and_eq_true, Bool.and_eq_true, decide_eq_true_eq, decide_eq_true_eq, decide_eq_true_eq, decide_eq_true_eq] at hs
      exact hs
    · exact h.elim
  · split at h
    · rename_i hs
      rw [Bool.and_eq_true, Bool.and_eq_true, decide_eq_true_eq, decide_eq_true_eq, decide_eq_true_eq] at hs
      cases rx
      cases ry
      exact .inr (.inl ⟨_, _, rfl, rfl, hs.1.1, hs.1.2, hs.2, Post.ret h S (.str _)⟩)
    · exact h.elim
  · split at h
    · rename_i hs
      rw [Bool.and_eq_true, Bool.and_eq_true, decide_eq_true_eq, decide_eq_true_eq, decide_eq_true_eq] at hs
      cases ry
      cases rx with
      | lst z1 h1 r1 =>
        refine .inr (.inr (.inl ⟨_, _, _, rfl, rfl, h1, by omega, by omega, ?_, fun p hp => ?_⟩))
        · rw [RpA.length r1]
          have hk : Int.toNat _ ≤ 1000 := Int.toNat_le.mpr hs.1.2
          have := Nat.mul_le_mul hs.2 hk
          rw [sizeLine_eq]
          omega
        · obtain ⟨Z2, g2, S2, r3⟩ := S.newL hp (RpA.rep r1 _)
          exact h _ Z2 _ g2 S2 r3
    · exact h.elim
  · split at h
    · rename_i hs
      rw [Bool.and_eq_true, Bool.and_eq_true, Bool.and_eq_true, decide_eq_true_eq, decide_eq_true_eq, decide_eq_true_eq] at hs
      cases ry
      cases rx with
      | tup h1 r1 =>
        refine .inr (.inr (.inr ⟨_, _, _, rfl, rfl, h1.sq, ?_, hs.1.1.2, hs.1.2, by rw [RpA.length r1]; exact hs.2, fun p hp => ?_⟩))
        · intro e
          subst e
          cases r1
          exact absurd hs.1.1.1 (by decide)
        · obtain ⟨Z2, g2, S2, r3⟩ := S.newT hp (RpA.rep r1 _)
          exact h _ Z2 _ g2 S2 r3
    · exact h.elim
  · exact h.elim
theorem und_neg : UnD X cm W (rU fun i => .int (-i)) negD := fun B Z σ ρ H x d Q S rx h => by
  cases d with
  | int i =>
    cases rx
    exact ⟨_, rfl, Post.ret h S (.int _)⟩
  | _ => exact h.elim
def rIsA : R2 := fun x y H Q => (y = .non ∧ Q (.bl (decide (x = .non))) H) ∨ rIsB x y H Q
def rIsNotA : R2 := fun x y H Q => (y = .non ∧ Q (.bl (!decide (x = .non))) H) ∨ rNotB x y H Q
theorem or_is : OpR X (compareOp .Is) rIsA := op_isN.or op_isBl
theorem or_isnot : OpR X (compareOp .IsNot) rIsNotA := op_notN.or op_notBl
theorem Rp.non_iff {v : V} {d : D} (r : Rp K cm Z H v d) : decide (v = .non) = (match d with | .non => true | _ => false) := by
  cases r <;> simp
theorem opd_is : OpD X cm W rIsA isNonD := fun B Z σ ρ H x y d e Q S rx ry h => by
  unfold isNonD at h
  split at h
  · cases ry
    refine .inl ⟨rfl, ?_⟩
    rw [rx.non_iff]
    split at h
    · exact Post.ret h S (.bl _)
    · split
      · exact absurd rfl ‹_›
      · exact Post.ret h S (.bl _)
  · cases ry
    split at h
    · cases rx
      exact .inr ⟨_, _, rfl, rfl, Post.ret h S (.bl _)⟩
    · exact h.elim
  · exact h.elim
theorem opd_isnot : OpD X cm W rIsNotA notNonD := fun B Z σ ρ H x y d e Q S rx ry h => by
  unfold notNonD at h
  split at h
  · cases ry
    refine .inl ⟨rfl, ?_⟩
    rw [rx.non_iff]
    split at h
    · exact Post.ret h S (.bl _)
    · split
      · exact absurd rfl ‹_›
      · exact Post.ret h S (.bl _)
  · cases ry
    split at h
    · cases rx
      exact .inr ⟨_, _, rfl, rfl, Post.ret h S (.bl _)⟩
    · exact h.elim
  · exact h.elim
theorem RpA.atI {vs : List V} {ds : List D} {i : Int} {d : D} (r : RpA K cm Z H vs ds) (e : L2.atI ds i = some d) : ∃ v, L2.atI vs i = some v ∧ Rp K cm Z H v d := by
  unfold L2.atI at e ⊢
  rw [RpA.length r]
  cases h : ixN ds.length i with
  | none =>
    rw [h] at e
    cases e
  | some j =>
    rw [h] at e
    exact r.getD e
def rIxA (K : Frag) : R2 := fun x y H Q => rIxL K x y H Q ∨ (rIxT K x y H Q ∨ (rIxS x y H Q ∨ rIxB K x y H Q))
theorem or_ix : IxR X (rIxA X.K) := ix_list.or (ix_tup.or (ix_str.or ix_bool))
theorem Post.opt {B : Bs} {σ : L2.St} {ρ : Rho} {Q : VK} {o : Option D} (h : Post K cm W B (rpD K cm) Z σ H (optD o ρ) Q) : ∃ d, o = some d ∧ Post K cm W B (rpD K cm) Z σ H (De.ret d ρ) Q := by
  cases o with
  | none => exact h.elim
  | some d => exact ⟨d, rfl, h⟩
theorem opd_ix : OpD X cm W (rIxA X.K) ixD := fun B Z σ ρ H x y d e Q S rx ry h => by
  unfold ixD at h
  split at h
  · cases ry
    cases rx with
    | tup h1 r1 =>
      obtain ⟨d', e', h⟩ := h.opt
      obtain ⟨v, e2, r2⟩ := r1.atI e'
      exact .inr (.inl ⟨_, _, _, _, rfl, rfl, h1.sq, e2, Post.ret h S r2⟩)
  · cases ry
    cases rx with
    | lst z1 h1 r1 =>
      obtain ⟨d', e', h⟩ := h.opt
      obtain ⟨v, e2, r2⟩ := r1.atI e'
      exact .inl ⟨_, _, _, _, rfl, rfl, .inl (.inl h1), e2, Post.ret h S r2⟩
  · cases ry
    cases rx with
    | scr h1 r1 =>
      obtain ⟨d', e', h⟩ := h.opt
      obtain ⟨v, e2, r2⟩ := r1.atI e'
      exact .inl ⟨_, _, _, _, rfl, rfl, h1.sq, e2, Post.ret h S r2⟩
  · cases ry
    cases rx with
    | lst z1 h1 r1 =>
      obtain ⟨d', e', h⟩ := h.opt
      obtain ⟨v, e2, r2⟩ := r1.getD e'
      exact .inr (.inr (.inr ⟨_, _, _, _, rfl, rfl, .inl (.inl h1), e2, Post.ret h S r2⟩))
  · rename_i s i
    cases ry
    cases rx
    cases e' : L2.atI s.cps.toList i with
    | none =>
      rw [e'] at h
      exact h.elim
    | some c =>
      rw [e'] at h
      by_cases hs : small s.length = true
      · simp only [hs, if_true] at h
        exact .inr (.inr (.inl ⟨_, _, _, rfl, rfl, of_decide_eq_true hs, e', Post.ret h S (.str _)⟩))
      · simp only [hs] at h
        exact h.elim
  · exact h.elim
theorem ex_ix {a b : Expr} {fa fb : M D} {pos : Pos} (ha : Ex X cm W a fa) (hb : Ex X cm W b fb) (hs : PlainIx b := by exact fun _ _ => rfl) : Ex X cm W (.Subscript a b pos) (bin ixD fa fb) := by
  obtain ⟨ta, pa, qa⟩ := ha
  obtain ⟨tb, pb, qb⟩ := hb
  exact ⟨_, pe_ix or_ix pa pb hs, tOp_ok qa qb opd_ix⟩
end
end De

set_option Elab.async false
set_option linter.all false
set_option maxRecDepth 100000
set_option maxHeartbeats 2000000
namespace De
open PySem PySem.Spec PyProof.Rows L2
open PySem.W (Frag)
/-! ### built-ins called -/
section
variable {X : Cx} {cm : Str → Option Addr} {W : WX} {e : Expr} {es : List Expr} {fs : M (List D)} {x : Str} {p pos : Pos} {bid T : String} {r : List V → Hp → VK → Prop} {g : List D → M D}
theorem ex_callB (hc : CallR X (.builtin bid) r) (hd : CallD X cm W r g) (hm : X.mg x = none) (hv : bootBuiltins x = some (.builtin bid)) (ha : Exs X cm W (e :: es) fs) (hg : Gl X x := by rfl) (hn : x ≠ "__name__" := by decide) (hdb : (x == ("__debug__" : Str)) = false := by decide)
    (he : starEach (e :: es) X.env = (false, eval e X.env) :: starEach es X.env := by rfl) (hpl : (backTo pos (starEach es X.env)).any (·.1) = false := by rfl) : Ex X cm W (.Call (.Name x p) (e :: es) [] pos) (bind fs g) := by
  obtain ⟨t, pa, q⟩ := ha
  exact ⟨_, pe_callB hc hg hm hv pa hn hdb he hpl, fun B Z σ ρ H Q S h => q B Z σ ρ H _ S (Post.bind h fun ds ρ1 vs Z1 H1 g1 S1 r1 h1 => hd B Z1 σ ρ1 H1 vs ds Q S1 r1 h1)⟩
theorem ex_callTy (hc : CallR X (.type T) r) (hd : CallD X cm W r g) (hm : X.mg x = none) (hv : bootBuiltins x = some (.type T)) (ha : Exs X cm W (e :: es) fs) (hg : Gl X x := by rfl) (hn : x ≠ "__name__" := by decide) (hdb : (x == ("__debug__" : Str)) = false := by decide)
    (he : starEach (e :: es) X.env = (false, eval e X.env) :: starEach es X.env := by rfl) (hpl : (backTo pos (starEach es X.env)).any (·.1) = false := by rfl) : Ex X cm W (.Call (.Name x p) (e :: es) [] pos) (bind fs g) := by
  obtain ⟨t, pa, q⟩ := ha
  exact ⟨_, pe_callTy hc hg hm hv pa hn hdb he hpl, fun B Z σ ρ H Q S h => q B Z σ ρ H _ S (Post.bind h fun ds ρ1 vs Z1 H1 g1 S1 r1 h1 => hd B Z1 σ ρ1 H1 vs ds Q S1 r1 h1)⟩
def lenD : List D → M D
  | [.str s] => if small s.length then ret (.int s.length) else bad
  | [.tup xs] => ret (.int xs.length)
  | [.lst xs] => ret (.int xs.length)
  | [.scr xs] => ret (.int xs.length)
  | _ => bad
theorem RpA.one {K : Frag} {Z : ZS} {H : Hp} {xs : List V} {d : D} (r : RpA K cm Z H xs [d]) : ∃ v, xs = [v] ∧ Rp K cm Z H v d := by
  cases r with
  | cons h t =>
    cases t
    exact ⟨_, rfl, h⟩
theorem cd_len : CallD X cm W (fun xs H Q => ∃ x n, xs = [x] ∧ LenV X.K x H n ∧ Q (.int n) H) lenD := fun B Z σ ρ H xs ds Q S r h => by
  unfold lenD at h
  split at h
  · split at h
    · rename_i hs
      obtain ⟨v, rfl, rv⟩ := r.one
      cases rv
      exact ⟨_, _, rfl, ⟨of_decide_eq_true hs, rfl⟩, Post.ret h S (.int _)⟩
    · exact h.elim
  · obtain ⟨v, rfl, rv⟩ := r.one
    cases rv with
    | tup h1 r1 => exact ⟨_, _, rfl, .inr ⟨_, h1.sq, rfl⟩, by rw [RpA.length r1]; exact Post.ret h S (.int _)⟩
  · obtain ⟨v, rfl, rv⟩ := r.one
    cases rv with
    | lst z h1 r1 => exact ⟨_, _, rfl, .inl ⟨_, .inl (.inl h1), rfl⟩, by rw [RpA.length r1]; exact Post.ret h S (.int _)⟩
  · obtain ⟨v, rfl, rv⟩ := r.one
    cases rv with
    | scr h1 r1 => exact ⟨_, _, rfl, .inl ⟨_, h1.sq, rfl⟩, by rw [RpA.length r1]; exact Post.ret h S (.int _)⟩
  · exact h.elim
def intC : List D → M D
  | [.int i] => ret (.int i)
  | [.bl b] => ret (.int (if b then 1 else 0))
  | _ => bad
theorem cd_int : CallD X cm W (fun xs H Q => (∃ i, xs = [.int i] ∧ Q (.int i) H) ∨ ∃ k, xs = [.bl k] ∧ Q (.int (if k then 1 else 0)) H) intC := fun B Z σ ρ H xs ds Q S r h => by
  unfold intC at h
  split at h
  · obtain ⟨v, rfl, rv⟩ := r.one
    cases rv
    exact .inl ⟨_, rfl, Post.ret h S (.int _)⟩
  · obtain ⟨v, rfl, rv⟩ := r.one
    cases rv
    exact .inr ⟨_, rfl, Post.ret h S (.int _)⟩
  · exact h.elim
def absC : List D → M D
  | [.int i] => ret (.int (if i < 0 then -i else i))
  | _ => bad
theorem cd_abs : CallD X cm W (fun xs H Q => ∃ i, xs = [.int i] ∧ Q (.int (if i < 0 then -i else i)) H) absC := fun B Z σ ρ H xs ds Q S r h => by
  unfold absC at h
  split at h
  · obtain ⟨v, rfl, rv⟩ := r.one
    cases rv
    exact ⟨_, rfl, Post.ret h S (.int _)⟩
  · exact h.elim
def reprC : List D → M D
  | [.int i] => if i.natAbs.log2 < 1920 then ret (.str (toString i)) else bad
  | [.str s] => if small (reprText s).length then ret (.str (reprText s)) else bad
  | _ => bad
theorem cr_repr : CallR X (.builtin "repr") (fun xs H Q => (∃ i, xs = [.int i] ∧ i.natAbs.log2 < 1920 ∧ Q (.str (toString i)) H) ∨ ∃ z, xs = [.str z] ∧ (reprText z).length ≤ sizeLine ∧ Q (.str (reprText z)) H) := SkE.call_repr_int.or call_repr_str
theorem cd_repr : CallD X cm W (fun xs H Q => (∃ i, xs = [.int i] ∧ i.natAbs.log2 < 1920 ∧ Q (.str (toString i)) H) ∨ ∃ z, xs = [.str z] ∧ (reprText z).length ≤ sizeLine ∧ Q (.str (reprText z)) H) reprC := fun B Z σ ρ H xs ds Q S r h => by
  unfold reprC at h
  split at h
  · split at h
    · obtain ⟨v, rfl, rv⟩ := r.one
      cases rv
      exact .inl ⟨_, rfl, ‹_›, Post.ret h S (.str _)⟩
    · exact h.elim
  · split at h
    · rename_i hs
      obtain ⟨v, rfl, rv⟩ := r.one
      cases rv
      exact .inr ⟨_, rfl, of_decide_eq_true hs, Post.ret h S (.str _)⟩
    · exact h.elim
  · exact h.elim
def tupleC : List D → M D
  | [.tup xs] => ret (.tup xs)
  | [.lst xs] => ret (.tup xs)
  | [.scr xs] => ret (.tup xs)
  | _ => bad
theorem cd_tuple : CallD X cm W (fun xs H Q => ∃ p ys, xs = [.ref p] ∧ ((SqL X.K H p ys ∧ ∀ l, H l = none → Q (.ref l) (upd H l (.tup ys))) ∨ (SqT X.K H p ys ∧ Q (.ref p) H))) tupleC := fun B Z σ ρ H xs ds Q S r h => by
  unfold tupleC at h
  split at h
  · obtain ⟨v, rfl, rv⟩ := r.one
    cases rv with
    | tup h1 r1 => exact ⟨_, _, rfl, .inr ⟨h1.sq, Post.ret h S (.tup h1 r1)⟩⟩
  · obtain ⟨v, rfl, rv⟩ := r.one
    cases rv with
    | lst z h1 r1 =>
      refine ⟨_, _, rfl, .inl ⟨.inl (.inl h1), fun p hp => ?_⟩⟩
      obtain ⟨Z2, g2, S2, r2⟩ := S.newT hp r1
      exact h _ Z2 _ g2 S2 r2
  · obtain ⟨v, rfl, rv⟩ := r.one
    cases rv with
    | scr h1 r1 =>
      refine ⟨_, _, rfl, .inl ⟨h1.sq, fun p hp => ?_⟩⟩
      obtain ⟨Z2, g2, S2, r2⟩ := S.newT hp r1
      exact h _ Z2 _ g2 S2 r2
  · exact h.elim
def listC : List D → M D
  | [.tup xs] => ret (.lst xs)
  | [.lst xs] => ret (.lst xs)
  | [.scr xs] => ret (.lst xs)
  | _ => bad
theorem cd_list : CallD X cm W (fun xs H Q => ∃ p ys, xs = [.ref p] ∧ (SqL X.K H p ys ∨ SqT X.K H p ys) ∧ ∀ l, H l = none → Q (.ref l) (upd H l (.lst ys))) listC := fun B Z σ ρ H xs ds Q S r h => by
  unfold listC at h
  split at h
  · obtain ⟨v, rfl, rv⟩ := r.one
    cases rv with
    | tup h1 r1 =>
      refine ⟨_, _, rfl, .inr h1.sq, fun p hp => ?_⟩
      obtain ⟨Z2, g2, S2, r2⟩ := S.newL hp r1
      exact h _ Z2 _ g2 S2 r2
  · obtain ⟨v, rfl, rv⟩ := r.one
    cases rv with
    | lst z h1 r1 =>
      refine ⟨_, _, rfl, .inl (.inl (.inl h1)), fun p hp => ?_⟩
      obtain ⟨Z2, g2, S2, r2⟩ := S.newL hp r1
      exact h _ Z2 _ g2 S2 r2
  · obtain ⟨v, rfl, rv⟩ := r.one
    cases rv with
    | scr h1 r1 =>
      refine ⟨_, _, rfl, .inl h1.sq, fun p hp => ?_⟩
      obtain ⟨Z2, g2, S2, r2⟩ := S.newL hp r1
      exact h _ Z2 _ g2 S2 r2
  · exact h.elim
/-- the items of a list, all of one kind -/
def blsOf : List D → Option (List Bool)
  | [] => some []
  | .bl b :: r => (blsOf r).map (b :: ·)
  | _ => none
def intsOf : List D → Option (List Int)
  | [] => some []
  | .int b :: r => (intsOf r).map (b :: ·)
  | _ => none
theorem RpA.bls {K : Frag} {Z : ZS} {H : Hp} : ∀ {xs : List V} {ds : List D} {bs : List Bool}, RpA K cm Z H xs ds → De.blsOf ds = some bs → xs = bs.map V.bl
  | _, _, _, .nil, e => by cases e; rfl
  | _, _, _, .cons (d := .bl b) h t, e => by
    cases h
    unfold De.blsOf at e
    cases q : De.blsOf _ with
    | none => rw [q] at e; cases e
    | some bs =>
      rw [q] at e
      cases e
      rw [RpA.bls t q]
      rfl
  | _, _, _, .cons (d := .non) h t, e => by cases e
  | _, _, _, .cons (d := .int _) h t, e => by cases e
  | _, _, _, .cons (d := .str _) h t, e => by cases e
  | _, _, _, .cons (d := .tup _) h t, e => by cases e
  | _, _, _, .cons (d := .lst _) h t, e => by cases e
  | _, _, _, .cons (d := .scr _) h t, e => by cases e
  | _, _, _, .cons (d := .ins _ _) h t, e => by cases e
  | _, _, _, .cons (d := .fn _) h t, e => by cases e
theorem RpA.ints {K : Frag} {Z : ZS} {H : Hp} : ∀ {xs : List V} {ds : List D} {bs : List Int}, RpA K cm Z H xs ds → De.intsOf ds = some bs → xs = bs.map V.int
  | _, _, _, .nil, e => by cases e; rfl
  | _, _, _, .cons (d := .int b) h t, e => by
    cases h
    unfold De.intsOf at e
    cases q : De.intsOf _ with
    | none => rw [q] at e; cases e
    | some bs =>
      rw [q] at e
      cases e
      rw [RpA.ints t q]
      rfl
  | _, _, _, .cons (d := .non) h t, e => by cases e
  | _, _, _, .cons (d := .bl _) h t, e => by cases e
  | _, _, _, .cons (d := .str _) h t, e => by cases e
  | _, _, _, .cons (d := .tup _) h t, e => by cases e
  | _, _, _, .cons (d := .lst _) h t, e => by cases e
  | _, _, _, .cons (d := .scr _) h t, e => by cases e
  | _, _, _, .cons (d := .ins _ _) h t, e => by cases e
  | _, _, _, .cons (d := .fn _) h t, e => by cases e
def allC : List D → M D
  | [.lst xs] => optD ((blsOf xs).map fun bs => .bl (bs.all fun b => b))
  | _ => bad
def anyC : List D → M D
  | [.lst xs] => optD ((blsOf xs).map fun bs => .bl (bs.any fun b => b))
  | _ => bad
def sumC : List D → M D
  | [.lst xs] => optD ((intsOf xs).map fun bs => .int bs.sum)
  | _ => bad
theorem cd_all : CallD X cm W (rAll X.K) allC := fun B Z σ ρ H xs ds Q S r h => by
  unfold allC at h
  split at h
  · obtain ⟨v, rfl, rv⟩ := r.one
    cases rv with
    | lst z h1 r1 =>
      obtain ⟨d, e, h⟩ := h.opt
      cases eb : blsOf _ with
      | none => rw [eb] at e; cases e
      | some bs =>
        rw [eb] at e
        cases e
        have := r1.bls eb
        subst this
        exact ⟨_, bs, rfl, .inl (.inl h1), Post.ret h S (.bl _)⟩
  · exact h.elim
theorem cd_any : CallD X cm W (rAny X.K) anyC := fun B Z σ ρ H xs ds Q S r h => by
  unfold anyC at h
  split at h
  · obtain ⟨v, rfl, rv⟩ := r.one
    cases rv with
    | lst z h1 r1 =>
      obtain ⟨d, e, h⟩ := h.opt
      cases eb : blsOf _ with
      | none => rw [eb] at e; cases e
      | some bs =>
        rw [eb] at e
        cases e
        have := r1.bls eb
        subst this
        exact ⟨_, bs, rfl, .inl (.inl h1), Post.ret h S (.bl _)⟩
  · exact h.elim
theorem cd_sum : CallD X cm W (rSum X.K) sumC := fun B Z σ ρ H xs ds Q S r h => by
  unfold sumC at h
  split at h
  · obtain ⟨v, rfl, rv⟩ := r.one
    cases rv with
    | lst z h1 r1 =>
      obtain ⟨d, e, h⟩ := h.opt
      cases eb : intsOf _ with
      | none => rw [eb] at e; cases e
      | some bs =>
        rw [eb] at e
        cases e
        have := r1.ints eb
        subst this
        exact ⟨_, bs, rfl, .inl (.inl h1), Post.ret h S (.int _)⟩
  · exact h.elim
/-! ### isinstance against built-in classes -/
def tyn : D → Option String
  | .non => some "NoneType"
  | .bl _ => some "bool"
  | .int _ => some "int"
  | .str _ => some "str"
  | .tup _ => some "tuple"
  | .lst _ => some "list"
  | .scr _ => some "list"
  | _ => none
theorem Rp.ty {K : Frag} {Z : ZS} {H : Hp} {v : V} {d : D} {n : String} (r : Rp K cm Z H v d) (e : tyn d = some n) : TyX K H v (.type n) := by
  have tw : ∀ {a : Addr} {xs : List V}, AtT K Z H a xs → TyX K H (.ref a) (.type "tuple") := fun {a xs} h => by
    rcases h with ⟨_, h | ⟨o, h⟩⟩ | ⟨o, its, n, h, hc, _⟩
    · exact .base (.tup h)
    · exact .fTuple h
    · exact .kTuple h hc
  have lw : ∀ {a : Addr} {xs : List V}, AtL K Z H a xs → TyX K H (.ref a) (.type "list") := fun {a xs} h => by
    rcases h with ⟨_, h | ⟨o, h⟩⟩ | ⟨o, its, n, h, hc, _⟩
    · exact .base (.lst h)
    · exact .base (.frz h)
    · exact .kList h hc
  cases r with
  | non => cases e; exact .base .non
  | bl b => cases e; exact .base (.bl b)
  | int b => cases e; exact .base (.int b)
  | str b => cases e; exact .base (.str b)
  | tup h t => cases e; exact tw h
  | lst z h t => cases e; exact .base (.lst h)
  | scr h t => cases e; exact lw h
  | ins z h c t => cases e
  | xn0 _ => cases e
  | xn _ _ _ _ => cases e
def isiO (T : String) (d : D) : Option Bool := match tyn d with
  | some n => kitB n T
  | none => none
def isiM (T : String) (f : M D) : M D := bind f fun d => optM (isiO T d)
theorem Post.optB {K : Frag} {B : Bs} {Z : ZS} {σ : L2.St} {ρ : Rho} {H : Hp} {Q : VK} {o : Option Bool} (h : Post K cm W B (rpD K cm) Z σ H (optM o ρ) Q) : ∃ d, o = some d ∧ Post K cm W B (rpD K cm) Z σ H (De.ret (.bl d) ρ) Q := by
  cases o with
  | none => exact h.elim
  | some d => exact ⟨d, rfl, h⟩
theorem ex_isi {a : Expr} {fa : M D} {y : Str} {py : Pos} (T : String) (hm : X.mg "isinstance" = none) (hmy : X.mg y = none) (hy : bootBuiltins y = some (.type T)) (ha : Ex X cm W a fa) (hg : Gl X "isinstance" := by rfl) (hgy : Gl X y := by rfl) (hn : y ≠ "__name__" := by decide) (hdb : (y == ("__debug__" : Str)) = false := by decide)
    (hs : starEach (a :: [.Name y py]) X.env = (false, eval a X.env) :: starEach [.Name y py] X.env := by rfl) (hs2 : starEach [.Name y py] X.env = [(false, eval (.Name y py) X.env)] := by rfl) : Ex X cm W (.Call (.Name "isinstance" p) [a, .Name y py] [] pos) (isiM T fa) := by
  obtain ⟨t, pa, q⟩ := ha
  refine ⟨_, pe_callB call_isi hg hm (by decide +kernel) (pa_cons pa (pa_cons (pe_bltn (v := .ty T) hgy hmy hy rfl hn hdb) pa_nil hs2) hs) (by decide) (by decide) hs (by rw [hs2]; rfl), fun B Z σ ρ H Q S h => q B Z σ ρ H _ S (Post.bind h fun d ρ1 v Z1 H1 g1 S1 r1 h1 => ?_)⟩
  obtain ⟨b, e, h1⟩ := h1.optB
  unfold isiO at e
  split at e
  · rename_i n en
    exact ⟨v, .ty T, .type n, .type T, b, rfl, .ty T, r1.ty en, kit_ty e, Post.ret h1 S1 (.bl b)⟩
  · cases e
def isi2O (T U : String) (d : D) : Option Bool := match isiO T d, isiO U d with
  | some b, some c => some (b || c)
  | _, _ => none
def isi2M (T U : String) (f : M D) : M D := bind f fun d => optM (isi2O T U d)
theorem ex_isi2 {a : Expr} {fa : M D} {y z : Str} {py pz pt : Pos} {k} (T U : String) (hm : X.mg "isinstance" = none) (hmy : X.mg y = none) (hmz : X.mg z = none) (hy : bootBuiltins y = some (.type T)) (hz : bootBuiltins z = some (.type U)) (ha : Ex X cm W a fa) (hg : Gl X "isinstance" := by rfl) (hgy : Gl X y := by rfl) (hgz : Gl X z := by rfl) (hn : y ≠ "__name__" := by decide) (hdb : (y == ("__debug__" : Str)) = false := by decide) (hn2 : z ≠ "__name__" := by decide) (hdb2 : (z == ("__debug__" : Str)) = false := by decide)
    (hs : starEach (a :: [.Tuple [.Name y py, .Name z pz] k pt]) X.env = (false, eval a X.env) :: starEach [.Tuple [.Name y py, .Name z pz] k pt] X.env := by rfl) (hs2 : starEach [.Tuple [.Name y py, .Name z pz] k pt] X.env = [(false, eval (.Tuple [.Name y py, .Name z pz] k pt) X.env)] := by rfl)
    (hs3 : starEach [.Name y py, .Name z pz] X.env = (false, eval (.Name y py) X.env) :: starEach [.Name z pz] X.env := by rfl) (hs4 : starEach [.Name z pz] X.env = [(false, eval (.Name z pz) X.env)] := by rfl) : Ex X cm W (.Call (.Name "isinstance" p) [a, .Tuple [.Name y py, .Name z pz] k pt] [] pos) (isi2M T U fa) := by
  obtain ⟨t, pa, q⟩ := ha
  refine ⟨_, pe_callB call_isiT hg hm (by decide +kernel) (pa_cons pa (pa_cons (pe_tup (pa_cons (pe_bltn (v := .ty T) hgy hmy hy rfl hn hdb) (pa_cons (pe_bltn (v := .ty U) hgz hmz hz rfl hn2 hdb2) pa_nil hs4) hs3)) pa_nil hs2) hs) (by decide) (by decide) hs (by rw [hs2]; rfl), fun B Z σ ρ H Q S h => q B Z σ ρ H _ S (Post.bind h fun d ρ1 v Z1 H1 g1 S1 r1 h1 => ?_)⟩
  obtain ⟨bc, e, h1⟩ := h1.optB
  unfold isi2O at e
  split at e
  · rename_i b c e2 e3
    cases e
    unfold isiO at e2 e3
    split at e2
    · rename_i n en
      rw [en] at e3
      refine ⟨by show 2 ≤ sizeLine; decide, fun tp htp => ?_⟩
      obtain ⟨S2, g2⟩ := S1.new (o := .tup [.ty T, .ty U]) htp
      refine ⟨v, tp, [.ty T, .ty U], .type n, [.type T, .type U], b || c, rfl, upd_same, .cons (.ty T) (.cons (.ty U) .nil), (Rp.grow g2 r1).ty en, ?_, h1 _ _ _ g2 S2 (.bl _)⟩
      refine kitAny_cons (kit_ty e2) (fun hb => ?_) fun hb => by rw [hb]; rfl
      subst hb
      refine kitAny_cons (kit_ty e3) (fun hc => ?_) fun hc => by rw [hc]; rfl
      subst hc
      rfl
    · cases e2
  · cases e
end
end De

set_option Elab.async false
set_option linter.all false
set_option maxRecDepth 100000
set_option maxHeartbeats 2000000
namespace De
open PySem PySem.Spec PyProof.Rows L2
open PySem.W (Frag)
/-! ### statements -/
inductive Fl where
  | nx | rt (d : D) | rtl (ds : List D) | bk | ct
def PostS (K : Frag) (cm : Str → Option Addr) (W : WX) (B : Bs) (Z : ZS) (H : Hp) (r : Res Fl) (E : Ends) : Prop := match r with
  | .ok .nx ρ' => ∀ Z' σ' H', Grow Z H Z' H' → St0 K cm Z' B σ' ρ' H' → E.nx σ' H'
  | .ok (.rt d) ρ' => ∀ v Z' σ' H', Grow Z H Z' H' → St0 K cm Z' B σ' ρ' H' → Rp K cm Z' H' v d → E.rt v H'
  | .ok (.rtl ds) ρ' => ∀ a vs Z' σ' H', Grow Z H Z' H' → St0 K cm Z' B σ' ρ' H' → H' a = some (.lst vs) → ¬ Z' a → B.H0 a = none → RpA K cm Z' H' vs ds → E.rt (.ref a) H'
  | .ok .bk ρ' => ∀ Z' σ' H', Grow Z H Z' H' → St0 K cm Z' B σ' ρ' H' → E.bk σ' H'
  | .ok .ct ρ' => ∀ Z' σ' H', Grow Z H Z' H' → St0 K cm Z' B σ' ρ' H' → E.ct σ' H'
  | .ex c fs ρ' => ∀ C dd Z' σ' H', Grow Z H Z' H' → St0 K cm Z' B σ' ρ' H' → cm c = some C → XRp K cm Z' H' dd fs → W (.ref C) dd σ' H'
  | .bad => False
section
variable {K : Frag} {cm : Str → Option Addr} {W : WX} {B : Bs} {Z Z1 : ZS} {σ : L2.St} {H H1 : Hp} {E : Ends} {α β : Type} {rel : ZS → Hp → β → α → Prop}
theorem PostS.rebase {r : Res Fl} (g : Grow Z H Z1 H1) (h : PostS K cm W B Z H r E) : PostS K cm W B Z1 H1 r E := by
  cases r with
  | ok d ρ' =>
    cases d with
    | nx => exact fun Z' σ' H' g' => h Z' σ' H' (g.trans g')
    | rt d => exact fun v Z' σ' H' g' => h v Z' σ' H' (g.trans g')
    | rtl ds => exact fun a vs Z' σ' H' g' => h a vs Z' σ' H' (g.trans g')
    | bk => exact fun Z' σ' H' g' => h Z' σ' H' (g.trans g')
    | ct => exact fun Z' σ' H' g' => h Z' σ' H' (g.trans g')
  | ex c fs ρ' => exact fun C dd Z' σ' H' g' => h C dd Z' σ' H' (g.trans g')
  | bad => exact h
theorem PostS.bind {m : M α} {k : α → M Fl} {ρ : Rho} {R : β → Hp → Prop} (h : PostS K cm W B Z H (De.bind m k ρ) E)
    (hk : ∀ d ρ' v Z' H', Grow Z H Z' H' → St0 K cm Z' B σ ρ' H' → rel Z' H' v d → PostS K cm W B Z' H' (k d ρ') E → R v H') : Post K cm W B rel Z σ H (m ρ) R := by
  unfold De.bind at h
  cases e : m ρ with
  | ok d ρ' =>
    rw [e] at h
    exact fun v Z' H' g S r => hk d ρ' v Z' H' g S r (h.rebase g)
  | ex c fs ρ' =>
    rw [e] at h
    exact fun C dd Z' H' g S => h C dd Z' σ H' g S
  | bad =>
    rw [e] at h
    exact h
end
/-- σ' differs from σ at js alone -/
def Off (js : List Nat) (σ σ' : L2.St) : Prop := σ'.length = σ.length ∧ ∀ j, j ∉ js → σ'[j]? = σ[j]?
section
variable (X : Cx) (cm : Str → Option Addr) (W : WX)
def Sx (st : Stmt) (g : M Fl) : Prop := ∃ t, PS X st t ∧ ∀ B Z σ ρ H E, St0 X.K cm Z B σ ρ H → PostS X.K cm W B Z H (g ρ) E → t E σ H
def Sxs (st : List Stmt) (g : M Fl) : Prop := ∃ t, PSs X st t ∧ ∀ B Z σ ρ H E, St0 X.K cm Z B σ ρ H → PostS X.K cm W B Z H (g ρ) E → t E σ H
/-- a target -/
def Gx (e : Expr) (js : List Nat) (g : D → M Unit) : Prop := ∃ t, PG X e t ∧ ∀ B Z σ ρ H v d Q, St0 X.K cm Z B σ ρ H → Rp X.K cm Z H v d →
  (∀ u ρ', g d ρ = .ok u ρ' → ∀ σ' , St0 X.K cm Z B σ' ρ' H → Off js σ σ' → Q σ' H) → (∃ u ρ', g d ρ = .ok u ρ') → t v σ H Q
end
def seqM (f g : M Fl) : M Fl := bind f fun fl => match fl with
  | .nx => g
  | fl => ret fl
section
variable {X : Cx} {cm : Str → Option Addr} {W : WX} {a b c e : Expr} {es : List Expr} {fa fb fc : M D} {fs : M (List D)} {pos : Pos} {st : Stmt} {sts : List Stmt} {f g : M Fl}
theorem sxs_nil : Sxs X cm W [] (ret .nx) := ⟨_, pss_nil, fun B Z σ ρ H E S h => h Z σ H Grow.refl S⟩
theorem sxs_one (h : Sx X cm W st f) : Sxs X cm W [st] f := let ⟨t, p, q⟩ := h; ⟨_, pss_one p, q⟩
theorem sxs_cons (h : Sx X cm W st f) (hr : Sxs X cm W sts g) : Sxs X cm W (st :: sts) (seqM f g) := by
  obtain ⟨t, p, q⟩ := h
  obtain ⟨u, p2, q2⟩ := hr
  refine ⟨_, pss_cons p p2, fun B Z σ ρ H E S h => q B Z σ ρ H _ S ?_⟩
  unfold seqM De.bind at h
  cases e : f ρ with
  | ok d ρ' =>
    rw [e] at h
    cases d with
    | nx => exact fun Z' σ' H' g' S' => q2 B Z' σ' ρ' H' E S' (h.rebase g')
    | rt d => exact h
    | rtl d => exact h
    | bk => exact h
    | ct => exact h
  | ex c fs ρ' =>
    rw [e] at h
    exact h
  | bad =>
    rw [e] at h
    exact h
theorem sx_pass : Sx X cm W (.Pass pos) (ret .nx) := ⟨_, ps_pass, fun B Z σ ρ H E S h => h Z σ H Grow.refl S⟩
theorem sx_break : Sx X cm W (.Break pos) (ret .bk) := ⟨_, ps_break, fun B Z σ ρ H E S h => h Z σ H Grow.refl S⟩
theorem sx_continue : Sx X cm W (.Continue pos) (ret .ct) := ⟨_, ps_continue, fun B Z σ ρ H E S h => h Z σ H Grow.refl S⟩
def retM (f : M D) : M Fl := bind f fun d => ret (.rt d)
theorem sx_ret (h : Ex X cm W e fa) : Sx X cm W (.Return (some e) pos) (retM fa) := by
  obtain ⟨t, p, q⟩ := h
  exact ⟨_, ps_ret p, fun B Z σ ρ H E S h => q B Z σ ρ H _ S (PostS.bind h fun d ρ1 v Z1 H1 g1 S1 r1 h1 => h1 v Z1 σ H1 Grow.refl S1 r1)⟩
/-- return [..], a new list that the caller may change -/
def retL (f : M (List D)) : M Fl := bind f fun ds => if small ds.length then ret (.rtl ds) else bad
theorem sx_retL {pe : Pos} (h : Exs X cm W es fs) : Sx X cm W (.Return (some (.List es pe)) pos) (retL fs) := by
  obtain ⟨t, p, q⟩ := h
  refine ⟨_, ps_ret (pe_lst p), fun B Z σ ρ H E S h => q B Z σ ρ H _ S (PostS.bind h fun ds ρ1 vs Z1 H1 g1 S1 r1 h1 => ?_)⟩
  split at h1
  · rename_i hsm
    refine ⟨by rw [RpA.length r1]; exact of_decide_eq_true hsm, fun p hp => ?_⟩
    obtain ⟨S2, g2, nz⟩ := S1.newU (o := .lst vs) hp
    exact h1 p vs Z1 σ _ g2 S2 upd_same nz (S1.new0 hp) (RpA.grow g2 r1)
  · exact h1.elim
theorem sx_retN : Sx X cm W (.Return none pos) (ret (.rt .non)) := ⟨_, ps_retN, fun B Z σ ρ H E S h => h .non Z σ H Grow.refl S .non⟩
def dropM (f : M D) : M Fl := bind f fun _ => ret .nx
theorem sx_expr (h : Ex X cm W e fa) (hs : swapsWith e none pos.line X.env = pure false := by rfl) : Sx X cm W (.Expr e pos) (dropM fa) := by
  obtain ⟨t, p, q⟩ := h
  exact ⟨_, ps_expr p hs, fun B Z σ ρ H E S h => q B Z σ ρ H _ S (PostS.bind h fun d ρ1 v Z1 H1 g1 S1 r1 h1 => h1 Z1 σ H1 Grow.refl S1)⟩
def iteF (t : M Bool) (f g : M Fl) : M Fl := bind t fun b => if b then f else g
theorem sx_if {t : M Bool} {x y : List Stmt} (hc : Tx X cm W c t) (ha : Sxs X cm W x f) (hb : Sxs X cm W y g) : Sx X cm W (.If c x y pos) (iteF t f g) := by
  obtain ⟨t, p, q⟩ := hc
  obtain ⟨t1, p1, q1⟩ := ha
  obtain ⟨t2, p2, q2⟩ := hb
  refine ⟨_, ps_if p p1 p2, fun B Z σ ρ H E S h => q B Z σ ρ H _ S (PostS.bind h fun b ρ1 v Z1 H1 g1 S1 r1 h1 => ?_)⟩
  cases (show v = b from r1)
  cases b with
  | true => exact L2.iteT (q1 B Z1 σ ρ1 H1 E S1 h1)
  | false => exact L2.iteF (q2 B Z1 σ ρ1 H1 E S1 h1)
/-! ### stores -/
def put (i : Nat) (e : EV) : M Fl := fun ρ => .ok .nx (ρ.set i e)
def setM (i : Nat) (f : M D) : M Fl := bind f fun d => put i (.d d)
theorem sx_set (i : Nat) {x : Str} {px : Pos} (hN : X.N.Nodup) (h : Ex X cm W e fa) (hi : X.N[i]? = some x := by rfl) (hx : L2.Loc X.env.scope x := by first | exact Or.inl rfl | exact Or.inr rfl) (hs : swapsWith e (some (.Name x px)) pos.line X.env = pure false := by rfl)
    (hf : X.fn x = true ∨ X.env.scope.names.lookup x = some .local := by first | exact .inl rfl | exact .inr rfl) : Sx X cm W (.Assign [.Name x px] e pos) (setM i fa) := by
  obtain ⟨t, p, q⟩ := h
  exact ⟨_, ps_set hN hi hx p hs hf, fun B Z σ ρ H E S h => q B Z σ ρ H _ S (PostS.bind h fun d ρ1 v Z1 H1 g1 S1 r1 h1 => h1 Z1 _ H1 Grow.refl (S1.set r1))⟩
/-- a new list, held by the name alone -/
def setL (i : Nat) (f : M (List D)) : M Fl := bind f fun ds => if small ds.length then put i (.m ds) else bad
theorem sx_setL (i : Nat) {x : Str} {px pe : Pos} (hN : X.N.Nodup) (h : Exs X cm W es fs) (hi : X.N[i]? = some x := by rfl) (hx : L2.Loc X.env.scope x := by first | exact Or.inl rfl | exact Or.inr rfl) (hs : swapsWith (.List es pe) (some (.Name x px)) pos.line X.env = pure false := by rfl)
    (hf : X.fn x = true ∨ X.env.scope.names.lookup x = some .local := by first | exact .inl rfl | exact .inr rfl) : Sx X cm W (.Assign [.Name x px] (.List es pe) pos) (setL i fs) := by
  obtain ⟨t, p, q⟩ := h
  refine ⟨_, ps_set hN hi hx (pe_lst p) hs hf, fun B Z σ ρ H E S h => q B Z σ ρ H _ S (PostS.bind h fun ds ρ1 vs Z1 H1 g1 S1 r1 h1 => ?_)⟩
  split at h1
  · rename_i hsm
    refine ⟨by rw [RpA.length r1]; exact of_decide_eq_true hsm, fun p hp => ?_⟩
    obtain ⟨S2, g2, nz⟩ := S1.newU (o := .lst vs) hp
    exact h1 Z1 _ _ g2 (S2.setM upd_same nz (fun j o => (S1.nz o).2 hp) (S1.new0 hp) (fun q hq e => by rw [← e, (S1.pr q hq).1] at hp; cases hp) (RpA.grow g2 r1))
  · exact h1.elim
/-- name.append(e), the name's own list -/
def appM (i : Nat) (f : M D) : M Fl := fun ρ => match ρ[i]? with
  | some (.m _) => bind f (fun d ρ => match ρ[i]? with
    | some (.m xs) => if decide (xs.length < sizeLine) then .ok .nx (ρ.set i (.m (xs ++ [d]))) else .bad
    | _ => .bad) ρ
  | _ => .bad
theorem sx_app (i : Nat) {x : Str} {px pa pc : Pos} (h : Ex X cm W e fa) (hN : X.N[i]? = some x := by rfl) (hv : Vis X.env.scope x := by first | exact Or.inl rfl | exact Or.inr (Or.inl rfl) | exact Or.inr (Or.inr rfl)) (hd : (x == ("__debug__" : Str)) = false := by decide)
    (hcd : (x == ("__classdict__" : Str)) = false := by decide) (he : starEach [e] X.env = (false, eval e X.env) :: starEach [] X.env := by rfl)
    (hs : swapsWith (.Call (.Attribute (.Name x px) "append" pa) [e] [] pc) none pos.line X.env = pure false := by rfl) (hl : (pa.endLine == pc.line) = true := by rfl)
    (hab : attributeBase (.Name x px) "append" X.env (eval (.Name x px) X.env) = eval (.Name x px) X.env := by rfl)
    (hall : ((((backTo pc (starEach [e] X.env)).all fun x => !x.1) && (backToKw pc (keywordEach [] X.env)).all fun x => x.1.isSome) && decide (([e].length + ([] : List Keyword).length + if ([] : List Keyword).isEmpty then 0 else 1) < 30)) = true := by rfl)
    (hpl : ((backTo pc (starEach [] X.env)).any fun x => x.1) = false := by rfl) :
    Sx X cm W (.Expr (.Call (.Attribute (.Name x px) "append" pa) [e] [] pc) pos) (appM i fa) := by
  obtain ⟨t, p, q⟩ := h
  have H0 := pe_bm PySem.F.plainAttrs_list PySem.F.slot_list_append PySem.F.type_list_append mt_append (pe_var (pos := px) hN hv hd hcd) (pa_cons p pa_nil he) hab hall hl he hpl
  refine ⟨_, ps_expr (pos := pos) H0 hs, fun B Z σ ρ H E S h => ?_⟩
  unfold appM at h
  split at h
  · rename_i xs0 e0
    obtain ⟨l, vs0, es0, hl0, nz0, r0⟩ := S.sl i _ e0
    refine ⟨.ref l, es0, .inl ⟨rfl, _, .inl (.inl hl0)⟩, q B Z σ ρ H _ S (PostS.bind h fun d ρ1 v Z1 H1 g1 S1 r1 h1 => ?_)⟩
    split at h1
    · rename_i xs1 e1
      split at h1
      · rename_i hsz
        obtain ⟨l1, vs1, es1, hl1, nz1, rr1⟩ := S1.sl i _ e1
        rw [es0] at es1
        cases es1
        obtain ⟨S2, g2⟩ := S1.put (o' := .lst (vs1 ++ [v])) es0 e1 (.m xs1 (xs1 ++ [d])) fun g => ⟨l, _, rfl, upd_same, nz1, RpA.append (RpA.grow g rr1) (.cons (Rp.grow g r1) .nil)⟩
        exact ⟨l, vs1, v, rfl, rfl, hl1, by rw [RpA.length rr1]; exact of_decide_eq_true hsz, h1 Z1 σ _ g2 S2⟩
      · exact h1.elim
    · exact h1.elim
  · exact h.elim
/-- name[k] = e, a list that was handed in, or the name's own -/
def lstOf : EV → Option (List D)
  | .m xs => some xs
  | .h xs => some xs
  | _ => none
def lstTo : EV → List D → EV
  | .m _, ys => .m ys
  | .h _, ys => .h ys
  | e, _ => e
def setIx (i : Nat) (f g : M D) : M Fl := bind f fun d => fun ρ => match ρ[i]? with
  | some ev => (match lstOf ev with
    | some _ => bind g (fun k ρ => match k, ρ[i]? with
      | .int n, some ev => (match lstOf ev with
        | some xs => (match ixN xs.length n with
          | some j => .ok .nx (ρ.set i (lstTo ev (xs.set j d)))
          | none => .bad)
        | none => .bad)
      | _, _ => .bad) ρ
    | none => .bad)
  | none => .bad
theorem RE.lst {K : Frag} {Z : ZS} {H : Hp} {s : Option (Option V)} {ev : EV} {xs : List D} (h : RE K cm Z H s ev) (e : lstOf ev = some xs) : ∃ a vs, s = some (some (.ref a)) ∧ H a = some (.lst vs) ∧ ¬ Z a ∧ RpA K cm Z H vs xs ∧
    (∀ ys, Like ev (lstTo ev ys) ∧ ∀ {Z' H' ws}, H' a = some (.lst ws) → ¬ Z' a → RpA K cm Z' H' ws ys → RE K cm Z' H' (some (some (.ref a))) (lstTo ev ys)) := by
  cases ev with
  | m zs =>
    cases e
    obtain ⟨a, vs, h1, h2, h3, h4⟩ := h
    exact ⟨a, vs, h1, h2, h3, h4, fun ys => ⟨.m _ _, fun {Z' H' ws} k1 k2 k3 => ⟨a, ws, rfl, k1, k2, k3⟩⟩⟩
  | h zs =>
    cases e
    obtain ⟨a, vs, h1, h2, h3, h4⟩ := h
    exact ⟨a, vs, h1, h2, h3, h4, fun ys => ⟨.h _ _, fun {Z' H' ws} k1 k2 k3 => ⟨a, ws, rfl, k1, k2, k3⟩⟩⟩
  | u => cases e
  | d x => cases e
  | mi c fs => cases e
theorem sx_setIx (i : Nat) {x : Str} {k : Expr} {fk : M D} {px ps : Pos} (h : Ex X cm W e fa) (hk : Ex X cm W k fk) (hN : X.N[i]? = some x := by rfl) (hv : Vis X.env.scope x := by first | exact Or.inl rfl | exact Or.inr (Or.inl rfl) | exact Or.inr (Or.inr rfl)) (hd : (x == ("__debug__" : Str)) = false := by decide)
    (hcd : (x == ("__classdict__" : Str)) = false := by decide)
    (h1 : swapsWithSole [.Subscript (.Name x px) k ps] e pos.line X.env = pure false := by rfl) (h2 : swappedStores [.Subscript (.Name x px) k ps] e X.env = pure none := by rfl) (h3 : List.map (fun x => x.snd) (assignEach [.Subscript (.Name x px) k ps] X.env) = [assign (.Subscript (.Name x px) k ps) X.env] := by rfl)
    (h4 : ∀ (v : Value), assign (.Subscript (.Name x px) k ps) X.env v = (do
                let ov ← holding [v] (eval (.Name x px) X.env)
                let iv ← holding [v, ov] (eval k X.env)
                standAt ps
                holding [v, ov, iv] (setItem ov iv v)
                release [v, ov, iv] []) := by intro _; rfl) :
    Sx X cm W (.Assign [.Subscript (.Name x px) k ps] e pos) (setIx i fa fk) := by
  obtain ⟨t, p, q⟩ := h
  obtain ⟨tk, pk, qk⟩ := hk
  refine ⟨_, ps_asg (pos := pos) p (pg_sub (pos := ps) (pe_var (pos := px) hN hv hd hcd) pk set_list h4) h1 h2 h3, fun B Z σ ρ H E S h => ?_⟩
  refine q B Z σ ρ H _ S (PostS.bind h fun d ρ1 v Z1 H1 g1 S1 r1 h1 => ?_)
  split at h1
  · rename_i ev e0
    split at h1
    · rename_i xs0 e1
      obtain ⟨l, vs0, es0, hl0, nz0, r0, _⟩ := (S1.sl i _ e0).lst e1
      refine ⟨.ref l, es0, qk B Z1 σ ρ1 H1 _ S1 (PostS.bind h1 fun kd ρ2 kv Z2 H2 g2 S2 r2 h2 => ?_)⟩
      split at h2
      · rename_i n ev2 e2
        split at h2
        · rename_i xs2 e3
          split at h2
          · rename_i j hj
            cases r2
            obtain ⟨l2, vs2, es2, hl2, nz2, rr2, lk⟩ := (S2.sl i _ e2).lst e3
            rw [es0] at es2
            cases es2
            obtain ⟨lk1, lk2⟩ := lk (xs2.set j d)
            obtain ⟨S3, g3⟩ := S2.put (o' := .lst (vs2.set j v)) es0 e2 lk1 fun g => lk2 upd_same nz2 (RpA.set j (RpA.grow g rr2) (Rp.grow (g2.trans g) r1))
            exact ⟨l, vs2, n, j, rfl, rfl, hl2, by rw [RpA.length rr2]; exact hj, h2 Z2 σ _ g3 S3⟩
          · exact h2.elim
        · exact h2.elim
      · exact h2.elim
    · exact h1.elim
  · exact h1.elim
/-! ### targets: a name, a tuple of names -/
def tgtN (i : Nat) : D → M Unit := fun d ρ => .ok () (ρ.set i (.d d))
theorem gx_name (i : Nat) {x : Str} {px : Pos} (hN : X.N.Nodup) (hi : X.N[i]? = some x := by rfl) (hx : L2.Loc X.env.scope x := by first | exact Or.inl rfl | exact Or.inr rfl) (hf : X.fn x = true ∨ X.env.scope.names.lookup x = some .local := by first | exact .inl rfl | exact .inr rfl) : Gx X cm (.Name x px) [i] (tgtN i) :=
  ⟨_, pg_name hN hi hx hf, fun B Z σ ρ H v d Q S r k _ => k _ _ rfl _ (S.set r) ⟨List.length_set, fun j hj => List.getElem?_set_ne fun e => hj (by rw [e]; exact List.mem_singleton.mpr rfl)⟩⟩
def Gxs (X : Cx) (cm : Str → Option Addr) (es : List Expr) (js : List Nat) (g : List D → M Unit) : Prop := ∃ t, PGs X es t ∧ ∀ B Z σ ρ H vs ds Q, St0 X.K cm Z B σ ρ H → RpA X.K cm Z H vs ds →
  (∀ u ρ', g ds ρ = .ok u ρ' → ∀ σ' , St0 X.K cm Z B σ' ρ' H → Off js σ σ' → Q σ' H) → (∃ u ρ', g ds ρ = .ok u ρ') → t vs σ H Q
def tgsNil : List D → M Unit
  | [] => ret ()
  | _ => bad
def tgsCons (g : D → M Unit) (gs : List D → M Unit) : List D → M Unit
  | d :: ds => bind (g d) fun _ => gs ds
  | [] => bad
theorem gxs_nil : Gxs X cm [] [] tgsNil := ⟨_, pgs_nil, fun B Z σ ρ H vs ds Q S r k ⟨u, ρ', e⟩ => by
  cases r with
  | nil => exact ⟨rfl, k _ _ rfl _ S ⟨rfl, fun _ _ => rfl⟩⟩
  | cons h t => cases e⟩
theorem gxs_cons {js ks : List Nat} {g : D → M Unit} {gs : List D → M Unit} (h : Gx X cm e js g) (hr : Gxs X cm es ks gs) (hs : List.map (fun x => x.snd) (assignEach (e :: es) X.env) = assign e X.env :: List.map (fun x => x.snd) (assignEach es X.env) := by rfl) : Gxs X cm (e :: es) (js ++ ks) (tgsCons g gs) := by
  obtain ⟨t, p, q⟩ := h
  obtain ⟨u, p2, q2⟩ := hr
  refine ⟨_, pgs_cons p p2 hs, fun B Z σ ρ H vs ds Q S r k ⟨w, ρ', ew⟩ => ?_⟩
  cases r with
  | nil => cases ew
  | @cons v vs d ds h t =>
    have ew' : bind (g d) (fun _ => gs ds) ρ = .ok w ρ' := ew
    unfold De.bind at ew'
    cases eg : g d ρ with
    | ok w1 ρ1 =>
      rw [eg] at ew'
      refine ⟨_, _, rfl, q B Z σ ρ H _ d _ S h (fun u1 ρ2 e1 σ1 S1 n1 => ?_) ⟨_, _, eg⟩⟩
      rw [eg] at e1
      cases e1
      refine q2 B Z σ1 ρ1 H _ ds _ S1 t (fun u2 ρ3 e2 σ2 S2 n2 => k u2 ρ3 ?_ σ2 S2 ⟨n2.1.trans n1.1, fun j hj => (n2.2 j fun z => hj (List.mem_append_right _ z)).trans (n1.2 j fun z => hj (List.mem_append_left _ z))⟩) ⟨_, _, ew'⟩
      show bind (g d) (fun _ => gs ds) ρ = .ok u2 ρ3
      unfold De.bind
      rw [eg]
      exact e2
    | ex c fs ρ1 => rw [eg] at ew'; cases ew'
    | bad => rw [eg] at ew'; cases ew'
def tgtT (n : Nat) (g : List D → M Unit) : D → M Unit
  | .tup xs => if xs.length = n then g xs else bad
  | .lst xs => if xs.length = n then g xs else bad
  | _ => bad
theorem pg_or {tg : Expr} {g1 g2 : TG} (h1 : PG X tg g1) (h2 : PG X tg g2) : PG X tg (fun v σ H Q => g1 v σ H Q ∨ g2 v σ H Q) := ⟨fun pins s σ H v u Q I r h => h.elim (h1.run pins s σ H v u Q I r) (h2.run pins s σ H v u Q I r)⟩
theorem gx_tup {k : Nat} {px : Pos} {js : List Nat} {gs : List D → M Unit} (n : Nat) (h : Gxs X cm es js gs) (hc : X.calm = true := by rfl) (hn : (assignEach es X.env).length = n := by rfl) (hst : (assignEach es X.env).findIdx? (fun x => x.1) = none := by rfl) : Gx X cm (.Tuple es k px) js (tgtT n gs) := by
  obtain ⟨t, p, q⟩ := h
  refine ⟨_, pg_or (pg_tup hc p hn hst) (pg_lst hc p hn hst), fun B Z σ ρ H v d Q S r kk ⟨w, ρ', ew⟩ => ?_⟩
  cases d with
  | tup ds =>
    cases r with
    | @tup a xs _ h1 r1 =>
      by_cases hl : ds.length = n
      · have ee : tgtT n gs (.tup ds) = gs ds := if_pos hl
        rw [ee] at ew kk
        exact .inl ⟨a, xs, rfl, h1.sq, (RpA.length r1).trans hl, q B Z σ ρ H xs ds Q S r1 kk ⟨w, ρ', ew⟩⟩
      · have ee : tgtT n gs (.tup ds) = bad := if_neg hl
        rw [ee] at ew
        cases ew
  | lst ds =>
    cases r with
    | @lst a xs _ z1 h1 r1 =>
      by_cases hl : ds.length = n
      · have ee : tgtT n gs (.lst ds) = gs ds := if_pos hl
        rw [ee] at ew kk
        exact .inr ⟨a, xs, rfl, .inl (.inl h1), (RpA.length r1).trans hl, q B Z σ ρ H xs ds Q S r1 kk ⟨w, ρ', ew⟩⟩
      · have ee : tgtT n gs (.lst ds) = bad := if_neg hl
        rw [ee] at ew
        cases ew
  | _ => cases ew
/-- a, b = e -/
def unpM (g : D → M Unit) (f : M D) : M Fl := bind f fun d => bind (g d) fun _ => ret .nx
theorem sx_unp {tg : Expr} {js : List Nat} {g : D → M Unit} (hg : Gx X cm tg js g) (hnx : ∀ d ρ, (∃ u ρ', g d ρ = .ok u ρ') ∨ g d ρ = .bad) (h : Ex X cm W e fa) (h1 : swapsWithSole [tg] e pos.line X.env = pure false := by rfl) (h2 : swappedStores [tg] e X.env = pure none := by rfl) (h3 : List.map (fun x => x.snd) (assignEach [tg] X.env) = [assign tg X.env] := by rfl) :
    Sx X cm W (.Assign [tg] e pos) (unpM g fa) := by
  obtain ⟨t, p, q⟩ := h
  obtain ⟨u, p2, q2⟩ := hg
  refine ⟨_, ps_asg (pos := pos) p p2 h1 h2 h3, fun B Z σ ρ H E S h => q B Z σ ρ H _ S (PostS.bind h fun d ρ1 v Z1 H1 g1 S1 r1 h1 => ?_)⟩
  unfold De.bind at h1
  rcases hnx d ρ1 with ⟨w, ρ2, ew⟩ | ew
  · rw [ew] at h1
    refine q2 B Z1 σ ρ1 H1 v d _ S1 r1 (fun u' ρ3 e3 σ3 S3 _ => ?_) ⟨w, ρ2, ew⟩
    rw [ew] at e3
    cases e3
    exact h1 Z1 σ3 H1 Grow.refl S3
  · rw [ew] at h1
    exact h1.elim
end
end De

set_option Elab.async false
set_option linter.all false
set_option maxRecDepth 100000
set_option maxHeartbeats 2000000
namespace De
open PySem PySem.Spec PyProof.Rows L2
open PySem.W (Frag)
/-! ### what is walked -/
/-- J gives the items of xs one by one, as long as Z stays -/
def Wks (K : Frag) (cm : Str → Option Addr) (J : It) (Z : ZS) (H : Hp) (xs : List D) : Prop := ∀ Z' H', Grow Z H Z' H' → ∀ i : Nat,
  (∀ d, xs[i]? = some d → J.go i H' ∧ ∀ x H'', J.yld i H' x H'' → ∀ B σ ρ, St0 K cm Z' B σ ρ H' → ∃ Z'', Grow Z' H' Z'' H'' ∧ St0 K cm Z'' B σ ρ H'' ∧ Rp K cm Z'' H'' x d) ∧ (xs[i]? = none → J.stop i H')
theorem Wks.grow {K : Frag} {cm : Str → Option Addr} {J : It} {Z Z1 : ZS} {H H1 : Hp} {xs : List D} (h : Wks K cm J Z H xs) (g : Grow Z H Z1 H1) : Wks K cm J Z1 H1 xs := fun Z' H' g' => h Z' H' (g.trans g')
def PostI (K : Frag) (cm : Str → Option Addr) (W : WX) (B : Bs) (Z : ZS) (σ : L2.St) (H : Hp) (r : Res (List D)) (R : It → Hp → Prop) : Prop := match r with
  | .ok xs ρ' => ∀ J Z' H', Grow Z H Z' H' → St0 K cm Z' B σ ρ' H' → Wks K cm J Z' H' xs → R J H'
  | .ex c fs ρ' => ∀ C dd Z' H', Grow Z H Z' H' → St0 K cm Z' B σ ρ' H' → cm c = some C → XRp K cm Z' H' dd fs → W (.ref C) dd σ H'
  | .bad => False
def Ix (X : Cx) (cm : Str → Option Addr) (W : WX) (tg e : Expr) (f : M (List D)) : Prop := ∃ wi, PI X tg e wi ∧ ∀ B Z σ ρ H R, St0 X.K cm Z B σ ρ H → PostI X.K cm W B Z σ H (f ρ) R → wi σ H R
section
variable {X : Cx} {cm : Str → Option Addr} {W : WX} {a b c e tg : Expr} {es : List Expr} {fa fb fc : M D} {fs : M (List D)} {pos : Pos} {K : Frag} {Z : ZS} {H : Hp} {B : Bs} {σ : L2.St} {ρ : Rho}
theorem PostI.bind {m : M D} {k : D → M (List D)} {R : It → Hp → Prop} {R1 : V → Hp → Prop} (h : PostI K cm W B Z σ H (De.bind m k ρ) R)
    (hk : ∀ d ρ' v Z' H', Grow Z H Z' H' → St0 K cm Z' B σ ρ' H' → Rp K cm Z' H' v d → PostI K cm W B Z' σ H' (k d ρ') R → R1 v H') : Post K cm W B (rpD K cm) Z σ H (m ρ) R1 := by
  unfold De.bind at h
  cases e : m ρ with
  | ok d ρ' =>
    rw [e] at h
    refine fun v Z' H' g S r => hk d ρ' v Z' H' g S r ?_
    cases ek : k d ρ' with
    | ok xs ρ2 =>
      have h : PostI K cm W B Z σ H (k d ρ') R := h
      rw [ek] at h
      exact fun J Z2 H2 g2 => h J Z2 H2 (g.trans g2)
    | ex c fs ρ2 =>
      have h : PostI K cm W B Z σ H (k d ρ') R := h
      rw [ek] at h
      exact fun C dd Z2 H2 g2 => h C dd Z2 H2 (g.trans g2)
    | bad =>
      have h : PostI K cm W B Z σ H (k d ρ') R := h
      rw [ek] at h
      exact h
  | ex c fs ρ' =>
    rw [e] at h
    exact h
  | bad =>
    rw [e] at h
    exact h
theorem wks_list {p : Addr} {vs : List V} {ds : List D} (h : ∀ Z' H', Grow Z H Z' H' → SqL K H' p vs) (r : RpA K cm Z H vs ds) : Wks K cm (Itl K p) Z H ds := fun Z' H' g i => by
  refine ⟨fun d hd => ?_, fun hn => ⟨vs, h Z' H' g, ?_⟩⟩
  · obtain ⟨v, hv, rv⟩ := (RpA.grow g r).getD hd
    refine ⟨⟨vs, v, h Z' H' g, hv⟩, fun x H'' y B σ ρ S => ?_⟩
    obtain ⟨rfl, hx⟩ := y
    have e := hx vs (h Z' H'' g)
    rw [hv] at e
    cases e
    exact ⟨Z', Grow.refl, S, rv⟩
  · rw [RpA.length r]
    exact List.getElem?_eq_none_iff.mp hn
theorem wks_tup {p : Addr} {vs : List V} {ds : List D} (h : AtT K Z H p vs) (r : RpA K cm Z H vs ds) : Wks K cm (Itt K p) Z H ds := fun Z' H' g i => by
  refine ⟨fun d hd => ?_, fun hn => ⟨vs, (h.grow g).sq, ?_⟩⟩
  · obtain ⟨v, hv, rv⟩ := (RpA.grow g r).getD hd
    refine ⟨⟨vs, v, (h.grow g).sq, hv⟩, fun x H'' y B σ ρ S => ?_⟩
    obtain ⟨rfl, hx⟩ := y
    have e := hx vs (h.grow g).sq
    rw [hv] at e
    cases e
    exact ⟨Z', Grow.refl, S, rv⟩
  · rw [RpA.length r]
    exact List.getElem?_eq_none_iff.mp hn
def itL : D → M (List D)
  | .lst xs => ret xs
  | .scr xs => ret xs
  | _ => bad
def itT : D → M (List D)
  | .tup xs => ret xs
  | _ => bad
def itS : D → M (List D)
  | .str s => ret (s.cps.toList.map fun c => .str ⟨#[c]⟩)
  | _ => bad
theorem ix_list (h : Ex X cm W e fa) : Ix X cm W tg e (bind fa itL) := by
  obtain ⟨t, p, q⟩ := h
  refine ⟨_, pi_list p, fun B Z σ ρ H R S h => q B Z σ ρ H _ S (PostI.bind h fun d ρ1 v Z1 H1 g1 S1 r1 h1 => ?_)⟩
  unfold itL at h1
  split at h1
  · cases r1 with
    | lst z h2 r2 =>
      exact ⟨_, rfl, ⟨_, .inl (.inl h2)⟩, h1 _ Z1 H1 Grow.refl S1 (wks_list (fun Z' H' g => .inl (.inl ((g _ z).2.trans h2))) r2)⟩
  · cases r1 with
    | scr h2 r2 =>
      exact ⟨_, rfl, ⟨_, h2.sq⟩, h1 _ Z1 H1 Grow.refl S1 (wks_list (fun Z' H' g => (h2.grow g).sq) r2)⟩
  · exact h1.elim
theorem ix_tuple (h : Ex X cm W e fa) : Ix X cm W tg e (bind fa itT) := by
  obtain ⟨t, p, q⟩ := h
  refine ⟨_, pi_tup p, fun B Z σ ρ H R S h => q B Z σ ρ H _ S (PostI.bind h fun d ρ1 v Z1 H1 g1 S1 r1 h1 => ?_)⟩
  unfold itT at h1
  split at h1
  · cases r1 with
    | tup h2 r2 => exact ⟨_, rfl, ⟨_, h2.sq⟩, h1 _ Z1 H1 Grow.refl S1 (wks_tup h2 r2)⟩
  · exact h1.elim
theorem ix_text (h : Ex X cm W e fa) : Ix X cm W tg e (bind fa itS) := by
  obtain ⟨t, p, q⟩ := h
  refine ⟨_, pi_str p, fun B Z σ ρ H R S h => q B Z σ ρ H _ S (PostI.bind h fun d ρ1 v Z1 H1 g1 S1 r1 h1 => ?_)⟩
  unfold itS at h1
  split at h1
  · rename_i s
    cases r1
    refine ⟨_, rfl, h1 _ Z1 H1 Grow.refl S1 fun Z' H' g i => ⟨fun d hd => ?_, fun hn => ?_⟩⟩
    · rw [List.getElem?_map] at hd
      cases ec : s.cps.toList[i]? with
      | none => rw [ec] at hd; cases hd
      | some c =>
        rw [ec] at hd
        cases hd
        have hl : i < s.cps.size := by
          have := (List.getElem?_eq_some_iff.mp ec).1
          simpa using this
        refine ⟨hl, fun x H'' y B σ ρ S => ?_⟩
        obtain ⟨rfl, c', hc, rfl⟩ := y
        have hc' : s.cps.toList[i]? = some c' := by simpa using hc
        rw [ec] at hc'
        cases hc'
        exact ⟨Z', Grow.refl, S, .str _⟩
    · show s.cps.size ≤ i
      have := List.getElem?_eq_none_iff.mp hn
      simpa using this
  · exact h1.elim
/-- range(n), range(a, b) -/
def rngL (lo : Int) (n : Nat) : List D := (List.range n).map fun (i : Nat) => D.int (lo + (i : Int))
theorem wks_rng (lo : Int) (n : Nat) : Wks K cm (Itr lo n) Z H (rngL lo n) := fun Z' H' g i => by
  refine ⟨fun d hd => ?_, fun hn => ?_⟩
  · unfold rngL at hd
    rw [List.getElem?_map] at hd
    cases ec : (List.range n)[i]? with
    | none => rw [ec] at hd; cases hd
    | some c =>
      rw [ec] at hd
      cases hd
      obtain ⟨h1, h2⟩ := List.getElem?_eq_some_iff.mp ec
      have hin : i < n := by simpa using h1
      have hci : c = i := by
        rw [List.getElem_range] at h2
        exact h2.symm
      subst hci
      refine ⟨hin, fun x H'' y B σ ρ S => ?_⟩
      obtain ⟨rfl, rfl⟩ := y
      exact ⟨Z', Grow.refl, S, .int _⟩
  · show n ≤ i
    have := List.getElem?_eq_none_iff.mp hn
    simpa [rngL] using this
def in62 (i : Int) : Bool := decide (-(2 ^ 62) ≤ i) && decide (i < 2 ^ 62)
def itR : D → M (List D)
  | .int n => if in62 n then ret (rngL 0 n.toNat) else bad
  | _ => bad
theorem ix_range1 {p : Pos} (h : Ex X cm W a fa) (hm : X.mg "range" = none) (hg : Gl X "range" := by rfl) (hs : starEach [a] X.env = [(false, eval a X.env)] := by rfl) : Ix X cm W tg (.Call (.Name "range" p) [a] [] pos) (bind fa itR) := by
  obtain ⟨t, pa, q⟩ := h
  refine ⟨_, pi_range1 hg hm (pa_cons pa pa_nil hs) hs, fun B Z σ ρ H R S h => q B Z σ ρ H _ S (PostI.bind h fun d ρ1 v Z1 H1 g1 S1 r1 h1 => ?_)⟩
  unfold itR at h1
  split at h1
  · split at h1
    · rename_i hn
      cases r1
      unfold in62 at hn
      rw [Bool.and_eq_true, decide_eq_true_eq, decide_eq_true_eq] at hn
      exact ⟨_, rfl, hn.1, hn.2, h1 _ Z1 H1 Grow.refl S1 (wks_rng 0 _)⟩
    · exact h1.elim
  · exact h1.elim
def itR2 : D → D → M (List D)
  | .int m, .int n => if in62 m && in62 n then ret (rngL m (n - m).toNat) else bad
  | _, _ => bad
theorem ix_range2 {p : Pos} (h : Ex X cm W a fa) (h2 : Ex X cm W b fb) (hm : X.mg "range" = none) (hg : Gl X "range" := by rfl) (hs : starEach [a, b] X.env = [(false, eval a X.env), (false, eval b X.env)] := by rfl) (hs2 : starEach [b] X.env = [(false, eval b X.env)] := by rfl) : Ix X cm W tg (.Call (.Name "range" p) [a, b] [] pos) (bind fa fun x => bind fb fun y => itR2 x y) := by
  obtain ⟨t, pa, q⟩ := h
  obtain ⟨t2, pb, q2⟩ := h2
  refine ⟨_, pi_range2 hg hm (pa_cons pa (pa_cons pb pa_nil hs2) (by rw [hs, hs2])) hs hs2, fun B Z σ ρ H R S h => q B Z σ ρ H _ S (PostI.bind h fun d ρ1 v Z1 H1 g1 S1 r1 h1 => q2 B Z1 σ ρ1 H1 _ S1 (PostI.bind h1 fun d2 ρ2 v2 Z2 H2 g2 S2 r2 h2 => ?_))⟩
  unfold itR2 at h2
  split at h2
  · split at h2
    · rename_i hn
      cases r1
      cases r2
      unfold in62 at hn
      rw [Bool.and_eq_true, Bool.and_eq_true, Bool.and_eq_true, decide_eq_true_eq, decide_eq_true_eq, decide_eq_true_eq, decide_eq_true_eq] at hn
      exact ⟨_, _, rfl, ⟨hn.1.1, hn.1.2, hn.2.1, hn.2.2⟩, h2 _ Z2 H2 Grow.refl S2 (wks_rng _ _)⟩
    · exact h2.elim
  · exact h2.elim
/-- enumerate of a list -/
def enumL : Nat → List D → List D
  | _, [] => []
  | i, x :: xs => .tup [.int i, x] :: enumL (i + 1) xs
theorem enumL_get : ∀ (xs : List D) (k i : Nat), (enumL k xs)[i]? = (xs[i]?).map fun x => .tup [.int ((k + i : Nat) : Int), x]
  | [], _, _ => by simp [enumL]
  | x :: xs, k, 0 => by simp [enumL]
  | x :: xs, k, i + 1 => by
    have := enumL_get xs (k + 1) i
    simp only [enumL, List.getElem?_cons_succ]
    rw [this, Nat.add_right_comm k 1 i, Nat.add_assoc]
theorem ix_enum {p tpos : Pos} {elts : List Expr} {kk : Nat} (h : Ex X cm W a fa) (hm : X.mg "enumerate" = none) (hg : Gl X "enumerate" := by rfl) (hs : starEach [a] X.env = [(false, eval a X.env)] := by rfl) : Ix X cm W (.Tuple elts kk tpos) (.Call (.Name "enumerate" p) [a] [] pos) (bind fa fun d => bind (itL d) fun xs => ret (enumL 0 xs)) := by
  obtain ⟨t, pa, q⟩ := h
  refine ⟨_, pi_enum hg hm (pa_cons pa pa_nil hs) hs, fun B Z σ ρ H R S h => q B Z σ ρ H _ S (PostI.bind h fun d ρ1 v Z1 H1 g1 S1 r1 h1 => ?_)⟩
  have key : ∀ {p : Addr} {vs : List V} {ds : List D}, (∀ Z' H', Grow Z1 H1 Z' H' → SqL X.K H' p vs) → RpA X.K cm Z1 H1 vs ds → Wks X.K cm (Ite X.K p) Z1 H1 (enumL 0 ds) := fun {p vs ds} hq r Z' H' g i => by
    refine ⟨fun d hd => ?_, fun hn => ⟨vs, hq Z' H' g, ?_⟩⟩
    · rw [enumL_get] at hd
      cases ed : ds[i]? with
      | none => rw [ed] at hd; cases hd
      | some d0 =>
        rw [ed] at hd
        cases hd
        obtain ⟨w, hw, rw'⟩ := (RpA.grow g r).getD ed
        refine ⟨⟨vs, w, hq Z' H' g, hw⟩, fun x H'' y B σ ρ S => ?_⟩
        obtain ⟨T, x0, rfl, nT, rfl, hx⟩ := y
        have e := hx vs (hq Z' H' g)
        rw [hw] at e
        cases e
        obtain ⟨Z2, g2, S2, r2⟩ := S.newT (xs := [.int (i : Nat), w]) (ds := [.int ((0 + i : Nat) : Int), d0]) nT (.cons (by rw [Nat.zero_add]; exact .int _) (.cons rw' .nil))
        exact ⟨Z2, g2, S2, r2⟩
    · rw [RpA.length r]
      have := List.getElem?_eq_none_iff.mp hn
      have hl : ∀ (xs : List D) (k : Nat), (enumL k xs).length = xs.length := by
        intro xs
        induction xs with
        | nil => intro k; rfl
        | cons x xs ih => intro k; simp [enumL, ih]
      rw [hl] at this
      exact this
  unfold itL at h1
  split at h1
  · cases r1 with
    | lst z h2 r2 => exact ⟨_, _, rfl, .inl (.inl h2), h1 _ Z1 H1 Grow.refl S1 (key (fun Z' H' g => .inl (.inl ((g _ z).2.trans h2))) r2)⟩
  · cases r1 with
    | scr h2 r2 => exact ⟨_, _, rfl, h2.sq, h1 _ Z1 H1 Grow.refl S1 (key (fun Z' H' g => (h2.grow g).sq) r2)⟩
  · exact h1.elim
/-! ### for -/
def forM (g : D → M Unit) (body : M Fl) : List D → M Fl
  | [] => ret .nx
  | d :: ds => bind (g d) fun _ => bind body fun fl => match fl with
    | .nx => forM g body ds
    | .ct => forM g body ds
    | .bk => ret .nx
    | .rt d => ret (.rt d)
    | .rtl d => ret (.rtl d)
def forS (it : M (List D)) (g : D → M Unit) (body : M Fl) : M Fl := bind it fun xs => forM g body xs
theorem sx_for {body : List Stmt} {it : M (List D)} {js : List Nat} {g : D → M Unit} {gb : M Fl} (hi : Ix X cm W tg e it) (hg : Gx X cm tg js g) (hnx : ∀ d ρ, (∃ u ρ', g d ρ = .ok u ρ') ∨ g d ρ = .bad) (hb : Sxs X cm W body gb) (hp : PassesOwn (model X.prog X.w) X.A X.env X.xe) (hc : X.calm = true := by rfl)
    (hf : ∀ (x : Value), foldedSetIterable e X.env x = pure x := by intro _; rfl) : Sx X cm W (.For tg e body [] pos) (forS it g gb) := by
  obtain ⟨wi, pi, qi⟩ := hi
  obtain ⟨tg', pg, qg⟩ := hg
  obtain ⟨tb, pb, qb⟩ := hb
  refine ⟨_, ps_for hp hc pi pg pb hf, fun B Z σ ρ H E S h => ?_⟩
  refine qi B Z σ ρ H _ S ?_
  unfold forS De.bind at h
  cases eit : it ρ with
  | bad =>
    rw [eit] at h
    exact h
  | ex c fs ρ' =>
    rw [eit] at h
    exact fun C dd Z' H' g' S' => h C dd Z' σ H' g' S'
  | ok xs ρ1 =>
    rw [eit] at h
    intro J Z1 H1 g1 S1 wk
    have h1 : PostS X.K cm W B Z1 H1 (forM g gb xs ρ1) E := PostS.rebase g1 h
    refine ⟨fun i m σ H => m = xs.length - i ∧ ∃ Z2 ρ2, Grow Z1 H1 Z2 H ∧ St0 X.K cm Z2 B σ ρ2 H ∧ PostS X.K cm W B Z2 H (forM g gb (xs.drop i) ρ2) E, ⟨_, rfl, Z1, ρ1, Grow.refl, S1, by rw [List.drop_zero]; exact h1⟩, fun i m σ2 H2 hW => ?_⟩
    obtain ⟨rfl, Z2, ρ2, g2, S2, h2⟩ := hW
    obtain ⟨w1, w2⟩ := wk Z2 H2 g2 i
    cases ed : xs[i]? with
    | none =>
      refine .inl ⟨w2 ed, ?_⟩
      rw [List.drop_eq_nil_of_le (List.getElem?_eq_none_iff.mp ed)] at h2
      exact h2 Z2 σ2 H2 Grow.refl S2
    | some d =>
      obtain ⟨go, yl⟩ := w1 d ed
      obtain ⟨hil, hid⟩ := List.getElem?_eq_some_iff.mp ed
      have hdr : xs.drop i = d :: xs.drop (i + 1) := by rw [List.drop_eq_getElem_cons hil, hid]
      rw [hdr] at h2
      refine .inr ⟨go, fun σ' H' => ∃ Z3 ρ3, Grow Z1 H1 Z3 H' ∧ St0 X.K cm Z3 B σ' ρ3 H' ∧ PostS X.K cm W B Z3 H' (forM g gb (xs.drop (i + 1)) ρ3) E, fun σ' H' hN => ⟨xs.length - (i + 1), by omega, rfl, hN⟩, fun x H' hy => ?_⟩
      obtain ⟨Z3, g3, S3, r3⟩ := yl x H' hy B σ2 ρ2 S2
      have h3 := PostS.rebase g3 h2
      unfold forM De.bind at h3
      rcases hnx d ρ2 with ⟨u, ρ3, eg⟩ | eg
      · rw [eg] at h3
        refine qg B Z3 σ2 ρ2 H' x d _ S3 r3 (fun u' ρ3' eg' σ3 S3' _ => ?_) ⟨u, ρ3, eg⟩
        rw [eg] at eg'
        cases eg'
        refine qb B Z3 σ3 ρ3 H' _ S3' ?_
        dsimp only at h3
        cases eb : gb ρ3 with
        | bad =>
          rw [eb] at h3
          exact h3
        | ex c fs ρ4 =>
          rw [eb] at h3
          exact h3
        | ok fl ρ4 =>
          rw [eb] at h3
          cases fl with
          | nx => exact fun Z4 σ4 H4 g4 S4 => ⟨Z4, ρ4, (g2.trans g3).trans g4, S4, PostS.rebase g4 h3⟩
          | ct => exact fun Z4 σ4 H4 g4 S4 => ⟨Z4, ρ4, (g2.trans g3).trans g4, S4, PostS.rebase g4 h3⟩
          | bk => exact fun Z4 σ4 H4 g4 S4 => h3 Z4 σ4 H4 g4 S4
          | rt d => exact h3
          | rtl d => exact h3
      · rw [eg] at h3
        exact h3.elim
end
end De

set_option Elab.async false
set_option linter.all false
set_option maxRecDepth 100000
set_option maxHeartbeats 2000000
namespace De
open PySem PySem.Spec PyProof.Rows L2
open PySem.W (Frag)
/-! ### comprehensions -/
def wipeR (ρ : Rho) : List Nat → Rho
  | [] => ρ
  | i :: r => (wipeR ρ r).set i .u
def wipeM (own : List Nat) : M Unit := fun ρ => .ok () (wipeR ρ own)
section
variable {K : Frag} {cm : Str → Option Addr} {B : Bs} {Z : ZS} {σ : L2.St} {ρ : Rho} {H : Hp}
theorem St0.unset (S : St0 K cm Z B σ ρ H) (i : Nat) {s : Option V} : St0 K cm Z B (σ.set i s) (ρ.set i .u) H := by
  have back : ∀ {j : Nat} {e : EV}, Kind e → (ρ.set i .u)[j]? = some e → j ≠ i ∧ ρ[j]? = some e := fun {j e} k h => by
    rcases get_set h with ⟨_, _, q⟩ | ⟨q, h⟩
    · subst q
      rcases k with ⟨_, z⟩ | ⟨_, z⟩ | ⟨_, _, z⟩ <;> cases z
    · exact ⟨q, h⟩
  have bM : ∀ {j : Nat} {a : Addr}, OwnM (ρ.set i .u) (σ.set i s) j a → OwnM ρ σ j a := fun {j a} ⟨h1, xs, h2⟩ => by
    obtain ⟨q, h2⟩ := back (.inl ⟨xs, rfl⟩) h2
    rw [List.getElem?_set_ne (Ne.symm q)] at h1
    exact ⟨h1, xs, h2⟩
  have bH : ∀ {j : Nat} {a : Addr}, OwnH (ρ.set i .u) (σ.set i s) j a → OwnH ρ σ j a := fun {j a} ⟨h1, h2⟩ => by
    rcases h2 with ⟨xs, h2⟩ | ⟨c, fs, h2⟩
    · obtain ⟨q, h2⟩ := back (.inr (.inl ⟨xs, rfl⟩)) h2
      rw [List.getElem?_set_ne (Ne.symm q)] at h1
      exact ⟨h1, .inl ⟨xs, h2⟩⟩
    · obtain ⟨q, h2⟩ := back (.inr (.inr ⟨c, fs, rfl⟩)) h2
      rw [List.getElem?_set_ne (Ne.symm q)] at h1
      exact ⟨h1, .inr ⟨c, fs, h2⟩⟩
  have bA : ∀ {j : Nat} {a : Addr}, OwnAt (ρ.set i .u) (σ.set i s) j a → OwnAt ρ σ j a := fun o => o.elim (fun o => .inl (bM o)) fun o => .inr (bH o)
  refine ⟨by rw [List.length_set, List.length_set]; exact S.len, S.zin, S.zb, fun j e h => ?_, fun j k a o1 o2 => S.inj j k a (bA o1) (bA o2), S.base, fun j a o => S.ownM j a (bM o), fun j a o => S.ownH j a (bH o), fun p hp => ⟨(S.pr p hp).1, (S.pr p hp).2.1, fun j o => (S.pr p hp).2.2 j (bA o)⟩⟩
  rcases get_set h with ⟨_, _, q⟩ | ⟨q, h⟩
  · subst q
    exact True.intro
  · rw [List.getElem?_set_ne (Ne.symm q)]
    exact S.sl j e h
theorem St0.wiped (S : St0 K cm Z B σ ρ H) : ∀ vs : List Nat, St0 K cm Z B (wipe σ vs) (wipeR ρ vs) H
  | [] => S
  | i :: r => (St0.wiped S r).unset i
theorem wipeR_u (ρ : Rho) : ∀ (vs : List Nat) (i : Nat) (e : EV), i ∈ vs → (wipeR ρ vs)[i]? = some e → e = .u
  | j :: r, i, e, hi, h => by
    rcases get_set h with ⟨_, _, q⟩ | ⟨q, h⟩
    · exact q
    · rcases List.mem_cons.mp hi with z | z
      · exact absurd z q
      · exact wipeR_u ρ r i e z h
theorem St0.unwipe {vs : List Nat} (S : St0 K cm Z B (wipe σ vs) ρ H) (hu : ∀ i e, i ∈ vs → ρ[i]? = some e → e = .u) : St0 K cm Z B σ ρ H := by
  have out : ∀ {i : Nat} {e : EV}, Kind e → ρ[i]? = some e → i ∉ vs := fun {i e} k h z => by
    have q := hu i e z h
    subst q
    rcases k with ⟨_, z⟩ | ⟨_, z⟩ | ⟨_, _, z⟩ <;> cases z
  have bM : ∀ {j : Nat} {a : Addr}, OwnM ρ σ j a → OwnM ρ (wipe σ vs) j a := fun {j a} ⟨h1, xs, h2⟩ => ⟨by rw [wipe_out (out (.inl ⟨xs, rfl⟩) h2)]; exact h1, xs, h2⟩
  have bH : ∀ {j : Nat} {a : Addr}, OwnH ρ σ j a → OwnH ρ (wipe σ vs) j a := fun {j a} ⟨h1, h2⟩ => by
    refine ⟨?_, h2⟩
    rcases h2 with ⟨xs, h2⟩ | ⟨c, fs, h2⟩
    · rw [wipe_out (out (.inr (.inl ⟨xs, rfl⟩)) h2)]
      exact h1
    · rw [wipe_out (out (.inr (.inr ⟨c, fs, rfl⟩)) h2)]
      exact h1
  have bA : ∀ {j : Nat} {a : Addr}, OwnAt ρ σ j a → OwnAt ρ (wipe σ vs) j a := fun o => o.elim (fun o => .inl (bM o)) fun o => .inr (bH o)
  refine ⟨by rw [S.len, wipe_length], S.zin, S.zb, fun j e h => ?_, fun j k a o1 o2 => S.inj j k a (bA o1) (bA o2), S.base, fun j a o => S.ownM j a (bM o), fun j a o => S.ownH j a (bH o), fun p hp => ⟨(S.pr p hp).1, (S.pr p hp).2.1, fun j o => (S.pr p hp).2.2 j (bA o)⟩⟩
  by_cases hj : j ∈ vs
  · have q := hu j e hj h
    subst q
    exact True.intro
  · have := S.sl j e h
    rw [wipe_out hj] at this
    exact this
theorem own_unset {i j : Nat} {a : Addr} {s : Option V} (o : OwnAt (ρ.set i .u) (σ.set i s) j a) : OwnAt ρ σ j a := by
  have back : ∀ {j : Nat} {e : EV}, Kind e → (ρ.set i .u)[j]? = some e → j ≠ i ∧ ρ[j]? = some e := fun {j e} k h => by
    rcases get_set h with ⟨_, _, q⟩ | ⟨q, h⟩
    · subst q
      rcases k with ⟨_, z⟩ | ⟨_, z⟩ | ⟨_, _, z⟩ <;> cases z
    · exact ⟨q, h⟩
  rcases o with ⟨h1, xs, h2⟩ | ⟨h1, ⟨xs, h2⟩ | ⟨c, fs, h2⟩⟩
  · obtain ⟨q, h2⟩ := back (.inl ⟨xs, rfl⟩) h2
    rw [List.getElem?_set_ne (Ne.symm q)] at h1
    exact .inl ⟨h1, xs, h2⟩
  · obtain ⟨q, h2⟩ := back (.inr (.inl ⟨xs, rfl⟩)) h2
    rw [List.getElem?_set_ne (Ne.symm q)] at h1
    exact .inr ⟨h1, .inl ⟨xs, h2⟩⟩
  · obtain ⟨q, h2⟩ := back (.inr (.inr ⟨c, fs, rfl⟩)) h2
    rw [List.getElem?_set_ne (Ne.symm q)] at h1
    exact .inr ⟨h1, .inr ⟨c, fs, h2⟩⟩
theorem own_wipe {j : Nat} {a : Addr} : ∀ {vs : List Nat}, OwnAt (wipeR ρ vs) (wipe σ vs) j a → OwnAt ρ σ j a
  | [], o => o
  | _ :: r, o => own_wipe (vs := r) (own_unset o)
theorem wipe_get (σ : L2.St) (j : Nat) : ∀ vs : List Nat, (wipe σ vs)[j]? = if j ∈ vs ∧ j < σ.length then some none else σ[j]?
  | [] => by simp [wipe]
  | v :: r => by
    show ((wipe σ r).set v none)[j]? = _
    by_cases e : j = v
    · subst e
      by_cases hl : j < σ.length
      · rw [List.getElem?_set_self (by rw [wipe_length]; exact hl)]
        simp [hl]
      · rw [List.getElem?_eq_none (by rw [List.length_set, wipe_length]; omega), List.getElem?_eq_none (by omega)]
        simp [hl]
    · rw [List.getElem?_set_ne (Ne.symm e), wipe_get σ j r]
      simp [e]
theorem wipe_idem (σ : L2.St) (vs : List Nat) : wipe (wipe σ vs) vs = wipe σ vs := by
  apply List.ext_getElem?
  intro j
  rw [wipe_get, wipe_length]
  split
  · rename_i h
    rw [wipe_get, if_pos h]
  · rfl
/-- one more address under guard, and free again -/
theorem St0.guard (S : St0 K cm Z B σ ρ H) {a : Addr} {o : HO} (ha : H a = some o) (hz : ¬ Z a) (hno : ∀ j, ¬ OwnAt ρ σ j a) : St0 K cm Z { B with Pr := (a, o) :: B.Pr } σ ρ H :=
  ⟨S.len, S.zin, S.zb, S.sl, S.inj, S.base, S.ownM, S.ownH, fun p hp => by
    rcases List.mem_cons.mp hp with e | hp
    · rw [e]
      exact ⟨ha, hz, hno⟩
    · exact S.pr p hp⟩
theorem St0.unguard {p0 : Addr × HO} (S : St0 K cm Z { B with Pr := p0 :: B.Pr } σ ρ H) : St0 K cm Z B σ ρ H ∧ H p0.1 = some p0.2 ∧ ¬ Z p0.1 ∧ ∀ j, ¬ OwnAt ρ σ j p0.1 :=
  ⟨⟨S.len, S.zin, S.zb, S.sl, S.inj, S.base, S.ownM, S.ownH, fun p hp => S.pr p (List.mem_cons_of_mem _ hp)⟩, S.pr p0 List.mem_cons_self⟩
/-- a list of nobody's that is not guarded grows -/
theorem St0.putN (S : St0 K cm Z B σ ρ H) {a : Addr} {o' : HO} (hz : ¬ Z a) (hno : ∀ j, ¬ OwnAt ρ σ j a) (h0 : B.H0 a = none) (hp0 : ∀ p ∈ B.Pr, p.1 ≠ a) : St0 K cm Z B σ ρ (upd H a o') ∧ Grow Z H Z (upd H a o') := by
  have g : Grow Z H Z (upd H a o') := fun b z => ⟨z, upd_ne fun e => hz (by rw [← e]; exact z)⟩
  have nnone : ∀ b, H b ≠ none → upd H a o' b ≠ none := fun b h => by
    by_cases e : b = a
    · rw [e, upd_same]
      exact fun q => nomatch q
    · rw [upd_ne e]
      exact h
  refine ⟨⟨S.len, fun b z => nnone b (S.zin b z), S.zb, fun j e h => ?_, S.inj, fun b o e => ?_, S.ownM, S.ownH, fun p hp => ⟨?_, (S.pr p hp).2⟩⟩, g⟩
  · refine (S.sl j e h).keep g fun kj b eb z n => ⟨z, upd_ne fun eq => ?_⟩
    subst eq
    exact hno j (own_of eb h kj)
  · obtain ⟨q1, q2⟩ := S.base b o e
    refine ⟨nnone b q1, fun n => ?_⟩
    rw [upd_ne fun eq => ?_]
    · exact q2 n
    · rw [eq, h0] at e
      cases e
  · rw [upd_ne (hp0 p hp)]
    exact (S.pr p hp).1
end
/-- within a comprehension nothing is raised -/
def noEx {α : Type} (m : M α) : M α := fun ρ => match m ρ with
  | .ok a ρ' => .ok a ρ'
  | _ => .bad
def lcLoop (own : List Nat) (g : D → M Unit) (t : M Bool) (f : M D) : List D → M (List D)
  | [] => bind (wipeM own) fun _ => ret []
  | x :: xs => bind (wipeM own) fun _ => bind (g x) fun _ => bind (noEx t) fun b => if b then bind (noEx f) fun y => bind (lcLoop own g t f xs) fun ys => ret (y :: ys) else lcLoop own g t f xs
def lcM (own : List Nat) (it : M (List D)) (g : D → M Unit) (t : M Bool) (f : M D) : M (List D) := bind it fun xs => if small xs.length then lcLoop own g t f xs else bad
/-- what is wanted behind an expression that gives a new list which nobody holds -/
def PostL (K : Frag) (cm : Str → Option Addr) (W : WX) (B : Bs) (Z : ZS) (σ : L2.St) (H : Hp) (r : Res (List D)) (Q : VK) : Prop := match r with
  | .ok ds ρ' => ∀ a vs Z' H', Grow Z H Z' H' → St0 K cm Z' B σ ρ' H' → H' a = some (.lst vs) → ¬ Z' a → (∀ j, ¬ OwnAt ρ' σ j a) → B.H0 a = none → (∀ p ∈ B.Pr, p.1 ≠ a) → RpA K cm Z' H' vs ds → Q (.ref a) H'
  | .ex c fs ρ' => ∀ C dd Z' H', Grow Z H Z' H' → St0 K cm Z' B σ ρ' H' → cm c = some C → XRp K cm Z' H' dd fs → W (.ref C) dd σ H'
  | .bad => False
def Lx (X : Cx) (cm : Str → Option Addr) (W : WX) (e : Expr) (f : M (List D)) : Prop := ∃ t, PE X e t ∧ ∀ B Z σ ρ H Q, St0 X.K cm Z B σ ρ H → PostL X.K cm W B Z σ H (f ρ) Q → t σ H Q
def Txs (X : Cx) (cm : Str → Option Addr) (W : WX) (es : List Expr) (f : M Bool) : Prop := ∃ t, PTs X es t ∧ ∀ B Z σ ρ H Q, St0 X.K cm Z B σ ρ H → Post X.K cm W B rpB Z σ H (f ρ) Q → t σ H Q
abbrev W0 : WX := fun _ _ _ _ => False
section
variable {X : Cx} {cm : Str → Option Addr} {W : WX} {a b c e tg : Expr} {es : List Expr} {fa fb fc : M D} {fs : M (List D)} {pos : Pos}
theorem txs_nil : Txs X cm W [] (ret true) := ⟨_, pts_nil, fun B Z σ ρ H Q S h => h true Z H Grow.refl S rfl⟩
theorem txs_one {f : M Bool} (h : Tx X cm W e f) : Txs X cm W [e] f := let ⟨t, p, q⟩ := h; ⟨_, pts_one p, q⟩
theorem tLc_ok {wi : TI} {g : TG} {tt : TT} {te : TE} {own : List Nat} {it : M (List D)} {gd : D → M Unit} {ft : M Bool} {f : M D}
    (qi : ∀ B Z σ ρ H R, St0 X.K cm Z B σ ρ H → PostI X.K cm W B Z σ H (it ρ) R → wi σ H R)
    (qg : ∀ B Z σ ρ H v d Q, St0 X.K cm Z B σ ρ H → Rp X.K cm Z H v d → (∀ u ρ', gd d ρ = .ok u ρ' → ∀ σ' , St0 X.K cm Z B σ' ρ' H → wipe σ' own = wipe σ own → Q σ' H) → (∃ u ρ', gd d ρ = .ok u ρ') → g v σ H Q)
    (hnx : ∀ d ρ, (∃ u ρ', gd d ρ = .ok u ρ') ∨ gd d ρ = .bad)
    (qt : ∀ B Z σ ρ H Q, St0 X.K cm Z B σ ρ H → Post X.K cm W0 B rpB Z σ H (ft ρ) Q → tt σ H Q)
    (qe : ∀ B Z σ ρ H Q, St0 X.K cm Z B σ ρ H → Post X.K cm W0 B (rpD X.K cm) Z σ H (f ρ) Q → te σ H Q)
    (B : Bs) (Z : ZS) (σ : L2.St) (ρ : Rho) (H : Hp) (Q : VK) (S : St0 X.K cm Z B σ ρ H) (h : PostL X.K cm W B Z σ H (lcM own it gd ft f ρ) Q) : tLc wi g tt te own σ H Q := by
  refine qi B Z σ ρ H _ S ?_
  unfold lcM De.bind at h
  cases eit : it ρ with
  | bad =>
    rw [eit] at h
    exact h
  | ex c fs ρ' =>
    rw [eit] at h
    exact h
  | ok xs ρ1 =>
    rw [eit] at h
    intro J Z1 H1 g1 S1 wk D hD
    dsimp only at h
    split at h
    · rename_i hsm
      have hsm := of_decide_eq_true hsm
      obtain ⟨S1', g1', nz1⟩ := S1.newU (o := .lst []) hD
      have nown : ∀ j, ¬ OwnAt ρ1 σ j D := fun j o => (S1.nz o).2 hD
      have npr : ∀ p ∈ B.Pr, p.1 ≠ D := fun p hp e => by
        rw [← e, (S1.pr p hp).1] at hD
        cases hD
      have h0D : B.H0 D = none := S1.new0 hD
      -- the turns
      refine ⟨fun i m H => m = xs.length - i ∧ ∃ Z2 ρ2 acc ds, Grow Z1 H1 Z2 H ∧ St0 X.K cm Z2 B (wipe σ own) (wipeR ρ2 own) H ∧ H D = some (.lst acc) ∧ ¬ Z2 D ∧ (∀ j, ¬ OwnAt (wipeR ρ2 own) (wipe σ own) j D) ∧ acc.length ≤ i ∧ RpA X.K cm Z2 H acc ds ∧
        PostL X.K cm W B Z2 σ H ((match lcLoop own gd ft f (xs.drop i) ρ2 with | .ok ys ρ' => .ok (ds ++ ys) ρ' | .ex c fs ρ' => .ex c fs ρ' | .bad => .bad : Res (List De.D))) Q,
        ⟨_, rfl, Z1, ρ1, [], [], g1', S1'.wiped own, upd_same, nz1, fun j o => ?_, Nat.le_refl _, .nil, ?_⟩, fun i m H2 hW => ?_⟩
      · have := (S1.wiped own).nz o
        exact this.2 hD
      · rw [List.drop_zero]
        have h1 : PostL X.K cm W B Z1 σ (upd H1 D (.lst [])) (lcLoop own gd ft f xs ρ1) Q := by
          cases el : lcLoop own gd ft f xs ρ1 with
          | ok ys ρ' =>
            rw [el] at h
            exact fun a vs Z' H' g' => h a vs Z' H' ((g1.trans g1').trans g')
          | ex c fs ρ' =>
            rw [el] at h
            exact fun C dd Z' H' g' => h C dd Z' H' ((g1.trans g1').trans g')
          | bad =>
            rw [el] at h
            exact h
        cases el : lcLoop own gd ft f xs ρ1 with
        | ok ys ρ' => rw [el] at h1; exact h1
        | ex c fs ρ' => rw [el] at h1; exact h1
        | bad => rw [el] at h1; exact h1
      · obtain ⟨rfl, Z2, ρ2, acc, ds, g2, S2, hacc, nz2, no2, hlen, racc, h2⟩ := hW
        obtain ⟨w1, w2⟩ := wk Z2 H2 g2 i
        cases ed : xs[i]? with
        | none =>
          refine .inl ⟨w2 ed, ?_⟩
          rw [List.drop_eq_nil_of_le (List.getElem?_eq_none_iff.mp ed)] at h2
          have h3 : PostL X.K cm W B Z2 σ H2 (.ok (ds ++ []) (wipeR ρ2 own)) Q := h2
          rw [List.append_nil] at h3
          have S3 : St0 X.K cm Z2 B σ (wipeR ρ2 own) H2 := S2.unwipe fun i e hi he => wipeR_u ρ2 own i e hi he
          refine h3 D acc Z2 H2 Grow.refl S3 hacc nz2 (fun j o => ?_) h0D npr racc
          -- an owner in σ is one in the wiped σ
          rcases o with ⟨o1, xs', o2⟩ | ⟨o1, o2⟩
          · have hj : j ∉ own := fun z => by cases wipeR_u ρ2 own j _ z o2
            exact no2 j (.inl ⟨by rw [wipe_out hj]; exact o1, xs', o2⟩)
          · have hj : j ∉ own := fun z => by
              rcases o2 with ⟨xs', o2⟩ | ⟨c, fs, o2⟩
              · cases wipeR_u ρ2 own j _ z o2
              · cases wipeR_u ρ2 own j _ z o2
            exact no2 j (.inr ⟨by rw [wipe_out hj]; exact o1, o2⟩)
        | some d =>
          obtain ⟨go, yl⟩ := w1 d ed
          obtain ⟨hil, hid⟩ := List.getElem?_eq_some_iff.mp ed
          have hdr : xs.drop i = d :: xs.drop (i + 1) := by rw [List.drop_eq_getElem_cons hil, hid]
          rw [hdr] at h2
          refine .inr ⟨go, fun H' => ∃ Z3 ρ3 acc ds, Grow Z1 H1 Z3 H' ∧ St0 X.K cm Z3 B (wipe σ own) (wipeR ρ3 own) H' ∧ H' D = some (.lst acc) ∧ ¬ Z3 D ∧ (∀ j, ¬ OwnAt (wipeR ρ3 own) (wipe σ own) j D) ∧ acc.length ≤ i + 1 ∧ RpA X.K cm Z3 H' acc ds ∧
            PostL X.K cm W B Z3 σ H' ((match lcLoop own gd ft f (xs.drop (i + 1)) ρ3 with | .ok ys ρ' => .ok (ds ++ ys) ρ' | .ex c fs ρ' => .ex c fs ρ' | .bad => .bad : Res (List De.D))) Q, fun H' hN => ⟨xs.length - (i + 1), by omega, rfl, hN⟩, fun x H' hy => ?_⟩
          have S2g := S2.guard hacc nz2 no2
          obtain ⟨Z3, g3, S3, r3⟩ := yl x H' hy _ (wipe σ own) (wipeR ρ2 own) S2g
          have h3 : PostL X.K cm W B Z3 σ H' ((match lcLoop own gd ft f (d :: xs.drop (i + 1)) ρ2 with | .ok ys ρ' => .ok (ds ++ ys) ρ' | .ex c fs ρ' => .ex c fs ρ' | .bad => .bad : Res (List De.D))) Q := by
            cases el : lcLoop own gd ft f (d :: xs.drop (i + 1)) ρ2 with
            | ok ys ρ' =>
              rw [el] at h2
              exact fun a vs Z' H' g' => h2 a vs Z' H' (g3.trans g')
            | ex c fs ρ' =>
              rw [el] at h2
              exact fun C dd Z' H' g' => h2 C dd Z' H' (g3.trans g')
            | bad =>
              rw [el] at h2
              exact h2
          have el : lcLoop own gd ft f (d :: xs.drop (i + 1)) ρ2 = bind (gd d) (fun _ => bind (noEx ft) fun b => if b then bind (noEx f) fun y => bind (lcLoop own gd ft f (xs.drop (i + 1))) fun ys => ret (y :: ys) else lcLoop own gd ft f (xs.drop (i + 1))) (wipeR ρ2 own) := rfl
          rw [el] at h3
          unfold De.bind at h3
          rcases hnx d (wipeR ρ2 own) with ⟨u, ρ3, eg⟩ | eg
          · rw [eg] at h3
            dsimp only at h3
            refine qg _ Z3 _ _ H' x d _ S3 r3 (fun u' ρ3' eg' σ3 S3' hw => ?_) ⟨u, ρ3, eg⟩
            rw [eg] at eg'
            cases eg'
            rw [wipe_idem] at hw
            refine ⟨hw, qt _ Z3 σ3 ρ3 H' _ S3' ?_⟩
            cases et : ft ρ3 with
            | bad =>
              simp only [noEx, et] at h3
              exact h3.elim
            | ex c fs ρ4 =>
              simp only [noEx, et] at h3
              exact h3.elim
            | ok b ρ4 =>
              simp only [noEx, et] at h3
              intro b' Z4 H4 g4 S4 eb
              cases (show b' = b from eb)
              cases b with
              | true =>
                rw [if_pos rfl]
                simp only [if_true] at h3
                refine qe _ Z4 σ3 ρ4 H4 _ S4 ?_
                cases ef : f ρ4 with
                | bad =>
                  simp only [ef] at h3
                  exact h3.elim
                | ex c fs ρ5 =>
                  simp only [ef] at h3
                  exact h3.elim
                | ok y ρ5 =>
                  simp only [ef] at h3
                  intro yv Z5 H5 g5 S5 ry
                  obtain ⟨S5', hD5, nz5, no5⟩ := S5.unguard
                  obtain ⟨S6, g6⟩ := S5'.putN (o' := .lst (acc ++ [yv])) nz5 no5 h0D npr
                  have S7 := S6.wiped own
                  rw [hw] at S7
                  have ga : Grow Z2 H2 Z5 (upd H5 D (.lst (acc ++ [yv]))) := ((g3.trans g4).trans g5).trans g6
                  refine ⟨acc, hD5, by omega, Z5, ρ5, acc ++ [yv], ds ++ [y], g2.trans ga, S7, upd_same, nz5, fun j o => ?_, by rw [List.length_append]; exact Nat.succ_le_succ hlen, RpA.append (RpA.grow ga racc) (.cons (Rp.grow g6 ry) .nil), ?_⟩
                  · rw [← hw] at o
                    exact no5 j (own_wipe o)
                  · have ga3 : Grow Z3 H' Z5 (upd H5 D (.lst (acc ++ [yv]))) := (g4.trans g5).trans g6
                    cases er : lcLoop own gd ft f (xs.drop (i + 1)) ρ5 with
                    | ok ys ρ' =>
                      rw [er] at h3
                      have h3 : PostL X.K cm W B Z3 σ H' (.ok (ds ++ (y :: ys)) ρ') Q := h3
                      rw [List.append_cons] at h3
                      exact fun a vs Z' H' g' => h3 a vs Z' H' (ga3.trans g')
                    | ex c fs ρ' =>
                      rw [er] at h3
                      exact fun C dd Z' H' g' => h3 C dd Z' H' (ga3.trans g')
                    | bad =>
                      rw [er] at h3
                      exact h3
              | false =>
                rw [if_neg Bool.false_ne_true]
                simp only [Bool.false_eq_true, if_false] at h3
                obtain ⟨S5', hD5, nz5, no5⟩ := S4.unguard
                have S7 := S5'.wiped own
                rw [hw] at S7
                refine ⟨Z4, ρ4, acc, ds, (g2.trans g3).trans g4, S7, hD5, nz5, fun j o => ?_, Nat.le_succ_of_le hlen, RpA.grow (g3.trans g4) racc, ?_⟩
                · rw [← hw] at o
                  exact no5 j (own_wipe o)
                · cases er : lcLoop own gd ft f (xs.drop (i + 1)) ρ4 with
                  | ok ys ρ' =>
                    rw [er] at h3
                    exact fun a vs Z' H' g' => h3 a vs Z' H' (g4.trans g')
                  | ex c fs ρ' =>
                    rw [er] at h3
                    exact fun C dd Z' H' g' => h3 C dd Z' H' (g4.trans g')
                  | bad =>
                    rw [er] at h3
                    exact h3
          · rw [eg] at h3
            exact h3.elim
    · exact h.elim
theorem wipe_same {σ σ' : L2.St} {js own : List Nat} (h : Off js σ σ') (hs : ∀ j, j ∈ js → j ∈ own) : wipe σ' own = wipe σ own := by
  obtain ⟨hl, h⟩ := h
  apply List.ext_getElem?
  intro j
  rw [wipe_get, wipe_get, hl]
  split
  · rfl
  · rename_i hn
    by_cases hj : j ∈ js
    · have h2 : ¬ j < σ.length := fun z => hn ⟨hs j hj, z⟩
      rw [List.getElem?_eq_none (by omega), List.getElem?_eq_none (by omega)]
    · exact h j hj
/-! the same, by one reading for all contexts -/
def tStar (K : Frag) (cm : Str → Option Addr) (W : WX) (f : M D) : TE := fun σ H Q => ∃ B Z ρ, St0 K cm Z B σ ρ H ∧ Post K cm W B (rpD K cm) Z σ H (f ρ) Q
def tsStar (K : Frag) (cm : Str → Option Addr) (W : WX) (f : M Bool) : TT := fun σ H Q => ∃ B Z ρ, St0 K cm Z B σ ρ H ∧ Post K cm W B rpB Z σ H (f ρ) Q
def tgStar (K : Frag) (cm : Str → Option Addr) (js : List Nat) (g : D → M Unit) : TG := fun v σ H Q => ∃ B Z ρ d, St0 K cm Z B σ ρ H ∧ Rp K cm Z H v d ∧ (∀ u ρ', g d ρ = .ok u ρ' → ∀ σ' , St0 K cm Z B σ' ρ' H → Off js σ σ' → Q σ' H) ∧ (∃ u ρ', g d ρ = .ok u ρ')
theorem Ex.star {f : M D} (h : Ex X cm W e f) : PE X e (tStar X.K cm W f) := by
  obtain ⟨t, p, q⟩ := h
  exact ⟨fun pins s σ H Q I ⟨B, Z, ρ, S, h⟩ => p.run pins s σ H Q I (q B Z σ ρ H Q S h)⟩
theorem Txs.star {f : M Bool} (h : Txs X cm W es f) : PTs X es (tsStar X.K cm W f) := by
  obtain ⟨t, p, q⟩ := h
  exact ⟨fun pins s σ H Q I ⟨B, Z, ρ, S, h⟩ => p.run pins s σ H Q I (q B Z σ ρ H Q S h)⟩
theorem Gx.star {js : List Nat} {g : D → M Unit} (h : Gx X cm e js g) : PG X e (tgStar X.K cm js g) := by
  obtain ⟨t, p, q⟩ := h
  exact ⟨fun pins s σ H v u Q I r ⟨B, Z, ρ, d, S, rv, k, ex⟩ => p.run pins s σ H v u Q I r (q B Z σ ρ H v d Q S rv k ex)⟩
/-- [elt for tg in iter if test] -/
theorem lx_comp {elt iter : Expr} {ifs : List Expr} {scope : Scope} {it : M (List D)} {js : List Nat} {gd : D → M Unit} {ft : M Bool} {f : M D} (own : List (Str × Nat)) (hN : X.N.Nodup) (hi : Ix X cm W tg iter it) (ok : blkC X.N X.env.scope scope own = true)
    (hg : ∀ (s : Shared) (H : Hp) (C : Addr) (cl : List (Str × Addr)) (fp : List Addr), Gx (X.blk s H scope (compEnvC scope cl C X.env) fp) cm tg js gd)
    (hjs : ∀ j, j ∈ js → j ∈ own.map (·.2)) (hnx : ∀ d ρ, (∃ u ρ', gd d ρ = .ok u ρ') ∨ gd d ρ = .bad)
    (ht : ∀ (s : Shared) (H : Hp) (C : Addr) (cl : List (Str × Addr)) (fp : List Addr), Txs (X.blk s H scope (compEnvC scope cl C X.env) fp) cm W0 ifs ft)
    (he : ∀ (s : Shared) (H : Hp) (C : Addr) (cl : List (Str × Addr)) (fp : List Addr), Ex (X.blk s H scope (compEnvC scope cl C X.env) fp) cm W0 elt f)
    (hc : X.calm = true := by rfl) (hs : ∀ x, foldedSetIterable iter X.env x = pure x := by intro _; rfl) :
    Lx X cm W (.ListComp elt [⟨tg, iter, ifs, 0⟩] scope pos) (lcM (own.map (·.2)) it gd ft f) := by
  obtain ⟨wi, pi, qi⟩ := hi
  refine ⟨_, pe_lc (te := tStar X.K cm W0 f) (tt := tsStar X.K cm W0 ft) (g := tgStar X.K cm js gd) hc hN pi (blkOk_by ok) (fun s H C cl fp => (hg s H C cl fp).star) (fun s H C cl fp => (ht s H C cl fp).star) (fun s H C cl fp => (he s H C cl fp).star) hs, fun B Z σ ρ H Q S h =>
    tLc_ok qi (fun B Z σ ρ H v d Q S r k ex => ⟨B, Z, ρ, d, S, r, fun u ρ' e σ' S' n => k u ρ' e σ' S' (wipe_same n hjs), ex⟩) hnx (fun B Z σ ρ H Q S h => ⟨B, Z, ρ, S, h⟩) (fun B Z σ ρ H Q S h => ⟨B, Z, ρ, S, h⟩) B Z σ ρ H Q S h⟩
/-- name = [..] -/
def setC (i : Nat) (f : M (List D)) : M Fl := bind f fun ds => put i (.m ds)
theorem sx_setC {elt iter : Expr} {ifs : List Expr} {scope : Scope} {it : M (List D)} {js : List Nat} {gd : D → M Unit} {ft : M Bool} {f : M D} {y : Str} {py spos : Pos} (i : Nat) (own : List (Str × Nat)) (hN : X.N.Nodup) (hi : Ix X cm W tg iter it) (ok : blkC X.N X.env.scope scope own = true)
    (hg : ∀ (s : Shared) (H : Hp) (C : Addr) (cl : List (Str × Addr)) (fp : List Addr), Gx (X.blk s H scope (compEnvC scope cl C X.env) fp) cm tg js gd)
    (hjs : ∀ j, j ∈ js → j ∈ own.map (·.2)) (hnx : ∀ d ρ, (∃ u ρ', gd d ρ = .ok u ρ') ∨ gd d ρ = .bad)
    (ht : ∀ (s : Shared) (H : Hp) (C : Addr) (cl : List (Str × Addr)) (fp : List Addr), Txs (X.blk s H scope (compEnvC scope cl C X.env) fp) cm W0 ifs ft)
    (he : ∀ (s : Shared) (H : Hp) (C : Addr) (cl : List (Str × Addr)) (fp : List Addr), Ex (X.blk s H scope (compEnvC scope cl C X.env) fp) cm W0 elt f)
    (hy : X.N[i]? = some y := by rfl) (hyl : X.env.scope.names.lookup y = some .local := by rfl) (hk : X.env.scope.kind = .function := by rfl) (hln : (py.line == pos.line) = true := by rfl) (hnm : (scope.names.any fun x => match x with | (n, k) => n == y && (k == .local || k == .cell)) = false := by decide +kernel)
    (hc : X.calm = true := by rfl) (hs : ∀ x, foldedSetIterable iter X.env x = pure x := by intro _; rfl) :
    Sx X cm W (.Assign [.Name y py] (.ListComp elt [⟨tg, iter, ifs, 0⟩] scope pos) spos) (setC i (lcM (own.map (·.2)) it gd ft f)) := by
  obtain ⟨wi, pi, qi⟩ := hi
  refine ⟨_, ps_setLc (te := tStar X.K cm W0 f) (tt := tsStar X.K cm W0 ft) (g := tgStar X.K cm js gd) hc hN hy hyl (sw_true hk hyl hln hnm) pi (blkOk_by ok) (fun s H C cl fp => (hg s H C cl fp).star) (fun s H C cl fp => (ht s H C cl fp).star) (fun s H C cl fp => (he s H C cl fp).star) hs, fun B Z σ ρ H E S h => ?_⟩
  refine tLc_ok qi (fun B Z σ ρ H v d Q S r k ex => ⟨B, Z, ρ, d, S, r, fun u ρ' e σ' S' n => k u ρ' e σ' S' (wipe_same n hjs), ex⟩) hnx (fun B Z σ ρ H Q S h => ⟨B, Z, ρ, S, h⟩) (fun B Z σ ρ H Q S h => ⟨B, Z, ρ, S, h⟩) B Z σ ρ H _ S ?_
  unfold setC De.bind at h
  cases el : lcM (own.map (·.2)) it gd ft f ρ with
  | ok ds ρ' =>
    rw [el] at h
    exact fun a vs Z' H' g' S' ha nz no h0 hp r => h Z' _ H' g' (S'.setM ha nz no h0 hp r)
  | ex c fs ρ' =>
    rw [el] at h
    exact fun C dd Z' H' g' S' => h C dd Z' σ H' g' S'
  | bad =>
    rw [el] at h
    exact h
/-- a new list as a datum -/
def lstD (f : M (List D)) : M D := bind f fun ds => ret (.lst ds)
theorem ex_lx {f : M (List D)} (h : Lx X cm W e f) : Ex X cm W e (lstD f) := by
  obtain ⟨t, p, q⟩ := h
  refine ⟨t, p, fun B Z σ ρ H Q S h => q B Z σ ρ H Q S ?_⟩
  unfold lstD De.bind at h
  cases el : f ρ with
  | ok ds ρ' =>
    rw [el] at h
    intro a vs Z' H' g' S' ha nz no h0 hp r
    -- the list is put under what stays
    have g2 : Grow Z' H' (fun b => Z' b ∨ b = a) H' := fun b z => ⟨.inl z, rfl⟩
    have S2 : St0 X.K cm (fun b => Z' b ∨ b = a) B σ ρ' H' := by
      refine ⟨S'.len, fun b z => z.elim (S'.zin b) fun e => by rw [e, ha]; exact fun q => (nomatch q), fun b z => z.elim (S'.zb b) fun e => .inr (by rw [e]; exact h0), fun j e he => ?_, S'.inj, S'.base, S'.ownM, S'.ownH, fun p hp' => ⟨(S'.pr p hp').1, fun z => z.elim (S'.pr p hp').2.1 (hp p hp'), (S'.pr p hp').2.2⟩⟩
      refine (S'.sl j e he).keep g2 fun kj b eb z n => ⟨fun z' => z'.elim z fun eq => ?_, rfl⟩
      subst eq
      exact no j (own_of eb he kj)
    exact h _ _ H' (g'.trans g2) S2 (.lst (.inr rfl) ha (RpA.grow g2 r))
  | ex c fs ρ' =>
    rw [el] at h
    exact h
  | bad =>
    rw [el] at h
    exact h
end
end De

set_option Elab.async false
set_option linter.all false
set_option maxRecDepth 100000
set_option maxHeartbeats 2000000
namespace De
open PySem PySem.Spec PyProof.Rows L2
open PySem.W (Frag)
/-! ### what a def promises -/
inductive Fr (α : Type) where
  | ok (a : α) | ex (c : Str) (fs : List (Str × D)) | bad
/-- from the entry (Z, H) to the end (Z', H'): nothing tracked has changed, but what O lets -/
def Go (O : Addr → Prop) (Z : ZS) (H : Hp) (Z' : ZS) (H' : Hp) : Prop := (∀ a, Z a → Z' a) ∧ (∀ a, Z' a → Z a ∨ H a = none) ∧ (∀ a, Z' a → H' a ≠ none) ∧ ∀ b, H b ≠ none → H' b ≠ none ∧ (¬ O b → H' b = H b)
abbrev O0 : Addr → Prop := fun _ => False
/-- a def of data that changes nothing -/
def spP (K : Frag) (cm : Str → Option Addr) (F : List D → Fr D) : Sp := fun vs H Q E => ∃ Z ds, (∀ a, Z a → H a ≠ none) ∧ RpA K cm Z H vs ds ∧ match F ds with
  | .ok r => ∀ v Z' H', Go O0 Z H Z' H' → Rp K cm Z' H' v r → Q v H'
  | .ex c fs => ∀ C dd Z' H', Go O0 Z H Z' H' → cm c = some C → XRp K cm Z' H' dd fs → E (.ref C) dd H'
  | .bad => False
/-- .. that hands back a new list, which the caller may change -/
def spO (K : Frag) (cm : Str → Option Addr) (F : List D → Option (List D)) : Sp := fun vs H Q _ => ∃ Z ds, (∀ a, Z a → H a ≠ none) ∧ RpA K cm Z H vs ds ∧ match F ds with
  | some r => ∀ a ws Z' H', Go O0 Z H Z' H' → H' a = some (.lst ws) → ¬ Z' a → H a = none → RpA K cm Z' H' ws r → Q (.ref a) H'
  | none => False
/-- .. that changes the list that is its first argument -/
def spM (K : Frag) (cm : Str → Option Addr) (F : List D → List D → Option (D × List D)) : Sp := fun vs H Q _ => ∃ Z a hs xs ws ds, vs = .ref a :: ws ∧ (∀ a, Z a → H a ≠ none) ∧ H a = some (.lst hs) ∧ ¬ Z a ∧ RpA K cm Z H hs xs ∧ RpA K cm Z H ws ds ∧ match F xs ds with
  | some (r, ys) => ∀ v Z' H' hs', Go (fun b => b = a) Z H Z' H' → H' a = some (.lst hs') → ¬ Z' a → RpA K cm Z' H' hs' ys → Rp K cm Z' H' v r → Q v H'
  | none => False
def startR (N : List Str) (ds : List D) : Rho := ds.map .d ++ List.replicate (N.length - ds.length) .u
def startH (N : List Str) (xs ds : List D) : Rho := .h xs :: (ds.map .d ++ List.replicate (N.length - (ds.length + 1)) .u)
def finP : Res Fl → Fr D
  | .ok (.rt d) _ => .ok d
  | .ok .nx _ => .ok .non
  | .ex c fs _ => .ex c fs
  | _ => .bad
def finO : Res Fl → Option (List D)
  | .ok (.rtl ds) _ => some ds
  | _ => none
def finM : Res Fl → Option (D × List D)
  | .ok (.rt d) (.h ys :: _) => some (d, ys)
  | .ok .nx (.h ys :: _) => some (.non, ys)
  | _ => none
section
variable {K : Frag} {cm : Str → Option Addr} {Z Z' : ZS} {H H' : Hp} {B : Bs} {σ : L2.St} {ρ : Rho}
theorem RpA.at {vs : List V} {ds : List D} (r : RpA K cm Z H vs ds) {i : Nat} {d : D} (h : ds[i]? = some d) : ∃ v, vs[i]? = some v ∧ Rp K cm Z H v d := r.getD h
theorem start_ok {N : List Str} {vs : List V} {ds : List D} (hz : ∀ a, Z a → H a ≠ none) (r : RpA K cm Z H vs ds) : St0 K cm Z ⟨H, Z, O0, []⟩ (L2.start N vs) (startR N ds) H := by
  have noU : ∀ {i : Nat} {e : EV}, Kind e → (startR N ds)[i]? ≠ some e := fun {i e} k h => by
    unfold startR at h
    by_cases hi : i < ds.length
    · rw [List.getElem?_append_left (by simpa using hi), List.getElem?_map] at h
      cases q : ds[i]? with
      | none => rw [q] at h; cases h
      | some d =>
        rw [q] at h
        cases h
        rcases k with ⟨_, z⟩ | ⟨_, z⟩ | ⟨_, _, z⟩ <;> cases z
    · rw [List.getElem?_append_right (by simpa using hi), List.getElem?_replicate] at h
      split at h
      · cases h
        rcases k with ⟨_, z⟩ | ⟨_, z⟩ | ⟨_, _, z⟩ <;> cases z
      · cases h
  have noO : ∀ {i : Nat} {a : Addr}, ¬ OwnAt (startR N ds) (L2.start N vs) i a := fun {i a} o => by
    rcases o with ⟨_, xs, o⟩ | ⟨_, ⟨xs, o⟩ | ⟨c, fs, o⟩⟩
    · exact noU (.inl ⟨xs, rfl⟩) o
    · exact noU (.inr (.inl ⟨xs, rfl⟩)) o
    · exact noU (.inr (.inr ⟨c, fs, rfl⟩)) o
  refine ⟨?_, hz, fun a z => .inl z, fun i e h => ?_, fun i j a o => absurd o noO, fun b o e => ⟨by rw [show H b = some o from e]; exact fun q => (nomatch q), fun _ => e⟩, fun i a o => absurd (.inl o) noO, fun i a o => absurd (.inr o) noO, fun p hp => nomatch hp⟩
  · unfold startR L2.start
    simp [RpA.length r]
  · unfold startR at h
    by_cases hi : i < ds.length
    · rw [List.getElem?_append_left (by simpa using hi), List.getElem?_map] at h
      cases q : ds[i]? with
      | none => rw [q] at h; cases h
      | some d =>
        rw [q] at h
        cases h
        obtain ⟨v, hv, rv⟩ := r.getD q
        refine ⟨v, ?_, rv⟩
        unfold L2.start
        rw [List.getElem?_append_left (by rw [List.length_map, RpA.length r]; exact hi), List.getElem?_map, hv] <;> rfl
    · rw [List.getElem?_append_right (by simpa using hi), List.getElem?_replicate] at h
      split at h
      · cases h
        exact True.intro
      · cases h
theorem startH_ok {N : List Str} {a : Addr} {hs vs : List V} {xs ds : List D} (hz : ∀ a, Z a → H a ≠ none) (ha : H a = some (.lst hs)) (nz : ¬ Z a) (rh : RpA K cm Z H hs xs) (r : RpA K cm Z H vs ds) : St0 K cm Z ⟨H, Z, fun b => b = a, []⟩ (L2.start N (.ref a :: vs)) (startH N xs ds) H := by
  have S := start_ok (N := N.drop 1) hz r
  have e1 : L2.start N (.ref a :: vs) = some (.ref a) :: L2.start (N.drop 1) vs := by
    unfold L2.start
    rw [List.map_cons, List.cons_append, List.length_cons, List.length_drop]
    congr 3
    omega
  have e2 : startH N xs ds = .h xs :: startR (N.drop 1) ds := by
    unfold startH startR
    rw [List.length_drop]
    congr 3
    omega
  rw [e1, e2]
  have noO : ∀ {i : Nat} {b : Addr}, ¬ OwnAt (startR (N.drop 1) ds) (L2.start (N.drop 1) vs) i b := fun {i b} o => by
    rcases o with o | o
    · have := S.ownM i b o
      obtain ⟨h1, xs', h2⟩ := o
      obtain ⟨a', vs', e', h', _⟩ := S.sl i _ h2
      rw [h1] at e'
      cases e'
      have q : H b = none := this
      rw [q] at h'
      cases h'
    · exact S.ownH i b o
  have at0 : ∀ {i : Nat} {b : Addr}, OwnAt (.h xs :: startR (N.drop 1) ds) (some (.ref a) :: L2.start (N.drop 1) vs) i b → i = 0 ∧ b = a ∧ OwnH (.h xs :: startR (N.drop 1) ds) (some (.ref a) :: L2.start (N.drop 1) vs) i b := fun {i b} o => by
    cases i with
    | zero =>
      rcases o with ⟨h1, ys, h2⟩ | o
      · cases h2
      · refine ⟨rfl, ?_, o⟩
        have := o.1
        cases this
        rfl
    | succ i =>
      have z : OwnAt (startR (N.drop 1) ds) (L2.start (N.drop 1) vs) i b := ?_
      · exact absurd z noO
      rcases o with ⟨h1, ys, h2⟩ | ⟨h1, ⟨ys, h2⟩ | ⟨c, fs, h2⟩⟩
      · exact .inl ⟨h1, ys, h2⟩
      · exact .inr ⟨h1, .inl ⟨ys, h2⟩⟩
      · exact .inr ⟨h1, .inr ⟨c, fs, h2⟩⟩
  refine ⟨by rw [List.length_cons, List.length_cons, S.len], hz, fun b z => .inl z, fun i e h => ?_, fun i j b o1 o2 => by rw [(at0 o1).1, (at0 o2).1], fun b o e => ⟨by rw [show H b = some o from e]; exact fun q => (nomatch q), fun _ => e⟩, fun i b o => ?_, fun i b o => (at0 (.inr o)).2.1, fun p hp => nomatch hp⟩
  · cases i with
    | zero =>
      cases h
      exact ⟨a, hs, rfl, ha, nz, rh⟩
    | succ i => exact S.sl i e h
  · obtain ⟨q, _, _⟩ := at0 (.inl o)
    subst q
    obtain ⟨_, ys, h2⟩ := o
    cases h2
/-- what the end of a body gives -/
theorem St0.go {O : Addr → Prop} (S : St0 K cm Z' ⟨H, Z, O, []⟩ σ ρ H') (g : Grow Z H Z' H') : Go O Z H Z' H' := by
  refine ⟨fun a z => (g a z).1, S.zb, S.zin, fun b n => ?_⟩
  cases e : H b with
  | none => exact absurd e n
  | some o =>
    obtain ⟨q1, q2⟩ := S.base b o e
    exact ⟨q1, fun nb => (q2 nb)⟩
/-- behind a call that changed nothing -/
theorem St0.went (S : St0 K cm Z B σ ρ H) (g : Go O0 Z H Z' H') : St0 K cm Z' B σ ρ H' ∧ Grow Z H Z' H' := S.step g.1 g.2.1 g.2.2.1 fun b n => (g.2.2.2 b n).2 fun z => z
end
section
variable {P : Program} {w : World} {K : Frag} {mg : Str → Option Value} {base : Heap} {cm : Str → Option Addr} {x qual : Str} {st : Stmt} {f : Addr} {fd : FuncData} {N ps : List Str} {k : Nat} {g : M Fl}
/-- the context of a def's body -/
abbrev Bx (P : Program) (w : World) (K : Frag) (mg : Str → Option Value) (base : Heap) (N : List Str) (qual : Str) (st : Stmt) (f : Addr) (cdv : Value) (A : Around) (outer : List Env) (s : Shared) (H : Hp) (E : XK) : Cx := cxOf (L2.CX P w) P w K mg base N qual (defScope st) f cdv A outer s H E
abbrev WB (E : XK) : WX := fun cls d _ H => E cls d H
theorem fnP (F : Fun K x qual st f fd) (S : FnScope N ps (defScope st)) (FF : List D → Fr D) (hlen : ∀ ds, FF ds ≠ .bad → ds.length = ps.length)
    (hbody : ∀ (cdv : Value) (A : Around) (outer : List Env) (s : Shared) (H : Hp) (E : XK), Room k (A.deeper (envOfC qual (defScope st) s.heap.objs.size f cdv)) → Sxs (Bx P w K mg base N qual st f cdv A outer s H E) cm (WB E) (defBody st) g)
    (heq : ∀ ds, FF ds ≠ .bad → finP (g (startR N ds)) = FF ds) : FnOk P w K mg base (L2.CX P w) (k + 1) f fd ps (spP K cm FF) := by
  refine F.okX S (fun vs H Q E h => ?_) (fun cdv A outer s H vs Q E hr h => ?_)
  · obtain ⟨Z, ds, hz, r, h⟩ := h
    rw [RpA.length r]
    refine hlen ds fun e => ?_
    rw [e] at h
    exact h
  · obtain ⟨Z, ds, hz, r, h⟩ := h
    have hb : FF ds ≠ .bad := fun e => by
      rw [e] at h
      exact h
    obtain ⟨t, p, q⟩ := hbody cdv A outer s H E hr
    refine ⟨t, p, q ⟨H, Z, O0, []⟩ Z _ _ H _ (start_ok hz r) ?_⟩
    have e := heq ds hb
    rw [← e] at h
    cases eg : g (startR N ds) with
    | bad =>
      rw [eg] at h
      exact h
    | ex c fs ρ' =>
      rw [eg] at h
      exact fun C dd Z' σ' H' g' S' hc hx => h C dd Z' H' (S'.go g') hc hx
    | ok fl ρ' =>
      rw [eg] at h
      cases fl with
      | nx => exact fun Z' σ' H' g' S' => h .non Z' H' (S'.go g') .non
      | rt d => exact fun v Z' σ' H' g' S' r' => h v Z' H' (S'.go g') r'
      | rtl d => exact h.elim
      | bk => exact h.elim
      | ct => exact h.elim
theorem fnO (F : Fun K x qual st f fd) (S : FnScope N ps (defScope st)) (FF : List D → Option (List D)) (hlen : ∀ ds, FF ds ≠ none → ds.length = ps.length)
    (hbody : ∀ (cdv : Value) (A : Around) (outer : List Env) (s : Shared) (H : Hp) (E : XK), Room k (A.deeper (envOfC qual (defScope st) s.heap.objs.size f cdv)) → Sxs (Bx P w K mg base N qual st f cdv A outer s H E) cm (WB E) (defBody st) g)
    (heq : ∀ ds, FF ds ≠ none → finO (g (startR N ds)) = FF ds) : FnOk P w K mg base (L2.CX P w) (k + 1) f fd ps (spO K cm FF) := by
  refine F.okX S (fun vs H Q E h => ?_) (fun cdv A outer s H vs Q E hr h => ?_)
  · obtain ⟨Z, ds, hz, r, h⟩ := h
    rw [RpA.length r]
    refine hlen ds fun e => ?_
    rw [e] at h
    exact h
  · obtain ⟨Z, ds, hz, r, h⟩ := h
    have hb : FF ds ≠ none := fun e => by
      rw [e] at h
      exact h
    obtain ⟨t, p, q⟩ := hbody cdv A outer s H E hr
    refine ⟨t, p, q ⟨H, Z, O0, []⟩ Z _ _ H _ (start_ok hz r) ?_⟩
    have e := heq ds hb
    rw [← e] at h
    cases eg : g (startR N ds) with
    | bad =>
      rw [eg] at h
      exact h
    | ex c fs ρ' =>
      rw [eg] at h
      exact h.elim
    | ok fl ρ' =>
      rw [eg] at h
      cases fl with
      | rtl d => exact fun a ws Z' σ' H' g' S' ha nz h0 r' => h a ws Z' H' (S'.go g') ha nz h0 r'
      | rt d => exact h.elim
      | nx => exact h.elim
      | bk => exact h.elim
      | ct => exact h.elim
theorem fnM (F : Fun K x qual st f fd) (S : FnScope N ps (defScope st)) (FF : List D → List D → Option (D × List D)) (hlen : ∀ xs ds, FF xs ds ≠ none → ds.length + 1 = ps.length)
    (hbody : ∀ (cdv : Value) (A : Around) (outer : List Env) (s : Shared) (H : Hp) (E : XK), Room k (A.deeper (envOfC qual (defScope st) s.heap.objs.size f cdv)) → Sxs (Bx P w K mg base N qual st f cdv A outer s H E) cm (WB E) (defBody st) g)
    (heq : ∀ xs ds, FF xs ds ≠ none → finM (g (startH N xs ds)) = FF xs ds)
    (hkeep : ∀ xs ds fl ρ', g (startH N xs ds) = .ok fl ρ' → True) : FnOk P w K mg base (L2.CX P w) (k + 1) f fd ps (spM K cm FF) := by
  refine F.okX S (fun vs H Q E h => ?_) (fun cdv A outer s H vs Q E hr h => ?_)
  · obtain ⟨Z, a, hs, xs, ws, ds, rfl, hz, ha, nz, rh, r, h⟩ := h
    rw [List.length_cons, RpA.length r]
    refine hlen xs ds fun e => ?_
    rw [e] at h
    exact h
  · obtain ⟨Z, a, hs, xs, ws, ds, rfl, hz, ha, nz, rh, r, h⟩ := h
    have hb : FF xs ds ≠ none := fun e => by
      rw [e] at h
      exact h
    obtain ⟨t, p, q⟩ := hbody cdv A outer s H E hr
    refine ⟨t, p, q ⟨H, Z, fun b => b = a, []⟩ Z _ _ H _ (startH_ok hz ha nz rh r) ?_⟩
    have e := heq xs ds hb
    rw [← e] at h
    have last : ∀ {ys : List D} {ρ' : Rho} {Z' : ZS} {σ' : L2.St} {H' : Hp}, St0 K cm Z' ⟨H, Z, fun b => b = a, []⟩ σ' (.h ys :: ρ') H' → ∃ hs', H' a = some (.lst hs') ∧ ¬ Z' a ∧ RpA K cm Z' H' hs' ys := fun {ys ρ' Z' σ' H'} S' => by
      obtain ⟨b, ws', h1, h2, h3, h4⟩ := S'.sl 0 _ rfl
      have : b = a := S'.ownH 0 b ⟨h1, .inl ⟨ys, rfl⟩⟩
      subst this
      exact ⟨ws', h2, h3, h4⟩
    cases eg : g (startH N xs ds) with
    | bad =>
      rw [eg] at h
      exact h
    | ex c fs ρ' =>
      rw [eg] at h
      exact h.elim
    | ok fl ρ' =>
      rw [eg] at h
      cases ρ' with
      | nil => cases fl <;> exact h.elim
      | cons e0 ρ' =>
        cases e0 with
        | h ys =>
          cases fl with
          | nx =>
            intro Z' σ' H' g' S'
            obtain ⟨hs', h1, h2, h3⟩ := last S'
            exact h .non Z' H' hs' (S'.go g') h1 h2 h3 .non
          | rt d =>
            intro v Z' σ' H' g' S' r'
            obtain ⟨hs', h1, h2, h3⟩ := last S'
            exact h v Z' H' hs' (S'.go g') h1 h2 h3 r'
          | rtl d => exact h.elim
          | bk => exact h.elim
          | ct => exact h.elim
        | u => cases fl <;> exact h.elim
        | d x => cases fl <;> exact h.elim
        | m x => cases fl <;> exact h.elim
        | mi c fs => cases fl <;> exact h.elim
end
/-! ### own defs called -/
def callF (F : List D → Fr D) (ds : List D) : M D := fun ρ => match F ds with
  | .ok r => .ok r ρ
  | .ex c fs => .ex c fs ρ
  | .bad => .bad
section
variable {X : Cx} {cm : Str → Option Addr} {W : WX} {e : Expr} {es : List Expr} {fs : M (List D)} {x : Str} {p pos : Pos} {k : Nat} {f : Addr} {fd : FuncData} {ps : List Str}
theorem ex_call {F : List D → Fr D} (Fo : FnOk X.prog X.w X.K X.mg X.base (L2.CX X.prog X.w) k f fd ps (spP X.K cm F)) (hr : Room k X.A) (hm : X.mg x = some (.ref f)) (hk : PySem.W.keepIn X.K (.ref f) = true) (hb : L2.Binds X.K fd ps []) (tk : Takes X W) (ha : Exs X cm W (e :: es) fs) (hg : Gl X x := by rfl)
    (hdb : (x == ("__debug__" : Str)) = false := by decide) (he : starEach (e :: es) X.env = (false, eval e X.env) :: starEach es X.env := by rfl) (hpl : (backTo pos (starEach es X.env)).any (·.1) = false := by rfl) : Ex X cm W (.Call (.Name x p) (e :: es) [] pos) (bind fs (callF F)) := by
  obtain ⟨t, pa, q⟩ := ha
  refine ⟨_, pe_callS Fo hr hg hm hk hb (fun σ => passAt tk σ) pa hdb he hpl, fun B Z σ ρ H Q S h => q B Z σ ρ H _ S (Post.bind h fun ds ρ1 vs Z1 H1 g1 S1 r1 h1 => ?_)⟩
  refine ⟨Z1, ds, S1.zin, r1, ?_⟩
  unfold callF at h1
  cases eF : F ds with
  | ok r =>
    rw [eF] at h1
    intro v Z' H' go rv
    obtain ⟨S2, g2⟩ := S1.went go
    exact h1 v Z' H' g2 S2 rv
  | ex c fs' =>
    rw [eF] at h1
    intro C dd Z' H' go hc hx
    obtain ⟨S2, g2⟩ := S1.went go
    exact h1 C dd Z' H' g2 S2 hc hx
  | bad =>
    rw [eF] at h1
    exact h1
/-- f(name, ..), the name's list may be changed -/
def callM (F : List D → List D → Option (D × List D)) (i : Nat) (ds : List D) : M D := fun ρ => match ρ[i]? with
  | some ev => (match lstOf ev with
    | some xs => (match F xs ds with
      | some (r, ys) => .ok r (ρ.set i (lstTo ev ys))
      | none => .bad)
    | none => .bad)
  | none => .bad
def callMM (F : List D → List D → Option (D × List D)) (i : Nat) (fs : M (List D)) : M D := fun ρ => match ρ[i]? with
  | some ev => (match lstOf ev with
    | some _ => bind fs (callM F i) ρ
    | none => .bad)
  | none => .bad
theorem ex_callM {F : List D → List D → Option (D × List D)} {y : Str} {py : Pos} (i : Nat) (Fo : FnOk X.prog X.w X.K X.mg X.base (L2.CX X.prog X.w) k f fd ps (spM X.K cm F)) (hr : Room k X.A) (hm : X.mg x = some (.ref f)) (hk : PySem.W.keepIn X.K (.ref f) = true) (hb : L2.Binds X.K fd ps []) (tk : Takes X W) (ha : Exs X cm W es fs)
    (hN : X.N[i]? = some y := by rfl) (hv : Vis X.env.scope y := by first | exact Or.inl rfl | exact Or.inr (Or.inl rfl) | exact Or.inr (Or.inr rfl)) (hg : Gl X x := by rfl)
    (hdb : (x == ("__debug__" : Str)) = false := by decide) (hd : (y == ("__debug__" : Str)) = false := by decide) (hcd : (y == ("__classdict__" : Str)) = false := by decide)
    (he : starEach (.Name y py :: es) X.env = (false, eval (.Name y py) X.env) :: starEach es X.env := by rfl) (hpl : (backTo pos (starEach es X.env)).any (·.1) = false := by rfl) : Ex X cm W (.Call (.Name x p) (.Name y py :: es) [] pos) (callMM F i fs) := by
  obtain ⟨t, pa, q⟩ := ha
  refine ⟨_, pe_callS Fo hr hg hm hk hb (fun σ => passAt tk σ) (pa_cons (pe_var hN hv hd hcd) pa he) hdb he hpl, fun B Z σ ρ H Q S h => ?_⟩
  unfold callMM at h
  split at h
  · rename_i ev e0
    split at h
    · rename_i xs0 l0
      obtain ⟨a, vs0, es0, ha0, nz0, r0, _⟩ := (S.sl i _ e0).lst l0
      refine ⟨.ref a, es0, q B Z σ ρ H _ S (Post.bind h fun ds ρ1 vs Z1 H1 g1 S1 r1 h1 => ?_)⟩
      unfold callM at h1
      split at h1
      · rename_i ev1 e1
        split at h1
        · rename_i xs1 l1
          obtain ⟨a1, vs1, es1, ha1, nz1, rr1, lk⟩ := (S1.sl i _ e1).lst l1
          rw [es0] at es1
          cases es1
          refine ⟨Z1, a, vs1, xs1, vs, ds, rfl, S1.zin, ha1, nz1, rr1, r1, ?_⟩
          split at h1
          · rename_i r ys eF
            intro v Z' H' hs' go ha' nz' rys rv
            -- first all but the list, then the list
            have oi : OwnAt ρ1 σ i a := by
              have kd : Kind ev1 := by
                cases ev1 with
                | m xs => exact .inl ⟨_, rfl⟩
                | h xs => exact .inr (.inl ⟨_, rfl⟩)
                | u => cases l1
                | d x => cases l1
                | mi c fs => cases l1
              exact own_of es0 e1 kd
            let H2 : Hp := fun b => if b = a then H1 a else H' b
            have h2a : H2 a = H1 a := if_pos rfl
            have h2n : ∀ b, b ≠ a → H2 b = H' b := fun b hb => if_neg hb
            have st := S1.step (Z' := Z') (H' := H2) go.1 go.2.1 (fun b z => by
              by_cases eb : b = a
              · exact absurd (by rw [← eb]; exact z) nz'
              · rw [h2n b eb]
                exact go.2.2.1 b z) (fun b n => by
              by_cases eb : b = a
              · rw [eb, h2a]
              · rw [h2n b eb]
                exact (go.2.2.2 b n).2 eb)
            obtain ⟨S2, g2⟩ := st
            have hH : upd H2 a (.lst hs') = H' := by
              funext b
              by_cases eb : b = a
              · rw [eb, upd_same, ha']
              · rw [upd_ne eb, h2n b eb]
            obtain ⟨lk1, lk2⟩ := lk ys
            obtain ⟨S3, g3⟩ := S2.put (o' := .lst hs') es0 e1 lk1 fun g => lk2 upd_same nz' (by rw [hH]; exact rys)
            rw [hH] at S3 g3
            exact h1 v Z' H' (g2.trans g3) S3 rv
          · exact h1.elim
        · exact h1.elim
      · exact h1.elim
    · exact h.elim
  · exact h.elim
def callO (F : List D → Option (List D)) (ds : List D) : M (List D) := fun ρ => match F ds with
  | some r => .ok r ρ
  | none => .bad
theorem lx_callO {F : List D → Option (List D)} (Fo : FnOk X.prog X.w X.K X.mg X.base (L2.CX X.prog X.w) k f fd ps (spO X.K cm F)) (hr : Room k X.A) (hm : X.mg x = some (.ref f)) (hk : PySem.W.keepIn X.K (.ref f) = true) (hb : L2.Binds X.K fd ps []) (tk : Takes X W) (ha : Exs X cm W (e :: es) fs) (hg : Gl X x := by rfl)
    (hdb : (x == ("__debug__" : Str)) = false := by decide) (he : starEach (e :: es) X.env = (false, eval e X.env) :: starEach es X.env := by rfl) (hpl : (backTo pos (starEach es X.env)).any (·.1) = false := by rfl) : Lx X cm W (.Call (.Name x p) (e :: es) [] pos) (bind fs (callO F)) := by
  obtain ⟨t, pa, q⟩ := ha
  refine ⟨_, pe_callS Fo hr hg hm hk hb (fun σ => passAt tk σ) pa hdb he hpl, fun B Z σ ρ H Q S h => q B Z σ ρ H _ S ?_⟩
  unfold De.bind at h
  cases ef : fs ρ with
  | bad =>
    rw [ef] at h
    exact h
  | ex c fs' ρ' =>
    rw [ef] at h
    exact h
  | ok ds ρ1 =>
    rw [ef] at h
    intro vs Z1 H1 g1 S1 r1
    refine ⟨Z1, ds, S1.zin, r1, ?_⟩
    unfold callO at h
    cases eF : F ds with
    | none =>
      simp only [eF] at h
      exact h
    | some r =>
      simp only [eF] at h
      intro a ws Z' H' go ha nz hn rr
      obtain ⟨S2, g2⟩ := S1.went go
      exact h a ws Z' H' (g1.trans g2) S2 ha nz (fun j o => (S1.nz o).2 hn) (S1.new0 hn) (fun p hp eq => by rw [← eq, (S1.pr p hp).1] at hn; cases hn) rr
theorem sx_setLx (i : Nat) {y : Str} {py : Pos} {f : M (List D)} (hN : X.N.Nodup) (h : Lx X cm W e f) (hi : X.N[i]? = some y := by rfl) (hx : L2.Loc X.env.scope y := by first | exact Or.inl rfl | exact Or.inr rfl) (hs : swapsWith e (some (.Name y py)) pos.line X.env = pure false := by rfl)
    (hf : X.fn y = true ∨ X.env.scope.names.lookup y = some .local := by first | exact .inl rfl | exact .inr rfl) : Sx X cm W (.Assign [.Name y py] e pos) (setC i f) := by
  obtain ⟨t, p, q⟩ := h
  refine ⟨_, ps_set hN hi hx p hs hf, fun B Z σ ρ H E S h => q B Z σ ρ H _ S ?_⟩
  unfold setC De.bind at h
  cases el : f ρ with
  | ok ds ρ' =>
    rw [el] at h
    exact fun a vs Z' H' g' S' ha nz no h0 hp r => h Z' _ H' g' (S'.setM ha nz no h0 hp r)
  | ex c fs ρ' =>
    rw [el] at h
    exact fun C dd Z' H' g' S' => h C dd Z' σ H' g' S'
  | bad =>
    rw [el] at h
    exact h
end
end De

set_option Elab.async false
set_option linter.all false
set_option maxRecDepth 100000
set_option maxHeartbeats 2000000
namespace De
open PySem PySem.Spec PyProof.Rows L2
open PySem.W (Frag)
/-! ### errors -/
/-- __init__ of an error without fields -/
def spE0 (C : Addr) : Sp := fun vs H Q _ => ∃ a, vs = [.ref a] ∧ H a = some (exo a C none) ∧ Q .non H
theorem err0 {P : Program} {w : World} {K : Frag} {mg : Str → Option Value} {base : Heap} {C fI : Addr} {qual : Str} {st : Stmt} {fd : FuncData} {s : Str} {j} {p0 p1 p2 p3 p4 p5 : Pos} (T : SupX.SupC P K C fI qual st fd)
    (hst : defBody st = [.Expr (.Call (.Attribute (.Call (.Name "super" p0) [] [] p1) "__init__" p2) [.Constant (.str s) j p5] [] p3) p4])
    (S : NdefX.NScope ["self", "__class__"] ["self"] ["__class__"] (defScope st))
    (hks : (defScope st).names.lookup ("super" : Str) = some .globalImplicit) (h0 : ((defArgs st).posonlyargs ++ (defArgs st).args).head?.map (·.arg) = some "self")
    (hsw : ∀ env : Env, swapsWith (.Call (.Attribute (.Call (.Name "super" p0) [] [] p1) "__init__" p2) [.Constant (.str s) j p5] [] p3) none p4.line env = pure false)
    (hev : ∀ env : Env, ∃ pl : Sem Bool, eval (.Call (.Attribute (.Call (.Name "super" p0) [] [] p1) "__init__" p2) [.Constant (.str s) j p5] [] p3) env = (do
      let ov ← attributeBase (.Call (.Name "super" p0) [] [] p1) "__init__" env (eval (.Call (.Name "super" p0) [] [] p1) env)
      standAt p2.atName
      let (f, first) ← holding [ov] (getMethod ov "__init__" pl)
      callWith p3 f first (backTo p3 (starEach [.Constant (.str s) j p5] env)) [])) :
    FnOk P w K mg base (L2.CX P w) 1 fI fd ["self"] (spE0 C) := by
  refine SupX.fn_sup (k := 0) (N := ["self", "__class__"]) T S hst hks h0 rfl (fun _ => rfl) hsw hev (fun vs H Q E h => ?_) fun F A outer s H vs Q E hq hs hr h => ?_
  · obtain ⟨a, rfl, _⟩ := h
    rfl
  · obtain ⟨a, rfl, ha, q⟩ := h
    exact ⟨a, [], rfl, ha, _, pe_str, _, pss_nil, ha, q⟩
def raiseM (c : Str) : M Fl := fun ρ => .ex c [] ρ
theorem sx_raise0 {X : Cx} {cm : Str → Option Addr} {W : WX} {x c : Str} {p pos pos2 : Pos} {C fI : Addr} {k : Nat} {fd : FuncData} {qual : Str} {st : Stmt} (T : SupX.SupC X.prog X.K C fI qual st fd) (F1 : FnOk X.prog X.w X.K X.mg X.base (L2.CX X.prog X.w) k fI fd ["self"] (spE0 C)) (hr : Room (k + 1) X.A) (hb : L2.Binds X.K fd ["self"] [])
    (hm : X.mg x = some (.ref C)) (hcm : cm c = some C) (tk : Takes X W) (hc : X.calm = true := by rfl) (hg : Gl X x := by rfl) (hdb : (x == ("__debug__" : Str)) = false := by decide) :
    Sx X cm W (.Raise (some (.Call (.Name x p) [] [] pos)) none pos2) (raiseM c) := by
  refine ⟨_, ps_raise hc tk (SupX.pmk_sup0 T F1 hr hb passL hg hm hdb), fun B Z σ ρ H E S h => ?_⟩
  refine ⟨Nat.zero_le _, fun a ha => ⟨a, rfl, upd_same, rfl, .inl ⟨upd_same, ?_⟩⟩⟩
  have e : del (upd H a (exo a C none)) a = H := by
    funext b
    by_cases hb : b = a
    · rw [hb, del_same, ha]
    · rw [del_ne hb, upd_ne hb]
  rw [e]
  exact h C none Z σ H Grow.refl S hcm (.inl ⟨rfl, rfl⟩)
/-! ### try .. except X: -/
def sStar (K : Frag) (cm : Str → Option Addr) (W : WX) (g : M Fl) : TS := fun E σ H => ∃ B Z ρ, St0 K cm Z B σ ρ H ∧ PostS K cm W B Z H (g ρ) E
theorem Sxs.star {X : Cx} {cm : Str → Option Addr} {W : WX} {sts : List Stmt} {g : M Fl} (h : Sxs X cm W sts g) : PSs X sts (sStar X.K cm W g) := by
  obtain ⟨t, p, q⟩ := h
  exact ⟨fun pins s σ H D I ⟨B, Z, ρ, S, h⟩ => p.run pins s σ H D I (q B Z σ ρ H D S h)⟩
def tryM (catches : Str → Bool) (gb gs : M Fl) : M Fl := fun ρ => match gb ρ with
  | .ex c fs ρ' => if catches c then noEx gs ρ' else .ex c fs ρ'
  | r => r
theorem sx_try {X : Cx} {cm : Str → Option Addr} {W : WX} {x : Str} {C : Addr} {body suite : List Stmt} {b₀ : Stmt} {np pos pos' : Pos} {gb gs : M Fl} (catches : Str → Bool) (hm : X.mg x = some (.ref C)) (hcat : ∀ c' C', cm c' = some C' → PySem.W.exmOne X.K (.ref C') (.ref C) = some (catches c')) (tk : Takes X W)
    (hb : ∀ (W' : WX) (pn : List (Addr × Obj)) (xe : Value → Shared → Prop), Takes (X.tr pn xe) W' → PassesOwn (model X.prog X.w) X.A X.env xe → Sxs (X.tr pn xe) cm W' body gb)
    (hs : ∀ (a : Addr) (oe : Obj) (cls : Value) (d : Option Addr) (pn : List (Addr × Obj)), Zc cls d oe → (∃ vs, oe.data = .fields vs) → Sxs (X.suite a ((a, oe) :: pn)) cm W0 (b₀ :: suite) gs)
    (hst : X.stack = X.env :: X.outer := by rfl) (hfr : X.env.frame = some X.env.locals := by rfl) (hg : Gl X x := by rfl) (hd : (x == ("__debug__" : Str)) = false := by decide) :
    Sx X cm W (.Try body [.ExceptHandler (some (.Name x np)) none (b₀ :: suite) pos'] [] [] pos) (tryM catches gb gs) := by
  refine ⟨_, ps_try_only (c := .ref C) (tb := fun W' => sStar X.K cm W' gb) (ts := fun _ _ _ => sStar X.K cm W0 gs) (Wout := W) hst hfr ⟨hg, hd, .inl hm⟩ tk (fun W' pn xe tk' po => (hb W' pn xe tk' po).star) (fun a oe cls d pn hz hf => (hs a oe cls d pn hz hf).star), fun B Z σ ρ H E S h => ?_⟩
  refine ⟨B, Z, ρ, S, ?_⟩
  unfold tryM at h
  cases eg : gb ρ with
  | bad =>
    rw [eg] at h
    exact h
  | ok fl ρ' =>
    rw [eg] at h
    cases fl <;> exact h
  | ex c fs ρ' =>
    rw [eg] at h
    intro C' dd Z' σ' H' g' S' hc hx
    refine ⟨catches c, hcat c C' hc, fun hb a ha => ?_, fun hb => ?_⟩
    · simp only [hb, if_true] at h
      refine ⟨B, Z', ρ', S', ?_⟩
      unfold noEx at h
      cases es : gs ρ' with
      | bad =>
        rw [es] at h
        exact h.elim
      | ex c2 f2 ρ2 =>
        rw [es] at h
        exact h.elim
      | ok fl ρ2 =>
        rw [es] at h
        exact PostS.rebase g' (W := W0) (by cases fl <;> exact h)
    · simp only [hb] at h
      exact h C' dd Z' σ' H' g' S' hc hx
/-! ### tables of the module: texts as keys -/
def TabM : List DictEntry → List (Str × D) → Prop
  | [], [] => True
  | e :: es, (x, d) :: r => (∃ t, e.key = .str x t) ∧ (∃ v, RelV v e.val ∧ ∀ K cm Z H, Rp K cm Z H v d) ∧ TabM es r
  | _, _ => False
structure KTab (K : Frag) (w : World) (a : Addr) (tb : List (Str × D)) : Prop where
  ex : ∃ es n, K.lookup a = some ⟨.type "dict", none, .dict es n, #[]⟩ ∧ PySem.W.KeysLit w.params es.toList ∧ TabM es.toList tb
  low : (a == sysModules) = false
theorem refKey_str {e : DictEntry} {x : Str} {t : Tok} (h : e.key = .str x t) : e.refKey = false := by
  unfold DictEntry.refKey
  rw [h]
theorem tab_look {K : Frag} {w : World} {a : Addr} {tb : List (Str × D)} (T : KTab K w a tb) (z : Str) :
    (∃ d, tb.lookup z = some d ∧ ∃ u v, PySem.W.nsIn K a z = some (some u) ∧ RelV v u ∧ ∀ K cm Z H, Rp K cm Z H v d) ∨ (tb.lookup z = none ∧ PySem.W.nsIn K a z = some none) := by
  obtain ⟨es, n, hl, hk, hm⟩ := T.ex
  have go : ∀ (es : List DictEntry) (tb : List (Str × D)), TabM es tb → (es.any (·.refKey)) = false ∧ ((∃ d, tb.lookup z = some d ∧ ∃ e v, es.find? (·.key.isStr z) = some e ∧ RelV v e.val ∧ ∀ K cm Z H, Rp K cm Z H v d) ∨ (tb.lookup z = none ∧ es.find? (·.key.isStr z) = none)) := by
    intro es
    induction es with
    | nil =>
      intro tb h
      cases tb with
      | nil => exact ⟨rfl, .inr ⟨rfl, rfl⟩⟩
      | cons p r => exact h.elim
    | cons e es ih =>
      intro tb h
      cases tb with
      | nil => exact h.elim
      | cons p r =>
        obtain ⟨x, d⟩ := p
        obtain ⟨⟨t, hx⟩, ⟨v, rv, rp⟩, hr⟩ := h
        obtain ⟨i1, i2⟩ := ih r hr
        refine ⟨by rw [List.any_cons, refKey_str hx, i1]; rfl, ?_⟩
        have hk : e.key.isStr z = (x == z) := by rw [hx]; rfl
        rw [List.find?_cons, List.lookup_cons, hk]
        by_cases q : x = z
        · subst q
          simp only [beq_self_eq_true]
          exact .inl ⟨d, rfl, e, v, rfl, rv, rp⟩
        · have q1 : (x == z) = false := by simpa using q
          have q2 : (z == x) = false := by simpa using Ne.symm q
          rw [q1, q2]
          exact i2
  obtain ⟨h1, h2⟩ := go es.toList tb hm
  unfold PySem.W.nsIn
  rw [hl]
  dsimp only
  rcases h2 with ⟨d, e1, e, v, e2, rv, rp⟩ | ⟨e1, e2⟩
  · rw [e2]
    exact .inl ⟨d, e1, e.val, v, rfl, rv, rp⟩
  · rw [e2, h1]
    exact .inr ⟨e1, rfl⟩
section
variable {X : Cx} {cm : Str → Option Addr} {W : WX} {e : Expr} {fa : M D} {x : Str} {p pos apos : Pos} {a : Addr} {tb : List (Str × D)}
def tgetM (tb : List (Str × D)) (f : M D) : M D := bind f fun d => match d with
  | .str z => ret ((tb.lookup z).getD .non)
  | _ => bad
def tixM (tb : List (Str × D)) (f : M D) : M D := bind f fun d => match d with
  | .str z => optD (tb.lookup z)
  | _ => bad
theorem ex_tget (T : KTab X.K X.w a tb) (hm : X.mg x = some (.ref a)) (h : Ex X cm W e fa) (hg : Gl X x := by rfl) (hd : (x == ("__debug__" : Str)) = false := by decide)
    (m1 : attributeBase (.Name x p) "get" X.env (eval (.Name x p) X.env) = eval (.Name x p) X.env := by rfl)
    (m2 : ((backTo pos (starEach [e] X.env)).all (fun x => !x.1) && (backToKw pos (keywordEach [] X.env)).all (fun x => x.1.isSome) && decide (([e] : List Expr).length + ([] : List Keyword).length + (if ([] : List Keyword).isEmpty then 0 else 1) < 30)) = true := by rfl)
    (m3 : (apos.endLine == pos.line) = true := by rfl) (m4 : backTo pos (starEach [e] X.env) = [(false, eval e X.env)] := by rfl) :
    Ex X cm W (.Call (.Attribute (.Name x p) "get" apos) [e] [] pos) (tgetM tb fa) := by
  obtain ⟨t, pe, q⟩ := h
  obtain ⟨es, n, hl, hk, hm2⟩ := T.ex
  refine ⟨fun σ H Q => t σ H fun y H2 => ∃ z o, y = .str z ∧ ((∃ u v, PySem.W.nsIn X.K a z = some (some u) ∧ RelV v u ∧ o = v) ∨ (PySem.W.nsIn X.K a z = some none ∧ o = .non)) ∧ Q o H2, ⟨fun pins s σ H Q I h => ?_⟩, fun B Z σ ρ H Q S h => q B Z σ ρ H _ S (Post.bind h fun d ρ1 v Z1 H1 g1 S1 r1 h1 => ?_)⟩
  · have Hm := PySem.W.mapOf_K (prog := X.prog) (w := X.w) I.kIn hl hk
    refine wpAny_Call_method m1 m2 m3 PySem.F.plainAttrs_dict PySem.F.slot_dict_get PySem.F.type_dict_get ((pe_glob (v := .ref a) hg hm rfl hd).run pins s σ H (fun v H' => v = .ref a ∧ H' = H) I ⟨rfl, rfl⟩ |> fun hh => thn hh fun u s1 ⟨v1, H1, I1, rx, ev, eH⟩ => ?_)
    subst ev
    subst eH
    obtain rfl : u = Value.ref a := rx
    have Hm1 := PySem.W.mapOf_K (prog := X.prog) (w := X.w) I1.kIn hl hk
    refine ⟨Hm1.typeIs, fun a1 e1 => by
      cases e1
      obtain ⟨ob, es', n', h1, h2, _⟩ := Hm1
      exact ⟨ob, h1, h2.2.1⟩, ?_⟩
    rw [m4]
    refine Calls.callWith_builtin rfl (Calls.evalArgs_plain (Calls.spliced_cons (thn (pe.run pins s1 σ H1 _ I1 h) fun iv s2 ⟨y, H2, I2, ry, z, o, ey, ho, q2⟩ => Calls.spliced_nil ?_)))
    subst ey
    obtain ⟨tk, rfl⟩ := ry
    have Hm2 := PySem.W.mapOf_K (prog := X.prog) (w := X.w) I2.kIn hl hk
    refine call_meetsIn PySem.F.slot_dict_get Hm2.typeIs PySem.F.entry_dict_get (PySem.F.args_dict_get_2 _ _) (meets_dict_get (strKind X.prog X.w) a (strKind_is X.prog X.w z tk) T.low) ⟨_, Hm2, ?_⟩
    rcases ho with ⟨u0, v0, e0, r0, rfl⟩ | ⟨e0, rfl⟩
    · rw [PySem.W.find_K hl e0]
      exact ⟨_, H2, I2.tok _, r0, q2⟩
    · rw [PySem.W.find_K hl e0]
      exact ⟨.non, H2, I2.tok _, rfl, q2⟩
  · cases d with
    | str z =>
      cases r1
      rcases tab_look T z with ⟨d, e1, u, v, e2, rv, rp⟩ | ⟨e1, e2⟩
      · have h1 : Post X.K cm W B (rpD X.K cm) Z1 σ H1 (ret ((tb.lookup z).getD .non) ρ1) Q := h1
        rw [e1] at h1
        exact ⟨z, v, rfl, .inl ⟨u, v, e2, rv, rfl⟩, Post.ret h1 S1 (rp _ _ _ _)⟩
      · have h1 : Post X.K cm W B (rpD X.K cm) Z1 σ H1 (ret ((tb.lookup z).getD .non) ρ1) Q := h1
        rw [e1] at h1
        exact ⟨z, .non, rfl, .inr ⟨e2, rfl⟩, Post.ret h1 S1 .non⟩
    | _ => exact h1.elim
theorem ex_tix (T : KTab X.K X.w a tb) (hm : X.mg x = some (.ref a)) (h : Ex X cm W e fa) (hg : Gl X x := by rfl) (hd : (x == ("__debug__" : Str)) = false := by decide) (hs : PlainIx e := by exact fun _ _ => rfl) : Ex X cm W (.Subscript (.Name x p) e pos) (tixM tb fa) := by
  obtain ⟨t, pe, q⟩ := h
  obtain ⟨es, n, hl, hk, hm2⟩ := T.ex
  refine ⟨_, pe_ix ix_kdict (pe_glob (v := .ref a) hg hm rfl hd) pe hs, fun B Z σ ρ H Q S h => q B Z σ ρ H _ S (Post.bind h fun d ρ1 v Z1 H1 g1 S1 r1 h1 => ?_)⟩
  cases d with
  | str z =>
    cases r1
    obtain ⟨d', e', h1⟩ := Post.opt h1
    rcases tab_look T z with ⟨d, e1, u, v, e2, rv, rp⟩ | ⟨e1, e2⟩
    · rw [e1] at e'
      cases e'
      exact ⟨a, z, v, rfl, rfl, ⟨es, n, u, hl, hk, e2, rv⟩, Post.ret h1 S1 (rp _ _ _ _)⟩
    · rw [e1] at e'
      cases e'
  | _ => exact h1.elim
end
end De

set_option Elab.async false
set_option linter.all false
set_option maxRecDepth 100000
set_option maxHeartbeats 2000000
namespace De
open PySem PySem.Spec PyProof.Rows L2
open PySem.W (Frag)
/-! ### walks of lists, tuples, texts alike -/
def itA : D → M (List D)
  | .lst xs => ret xs
  | .scr xs => ret xs
  | .tup xs => ret xs
  | .str s => ret (s.cps.toList.map fun c => .str ⟨#[c]⟩)
  | _ => bad
section
variable {X : Cx} {cm : Str → Option Addr} {W : WX} {a b c e tg : Expr} {es : List Expr} {fa fb fc : M D} {fs : M (List D)} {pos : Pos}
theorem pi_or {wi wj : TI} (h1 : PI X tg e wi) (h2 : PI X tg e wj) : PI X tg e (fun σ H R => wi σ H R ∨ wj σ H R) := ⟨fun pins s σ H R I h => h.elim (h1.run pins s σ H R I) (h2.run pins s σ H R I)⟩
theorem ix_any (h : Ex X cm W e fa) : Ix X cm W tg e (bind fa itA) := by
  obtain ⟨w1, p1, q1⟩ := ix_list (tg := tg) h
  obtain ⟨w2, p2, q2⟩ := ix_tuple (tg := tg) h
  obtain ⟨w3, p3, q3⟩ := ix_text (tg := tg) h
  refine ⟨_, pi_or p1 (pi_or p2 p3), fun B Z σ ρ H R S h => ?_⟩
  unfold De.bind at h
  cases ef : fa ρ with
  | bad =>
    rw [ef] at h
    exact h.elim
  | ex c fs ρ' =>
    rw [ef] at h
    refine .inl (q1 B Z σ ρ H R S ?_)
    unfold De.bind
    rw [ef]
    exact h
  | ok d ρ' =>
    rw [ef] at h
    cases d with
    | lst xs =>
      refine .inl (q1 B Z σ ρ H R S ?_)
      unfold De.bind
      rw [ef]
      exact h
    | scr xs =>
      refine .inl (q1 B Z σ ρ H R S ?_)
      unfold De.bind
      rw [ef]
      exact h
    | tup xs =>
      refine .inr (.inl (q2 B Z σ ρ H R S ?_))
      unfold De.bind
      rw [ef]
      exact h
    | str s =>
      refine .inr (.inr (q3 B Z σ ρ H R S ?_))
      unfold De.bind
      rw [ef]
      exact h
    | _ => exact h.elim
/-! ### slices -/
def Ox (X : Cx) (cm : Str → Option Addr) (W : WX) (o : Option Expr) (f : M (Option Int)) : Prop := ∃ t, PO X o t ∧ ∀ B Z σ ρ H Q, St0 X.K cm Z B σ ρ H → Post X.K cm W B (fun _ _ x y => x = y) Z σ H (f ρ) Q → t σ H Q
def intO (f : M D) : M (Option Int) := bind f fun d => match d with
  | .int i => ret (some i)
  | _ => bad
theorem ox_none : Ox X cm W none (ret none) := ⟨_, po_none, fun B Z σ ρ H Q S h => h none Z H Grow.refl S rfl⟩
theorem ox_some (h : Ex X cm W e fa) : Ox X cm W (some e) (intO fa) := by
  obtain ⟨t, p, q⟩ := h
  refine ⟨_, po_some p, fun B Z σ ρ H Q S h => q B Z σ ρ H _ S (Post.bind h fun d ρ1 v Z1 H1 g1 S1 r1 h1 => ?_)⟩
  cases d with
  | int i =>
    cases r1
    exact ⟨i, rfl, h1 _ Z1 H1 Grow.refl S1 rfl⟩
  | _ => exact h1.elim
def cutD (xs : List D) (lo hi : Option Int) : List D := (xs.drop (HT.sIx xs.length 0 lo)).take (HT.sIx xs.length xs.length hi - HT.sIx xs.length 0 lo)
def slD (d : D) (lo hi : Option Int) : M D := match d with
  | .lst xs => ret (.lst (cutD xs lo hi))
  | .scr xs => ret (.lst (cutD xs lo hi))
  | .tup xs => ret (.tup (cutD xs lo hi))
  | .str s => if small s.length then ret (.str (cutS s lo hi)) else bad
  | _ => bad
def slM (f : M D) (l u : M (Option Int)) : M D := bind f fun d => bind l fun lo => bind u fun hi => slD d lo hi
theorem RpA.cut {K : Frag} {Z : ZS} {H : Hp} {vs : List V} {ds : List D} (r : RpA K cm Z H vs ds) (lo hi : Option Int) : RpA K cm Z H (cutV vs lo hi) (cutD ds lo hi) := by
  unfold cutV cutD
  rw [RpA.length r]
  exact RpA.take _ (RpA.drop _ r)
theorem ex_sl {lo hi : Option Expr} {l u : M (Option Int)} {p2 : Pos} (h : Ex X cm W e fa) (hl : Ox X cm W lo l) (hu : Ox X cm W hi u) : Ex X cm W (.Subscript e (.Slice lo hi none p2) pos) (slM fa l u) := by
  obtain ⟨t, p, q⟩ := h
  obtain ⟨tl, pl, ql⟩ := hl
  obtain ⟨tu, pu, qu⟩ := hu
  refine ⟨_, pe_slice (sl_list.or (sl_tupA.or sl_str)) p pl pu, fun B Z σ ρ H Q S h => q B Z σ ρ H _ S (Post.bind h fun d ρ1 v Z1 H1 g1 S1 r1 h1 => ql B Z1 σ ρ1 H1 _ S1 (Post.bind h1 fun lo ρ2 lo' Z2 H2 g2 S2 r2 h2 => qu B Z2 σ ρ2 H2 _ S2 (Post.bind h2 fun hi ρ3 hi' Z3 H3 g3 S3 r3 h3 => ?_)))⟩
  cases (show lo' = lo from r2)
  cases (show hi' = hi from r3)
  have r4 := Rp.grow (g2.trans g3) r1
  unfold slD at h3
  split at h3
  · cases r4 with
    | lst z h4 r5 =>
      refine .inl ⟨_, _, rfl, .inl (.inl h4), fun p hp => ?_⟩
      obtain ⟨Z4, g4, S4, r6⟩ := S3.newL hp (r5.cut lo hi)
      exact h3 _ Z4 _ g4 S4 r6
  · cases r4 with
    | scr h4 r5 =>
      refine .inl ⟨_, _, rfl, h4.sq, fun p hp => ?_⟩
      obtain ⟨Z4, g4, S4, r6⟩ := S3.newL hp (r5.cut lo hi)
      exact h3 _ Z4 _ g4 S4 r6
  · rename_i ys
    cases r4 with
    | tup h4 r5 =>
      refine .inr (.inl ⟨_, _, rfl, h4.sq, fun hw => ?_, fun _ p hp => ?_⟩)
      · have e : cutD ys lo hi = ys := by
          unfold cutD
          rw [RpA.length r5] at hw
          rw [hw.1, hw.2, Nat.sub_zero, List.drop_zero, List.take_length]
        rw [e] at h3
        exact Post.ret h3 S3 (.tup h4 r5)
      · obtain ⟨Z4, g4, S4, r6⟩ := S3.newT hp (r5.cut lo hi)
        exact h3 _ Z4 _ g4 S4 r6
  · split at h3
    · rename_i hs
      cases r4
      exact .inr (.inr ⟨_, rfl, of_decide_eq_true hs, Post.ret h3 S3 (.str _)⟩)
    · exact h3.elim
  · exact h3.elim
/-! ### a, b = x, y -/
def parM (i j : Nat) (f : M (List D)) : M Fl := bind f fun ds => fun ρ => match ds with
  | [x, y] => .ok .nx ((ρ.set i (.d x)).set j (.d y))
  | _ => .bad
theorem sx_par (i j : Nat) {x y : Str} {px py pt pt2 : Pos} {kt k2 : Nat} (hN : X.N.Nodup) (h : Exs X cm W [a, b] fs) (hi : X.N[i]? = some x := by rfl) (hj : X.N[j]? = some y := by rfl) (hij : i ≠ j := by decide) (hx : X.env.scope.names.lookup x = some .local := by rfl) (hy : X.env.scope.names.lookup y = some .local := by rfl)
    (h1 : swappedStores [.Tuple [.Name x px, .Name y py] kt pt] (.Tuple [a, b] k2 pt2) X.env = pure (some [x, y]) := by rfl) (h2 : swapsWithSole [.Tuple [.Name x px, .Name y py] kt pt] (.Tuple [a, b] k2 pt2) pos.line X.env = pure false := by rfl) (hc : X.calm = true := by rfl) :
    Sx X cm W (.Assign [.Tuple [.Name x px, .Name y py] kt pt] (.Tuple [a, b] k2 pt2) pos) (parM i j fs) := by
  obtain ⟨t, p, q⟩ := h
  refine ⟨_, ps_par hc hN hi hj hij hx hy p h1 h2, fun B Z σ ρ H E S h => q B Z σ ρ H _ S (PostS.bind h fun ds ρ1 vs Z1 H1 g1 S1 r1 h1 => ?_)⟩
  split at h1
  · cases r1 with
    | cons r2 r3 =>
      cases r3 with
      | cons r4 r5 =>
        cases r5
        exact ⟨_, _, rfl, h1 Z1 _ H1 Grow.refl ((S1.set r2).set r4)⟩
  · exact h1.elim
/-! ### targets go well or not at all -/
def NX (g : D → M Unit) : Prop := ∀ d ρ, (∃ u ρ', g d ρ = .ok u ρ') ∨ g d ρ = .bad
def NXs (g : List D → M Unit) : Prop := ∀ d ρ, (∃ u ρ', g d ρ = .ok u ρ') ∨ g d ρ = .bad
theorem nx_name (i : Nat) : NX (tgtN i) := fun d ρ => .inl ⟨_, _, rfl⟩
theorem nxs_nil : NXs tgsNil := fun d ρ => by
  cases d with
  | nil => exact .inl ⟨_, _, rfl⟩
  | cons x xs => exact .inr rfl
theorem nxs_cons {g : D → M Unit} {gs : List D → M Unit} (h : NX g) (hs : NXs gs) : NXs (tgsCons g gs) := fun d ρ => by
  cases d with
  | nil => exact .inr rfl
  | cons x xs =>
    rcases h x ρ with ⟨u, ρ', e⟩ | e
    · rcases hs xs ρ' with ⟨u2, ρ2, e2⟩ | e2
      · exact .inl ⟨u2, ρ2, by show bind (g x) _ ρ = _; unfold De.bind; rw [e]; exact e2⟩
      · exact .inr (by show bind (g x) _ ρ = _; unfold De.bind; rw [e]; exact e2)
    · exact .inr (by show bind (g x) _ ρ = _; unfold De.bind; rw [e])
theorem nx_tup {n : Nat} {gs : List D → M Unit} (hs : NXs gs) : NX (tgtT n gs) := fun d ρ => by
  cases d with
  | tup xs =>
    by_cases h : xs.length = n
    · have e : tgtT n gs (.tup xs) = gs xs := if_pos h
      rw [e]
      exact hs xs ρ
    · have e : tgtT n gs (.tup xs) = bad := if_neg h
      rw [e]
      exact .inr rfl
  | lst xs =>
    by_cases h : xs.length = n
    · have e : tgtT n gs (.lst xs) = gs xs := if_pos h
      rw [e]
      exact hs xs ρ
    · have e : tgtT n gs (.lst xs) = bad := if_neg h
      rw [e]
      exact .inr rfl
  | _ => exact .inr rfl
end
theorem room65 {k : Nat} {A : Around} (hr : Room k A) : A.units + 65 < cLine := by
  have := hr.un
  omega
/-! ### the built-ins that the module leaves as they are -/
structure Blt (mg : Str → Option Value) : Prop where
  isinstance : mg "isinstance" = none
  int : mg "int" = none
  bool : mg "bool" = none
  str : mg "str" = none
  tuple : mg "tuple" = none
  list : mg "list" = none
  len : mg "len" = none
  range : mg "range" = none
  all : mg "all" = none
  any : mg "any" = none
  sum : mg "sum" = none
  repr : mg "repr" = none
  abs : mg "abs" = none
  enumerate : mg "enumerate" = none
/-- a def of the text under its own name -/
def FunE (K : Frag) (mg : Str → Option Value) (x : Str) (st : Stmt) : Prop := ∃ f fd, Fun K x x st f fd ∧ mg x = some (.ref f)
/-- a def that keeps its promise, under its name -/
def Own (P : Program) (w : World) (K : Frag) (mg : Str → Option Value) (base : Heap) (x : Str) (k : Nat) (ps : List Str) (sp : Sp) : Prop := ∃ f fd, mg x = some (.ref f) ∧ PySem.W.keepIn K (.ref f) = true ∧ L2.Binds K fd ps [] ∧ FnOk P w K mg base (L2.CX P w) k f fd ps sp
section
variable {P : Program} {w : World} {K : Frag} {mg : Str → Option Value} {base : Heap} {cm : Str → Option Addr} {x : Str} {st : Stmt} {N ps : List Str} {k : Nat} {g : M Fl}
theorem ownP (FF : List D → Fr D) (F : FunE K mg x st) (S : FnScope N ps (defScope st)) (hlen : ∀ ds, FF ds ≠ .bad → ds.length = ps.length)
    (hbind : ∀ (kV doc pm : Value) (an : Option Addr) (cdv ct : Value) (us : List Value), us.length = ps.length → bindArgs (PySem.W.fnOf x x (defArgs st) (defBody st) (defScope st) .none kV doc pm an cdv ct) ⟨us, []⟩ = pure (ps.zip us))
    (hbody : ∀ (f : Addr) (cdv : Value) (A : Around) (outer : List Env) (s : Shared) (H : Hp) (E : XK), Room k (A.deeper (envOfC x (defScope st) s.heap.objs.size f cdv)) → Sxs (Bx P w K mg base N x st f cdv A outer s H E) cm (WB E) (defBody st) g)
    (heq : ∀ ds, FF ds ≠ .bad → finP (g (startR N ds)) = FF ds) : Own P w K mg base x (k + 1) ps (spP K cm FF) := by
  obtain ⟨f, fd, F1, hm⟩ := F
  exact ⟨f, fd, hm, F1.kp, F1.binds hbind, fnP F1 S FF hlen (hbody f) heq⟩
theorem ownO (FF : List D → Option (List D)) (F : FunE K mg x st) (S : FnScope N ps (defScope st)) (hlen : ∀ ds, FF ds ≠ none → ds.length = ps.length)
    (hbind : ∀ (kV doc pm : Value) (an : Option Addr) (cdv ct : Value) (us : List Value), us.length = ps.length → bindArgs (PySem.W.fnOf x x (defArgs st) (defBody st) (defScope st) .none kV doc pm an cdv ct) ⟨us, []⟩ = pure (ps.zip us))
    (hbody : ∀ (f : Addr) (cdv : Value) (A : Around) (outer : List Env) (s : Shared) (H : Hp) (E : XK), Room k (A.deeper (envOfC x (defScope st) s.heap.objs.size f cdv)) → Sxs (Bx P w K mg base N x st f cdv A outer s H E) cm (WB E) (defBody st) g)
    (heq : ∀ ds, FF ds ≠ none → finO (g (startR N ds)) = FF ds) : Own P w K mg base x (k + 1) ps (spO K cm FF) := by
  obtain ⟨f, fd, F1, hm⟩ := F
  exact ⟨f, fd, hm, F1.kp, F1.binds hbind, fnO F1 S FF hlen (hbody f) heq⟩
theorem ownM (FF : List D → List D → Option (D × List D)) (F : FunE K mg x st) (S : FnScope N ps (defScope st)) (hlen : ∀ xs ds, FF xs ds ≠ none → ds.length + 1 = ps.length)
    (hbind : ∀ (kV doc pm : Value) (an : Option Addr) (cdv ct : Value) (us : List Value), us.length = ps.length → bindArgs (PySem.W.fnOf x x (defArgs st) (defBody st) (defScope st) .none kV doc pm an cdv ct) ⟨us, []⟩ = pure (ps.zip us))
    (hbody : ∀ (f : Addr) (cdv : Value) (A : Around) (outer : List Env) (s : Shared) (H : Hp) (E : XK), Room k (A.deeper (envOfC x (defScope st) s.heap.objs.size f cdv)) → Sxs (Bx P w K mg base N x st f cdv A outer s H E) cm (WB E) (defBody st) g)
    (heq : ∀ xs ds, FF xs ds ≠ none → finM (g (startH N xs ds)) = FF xs ds) : Own P w K mg base x (k + 1) ps (spM K cm FF) := by
  obtain ⟨f, fd, F1, hm⟩ := F
  exact ⟨f, fd, hm, F1.kp, F1.binds hbind, fnM F1 S FF hlen (hbody f) heq fun _ _ _ _ _ => True.intro⟩
theorem tkB {k' : Nat} {f : Addr} {cdv : Value} {A : Around} {outer : List Env} {s : Shared} {H : Hp} {E : XK} : Takes (Bx P w K mg base N x st f cdv A outer s H E) (WB E) := takes_of rfl rfl rfl rfl
theorem poB {f : Addr} {cdv : Value} {A : Around} {outer : List Env} {s : Shared} {H : Hp} {E : XK} : PassesOwn (model P w) (A.deeper (envOfC x (defScope st) s.heap.objs.size f cdv)) (envOfC x (defScope st) s.heap.objs.size f cdv) (Bx P w K mg base N x st f cdv A outer s H E).xe := passes_of (X := Bx P w K mg base N x st f cdv A outer s H E) rfl
end
section
variable {X : Cx} {cm : Str → Option Addr} {W : WX} {e : Expr} {es : List Expr} {fs : M (List D)} {x : Str} {p pos : Pos} {j k : Nat} {ps : List Str}
theorem ex_own {F : List D → Fr D} (O : Own X.prog X.w X.K X.mg X.base x j ps (spP X.K cm F)) (hr : Room k X.A) (hjk : j ≤ k) (tk : Takes X W) (ha : Exs X cm W (e :: es) fs) (hg : Gl X x := by rfl)
    (hdb : (x == ("__debug__" : Str)) = false := by decide) (he : starEach (e :: es) X.env = (false, eval e X.env) :: starEach es X.env := by rfl) (hpl : (backTo pos (starEach es X.env)).any (·.1) = false := by rfl) : Ex X cm W (.Call (.Name x p) (e :: es) [] pos) (bind fs (callF F)) := by
  obtain ⟨f, fd, hm, hk, hb, Fo⟩ := O
  exact ex_call Fo (hr.mono hjk) hm hk hb tk ha hg hdb he hpl
theorem ex_ownM {F : List D → List D → Option (D × List D)} {y : Str} {py : Pos} (i : Nat) (O : Own X.prog X.w X.K X.mg X.base x j ps (spM X.K cm F)) (hr : Room k X.A) (hjk : j ≤ k) (tk : Takes X W) (ha : Exs X cm W es fs)
    (hN : X.N[i]? = some y := by rfl) (hv : Vis X.env.scope y := by first | exact Or.inl rfl | exact Or.inr (Or.inl rfl) | exact Or.inr (Or.inr rfl)) (hg : Gl X x := by rfl)
    (hdb : (x == ("__debug__" : Str)) = false := by decide) (hd : (y == ("__debug__" : Str)) = false := by decide) (hcd : (y == ("__classdict__" : Str)) = false := by decide)
    (he : starEach (.Name y py :: es) X.env = (false, eval (.Name y py) X.env) :: starEach es X.env := by rfl) (hpl : (backTo pos (starEach es X.env)).any (·.1) = false := by rfl) : Ex X cm W (.Call (.Name x p) (.Name y py :: es) [] pos) (callMM F i fs) := by
  obtain ⟨f, fd, hm, hk, hb, Fo⟩ := O
  exact ex_callM i Fo (hr.mono hjk) hm hk hb tk ha hN hv hg hdb hd hcd he hpl
theorem lx_own {F : List D → Option (List D)} (O : Own X.prog X.w X.K X.mg X.base x j ps (spO X.K cm F)) (hr : Room k X.A) (hjk : j ≤ k) (tk : Takes X W) (ha : Exs X cm W (e :: es) fs) (hg : Gl X x := by rfl)
    (hdb : (x == ("__debug__" : Str)) = false := by decide) (he : starEach (e :: es) X.env = (false, eval e X.env) :: starEach es X.env := by rfl) (hpl : (backTo pos (starEach es X.env)).any (·.1) = false := by rfl) : Lx X cm W (.Call (.Name x p) (e :: es) [] pos) (bind fs (callO F)) := by
  obtain ⟨f, fd, hm, hk, hb, Fo⟩ := O
  exact lx_callO Fo (hr.mono hjk) hm hk hb tk ha hg hdb he hpl
end
end De

set_option Elab.async false
set_option linter.all false
set_option maxRecDepth 100000
set_option maxHeartbeats 2000000
namespace De
open PySem PySem.Spec PyProof.Rows L2
open PySem.W (Frag)
/-! ### what a def makes of its arguments -/
def mkP (n : Nat) (N : List PySem.Str) (g : M Fl) : List D → Fr D := fun ds => if ds.length = n then finP (g (startR N ds)) else .bad
def mkO (n : Nat) (N : List PySem.Str) (g : M Fl) : List D → Option (List D) := fun ds => if ds.length = n then finO (g (startR N ds)) else none
def mkM (n : Nat) (N : List PySem.Str) (g : M Fl) : List D → List D → Option (D × List D) := fun xs ds => if ds.length + 1 = n then finM (g (startH N xs ds)) else none
theorem mkP_len {n : Nat} {N : List PySem.Str} {g : M Fl} (ds : List D) (h : mkP n N g ds ≠ .bad) : ds.length = n := by
  by_cases e : ds.length = n
  · exact e
  · exact absurd (if_neg e) h
theorem mkO_len {n : Nat} {N : List PySem.Str} {g : M Fl} (ds : List D) (h : mkO n N g ds ≠ none) : ds.length = n := by
  by_cases e : ds.length = n
  · exact e
  · exact absurd (if_neg e) h
theorem mkM_len {n : Nat} {N : List PySem.Str} {g : M Fl} (xs ds : List D) (h : mkM n N g xs ds ≠ none) : ds.length + 1 = n := by
  by_cases e : ds.length + 1 = n
  · exact e
  · exact absurd (if_neg e) h
theorem mkP_eq {n : Nat} {N : List PySem.Str} {g : M Fl} (ds : List D) (h : mkP n N g ds ≠ .bad) : finP (g (startR N ds)) = mkP n N g ds := (if_pos (mkP_len ds h)).symm
theorem mkO_eq {n : Nat} {N : List PySem.Str} {g : M Fl} (ds : List D) (h : mkO n N g ds ≠ none) : finO (g (startR N ds)) = mkO n N g ds := (if_pos (mkO_len ds h)).symm
theorem mkM_eq {n : Nat} {N : List PySem.Str} {g : M Fl} (xs ds : List D) (h : mkM n N g xs ds ≠ none) : finM (g (startH N xs ds)) = mkM n N g xs ds := (if_pos (mkM_len xs ds h)).symm
/-! ### a list that is held by a name, read at a place -/
def hixM (i : Nat) (g : M D) : M D := fun ρ => match ρ[i]? with
  | some ev => (match lstOf ev with
    | some _ => bind g (fun k ρ => match k, ρ[i]? with
      | .int n, some ev => (match lstOf ev with
        | some xs => optD (L2.atI xs n) ρ
        | none => .bad)
      | _, _ => .bad) ρ
    | none => .bad)
  | none => .bad
section
variable {X : Cx} {cm : Str → Option Addr} {W : WX}
theorem ex_hix (i : Nat) {x : Str} {k : Expr} {fk : M D} {px pos : Pos} (hk : Ex X cm W k fk) (hN : X.N[i]? = some x := by rfl) (hv : Vis X.env.scope x := by first | exact Or.inl rfl | exact Or.inr (Or.inl rfl) | exact Or.inr (Or.inr rfl)) (hd : (x == ("__debug__" : Str)) = false := by decide)
    (hcd : (x == ("__classdict__" : Str)) = false := by decide) (hs : PlainIx k := by exact fun _ _ => rfl) : Ex X cm W (.Subscript (.Name x px) k pos) (hixM i fk) := by
  obtain ⟨tk, pk, qk⟩ := hk
  refine ⟨_, pe_ix or_ix (pe_var hN hv hd hcd) pk hs, fun B Z σ ρ H Q S h => ?_⟩
  unfold hixM at h
  split at h
  · rename_i ev e0
    split at h
    · rename_i xs0 l0
      obtain ⟨a, vs0, es0, ha0, nz0, r0, _⟩ := (S.sl i _ e0).lst l0
      refine ⟨.ref a, es0, qk B Z σ ρ H _ S (Post.bind h fun d ρ1 v Z1 H1 g1 S1 r1 h1 => ?_)⟩
      split at h1
      · rename_i n ev1 e1
        split at h1
        · rename_i xs1 l1
          obtain ⟨a1, vs1, es1, ha1, nz1, rr1, _⟩ := (S1.sl i _ e1).lst l1
          rw [es0] at es1
          cases es1
          cases r1
          obtain ⟨d', e', h1⟩ := Post.opt h1
          obtain ⟨w, e2, r2⟩ := rr1.atI e'
          exact .inl ⟨_, _, _, _, rfl, rfl, .inl (.inl ha1), e2, Post.ret h1 S1 r2⟩
        · exact h1.elim
      · exact h1.elim
    · exact h.elim
  · exact h.elim
end
end De

set_option Elab.async false
set_option linter.all false
set_option maxRecDepth 100000
set_option maxHeartbeats 2000000
namespace De
open PySem (Str sizeLine sizeLine_eq)
/-! ### running the plain functions: one step after the other, nothing ahead of its turn -/
theorem nr {α : Sort _} {a b : α} (h : a = b) : a = b := h
def andT {α β : Type} (r : Res α) (k : α → M β) : Res β := match r with
  | .ok a ρ => k a ρ
  | .ex c fs ρ => .ex c fs ρ
  | .bad => .bad
section
variable {α β : Type}
theorem andT_ok (a : α) (ρ : Rho) (k : α → M β) : andT (.ok a ρ) k = k a ρ := nr rfl
theorem andT_ex (c : Str) (fs : List (Str × D)) (ρ : Rho) (k : α → M β) : andT (.ex c fs ρ) k = .ex c fs ρ := nr rfl
theorem andT_bad (k : α → M β) : andT .bad k = .bad := nr rfl
theorem bind_ap (m : M α) (k : α → M β) (ρ : Rho) : De.bind m k ρ = andT (m ρ) k := by
  unfold De.bind andT
  cases m ρ <;> rfl
theorem ret_ap (a : α) (ρ : Rho) : De.ret a ρ = .ok a ρ := nr rfl
theorem bad_ap (ρ : Rho) : (De.bad : M α) ρ = .bad := nr rfl
/-- a choice -/
def andB (r : Res Bool) (f g : M α) : Res α := match r with
  | .ok true ρ => f ρ
  | .ok false ρ => g ρ
  | .ex c fs ρ => .ex c fs ρ
  | .bad => .bad
theorem andB_t (ρ : Rho) (f g : M α) : andB (.ok true ρ) f g = f ρ := nr rfl
theorem andB_f (ρ : Rho) (f g : M α) : andB (.ok false ρ) f g = g ρ := nr rfl
theorem andB_ok (b : Bool) (ρ : Rho) (f g : M α) : andB (.ok b ρ) f g = if b then f ρ else g ρ := by cases b <;> rfl
theorem andB_ex (c : Str) (fs : List (Str × D)) (ρ : Rho) (f g : M α) : andB (.ex c fs ρ) f g = .ex c fs ρ := nr rfl
theorem andB_bad (f g : M α) : andB .bad f g = .bad := nr rfl
theorem iteM_ap (t : M Bool) (f g : M α) (ρ : Rho) : iteM t f g ρ = andB (t ρ) f g := by
  unfold iteM De.bind andB
  cases t ρ with
  | ok b ρ' => cases b <;> rfl
  | _ => rfl
end
theorem iteF_ap (t : M Bool) (f g : M Fl) (ρ : Rho) : De.iteF t f g ρ = andB (t ρ) f g := by
  unfold De.iteF De.bind andB
  cases t ρ with
  | ok b ρ' => cases b <;> rfl
  | _ => rfl
theorem andM_ap (f g : M Bool) (ρ : Rho) : De.andM f g ρ = andB (f ρ) g (De.ret false) := by
  unfold De.andM De.bind andB
  cases f ρ with
  | ok b ρ' => cases b <;> rfl
  | _ => rfl
theorem orM_ap (f g : M Bool) (ρ : Rho) : De.orM f g ρ = andB (f ρ) (De.ret true) g := by
  unfold De.orM De.bind andB
  cases f ρ with
  | ok b ρ' => cases b <;> rfl
  | _ => rfl
theorem notM_ap (f : M Bool) (ρ : Rho) : De.notM f ρ = andT (f ρ) fun b => De.ret (!b) := bind_ap _ _ _
/-- what a datum says as a truth -/
def blR (d : D) : M Bool := match d with
  | .bl b => De.ret b
  | _ => De.bad
theorem blR_bl (b : Bool) (ρ : Rho) : blR (.bl b) ρ = .ok b ρ := nr rfl
theorem blM_ap (f : M D) (ρ : Rho) : blM f ρ = andT (f ρ) blR := bind_ap _ _ _
def andR (d : D) (g : M D) : M D := match d with
  | .bl true => g
  | .bl false => De.ret (.bl false)
  | _ => De.bad
theorem andR_bl (b : Bool) (g : M D) (ρ : Rho) : andR (.bl b) g ρ = andB (.ok b ρ) g (De.ret (.bl false)) := by cases b <;> rfl
theorem andV_ap (f g : M D) (ρ : Rho) : andV f g ρ = andT (f ρ) fun d => andR d g := bind_ap _ _ _
def orR (d : D) (g : M D) : M D := match d with
  | .bl true => De.ret (.bl true)
  | .bl false => g
  | _ => De.bad
theorem orR_bl (b : Bool) (g : M D) (ρ : Rho) : orR (.bl b) g ρ = andB (.ok b ρ) (De.ret (.bl true)) g := by cases b <;> rfl
theorem orV_ap (f g : M D) (ρ : Rho) : orV f g ρ = andT (f ρ) fun d => orR d g := bind_ap _ _ _
def notR (d : D) : M D := match d with
  | .bl k => De.ret (.bl (!k))
  | _ => De.bad
theorem notR_bl (b : Bool) (ρ : Rho) : notR (.bl b) ρ = .ok (.bl (!b)) ρ := nr rfl
theorem notV_ap (f : M D) (ρ : Rho) : notV f ρ = andT (f ρ) notR := bind_ap _ _ _
theorem bin_ap (g : D → D → M D) (fa fb : M D) (ρ : Rho) : De.bin g fa fb ρ = andT (fa ρ) fun x => De.bind fb fun y => g x y := bind_ap _ _ _
theorem un_ap (g : D → M D) (fa : M D) (ρ : Rho) : De.un g fa ρ = andT (fa ρ) g := bind_ap _ _ _
def chR (d : D) (g' : D → D → M D) (y : D) (fc : M D) : M D := match d with
  | .bl true => De.bind fc fun z => g' y z
  | .bl false => De.ret (.bl false)
  | _ => De.bad
theorem chR_bl (b : Bool) (g' : D → D → M D) (y : D) (fc : M D) (ρ : Rho) : chR (.bl b) g' y fc ρ = andB (.ok b ρ) (De.bind fc fun z => g' y z) (De.ret (.bl false)) := by cases b <;> rfl
theorem chain_ap (g g' : D → D → M D) (fa fb fc : M D) (ρ : Rho) : De.chain g g' fa fb fc ρ = andT (fa ρ) fun x => De.bind fb fun y => De.bind (g x y) fun k => chR k g' y fc := bind_ap _ _ _
theorem consM_ap (f : M D) (g : M (List D)) (ρ : Rho) : consM f g ρ = andT (f ρ) fun d => De.bind g fun ds => De.ret (d :: ds) := bind_ap _ _ _
def smallT (ds : List D) : M D := fun ρ => if small ds.length then .ok (.tup ds) ρ else .bad
def smallL (ds : List D) : M D := fun ρ => if small ds.length then .ok (.lst ds) ρ else .bad
theorem tupM_ap (f : M (List D)) (ρ : Rho) : tupM f ρ = andT (f ρ) smallT := by
  show De.bind f _ ρ = _
  rw [bind_ap]
  congr 1
  funext ds ρ
  unfold smallT
  by_cases h : small ds.length = true <;> simp [h, De.ret, De.bad]
theorem lstM_ap (f : M (List D)) (ρ : Rho) : lstM f ρ = andT (f ρ) smallL := by
  show De.bind f _ ρ = _
  rw [bind_ap]
  congr 1
  funext ds ρ
  unfold smallL
  by_cases h : small ds.length = true <;> simp [h, De.ret, De.bad]
theorem small_ok {n : Nat} (h : n ≤ 16777216) : small n = true := by
  unfold small
  rw [sizeLine_eq]
  exact decide_eq_true h
theorem smallT_ap (ds : List D) (ρ : Rho) (h : ds.length ≤ 16777216) : smallT ds ρ = .ok (.tup ds) ρ := if_pos (small_ok h)
theorem smallL_ap (ds : List D) (ρ : Rho) (h : ds.length ≤ 16777216) : smallL ds ρ = .ok (.lst ds) ρ := if_pos (small_ok h)
/-! statements -/
def seqK (r : Res Fl) (g : M Fl) : Res Fl := match r with
  | .ok .nx ρ => g ρ
  | .ok fl ρ => .ok fl ρ
  | .ex c fs ρ => .ex c fs ρ
  | .bad => .bad
theorem seqK_nx (ρ : Rho) (g : M Fl) : seqK (.ok .nx ρ) g = g ρ := nr rfl
theorem seqK_rt (d : D) (ρ : Rho) (g : M Fl) : seqK (.ok (.rt d) ρ) g = .ok (.rt d) ρ := nr rfl
theorem seqK_rtl (d : List D) (ρ : Rho) (g : M Fl) : seqK (.ok (.rtl d) ρ) g = .ok (.rtl d) ρ := nr rfl
theorem seqK_bk (ρ : Rho) (g : M Fl) : seqK (.ok .bk ρ) g = .ok .bk ρ := nr rfl
theorem seqK_ct (ρ : Rho) (g : M Fl) : seqK (.ok .ct ρ) g = .ok .ct ρ := nr rfl
theorem seqK_ex (c : Str) (fs : List (Str × D)) (ρ : Rho) (g : M Fl) : seqK (.ex c fs ρ) g = .ex c fs ρ := nr rfl
theorem seqK_bad (g : M Fl) : seqK .bad g = .bad := nr rfl
theorem seqM_ap (f g : M Fl) (ρ : Rho) : seqM f g ρ = seqK (f ρ) g := by
  show De.bind f _ ρ = _
  unfold De.bind seqK
  cases f ρ with
  | ok fl ρ' => cases fl <;> rfl
  | _ => rfl
theorem retM_ap (f : M D) (ρ : Rho) : retM f ρ = andT (f ρ) fun d => De.ret (.rt d) := bind_ap _ _ _
theorem dropM_ap (f : M D) (ρ : Rho) : dropM f ρ = andT (f ρ) fun _ => De.ret .nx := bind_ap _ _ _
theorem put_ap (i : Nat) (e : EV) (ρ : Rho) : put i e ρ = .ok .nx (ρ.set i e) := nr rfl
theorem setM_ap (i : Nat) (f : M D) (ρ : Rho) : setM i f ρ = andT (f ρ) fun d => put i (.d d) := bind_ap _ _ _
theorem setC_ap (i : Nat) (f : M (List D)) (ρ : Rho) : setC i f ρ = andT (f ρ) fun d => put i (.m d) := bind_ap _ _ _
def smallS (i : Nat) (ds : List D) : M Fl := fun ρ => if small ds.length then .ok .nx (ρ.set i (.m ds)) else .bad
theorem smallS_ap (i : Nat) (ds : List D) (ρ : Rho) (h : ds.length ≤ 16777216) : smallS i ds ρ = .ok .nx (ρ.set i (.m ds)) := if_pos (small_ok h)
theorem setL_ap (i : Nat) (f : M (List D)) (ρ : Rho) : setL i f ρ = andT (f ρ) (smallS i) := by
  show De.bind f _ ρ = _
  rw [bind_ap]
  congr 1
  funext ds ρ
  unfold smallS
  by_cases h : small ds.length = true <;> simp [h, put, De.bad]
def smallR (ds : List D) : M Fl := fun ρ => if small ds.length then .ok (.rtl ds) ρ else .bad
theorem smallR_ap (ds : List D) (ρ : Rho) (h : ds.length ≤ 16777216) : smallR ds ρ = .ok (.rtl ds) ρ := if_pos (small_ok h)
theorem retL_ap (f : M (List D)) (ρ : Rho) : retL f ρ = andT (f ρ) smallR := by
  show De.bind f _ ρ = _
  rw [bind_ap]
  congr 1
  funext ds ρ
  unfold smallR
  by_cases h : small ds.length = true <;> simp [h, De.ret, De.bad]
theorem unpM_ap (g : D → M Unit) (f : M D) (ρ : Rho) : unpM g f ρ = andT (f ρ) fun d => De.bind (g d) fun _ => De.ret .nx := bind_ap _ _ _
theorem lstD_ap (f : M (List D)) (ρ : Rho) : lstD f ρ = andT (f ρ) fun ds => De.ret (.lst ds) := bind_ap _ _ _
theorem isiM_ap (T : String) (f : M D) (ρ : Rho) : isiM T f ρ = andT (f ρ) fun d => optM (isiO T d) := bind_ap _ _ _
theorem isi2M_ap (T U : String) (f : M D) (ρ : Rho) : isi2M T U f ρ = andT (f ρ) fun d => optM (isi2O T U d) := bind_ap _ _ _
theorem optM_some (b : Bool) (ρ : Rho) : optM (some b) ρ = .ok (.bl b) ρ := nr rfl
theorem optD_some (d : D) (ρ : Rho) : optD (some d) ρ = .ok d ρ := nr rfl
/-! own defs -/
def resF (r : Fr D) (ρ : Rho) : Res D := match r with
  | .ok r => .ok r ρ
  | .ex c fs => .ex c fs ρ
  | .bad => .bad
theorem resF_ok (d : D) (ρ : Rho) : resF (.ok d) ρ = .ok d ρ := nr rfl
theorem resF_ex (c : Str) (fs : List (Str × D)) (ρ : Rho) : resF (.ex c fs) ρ = .ex c fs ρ := nr rfl
theorem callF_ap (F : List D → Fr D) (ds : List D) (ρ : Rho) : callF F ds ρ = resF (F ds) ρ := by
  unfold callF resF
  cases F ds <;> rfl
/-! loops -/
def forK (r : Res Fl) (k : M Fl) : Res Fl := match r with
  | .ok .nx ρ => k ρ
  | .ok .ct ρ => k ρ
  | .ok .bk ρ => .ok .nx ρ
  | .ok (.rt d) ρ => .ok (.rt d) ρ
  | .ok (.rtl d) ρ => .ok (.rtl d) ρ
  | .ex c fs ρ => .ex c fs ρ
  | .bad => .bad
theorem forK_nx (ρ : Rho) (g : M Fl) : forK (.ok .nx ρ) g = g ρ := nr rfl
theorem forK_ct (ρ : Rho) (g : M Fl) : forK (.ok .ct ρ) g = g ρ := nr rfl
theorem forK_bk (ρ : Rho) (g : M Fl) : forK (.ok .bk ρ) g = .ok .nx ρ := nr rfl
theorem forK_rt (d : D) (ρ : Rho) (g : M Fl) : forK (.ok (.rt d) ρ) g = .ok (.rt d) ρ := nr rfl
theorem forK_ex (c : Str) (fs : List (Str × D)) (ρ : Rho) (g : M Fl) : forK (.ex c fs ρ) g = .ex c fs ρ := nr rfl
theorem forM_nil (g : D → M Unit) (body : M Fl) (ρ : Rho) : forM g body [] ρ = .ok .nx ρ := nr rfl
theorem forM_cons (g : D → M Unit) (body : M Fl) (d : D) (ds : List D) (ρ : Rho) : forM g body (d :: ds) ρ = forK (De.bind (g d) (fun _ => body) ρ) (forM g body ds) := by
  rw [forM]
  unfold De.bind forK
  cases g d ρ with
  | ok u ρ1 =>
    cases hb : body ρ1 with
    | ok fl ρ2 => cases fl <;> simp [hb, De.ret]
    | _ => simp [hb]
  | _ => rfl
theorem forS_ap (it : M (List D)) (g : D → M Unit) (body : M Fl) (ρ : Rho) : forS it g body ρ = andT (it ρ) (forM g body) := bind_ap _ _ _
/-- a loop that goes through with every turn -/
theorem forM_inv {g : D → M Unit} {body : M Fl} (I : Rho → Prop) (P : D → Prop) (step : ∀ d ρ, P d → I ρ → ∃ ρ', De.bind (g d) (fun _ => body) ρ = .ok .nx ρ' ∧ I ρ') :
    ∀ (xs : List D) (ρ : Rho), (∀ d ∈ xs, P d) → I ρ → ∃ ρ', forM g body xs ρ = .ok .nx ρ' ∧ I ρ'
  | [], ρ, _, h => ⟨ρ, rfl, h⟩
  | d :: ds, ρ, hp, h => by
    obtain ⟨ρ1, e1, h1⟩ := step d ρ (hp d List.mem_cons_self) h
    obtain ⟨ρ2, e2, h2⟩ := forM_inv I P step ds ρ1 (fun x hx => hp x (List.mem_cons_of_mem _ hx)) h1
    exact ⟨ρ2, by rw [forM_cons, e1, forK_nx, e2], h2⟩
theorem wipeM_ap (own : List Nat) (ρ : Rho) : wipeM own ρ = .ok () (wipeR ρ own) := nr rfl
theorem tgtN_ap (i : Nat) (d : D) (ρ : Rho) : tgtN i d ρ = .ok () (ρ.set i (.d d)) := nr rfl
theorem noEx_ok {α : Type} {m : M α} {ρ ρ' : Rho} {a : α} (h : m ρ = .ok a ρ') : noEx m ρ = .ok a ρ' := by
  unfold noEx
  rw [h]
theorem lcLoop_nil (own : List Nat) (g : D → M Unit) (t : M Bool) (f : M D) (ρ : Rho) : lcLoop own g t f [] ρ = .ok [] (wipeR ρ own) := nr rfl
theorem lcLoop_cons (own : List Nat) (g : D → M Unit) (t : M Bool) (f : M D) (x : D) (xs : List D) (ρ : Rho) : lcLoop own g t f (x :: xs) ρ = andT (g x (wipeR ρ own)) fun _ => De.bind (noEx t) fun b => if b then De.bind (noEx f) fun y => De.bind (lcLoop own g t f xs) fun ys => De.ret (y :: ys) else lcLoop own g t f xs := by
  rw [lcLoop, bind_ap, wipeM_ap, andT_ok, bind_ap]
/-- a comprehension over one name whose every turn goes well and changes nothing -/
theorem lc_filter {i : Nat} {t : M Bool} {p : D → Bool} {f : M D} {h : D → D} {ρ : Rho} : ∀ (xs : List D) (e : EV), (∀ x ∈ xs, t (ρ.set i (.d x)) = .ok (p x) (ρ.set i (.d x))) → (∀ x ∈ xs, f (ρ.set i (.d x)) = .ok (h x) (ρ.set i (.d x))) →
    lcLoop [i] (tgtN i) t f xs (ρ.set i e) = .ok ((xs.filter p).map h) (ρ.set i .u)
  | [], e, _, _ => by
    rw [lcLoop_nil]
    simp [wipeR]
  | x :: xs, e, ht, hf => by
    have ih := lc_filter xs (.d x) (fun y hy => ht y (List.mem_cons_of_mem _ hy)) (fun y hy => hf y (List.mem_cons_of_mem _ hy))
    have e1 : wipeR (ρ.set i e) [i] = ρ.set i .u := by simp [wipeR]
    rw [lcLoop_cons, e1, tgtN_ap, andT_ok, List.set_set, bind_ap, noEx_ok (ht x List.mem_cons_self), andT_ok]
    cases hp : p x with
    | true => rw [if_pos rfl, bind_ap, noEx_ok (hf x List.mem_cons_self), andT_ok, bind_ap, ih, andT_ok, ret_ap, List.filter_cons, if_pos hp, List.map_cons]
    | false => rw [if_neg Bool.false_ne_true, ih, List.filter_cons, if_neg (by rw [hp]; exact Bool.false_ne_true)]
theorem lc_pure {i : Nat} {f : M D} {h : D → D} {ρ : Rho} (xs : List D) (e : EV) (hf : ∀ x ∈ xs, f (ρ.set i (.d x)) = .ok (h x) (ρ.set i (.d x))) : lcLoop [i] (tgtN i) (De.ret true) f xs (ρ.set i e) = .ok (xs.map h) (ρ.set i .u) := by
  rw [lc_filter (t := De.ret true) (p := fun _ => true) xs e (fun _ _ => rfl) hf]
  congr 2
  exact List.filter_eq_self.2 fun _ _ => rfl
def smallC (own : List Nat) (g : D → M Unit) (t : M Bool) (f : M D) (xs : List D) : M (List D) := fun ρ => if small xs.length then lcLoop own g t f xs ρ else .bad
theorem smallC_ap (own : List Nat) (g : D → M Unit) (t : M Bool) (f : M D) (xs : List D) (ρ : Rho) (h : xs.length ≤ 16777216) : smallC own g t f xs ρ = lcLoop own g t f xs ρ := if_pos (small_ok h)
theorem lcM_ap (own : List Nat) (it : M (List D)) (g : D → M Unit) (t : M Bool) (f : M D) (ρ : Rho) : lcM own it g t f ρ = andT (it ρ) (smallC own g t f) := by
  show De.bind it _ ρ = _
  rw [bind_ap]
  congr 1
  funext ds ρ
  unfold smallC
  by_cases h : small ds.length = true <;> simp [h, De.bad]
/-! try, append, lists that are held -/
def noExK {α : Type} (r : Res α) : Res α := match r with
  | .ok a ρ => .ok a ρ
  | _ => .bad
theorem noExK_ok {α : Type} (a : α) (ρ : Rho) : noExK (.ok a ρ) = .ok a ρ := nr rfl
def tryK (r : Res Fl) (catches : Str → Bool) (gs : M Fl) : Res Fl := match r with
  | .ex c fs ρ' => if catches c then noEx gs ρ' else .ex c fs ρ'
  | r => r
theorem tryM_ap (c : Str → Bool) (gb gs : M Fl) (ρ : Rho) : tryM c gb gs ρ = tryK (gb ρ) c gs := by
  unfold tryM tryK
  cases gb ρ <;> rfl
theorem tryK_ok (fl : Fl) (ρ : Rho) (c : Str → Bool) (g : M Fl) : tryK (.ok fl ρ) c g = .ok fl ρ := nr rfl
theorem tryK_ex (x : Str) (fs : List (Str × D)) (ρ : Rho) (c : Str → Bool) (g : M Fl) (h : c x = true) : tryK (.ex x fs ρ) c g = noExK (g ρ) := by
  show (if c x = true then noEx g ρ else .ex x fs ρ) = _
  rw [if_pos h]
  unfold noEx noExK
  cases g ρ <;> rfl
theorem raiseM_ap (c : Str) (ρ : Rho) : raiseM c ρ = .ex c [] ρ := nr rfl
def appKK (e : Option EV) (i : Nat) (d : D) : M Fl := fun ρ => match e with
  | some (.m xs) => if decide (xs.length < sizeLine) then .ok .nx (ρ.set i (.m (xs ++ [d]))) else .bad
  | _ => .bad
theorem appKK_m (xs : List D) (i : Nat) (d : D) (ρ : Rho) (h : xs.length < 16777216) : appKK (some (.m xs)) i d ρ = .ok .nx (ρ.set i (.m (xs ++ [d]))) := by
  unfold appKK
  have e : xs.length < sizeLine := by rw [sizeLine_eq]; exact h
  exact if_pos (decide_eq_true e)
def appK (i : Nat) (d : D) : M Fl := fun ρ => appKK ρ[i]? i d ρ
theorem appK_ap (i : Nat) (d : D) (ρ : Rho) : appK i d ρ = appKK ρ[i]? i d ρ := nr rfl
def apps (e : Option EV) (f : M D) (i : Nat) : M Fl := match e with
  | some (.m _) => De.bind f (appK i)
  | _ => De.bad
theorem apps_m (xs : List D) (f : M D) (i : Nat) (ρ : Rho) : apps (some (.m xs)) f i ρ = andT (f ρ) (appK i) := bind_ap _ _ _
theorem appM_ap (i : Nat) (f : M D) (ρ : Rho) : appM i f ρ = apps ρ[i]? f i ρ := by
  unfold appM
  split <;> rename_i h
  · rw [h]
    exact congrFun (congrArg (De.bind f) (funext fun d => funext fun ρ => rfl)) ρ
  · cases e : ρ[i]? with
    | none => rfl
    | some ev =>
      cases ev with
      | m xs => exact absurd e (h xs)
      | _ => rfl
/-! defs that change a list -/
def resM (o : Option (D × List D)) (c : List D → EV) (i : Nat) : M D := fun ρ => match o with
  | some (r, ys) => .ok r (ρ.set i (c ys))
  | none => .bad
theorem resM_some (r : D) (ys : List D) (c : List D → EV) (i : Nat) (ρ : Rho) : resM (some (r, ys)) c i ρ = .ok r (ρ.set i (c ys)) := nr rfl
def cmK (e : Option EV) (F : List D → List D → Option (D × List D)) (i : Nat) (ds : List D) : M D := match e with
  | some (.m xs) => resM (F xs ds) .m i
  | some (.h xs) => resM (F xs ds) .h i
  | _ => De.bad
theorem cmK_m (xs : List D) (F : List D → List D → Option (D × List D)) (i : Nat) (ds : List D) (ρ : Rho) : cmK (some (.m xs)) F i ds ρ = resM (F xs ds) .m i ρ := nr rfl
theorem cmK_h (xs : List D) (F : List D → List D → Option (D × List D)) (i : Nat) (ds : List D) (ρ : Rho) : cmK (some (.h xs)) F i ds ρ = resM (F xs ds) .h i ρ := nr rfl
theorem callM_ap (F : List D → List D → Option (D × List D)) (i : Nat) (ds : List D) (ρ : Rho) : callM F i ds ρ = cmK ρ[i]? F i ds ρ := by
  unfold callM
  cases ρ[i]? with
  | none => rfl
  | some ev => cases ev <;> rfl
def mmK (e : Option EV) (F : List D → List D → Option (D × List D)) (i : Nat) (fs : M (List D)) : M D := match e with
  | some (.m _) => De.bind fs (callM F i)
  | some (.h _) => De.bind fs (callM F i)
  | _ => De.bad
theorem mmK_m (xs : List D) (F : List D → List D → Option (D × List D)) (i : Nat) (fs : M (List D)) (ρ : Rho) : mmK (some (.m xs)) F i fs ρ = andT (fs ρ) (callM F i) := bind_ap _ _ _
theorem mmK_h (xs : List D) (F : List D → List D → Option (D × List D)) (i : Nat) (fs : M (List D)) (ρ : Rho) : mmK (some (.h xs)) F i fs ρ = andT (fs ρ) (callM F i) := bind_ap _ _ _
theorem callMM_ap (F : List D → List D → Option (D × List D)) (i : Nat) (fs : M (List D)) (ρ : Rho) : callMM F i fs ρ = mmK ρ[i]? F i fs ρ := by
  unfold callMM mmK
  cases ρ[i]? with
  | none => rfl
  | some ev => cases ev <;> rfl
def resO (o : Option (List D)) : M (List D) := fun ρ => match o with
  | some ys => .ok ys ρ
  | none => .bad
theorem resO_some (ys : List D) (ρ : Rho) : resO (some ys) ρ = .ok ys ρ := nr rfl
theorem callO_ap (F : List D → Option (List D)) (ds : List D) (ρ : Rho) : callO F ds ρ = resO (F ds) ρ := by
  unfold callO resO
  cases F ds <;> rfl
/-! slices -/
theorem slM_ap (f : M D) (l u : M (Option Int)) (ρ : Rho) : slM f l u ρ = andT (f ρ) fun d => De.bind l fun lo => De.bind u fun hi => slD d lo hi := bind_ap _ _ _
def intK (d : D) : M (Option Int) := match d with
  | .int i => De.ret (some i)
  | _ => De.bad
theorem intK_int (i : Int) (ρ : Rho) : intK (.int i) ρ = .ok (some i) ρ := nr rfl
theorem intO_ap (f : M D) (ρ : Rho) : intO f ρ = andT (f ρ) intK := bind_ap _ _ _
/-- what stands at a place of a list -/
theorem mem_ix {P : D → Prop} {L : List D} (hL : ∀ d ∈ L, P d) {v : Nat} (h : v < L.length) : ∃ d, P d ∧ ∀ ρ, De.ixD (.lst L) (.int (v : Int)) ρ = .ok d ρ := by
  refine ⟨L[v], hL _ (List.getElem_mem h), fun ρ => ?_⟩
  have e : L2.atI L (v : Int) = some L[v] := by
    unfold L2.atI L2.ixN
    rw [if_pos (Int.natCast_nonneg v), if_pos (by omega)]
    show L[((v : Int)).toNat]? = _
    rw [Int.toNat_natCast, List.getElem?_eq_getElem h]
  show optD (L2.atI L (v : Int)) ρ = _
  rw [e]
  rfl
/-! texts -/
/-- the small letters -/
def abc : List Nat := ("abcdefghijklmnopqrstuvwxyz" : Str).cps.toList
theorem ofString_inj {a b : String} (h : Str.ofString a = Str.ofString b) : a = b := by
  have e : (Str.ofString a).cps.toList = (Str.ofString b).cps.toList := by rw [h]
  rw [PyProof.Rows.signs_ofString, PyProof.Rows.signs_ofString] at e
  refine String.toList_injective (List.map_inj_right (fun x y h => ?_) |>.1 e)
  exact Char.toNat_inj.1 h
theorem sbeq (a b : String) : (Str.ofString a == Str.ofString b) = decide (a = b) := by
  by_cases h : a = b
  · subst h; simp
  · have : Str.ofString a ≠ Str.ofString b := fun e => h (ofString_inj e)
    simp [h, this]
theorem strOk_of (s : String) : PySem.PyData.strOk (Str.ofString s) = true := by
  unfold PySem.PyData.strOk
  rw [← Array.all_toList, PyProof.Rows.signs_ofString, List.all_eq_true]
  intro c hc
  obtain ⟨x, _, rfl⟩ := List.mem_map.1 hc
  refine decide_eq_true ?_
  have h := x.valid
  have e : x.toNat = x.val.toNat := rfl
  rcases h with h | h <;> omega
theorem atI_cast {α : Type} (xs : List α) (n : Nat) : L2.atI xs (n : Int) = xs[n]? := by
  unfold L2.atI L2.ixN
  rw [if_pos (Int.natCast_nonneg n)]
  by_cases h : n < xs.length
  · rw [if_pos (by omega)]
    rfl
  · rw [if_neg (by omega), List.getElem?_eq_none (by omega)]
    rfl
theorem hixM_ap (i k : Nat) (ρ : Rho) (ev : EV) (xs : List D) (h : ρ[i]? = some ev) (hl : lstOf ev = some xs) : hixM i (De.ret (.int (k : Int))) ρ = optD xs[k]? ρ := by
  unfold hixM
  rw [h]
  simp only [hl, De.bind, De.ret, h, atI_cast]
theorem setIx_ap (i k : Nat) (f : M D) (ρ : Rho) : setIx i f (De.ret (.int (k : Int))) ρ = andT (f ρ) fun d ρ => match ρ[i]? with
    | some ev => (match lstOf ev with
      | some xs => if k < xs.length then .ok .nx (ρ.set i (lstTo ev (xs.set k d))) else .bad
      | none => .bad)
    | none => .bad := by
  unfold setIx
  rw [bind_ap]
  congr 1
  funext d ρ
  cases h : ρ[i]? with
  | none => rfl
  | some ev =>
    simp only
    cases hl : lstOf ev with
    | none => rfl
    | some xs =>
      simp only [De.bind, De.ret, h, hl, L2.ixN]
      rw [if_pos (Int.natCast_nonneg k)]
      by_cases hk : k < xs.length
      · rw [if_pos (by omega), if_pos hk]
        rfl
      · rw [if_neg (by omega), if_neg hk]
theorem subD_ap (i j : Int) (ρ : Rho) : De.subD (D.int i) (D.int j) ρ = .ok (D.int (i - j)) ρ := nr rfl
theorem ltD_ap (i j : Int) (ρ : Rho) : De.ltD (D.int i) (D.int j) ρ = .ok (D.bl (decide (i < j))) ρ := nr rfl
theorem leD_ap (i j : Int) (ρ : Rho) : De.leD (D.int i) (D.int j) ρ = .ok (D.bl (decide (i ≤ j))) ρ := nr rfl
theorem gtD_ap (i j : Int) (ρ : Rho) : De.gtD (D.int i) (D.int j) ρ = .ok (D.bl (decide (j < i))) ρ := nr rfl
theorem geD_ap (i j : Int) (ρ : Rho) : De.geD (D.int i) (D.int j) ρ = .ok (D.bl (decide (j ≤ i))) ρ := nr rfl
theorem modD_ap (i j : Int) (ρ : Rho) (h : 0 < j) : De.modD (D.int i) (D.int j) ρ = .ok (D.int (i % j)) ρ := by
  show (if 0 < j then De.ret (D.int (i % j)) else De.bad) ρ = _
  rw [if_pos h]
  rfl
theorem fdivD_ap (i j : Int) (ρ : Rho) (h : 0 < j) (h2 : j.natAbs.log2 < 9000) : De.fdivD (D.int i) (D.int j) ρ = .ok (D.int (i / j)) ρ := by
  show (if 0 < j ∧ j.natAbs.log2 < 9000 then De.ret (D.int (i / j)) else De.bad) ρ = _
  rw [if_pos ⟨h, h2⟩]
  rfl
theorem powD_ap (i j : Int) (ρ : Rho) (h : 0 ≤ j) (h2 : j ≤ 1000) (h3 : i.natAbs < 1000) : De.powD (D.int i) (D.int j) ρ = .ok (D.int (i ^ j.toNat)) ρ := by
  show (if 0 ≤ j ∧ j ≤ 1000 ∧ i.natAbs < 1000 then De.ret (D.int (i ^ j.toNat)) else De.bad) ρ = _
  rw [if_pos ⟨h, h2, h3⟩]
  rfl
theorem addL_ap (a b : List D) (ρ : Rho) (h : a.length + b.length ≤ 16777216) : addD (D.lst a) (D.lst b) ρ = .ok (.lst (a ++ b)) ρ := by
  show (if small (a.length + b.length) then De.ret (D.lst (a ++ b)) else De.bad) ρ = _
  rw [small_ok h]
  rfl
theorem addI_ap (a b : Int) (ρ : Rho) : addD (D.int a) (D.int b) ρ = .ok (.int (a + b)) ρ := nr rfl
theorem addS_ap (a b : Str) (ρ : Rho) (h : a.length + b.length ≤ 16777216) : addD (D.str a) (D.str b) ρ = .ok (.str (a ++ b)) ρ := by
  show (if small (a.length + b.length) then De.ret (D.str (a ++ b)) else De.bad) ρ = _
  rw [small_ok h]
  rfl
theorem slS_ap (a : Str) (lo hi : Option Int) (ρ : Rho) (h : a.length ≤ 16777216) : slD (D.str a) lo hi ρ = .ok (.str (L2.cutS a lo hi)) ρ := by
  show (if small a.length then De.ret (D.str (L2.cutS a lo hi)) else De.bad) ρ = _
  rw [small_ok h]
  rfl
theorem mulI_ap (a b : Int) (ρ : Rho) (h : in64 a = true) : mulD (D.int a) (D.int b) ρ = .ok (.int (a * b)) ρ := by
  show (if in64 a || in64 b then De.ret (D.int (a * b)) else De.bad) ρ = _
  rw [h]
  rfl
theorem mulR_ap (a b : Int) (ρ : Rho) (h : in64 b = true) : mulD (D.int a) (D.int b) ρ = .ok (.int (a * b)) ρ := by
  show (if in64 a || in64 b then De.ret (D.int (a * b)) else De.bad) ρ = _
  rw [h, Bool.or_true]
  rfl
theorem cutS_len (a : Str) (lo hi : Option Int) : (L2.cutS a lo hi).length ≤ a.length := by
  unfold L2.cutS
  show (List.take _ _).toArray.size ≤ _
  rw [List.size_toArray, List.length_take, List.length_drop]
  have : a.cps.toList.length = a.length := rfl
  omega
/-! readings, one by one -/
def rdK (e : Option EV) (i : Nat) (ρ : Rho) : Res D := match e with
  | some (.d x) => .ok x ρ
  | some (.m xs) => .ok (.lst xs) (ρ.set i (.d (.lst xs)))
  | _ => .bad
theorem rd_ap (i : Nat) (ρ : Rho) : rd i ρ = rdK ρ[i]? i ρ := nr rfl
theorem rdK_d (x : D) (i : Nat) (ρ : Rho) : rdK (some (.d x)) i ρ = .ok x ρ := nr rfl
theorem rdK_m (xs : List D) (i : Nat) (ρ : Rho) : rdK (some (.m xs)) i ρ = .ok (.lst xs) (ρ.set i (.d (.lst xs))) := nr rfl
theorem finP_rt (d : D) (ρ : Rho) : finP (.ok (.rt d) ρ) = .ok d := nr rfl
theorem finP_nx (ρ : Rho) : finP (.ok .nx ρ) = .ok .non := nr rfl
theorem finP_ex (c : Str) (fs : List (Str × D)) (ρ : Rho) : finP (.ex c fs ρ) = .ex c fs := nr rfl
theorem finO_rtl (ds : List D) (ρ : Rho) : finO (.ok (.rtl ds) ρ) = some ds := nr rfl
theorem finM_rt (d : D) (ys : List D) (ρ : Rho) : finM (.ok (.rt d) (.h ys :: ρ)) = some (d, ys) := nr rfl
theorem finM_nx (ys : List D) (ρ : Rho) : finM (.ok .nx (.h ys :: ρ)) = some (.non, ys) := nr rfl
def optK (o : Option Bool) (ρ : Rho) : Res D := match o with
  | some b => .ok (.bl b) ρ
  | none => .bad
theorem optK_some (b : Bool) (ρ : Rho) : optK (some b) ρ = .ok (.bl b) ρ := nr rfl
theorem optM_ap (o : Option Bool) (ρ : Rho) : optM o ρ = optK o ρ := by cases o <;> rfl
theorem eqD_ap (x y : D) (ρ : Rho) : eqD x y ρ = optK (eqP x y) ρ := optM_ap _ _
theorem neD_ap (x y : D) (ρ : Rho) : neD x y ρ = optK ((eqP x y).map (!·)) ρ := optM_ap _ _
theorem inD_ap (x y : D) (ρ : Rho) : inD x y ρ = optK (inP x y) ρ := optM_ap _ _
theorem notInD_ap (x y : D) (ρ : Rho) : notInD x y ρ = optK ((inP x y).map (!·)) ρ := optM_ap _ _
theorem negD_ap (i : Int) (ρ : Rho) : negD (D.int i) ρ = .ok (.int (-i)) ρ := nr rfl
def isN (d : D) : Bool := match d with
  | .non => true
  | _ => false
theorem isNonD_ap (d : D) (ρ : Rho) : isNonD d D.non ρ = .ok (.bl (isN d)) ρ := by cases d <;> rfl
theorem notNonD_ap (d : D) (ρ : Rho) : notNonD d D.non ρ = .ok (.bl (!isN d)) ρ := by cases d <;> rfl
theorem isBlD_ap (a b : Bool) (ρ : Rho) : isNonD (D.bl a) (D.bl b) ρ = .ok (.bl (decide (a = b))) ρ := nr rfl
theorem notBlD_ap (a b : Bool) (ρ : Rho) : notNonD (D.bl a) (D.bl b) ρ = .ok (.bl (!decide (a = b))) ρ := nr rfl
theorem lenS_ap (a : Str) (ρ : Rho) (h : a.length ≤ 16777216) : lenD [.str a] ρ = .ok (.int a.length) ρ := by
  show (if small a.length then De.ret (D.int a.length) else De.bad) ρ = _
  rw [small_ok h]
  rfl
theorem lenT_ap (xs : List D) (ρ : Rho) : lenD [.tup xs] ρ = .ok (.int xs.length) ρ := nr rfl
theorem lenL_ap (xs : List D) (ρ : Rho) : lenD [.lst xs] ρ = .ok (.int xs.length) ρ := nr rfl
theorem lenC_ap (xs : List D) (ρ : Rho) : lenD [.scr xs] ρ = .ok (.int xs.length) ρ := nr rfl
theorem intI_ap (i : Int) (ρ : Rho) : intC [.int i] ρ = .ok (.int i) ρ := nr rfl
theorem intB_ap (b : Bool) (ρ : Rho) : intC [.bl b] ρ = .ok (.int (if b then 1 else 0)) ρ := nr rfl
def optKD (o : Option D) (ρ : Rho) : Res D := match o with
  | some d => .ok d ρ
  | none => .bad
theorem optKD_some (d : D) (ρ : Rho) : optKD (some d) ρ = .ok d ρ := nr rfl
theorem optD_ap (o : Option D) (ρ : Rho) : optD o ρ = optKD o ρ := by cases o <;> rfl
theorem all_ap (xs : List D) (ρ : Rho) : allC [.lst xs] ρ = optKD ((blsOf xs).map fun bs => .bl (bs.all fun b => b)) ρ := optD_ap _ _
theorem any_ap (xs : List D) (ρ : Rho) : anyC [.lst xs] ρ = optKD ((blsOf xs).map fun bs => .bl (bs.any fun b => b)) ρ := optD_ap _ _
theorem reprI_ap (i : Int) (ρ : Rho) (h : i.natAbs.log2 < 1920) : reprC [.int i] ρ = .ok (.str (toString i)) ρ := by
  show (if i.natAbs.log2 < 1920 then De.ret (D.str (toString i)) else De.bad) ρ = _
  rw [if_pos h]
  rfl
theorem reprS_ap (z : Str) (ρ : Rho) (h : (PySem.reprText z).length ≤ 16777216) : reprC [.str z] ρ = .ok (.str (PySem.reprText z)) ρ := by
  show (if small (PySem.reprText z).length then De.ret (D.str (PySem.reprText z)) else De.bad) ρ = _
  rw [small_ok h]
  rfl
theorem tupT_ap (xs : List D) (ρ : Rho) : tupleC [.tup xs] ρ = .ok (.tup xs) ρ := nr rfl
theorem tupL_ap (xs : List D) (ρ : Rho) : tupleC [.lst xs] ρ = .ok (.tup xs) ρ := nr rfl
theorem lstT_ap (xs : List D) (ρ : Rho) : listC [.tup xs] ρ = .ok (.lst xs) ρ := nr rfl
theorem lstL_ap (xs : List D) (ρ : Rho) : listC [.lst xs] ρ = .ok (.lst xs) ρ := nr rfl
theorem ixT_ap (xs : List D) (i : Int) (ρ : Rho) : De.ixD (D.tup xs) (D.int i) ρ = optKD (L2.atI xs i) ρ := optD_ap _ _
theorem ixL_ap (xs : List D) (i : Int) (ρ : Rho) : De.ixD (D.lst xs) (D.int i) ρ = optKD (L2.atI xs i) ρ := optD_ap _ _
theorem ixC_ap (xs : List D) (i : Int) (ρ : Rho) : De.ixD (D.scr xs) (D.int i) ρ = optKD (L2.atI xs i) ρ := optD_ap _ _
theorem ixB_ap (xs : List D) (b : Bool) (ρ : Rho) : De.ixD (D.lst xs) (D.bl b) ρ = optKD xs[if b then 1 else 0]? ρ := optD_ap _ _
def isiK (T : String) (d : D) : M D := optM (isiO T d)
theorem isiK_ap (T : String) (d : D) (ρ : Rho) : isiK T d ρ = optK (isiO T d) ρ := optM_ap _ _
theorem isiM_ak (T : String) (f : M D) (ρ : Rho) : isiM T f ρ = andT (f ρ) (isiK T) := isiM_ap T f ρ
def isi2K (T U : String) (d : D) : M D := optM (isi2O T U d)
theorem isi2K_ap (T U : String) (d : D) (ρ : Rho) : isi2K T U d ρ = optK (isi2O T U d) ρ := optM_ap _ _
theorem isi2M_ak (T U : String) (f : M D) (ρ : Rho) : isi2M T U f ρ = andT (f ρ) (isi2K T U) := isi2M_ap T U f ρ
def tgetK (tb : List (Str × D)) (d : D) : M D := match d with
  | .str z => De.ret ((tb.lookup z).getD .non)
  | _ => De.bad
theorem tgetK_ap (tb : List (Str × D)) (z : Str) (ρ : Rho) : tgetK tb (.str z) ρ = .ok ((tb.lookup z).getD .non) ρ := nr rfl
theorem tgetM_ap (tb : List (Str × D)) (f : M D) (ρ : Rho) : tgetM tb f ρ = andT (f ρ) (tgetK tb) := bind_ap _ _ _
def tixK (tb : List (Str × D)) (d : D) : M D := match d with
  | .str z => optD (tb.lookup z)
  | _ => De.bad
theorem tixK_ap (tb : List (Str × D)) (z : Str) (ρ : Rho) : tixK tb (.str z) ρ = optKD (tb.lookup z) ρ := optD_ap _ _
theorem tixM_ap (tb : List (Str × D)) (f : M D) (ρ : Rho) : tixM tb f ρ = andT (f ρ) (tixK tb) := bind_ap _ _ _
theorem tgtT_tup (n : Nat) (gs : List D → M Unit) (xs : List D) (ρ : Rho) (h : xs.length = n) : tgtT n gs (.tup xs) ρ = gs xs ρ := by
  show (if xs.length = n then gs xs else De.bad) ρ = _
  rw [if_pos h]
theorem tgtT_lst (n : Nat) (gs : List D → M Unit) (xs : List D) (ρ : Rho) (h : xs.length = n) : tgtT n gs (.lst xs) ρ = gs xs ρ := by
  show (if xs.length = n then gs xs else De.bad) ρ = _
  rw [if_pos h]
theorem tgsNil_ap (ρ : Rho) : tgsNil [] ρ = .ok () ρ := nr rfl
theorem tgsCons_ap (g : D → M Unit) (gs : List D → M Unit) (x : D) (xs : List D) (ρ : Rho) : tgsCons g gs (x :: xs) ρ = andT (g x ρ) fun _ => gs xs := bind_ap _ _ _
theorem itA_lst (xs : List D) (ρ : Rho) : itA (.lst xs) ρ = .ok xs ρ := nr rfl
theorem itA_scr (xs : List D) (ρ : Rho) : itA (.scr xs) ρ = .ok xs ρ := nr rfl
theorem itA_tup (xs : List D) (ρ : Rho) : itA (.tup xs) ρ = .ok xs ρ := nr rfl
theorem itA_str (s : Str) (ρ : Rho) : itA (.str s) ρ = .ok (s.cps.toList.map fun c => .str ⟨#[c]⟩) ρ := nr rfl
/-! a list that is held -/
def hixR (e : Option EV) (n : Int) (ρ : Rho) : Res D := match e with
  | some (.h xs) => optKD (L2.atI xs n) ρ
  | some (.m xs) => optKD (L2.atI xs n) ρ
  | _ => .bad
theorem hixR_h (xs : List D) (n : Int) (ρ : Rho) : hixR (some (.h xs)) n ρ = optKD (L2.atI xs n) ρ := nr rfl
theorem hixR_m (xs : List D) (n : Int) (ρ : Rho) : hixR (some (.m xs)) n ρ = optKD (L2.atI xs n) ρ := nr rfl
def hixL (i : Nat) (k : D) : M D := fun ρ => match k with
  | .int n => hixR ρ[i]? n ρ
  | _ => .bad
theorem hixL_ap (i : Nat) (n : Int) (ρ : Rho) : hixL i (.int n) ρ = hixR ρ[i]? n ρ := nr rfl
def hixK (e : Option EV) (i : Nat) (g : M D) : M D := match e with
  | some (.h _) => De.bind g (hixL i)
  | some (.m _) => De.bind g (hixL i)
  | _ => De.bad
theorem hixK_h (xs : List D) (i : Nat) (g : M D) (ρ : Rho) : hixK (some (.h xs)) i g ρ = andT (g ρ) (hixL i) := bind_ap _ _ _
theorem hixK_m (xs : List D) (i : Nat) (g : M D) (ρ : Rho) : hixK (some (.m xs)) i g ρ = andT (g ρ) (hixL i) := bind_ap _ _ _
theorem hixM_ak (i : Nat) (g : M D) (ρ : Rho) : hixM i g ρ = hixK ρ[i]? i g ρ := by
  unfold hixM hixK
  have e : ∀ (F : D → M D), (∀ k ρ', F k ρ' = hixL i k ρ') → De.bind g F ρ = De.bind g (hixL i) ρ := fun F h => by rw [show F = hixL i from funext fun k => funext fun ρ' => h k ρ']
  have pt : ∀ (k : D) (ρ' : Rho), (match k, ρ'[i]? with
      | .int n, some ev => (match lstOf ev with
        | some xs => optD (L2.atI xs n) ρ'
        | none => .bad)
      | _, _ => .bad) = hixL i k ρ' := fun k ρ' => by
    unfold hixL
    cases k with
    | int n =>
      cases ρ'[i]? with
      | none => rfl
      | some ev =>
        cases ev with
        | m xs => exact optD_ap _ _
        | h xs => exact optD_ap _ _
        | _ => rfl
    | _ => rfl
  cases ρ[i]? with
  | none => rfl
  | some ev =>
    cases ev with
    | m xs => exact e _ pt
    | h xs => exact e _ pt
    | _ => rfl
/-! one run -/
end De

set_option Elab.async false
set_option linter.all false
set_option maxRecDepth 100000
set_option maxHeartbeats 2000000
namespace De
open PySem PySem.Spec PyProof.Rows L2 NdefX
open PySem.W (Frag)
/-! ### errors with a field -/
/-- what a message lets -/
def fmtV : V → Bool
  | .str s => decide (s.length ≤ 1000000)
  | .int i => decide (i.natAbs.log2 < 1900)
  | _ => false
/-- __init__ of an error with one field -/
def spE1 (C : Addr) (f : Str) : Sp := fun vs H Q _ => ∃ a v, vs = [.ref a, v] ∧ H a = some (exo a C none) ∧ fmtV v = true ∧ ∀ dx, H dx = none → dx ≠ a → Q .non (upd (upd H dx (exd dx [(f, v)])) a (exo a C (some dx)))
theorem err1 {P : Program} {w : World} {K : Frag} {mg : Str → Option Value} {base : Heap} {C fI : Addr} {qual x f : Str} {st : Stmt} {fd : FuncData} {s : Str} {j} {p0 p1 p2 p3 p4 p5 q1 q2 q3 r0 r1 r2 r3 : Pos} (T : SupX.SupC P K C fI qual st fd)
    (hst : defBody st = [.Expr (.Call (.Attribute (.Call (.Name "super" p0) [] [] p1) "__init__" p2) [.JoinedStr [.Constant (.str s) j p5, .FormattedValue (.Name x q1) (-1) none q2] q3] [] p3) p4, .Assign [.Attribute (.Name "self" r0) f r1] (.Name x r2) r3])
    (hsl : s.length ≤ 1000) (hf : PySem.W.findIn K (.ref C) f = some none)
    (S : NdefX.NScope ["self", x, "__class__"] ["self", x] ["__class__"] (defScope st))
    (hks : (defScope st).names.lookup ("super" : Str) = some .globalImplicit) (h0 : ((defArgs st).posonlyargs ++ (defArgs st).args).head?.map (·.arg) = some "self")
    (hv1 : (defScope st).names.lookup ("self" : Str) = some .local) (hv2 : (defScope st).names.lookup x = some .local) (hd : (x == ("__debug__" : Str)) = false) (hcd : (x == ("__classdict__" : Str)) = false)
    (hsw2 : ∀ env : Env, swapsWith (.Name x r2) (some (.Attribute (.Name "self" r0) f r1)) r3.line env = pure false)
    (hsw : ∀ env : Env, swapsWith (.Call (.Attribute (.Call (.Name "super" p0) [] [] p1) "__init__" p2) [.JoinedStr [.Constant (.str s) j p5, .FormattedValue (.Name x q1) (-1) none q2] q3] [] p3) none p4.line env = pure false)
    (hev : ∀ env : Env, ∃ pl : Sem Bool, eval (.Call (.Attribute (.Call (.Name "super" p0) [] [] p1) "__init__" p2) [.JoinedStr [.Constant (.str s) j p5, .FormattedValue (.Name x q1) (-1) none q2] q3] [] p3) env = (do
      let ov ← attributeBase (.Call (.Name "super" p0) [] [] p1) "__init__" env (eval (.Call (.Name "super" p0) [] [] p1) env)
      standAt p2.atName
      let (f, first) ← holding [ov] (getMethod ov "__init__" pl)
      callWith p3 f first (backTo p3 (starEach [.JoinedStr [.Constant (.str s) j p5, .FormattedValue (.Name x q1) (-1) none q2] q3] env)) [])) :
    FnOk P w K mg base (L2.CX P w) 1 fI fd ["self", x] (spE1 C f) := by
  refine SupX.fn_sup (k := 0) (N := ["self", x, "__class__"]) T S hst hks h0 rfl (fun _ => rfl) hsw hev (fun vs H Q E h => ?_) fun F A outer s' H vs Q E hq hs hr h => ?_
  · obtain ⟨a, v, rfl, _⟩ := h
    rfl
  · obtain ⟨a, v, rfl, ha, hv, q⟩ := h
    have V1 : Vis (NdefX.ncx (L2.CX P w) P w K mg base ["self", x, "__class__"] F fI A outer s' H E).env.scope "self" := .inl (by show F.scope.names.lookup _ = _; rw [hs]; exact hv1)
    have V2 : Vis (NdefX.ncx (L2.CX P w) P w K mg base ["self", x, "__class__"] F fI A outer s' H E).env.scope x := .inl (by show F.scope.names.lookup _ = _; rw [hs]; exact hv2)
    refine ⟨a, [v], rfl, ha, _, pe_joined (.cons pe_str (.cons (pe_fmt (pe_var (i := 1) rfl V2 hd hcd)) .nil)), _, pss_one (ps_ost (pe_var (i := 0) rfl V1 (by decide) (by decide)) (pe_var (i := 1) rfl V2 hd hcd) (hsw2 _)), ?_⟩
    have fin : ∀ y : Str, y.length ≤ 1000000 → (Str.empty ++ s ++ y).length ≤ sizeLine := fun y hy => by
      have e1 : (Str.empty ++ s ++ y).length = (Str.empty.length + s.length) + y.length := by
        show ((Str.empty.cps ++ s.cps) ++ y.cps).size = _
        rw [Array.size_append, Array.size_append]
        rfl
      have e2 : Str.empty.length = 0 := rfl
      rw [e1, e2, sizeLine_eq]
      omega
    have e3 : (Str.empty ++ s).length ≤ sizeLine := by
      have e1 : (Str.empty ++ s).length = Str.empty.length + s.length := by
        show (Str.empty.cps ++ s.cps).size = _
        rw [Array.size_append]
        rfl
      have e2 : Str.empty.length = 0 := rfl
      rw [e1, e2, sizeLine_eq]
      omega
    refine ⟨s, rfl, e3, v, rfl, ?_⟩
    cases v with
    | str y =>
      have hy := of_decide_eq_true hv
      exact .inl ⟨y, rfl, by rw [sizeLine_eq]; omega, y, rfl, fin y hy, ha, _, rfl, _, rfl, a, C, rfl, T.cls, hf, .inl ⟨ha, fun dx hd hne => q dx hd hne⟩⟩
    | int i =>
      have hi := of_decide_eq_true hv
      have hl := PyProof.Rows.int_text_len_1921 (i := i) (by omega)
      exact .inr ⟨i, rfl, by omega, _, rfl, fin _ (by omega), ha, _, rfl, _, rfl, a, C, rfl, T.cls, hf, .inl ⟨ha, fun dx hd hne => q dx hd hne⟩⟩
    | _ => cases hv
def fmtD : D → Bool
  | .str s => decide (s.length ≤ 1000000)
  | .int i => decide (i.natAbs.log2 < 1900)
  | _ => false
def raise1K (c f : Str) (d : D) : M Fl := fun ρ => if fmtD d then .ex c [(f, d)] ρ else .bad
def raise1M (c f : Str) (fa : M D) : M Fl := bind fa (raise1K c f)
theorem Rp.fmt {K : Frag} {cm : Str → Option Addr} {Z : ZS} {H : Hp} {v : V} {d : D} (r : Rp K cm Z H v d) (h : fmtD d = true) : fmtV v = true := by
  cases r <;> first | exact h | cases h
theorem sx_raise1 {X : Cx} {cm : Str → Option Addr} {W : WX} {x c f y : Str} {e : Expr} {fa : M D} {p pos pos2 : Pos} {C fI : Addr} {k : Nat} {fd : FuncData} {qual : Str} {st : Stmt} (T : SupX.SupC X.prog X.K C fI qual st fd) (F1 : FnOk X.prog X.w X.K X.mg X.base (L2.CX X.prog X.w) k fI fd ["self", y] (spE1 C f)) (hr : Room (k + 1) X.A) (hb : L2.Binds X.K fd ["self", y] [])
    (hm : X.mg x = some (.ref C)) (hcm : cm c = some C) (tk : Takes X W) (ha : Ex X cm W e fa) (hc : X.calm = true := by rfl) (hg : Gl X x := by rfl) (hdb : (x == ("__debug__" : Str)) = false := by decide) (he : starEach [e] X.env = (false, eval e X.env) :: starEach [] X.env := by rfl) (hpl : (backTo pos (starEach [] X.env)).any (·.1) = false := by rfl) :
    Sx X cm W (.Raise (some (.Call (.Name x p) [e] [] pos)) none pos2) (raise1M c f fa) := by
  obtain ⟨t, pa, qa⟩ := ha
  refine ⟨_, ps_raise hc tk (SupX.pmk_sup T F1 hr hb passL hg hm (pa_cons pa pa_nil he) hdb he hpl), fun B Z σ ρ H E S h => ?_⟩
  refine qa B Z σ ρ H _ S (PostS.bind h fun d ρ1 v Z1 H1 g1 S1 r1 h1 => ?_)
  unfold raise1K at h1
  split at h1
  · rename_i hf
    refine ⟨(by show 1 ≤ 1000; decide), fun a ha => ⟨a, v, rfl, upd_same, r1.fmt hf, fun dx hd hne => ⟨rfl, .inr ⟨dx, [(f, v)], upd_same, ?_, ?_, ?_⟩⟩⟩⟩
    · rw [upd_ne hne, upd_same]
    · rw [upd_ne hne] at hd
      exact hd
    · rw [upd_ne hne] at hd
      have e1 : upd (del (upd (upd (upd H1 a (exo a C none)) dx (exd dx [(f, v)])) a (exo a C (some dx))) a) dx (.xd [(f, v)]) = upd H1 dx (.xd [(f, v)]) := by
        funext b
        by_cases h1 : b = dx
        · rw [h1, upd_same, upd_same]
        · rw [upd_ne h1, upd_ne h1]
          by_cases h2 : b = a
          · rw [h2, del_same, ha]
          · rw [del_ne h2, upd_ne h2, upd_ne h1, upd_ne h2]
      rw [e1]
      obtain ⟨S2, g2⟩ := S1.new (p := dx) (o := .xd [(f, v)]) hd
      exact h1 C (some dx) _ σ _ g2 S2 hcm (.inr ⟨dx, [(f, v)], rfl, .inr rfl, upd_same, .cons (r1.grow g2) .nil, by simp⟩)
  · exact h1.elim
/-! ### try .. except X as e: -/
/-- what a suite leaves, its error's name emptied -/
def normR (i : Nat) : Res Fl → Res Fl
  | .ok fl ρ => .ok fl (ρ.set i .u)
  | _ => .bad
open Classical in
/-- the suite gs may look at where the error is, but what it leaves may not hang on it -/
noncomputable def tryAsM (i : Nat) (catches : Str → Bool) (gb : M Fl) (gs : Addr → Option Addr → Str → M Fl) : M Fl := fun ρ => match gb ρ with
  | .ex c fs ρ' => if catches c then (if h : ∃ R : Res Fl, ∀ a dd, (fs = [] → dd = none) → normR i (gs a dd c (ρ'.set i (.d (.xn a dd c fs)))) = R then Classical.choose h else .bad) else .ex c fs ρ'
  | r => r
theorem tryAs_caught {i : Nat} {catches : Str → Bool} {gb : M Fl} {gs : Addr → Option Addr → Str → M Fl} {ρ ρ' : Rho} {c : Str} {fs : List (Str × D)} {R : Res Fl} (h : gb ρ = .ex c fs ρ') (hc : catches c = true) (hR : ∀ a dd, (fs = [] → dd = none) → normR i (gs a dd c (ρ'.set i (.d (.xn a dd c fs)))) = R) : tryAsM i catches gb gs ρ = R := by
  unfold tryAsM
  rw [h]
  have ex : ∃ R : Res Fl, ∀ a dd, (fs = [] → dd = none) → normR i (gs a dd c (ρ'.set i (.d (.xn a dd c fs)))) = R := ⟨R, hR⟩
  simp only [hc, if_true, dif_pos ex]
  exact (Classical.choose_spec ex 0 none fun _ => rfl).symm.trans (hR 0 none fun _ => rfl)
theorem tryAs_ok {i : Nat} {catches : Str → Bool} {gb : M Fl} {gs : Addr → Option Addr → Str → M Fl} {ρ ρ' : Rho} {fl : Fl} (h : gb ρ = .ok fl ρ') : tryAsM i catches gb gs ρ = .ok fl ρ' := by
  unfold tryAsM
  rw [h]
/-- the fields of the error that the suite holds -/
def xfM (i : Nat) (a : Addr) (dd : Option Addr) (c f : Str) : M D := fun ρ => match ρ[i]? with
  | some (.d (.xn a' dd' c' fs)) => if a' = a ∧ dd' = dd ∧ c' = c then optD (fs.lookup f) ρ else .bad
  | _ => .bad
theorem ex_xf {X : Cx} {cm : Str → Option Addr} {W : WX} (i : Nat) {x f c : Str} {a C : Addr} {oe : Obj} {d : Option Addr} {pn : List (Addr × Obj)} {px pos : Pos} (T : XfC X.K C) (hno : PySem.W.findIn X.K (.ref C) f = some none) (hz : Zc (.ref C) d oe) (hf : ∃ vs, oe.data = .fields vs)
    (hN : X.N[i]? = some x := by rfl) (hv : Vis X.env.scope x := by first | exact Or.inl rfl | exact Or.inr (Or.inl rfl) | exact Or.inr (Or.inr rfl)) (hd : (x == ("__debug__" : Str)) = false := by decide) (hcd : (x == ("__classdict__" : Str)) = false := by decide)
    (hb : attributeBase (.Name x px) f X.env (eval (.Name x px) X.env) = eval (.Name x px) X.env := by rfl) : Ex (X.suite a ((a, oe) :: pn)) cm W (.Attribute (.Name x px) f pos) (xfM i a d c f) := by
  refine ⟨_, pe_xf T hno hz hf (pe_var (X := X.suite a ((a, oe) :: pn)) (i := i) hN hv hd hcd) hb, fun B Z σ ρ H Q S h => ?_⟩
  unfold xfM at h
  split at h
  · rename_i a' dd' c' fs e
    split at h
    · rename_i hh
      obtain ⟨rfl, rfl, rfl⟩ := hh
      obtain ⟨v, e1, r⟩ := S.sl i _ e
      obtain ⟨d', el, h⟩ := Post.opt h
      cases r with
      | xn0 hc => cases el
      | xn z h4 hc r5 =>
        obtain ⟨v', hl, rv⟩ := r5.lookup el
        exact ⟨_, e1, rfl, rfl, _, _, v', rfl, h4, hl, Post.ret h S rv⟩
    · exact h.elim
  · exact h.elim
def sStarX (K : Frag) (cm : Str → Option Addr) (cat : Str → Bool) (gs : Addr → Option Addr → Str → M Fl) : Addr → Value → Option Addr → TS := fun a cls d E σ H => ∃ B Z ρ c C, cls = .ref C ∧ cm c = some C ∧ cat c = true ∧ St0 K cm Z B σ ρ H ∧ PostS K cm W0 B Z H (gs a d c ρ) E
theorem sx_tryAs {X : Cx} {cm : Str → Option Addr} {W : WX} (i : Nat) {x n : Str} {C : Addr} {body suite : List Stmt} {b₀ : Stmt} {np pos pos' : Pos} {gb : M Fl} {gs : Addr → Option Addr → Str → M Fl} (catches : Str → Bool) (hNd : X.N.Nodup) (hm : X.mg x = some (.ref C)) (hcat : ∀ c' C', cm c' = some C' → PySem.W.exmOne X.K (.ref C') (.ref C) = some (catches c')) (tk : Takes X W)
    (hb : ∀ (W' : WX) (pn : List (Addr × Obj)) (xe : Value → Shared → Prop), Takes (X.tr pn xe) W' → PassesOwn (model X.prog X.w) X.A X.env xe → Sxs (X.tr pn xe) cm W' body gb)
    (hs : ∀ (a : Addr) (oe : Obj) (C' : Addr) (d : Option Addr) (pn : List (Addr × Obj)) (c : Str), Zc (.ref C') d oe → (∃ vs, oe.data = .fields vs) → cm c = some C' → catches c = true → Sxs (X.suite a ((a, oe) :: pn)) cm W0 (b₀ :: suite) (gs a d c))
    (hst : X.stack = X.env :: X.outer := by rfl) (hfr : X.env.frame = some X.env.locals := by rfl) (hN : X.N[i]? = some n := by rfl) (hln : X.env.kindOf n = some .local := by rfl) (hg : Gl X x := by rfl) (hd : (x == ("__debug__" : Str)) = false := by decide) :
    Sx X cm W (.Try body [.ExceptHandler (some (.Name x np)) (some n) (b₀ :: suite) pos'] [] [] pos) (tryAsM i catches gb gs) := by
  refine ⟨_, ps_try_as (c := .ref C) (i := i) (tb := fun W' => sStar X.K cm W' gb) (ts := sStarX X.K cm catches gs) (Wout := W) hst hfr hNd hN hln ⟨hg, hd, .inl hm⟩ tk (fun W' pn xe tk' po => (hb W' pn xe tk' po).star) (fun a oe cls d pn hz hf => ?_), fun B Z σ ρ H E S h => ?_⟩
  · refine ⟨fun pins s σ H D I ⟨B, Z, ρ, c, C', ec, hc, hk, S, h⟩ => ?_⟩
    subst ec
    obtain ⟨t, p, q⟩ := hs a oe C' d pn c hz hf hc hk
    exact p.run pins s σ H D I (q B Z σ ρ H D S h)
  refine ⟨B, Z, ρ, S, ?_⟩
  cases eg : gb ρ with
  | bad =>
    unfold tryAsM at h
    rw [eg] at h
    exact h
  | ok fl ρ' =>
    unfold tryAsM at h
    rw [eg] at h
    cases fl <;> exact h
  | ex c fs ρ' =>
    intro C' dd Z' σ' H' g' S' hc hx
    refine ⟨catches c, hcat c C' hc, fun hb a ha => ?_, fun hb => ?_⟩
    · have r : Rp X.K cm Z' H' (.ref a) (.xn a dd c fs) := by
        rcases hx with ⟨rfl, rfl⟩ | ⟨d, vs, rfl, z, hh, rf, _⟩
        · exact .xn0 hc
        · exact .xn z hh hc rf
      refine ⟨B, Z', ρ'.set i (.d (.xn a dd c fs)), c, C', rfl, hc, hb, S'.set r, ?_⟩
      unfold tryAsM at h
      rw [eg] at h
      simp only [hb, if_true] at h
      split at h
      · rename_i ex
        have sp := Classical.choose_spec ex a dd (hx.elim (fun q _ => q.1) fun ⟨_, _, _, _, _, _, q⟩ z => absurd z q)
        rw [← sp] at h
        cases es : gs a dd c (ρ'.set i (.d (.xn a dd c fs))) with
        | bad =>
          rw [es] at h
          exact h.elim
        | ex c2 f2 ρ2 =>
          rw [es] at h
          exact h.elim
        | ok fl ρ2 =>
          rw [es] at h
          cases fl with
          | nx => exact fun Z2 σ2 H2 g2 S2 => h Z2 _ H2 (g'.trans g2) (S2.unset i)
          | bk => exact fun Z2 σ2 H2 g2 S2 => h Z2 _ H2 (g'.trans g2) (S2.unset i)
          | ct => exact fun Z2 σ2 H2 g2 S2 => h Z2 _ H2 (g'.trans g2) (S2.unset i)
          | rt d => exact fun v Z2 σ2 H2 g2 S2 r2 => h v Z2 _ H2 (g'.trans g2) (S2.unset i (s := none)) r2
          | rtl ds => exact fun b ws Z2 σ2 H2 g2 S2 h2 n2 z2 r2 => h b ws Z2 _ H2 (g'.trans g2) (S2.unset i (s := none)) h2 n2 z2 r2
      · exact h.elim
    · unfold tryAsM at h
      rw [eg] at h
      simp only [hb] at h
      exact h C' dd Z' σ' H' g' S' hc hx
end De

set_option Elab.async false
set_option linter.all false
set_option maxRecDepth 100000
set_option maxHeartbeats 2000000
namespace De
open PySem PySem.Spec PyProof.Rows L2
open PySem.W (Frag)
/-! ### min, max -/
section
variable {prog : Program} {w : World} {A : Around} {E : Value → Shared → Prop} {s : Shared} {l : Addr} {ys : Array (Int × Tok)} {its : List Value} {ns : List Int}
theorem least_tup {R : Value → Shared → Prop} (nh : A.handled = none) (it : s.heap.IsTuple l (intItems ys)) (n0 : 0 < ys.size)
    (go : ∀ v h1 tk, (intItems ys)[argBest (fun i j => decide (numAt ys i < numAt ys j)) (ys.size - 1)]? = some v → (∀ c o, s.heap.get? c = some o → h1.get? c = some o) → R v { s with heap := h1, toks := tk }) : wpAny (model prog w) A (call (.builtin "min") [.ref l]) R E s := by
  have lt : l < s.heap.objs.size := by
    obtain ⟨_, e, _⟩ := it
    exact Heap.lt_size e
  refine call_min_walk (wpAny_pyIter_tuple it ?_)
  refine ⟨_, [_, l], [_], _, _, _, _, rfl, Walks.tuple (A := A.in1) nh _ l (Nat.ne_of_lt lt) (intItems ys), ⟨⟨_, Heap.get?_push_size _ rfl, rfl, rfl⟩, it.push _⟩, fun c hc => ?_, by simpa [intItems] using n0, CmpOf.ints_lt (numAt ys) (fun _ _ => intItems_at), fun v h1 tk hP hk => ?_⟩
  · show c < (s.heap.push _).objs.size
    rw [Heap.size_push]
    rcases List.mem_cons.mp hc with e | hc
    · subst e
      exact Nat.lt_succ_self _
    · rcases List.mem_cons.mp hc with e | hc
      · subst e
        exact Nat.lt_succ_of_lt lt
      · cases hc
  · refine go v h1 tk (by simpa [intItems] using hP) fun c o e => hk c o (fun hm => ?_) (Heap.get?_push_of_some _ e)
    rcases List.mem_cons.mp hm with e1 | hm
    · exact absurd (e1 ▸ (Heap.lt_size e)) (Nat.lt_irrefl _)
    · cases hm
theorem least_rawT (nh : A.handled = none) (it : s.heap.IsTuple l its.toArray) (ai : IntsAre its ns) (n0 : 0 < ns.length) {R : Value → Shared → Prop}
    (go : ∀ h1 tk m t1, (∀ c o, s.heap.get? c = some o → h1.get? c = some o) → m ∈ ns → (∀ a, a ∈ ns → m ≤ a) → R (.int m t1) { s with heap := h1, toks := tk }) : wpAny (model prog w) A (call (.builtin "min") [.ref l]) R E s := by
  obtain ⟨xs, e⟩ := ai.allInts.items
  have en : numsOf (intItems xs).toList = ns := by
    rw [← e]
    exact ai.numsOf
  rw [nums_intItems] at en
  subst en
  rw [e] at it
  have sz : 0 < xs.size := by simpa using n0
  refine least_tup nh it sz fun v h1 tk hv hk => ?_
  obtain ⟨tk0, rfl⟩ := intItems_at hv
  obtain ⟨b1, b2⟩ := argBest_lt (numAt xs) (xs.size - 1)
  refine go h1 tk _ tk0 hk ?_ fun a ha => ?_
  · rw [numAt_eq]
    refine PySem.getD_mem ?_
    rw [List.length_map]
    rw [Array.length_toList]
    omega
  · obtain ⟨j0, hj0, rfl⟩ := mem_getD ha
    rw [List.length_map] at hj0
    rw [Array.length_toList] at hj0
    rw [← numAt_eq]
    exact b2 j0 (by omega)
end
def rMinT (K : Frag) : List V → Hp → VK → Prop := fun vs H Q => ∃ (a : Addr) (ns : List Int), vs = [.ref a] ∧ SqT K H a (ns.map V.int) ∧ 0 < ns.length ∧ ∀ m, m ∈ ns → (∀ y, y ∈ ns → m ≤ y) → Q (.int m) H
theorem cr_minT {X : Cx} (hc : X.calm = true) : CallR X (.builtin "min") (rMinT X.K) := by
  intro pins s σ H vs us Q I r hw
  obtain ⟨a, ns, rfl, hs, n0, q⟩ := hw
  obtain ⟨its, rv, ht, _⟩ := I.tuple hs
  rw [Vals.ref1 r]
  exact least_rawT (I.ok.hd hc) ht rv.ints n0 fun h' tk m t' hk h1 h2 => ⟨.int _, H, I.kept hk, ⟨_, rfl⟩, q m h1 h2⟩
def minL (n : Int) (ns : List Int) : Int := ns.foldl (fun a b => if b < a then b else a) n
theorem minL_le : ∀ (ns : List Int) (n : Int), minL n ns ≤ n ∧ (∀ y ∈ ns, minL n ns ≤ y) ∧ (minL n ns = n ∨ minL n ns ∈ ns)
  | [], n => ⟨Int.le_refl _, fun _ h => (nomatch h), .inl rfl⟩
  | b :: ns, n => by
    by_cases c : b < n
    · have e : minL n (b :: ns) = minL b ns := by
        show minL (if b < n then b else n) ns = _
        rw [if_pos c]
      obtain ⟨h1, h2, h3⟩ := minL_le ns b
      rw [e]
      refine ⟨by omega, fun y hy => ?_, .inr ?_⟩
      · rcases List.mem_cons.1 hy with rfl | hy
        · exact h1
        · exact h2 y hy
      · rcases h3 with h3 | h3
        · rw [h3]
          exact List.mem_cons_self
        · exact List.mem_cons_of_mem _ h3
    · have e : minL n (b :: ns) = minL n ns := by
        show minL (if b < n then b else n) ns = _
        rw [if_neg c]
      obtain ⟨h1, h2, h3⟩ := minL_le ns n
      rw [e]
      refine ⟨h1, fun y hy => ?_, ?_⟩
      · rcases List.mem_cons.1 hy with rfl | hy
        · omega
        · exact h2 y hy
      · rcases h3 with h3 | h3
        · exact .inl h3
        · exact .inr (List.mem_cons_of_mem _ h3)
theorem minL_is {n m : Int} {ns : List Int} (h : m ∈ n :: ns) (h2 : ∀ y, y ∈ n :: ns → m ≤ y) : m = minL n ns := by
  obtain ⟨h3, h4, h5⟩ := minL_le ns n
  have a : m ≤ minL n ns := by
    rcases h5 with e | e
    · rw [e]
      exact h2 n List.mem_cons_self
    · exact h2 _ (List.mem_cons_of_mem _ e)
  have b : minL n ns ≤ m := by
    rcases List.mem_cons.1 h with e | e
    · rw [e]
      exact h3
    · exact h4 m e
  omega
def minD (xs : List D) : M D := match intsOf xs with
  | some (n :: ns) => ret (.int (minL n ns))
  | _ => bad
def minC : List D → M D
  | [.tup xs] => minD xs
  | [.lst xs] => minD xs
  | [.int i, .int j] => ret (.int (if j < i then j else i))
  | _ => bad
def maxC : List D → M D
  | [.int i, .int j] => ret (.int (if j > i then j else i))
  | _ => bad
def rMinA (K : Frag) : List V → Hp → VK → Prop := fun vs H Q => rMin K vs H Q ∨ (rMinT K vs H Q ∨ ∃ i j, vs = [.int i, .int j] ∧ Q (.int (if j < i then j else i)) H)
section
variable {X : Cx} {cm : Str → Option Addr} {W : WX}
theorem cr_minA (hc : X.calm = true) : CallR X (.builtin "min") (rMinA X.K) := (cr_min hc).or ((cr_minT hc).or (call_min2 hc))
theorem RpA.two {K : Frag} {Z : ZS} {H : Hp} {xs : List V} {d e : D} (r : RpA K cm Z H xs [d, e]) : ∃ v u, xs = [v, u] ∧ Rp K cm Z H v d ∧ Rp K cm Z H u e := by
  cases r with
  | cons h t =>
    cases t with
    | cons h2 t2 =>
      cases t2
      exact ⟨_, _, rfl, h, h2⟩
theorem cd_min : CallD X cm W (rMinA X.K) minC := fun B Z σ ρ H xs ds Q S r h => by
  have fin : ∀ {vs : List V} {es : List D}, RpA X.K cm Z H vs es → Post X.K cm W B (rpD X.K cm) Z σ H (minD es ρ) Q → ∃ ns : List Int, vs = ns.map V.int ∧ 0 < ns.length ∧ ∀ m, m ∈ ns → (∀ y, y ∈ ns → m ≤ y) → Q (.int m) H := fun {vs es} r1 h => by
    unfold minD at h
    cases ei : intsOf es with
    | none =>
      rw [ei] at h
      exact h.elim
    | some ns =>
      rw [ei] at h
      cases ns with
      | nil => exact h.elim
      | cons n ns =>
        refine ⟨n :: ns, r1.ints ei, by simp, fun m hm hl => ?_⟩
        rw [minL_is hm hl]
        exact Post.ret h S (.int _)
  unfold minC at h
  split at h
  · obtain ⟨v, rfl, rv⟩ := r.one
    cases rv with
    | tup h1 r1 =>
      obtain ⟨ns, e, n0, q⟩ := fin r1 h
      subst e
      exact .inr (.inl ⟨_, ns, rfl, h1.sq, n0, q⟩)
  · obtain ⟨v, rfl, rv⟩ := r.one
    cases rv with
    | lst z h1 r1 =>
      obtain ⟨ns, e, n0, q⟩ := fin r1 h
      subst e
      exact .inl ⟨_, ns, rfl, .inl (.inl h1), n0, q⟩
  · obtain ⟨v, u, rfl, rv, ru⟩ := RpA.two r
    cases rv
    cases ru
    exact .inr (.inr ⟨_, _, rfl, Post.ret h S (.int _)⟩)
  · exact h.elim
theorem cd_max : CallD X cm W (fun xs H Q => ∃ i j, xs = [.int i, .int j] ∧ Q (.int (if j > i then j else i)) H) maxC := fun B Z σ ρ H xs ds Q S r h => by
  unfold maxC at h
  split at h
  · obtain ⟨v, u, rfl, rv, ru⟩ := RpA.two r
    cases rv
    cases ru
    exact ⟨_, _, rfl, Post.ret h S (.int _)⟩
  · exact h.elim
end
end De

set_option Elab.async false
set_option linter.all false
set_option maxRecDepth 100000
set_option maxHeartbeats 2000000
namespace De
open PySem PySem.Spec PyProof.Rows L2
open PySem.W (Frag)
/-! ### the truth of any value -/
def truR (d : D) : M Bool := match d with
  | .bl b => De.ret b
  | .int i => De.ret (i != 0)
  | .non => De.ret false
  | .tup xs => De.ret (!xs.isEmpty)
  | .lst xs => De.ret (!xs.isEmpty)
  | .scr xs => De.ret (!xs.isEmpty)
  | .str s => if small s.length then De.ret ((s.length : Int) != 0) else De.bad
  | _ => De.bad
def truM (f : M D) : M Bool := De.bind f truR
theorem RpA.empty {K : Frag} {cm : Str → Option Addr} {Z : ZS} {H : Hp} {vs : List V} {ds : List D} (r : RpA K cm Z H vs ds) : vs.isEmpty = ds.isEmpty := by cases r <;> rfl
theorem tx_tru {X : Cx} {cm : Str → Option Addr} {W : WX} {a : Expr} {fa : M D} (ha : Ex X cm W a fa) (he : ∀ whole, isTrue a X.env whole = (do let v ← whole; standAt a.pos; holding [v] (truthy v)) := by intro _; rfl) : Tx X cm W a (truM fa) := by
  obtain ⟨ta, pa, qa⟩ := ha
  refine ⟨_, pt_truth pa he, fun B Z σ ρ H Q S h => qa B Z σ ρ H _ S (Post.bind h fun d ρ1 v Z1 H1 g1 S1 r1 h1 => ?_)⟩
  unfold truR at h1
  cases d with
  | bl k =>
    cases r1
    exact ⟨k, rfl, Post.ret h1 S1 rfl⟩
  | int i =>
    cases r1
    exact ⟨_, rfl, Post.ret h1 S1 rfl⟩
  | non =>
    cases r1
    exact ⟨_, rfl, Post.ret h1 S1 rfl⟩
  | str s =>
    cases r1
    simp only at h1
    split at h1
    · rename_i hs
      exact ⟨_, ⟨of_decide_eq_true hs, rfl⟩, Post.ret h1 S1 rfl⟩
    · exact h1.elim
  | tup xs =>
    cases r1 with
    | tup h2 r2 => exact ⟨_, .inr (.inl ⟨_, h2.sq, rfl⟩), by rw [r2.empty]; exact Post.ret h1 S1 rfl⟩
  | lst xs =>
    cases r1 with
    | lst z h2 r2 => exact ⟨_, .inl ⟨_, .inl (.inl h2), rfl⟩, by rw [r2.empty]; exact Post.ret h1 S1 rfl⟩
  | scr xs =>
    cases r1 with
    | scr h2 r2 => exact ⟨_, .inl ⟨_, h2.sq, rfl⟩, by rw [r2.empty]; exact Post.ret h1 S1 rfl⟩
  | _ => exact h1.elim
theorem truM_ap (f : M D) (ρ : Rho) : truM f ρ = andT (f ρ) truR := bind_ap _ _ _
theorem truR_bl (b : Bool) (ρ : Rho) : truR (.bl b) ρ = .ok b ρ := nr rfl
theorem truR_int (i : Int) (ρ : Rho) : truR (.int i) ρ = .ok (i != 0) ρ := nr rfl
theorem truR_non (ρ : Rho) : truR .non ρ = .ok false ρ := nr rfl
end De

set_option Elab.async false
set_option linter.all false
set_option maxRecDepth 100000
set_option maxHeartbeats 2000000
namespace De
open PySem PySem.Spec PyProof.Rows L2
open PySem.W (Frag)
/-! ### enumerate of a tuple -/
/-- the enumerate object that is laid -/
def enumObj (it : Addr) : Obj := { cls := .type "enumerate", data := .fields #[.none, .bool false, .ref it, rawInt 0, .none, .none] }
set_option maxHeartbeats 1000000 in
theorem meets_enum1 {v : Value} {o : Obj} {G : Heap → Prop} (B : Begins v o G) :
    Meets (Builtin.«enumerate.__new__» ⟨[.type "enumerate", v], []⟩) (fun _ R s => G s.heap ∧ R (.ok (.ret (.ref (s.heap.push o).objs.size))) { s with heap := (s.heap.push o).push (enumObj s.heap.objs.size) }) :=
  .of_wp fun prog w A R s g => by
    obtain ⟨hp, gl, d, tk, os⟩ := s
    obtain ⟨g1, g2⟩ := g
    have hsub := sub_enumerate
    have goes : ∀ {A' : Around} {E Q : Value → Shared → Prop}, Q (.ref hp.objs.size) ⟨hp.push o, gl, d, tk, os⟩ → wpAny (model prog w) A' (pyIter v) Q E ⟨hp, gl, d, tk, os⟩ := fun q => B.iter prog w _ _ ⟨hp, gl, d, tk, os⟩ _ g1 q
    wp_walk using goes
    refine wpAny_stack_any fun st => wpAny_pure ?_
    split
    · rename_i c _ _ _ _ _
      cases (c == Value.type "enumerate") <;> (wp_walk using goes; exact ⟨_, rfl, g2⟩)
    · wp_walk using goes
      exact ⟨_, rfl, g2⟩
section
variable {prog : Program} {w : World} {A : Around} {E : Value → Shared → Prop} {s : Shared}
theorem enum1_begins {v : Value} {o : Obj} {G : Heap → Prop} {Q : Value → Shared → Prop} (B : Begins v o G) (g : G s.heap)
    (k : ∀ h', IsEnum h' (s.heap.objs.size + 1) s.heap.objs.size 0 .none → h'.get? s.heap.objs.size = some o → (∀ b ob, s.heap.get? b = some ob → h'.get? b = some ob) → Q (.ref (s.heap.objs.size + 1)) { s with heap := h' }) :
    wpAny (model prog w) A (call (.type "enumerate") [v]) Q E s := by
  have z : (s.heap.push o).objs.size = s.heap.objs.size + 1 := Heap.size_push ..
  have e : IsEnum ((s.heap.push o).push (enumObj s.heap.objs.size)) (s.heap.objs.size + 1) s.heap.objs.size 0 .none := by
    have q := Heap.get?_push_size (s.heap.push o) (o := enumObj s.heap.objs.size) rfl
    rw [z] at q
    exact q
  refine callType_new F.called_enumerate (by decide) (F.typeCall_enumerate_1 _) (F.newCall_enumerate_1 _) (fun obj => F.args_object_init_2 obj _) F.entry_enumerate_new (meets_enum1 B) ⟨g, ?_⟩
  show _ ∧ _
  rw [z]
  exact ⟨⟨_, e, rfl⟩, k _ e (Heap.get?_push_of_some _ (Heap.get?_push_size _ B.free)) fun b ob x => Heap.get?_push_of_some _ (Heap.get?_push_of_some _ x)⟩
end
/-- the tuple at a, each item in a new pair -/
def EtT (K : Frag) (a : Addr) (n : Nat) : It where
  go := fun i H => i < n ∧ ∃ (xs : List V) (x : V), SqT K H a xs ∧ xs[i]? = some x
  yld := fun i H v H' => ∃ T x, v = .ref T ∧ H T = none ∧ H' = upd H T (.tup [.int (i : Nat), x]) ∧ ∀ xs, SqT K H a xs → xs[i]? = some x
  stop := fun i H => n ≤ i ∧ ∃ xs : List V, SqT K H a xs ∧ xs.length = n
theorem apart_it {h : Heap} {it a : Addr} {i : Nat} {its : Array Value} (p : h.IsTuple a its) (q : h.IsTupleIter it a i) : a ≠ it := fun e => by
  subst e
  obtain ⟨o, e1, c1, _⟩ := p
  obtain ⟨o', e2, c2, _⟩ := q
  rw [e1] at e2
  cases e2
  rw [c1] at c2
  exact absurd c2 (by decide)
theorem apart_en {h : Heap} {e it a : Addr} {i : Int} {old : Value} {its : Array Value} (p : h.IsTuple a its) (q : IsEnum h e it i old) : e ≠ a := fun z => by
  subst z
  obtain ⟨o, e1, c1, _⟩ := p
  have e2 := e1.symm.trans q
  cases e2
  exact absurd c1 (fun z => by injection z with z; exact absurd z (by decide))
theorem turn_enT {P : Program} {w : World} {K : Frag} {elts : List Expr} {kk : Nat} {tpos : Pos} (a e it : Addr) (n : Nat) :
    Turn P w K (.Tuple elts kk tpos) (EtT K a n) [e, it] e (fun i h => (∃ old, IsEnum h e it ((i : Nat) : Int) old) ∧ h.IsTupleIter it a i ∧ e ≠ it ∧ i ≤ n) where
  mem := List.mem_cons_self
  obj := fun i h st b hb => by
    obtain ⟨⟨old, he⟩, ⟨o, ho, hc, hd⟩, _⟩ := st
    rcases List.mem_cons.mp hb with z | z
    · subst z
      exact ⟨_, he, fun v q => nomatch q⟩
    · cases List.mem_singleton.mp z
      exact ⟨o, ho, fun v q => by rw [hd] at q; cases q⟩
  keep := fun i h h' st k => ⟨st.1.elim fun old he => ⟨old, k e List.mem_cons_self _ he⟩, st.2.1.at fun o q => k it (List.mem_cons_of_mem _ List.mem_cons_self) o q, st.2.2⟩
  item := by
    intro X hP hw hK hc i pins s σ H E I hf st hg
    subst hP hw hK
    obtain ⟨⟨old, he⟩, hit, hne, _⟩ := st
    obtain ⟨hin, xs, x, hq, hx⟩ := hg
    obtain ⟨its, rv, p, hz⟩ := I.tuple hq
    obtain ⟨u, hu, ru⟩ := rv.get hx
    have n1 := apart_it p hit
    have n2 := apart_en p he
    have el : e < s.heap.objs.size := Heap.lt_size he
    have il : it < s.heap.objs.size := hit.elim fun _ q => Heap.lt_size q.1
    have hlt : i < its.toArray.size := by
      rw [List.size_toArray]
      exact (List.getElem?_eq_some_iff.mp hu).1
    have D := Draws.tuple (prog := X.prog) (w := X.w) (A := X.A.in1) (I.ok.hd hc) it a n1 its.toArray
    refine wpAny_pyNext_enum_itemD D he ⟨hit, p⟩ hlt hne (by
      intro z
      rcases List.mem_cons.mp z with z | z
      · exact hne z
      · exact n2 (List.mem_singleton.mp z)) fun x' h' tk hPx ho hSt hT hsz hk => ?_
    have ex : x' = u := by
      have q : its.toArray[i]? = some x' := hPx
      rw [List.getElem?_toArray, hu] at q
      exact (Option.some.inj q).symm
    subst ex
    refine ⟨_, rfl, wpAny_letOwnedTupleGo_enum (s := { s with heap := h', toks := tk + 1 }) ho fun h2 he2 sb => ?_⟩
    have hT2 : h2.get? s.heap.objs.size = some { cls := .type "tuple", data := .seq #[.int i tk, x'] } := (sb.2 _ (Nat.ne_of_gt el)).trans hT
    have ok : ObjOk X.prog X.w (upd H s.heap.objs.size (.tup [.int (i : Nat), x])) h2 s.heap.objs.size (.tup [.int (i : Nat), x]) := ⟨by show 2 ≤ sizeLine; decide, [.int i tk, x'], .cons ⟨_, rfl⟩ (.cons ru .nil), ⟨_, hT2, rfl, _, rfl⟩⟩
    have I1 : Inv X pins σ (upd H s.heap.objs.size (.tup [.int (i : Nat), x])) { s with heap := h2, toks := tk + 1 } :=
      I.turnedNew (ch := [e, it]) (fun b ob hb q => (sb.2 b fun z => hb (by rw [z]; exact List.mem_cons_self)).trans (hk b ob (fun z => hb (by rw [z]; exact List.mem_cons_self)) (fun z => hb (by rw [z]; exact List.mem_cons_of_mem _ List.mem_cons_self)) q)) hf (Nat.le_refl _) ok
    refine ⟨.ref s.heap.objs.size, _, I1, rfl, ⟨_, x, rfl, I.hok.fresh (Nat.le_refl _), rfl, fun ys hy => by rw [I.tuple_inj hy hq]; exact hx⟩, ⟨⟨x', ?_⟩, hSt.1.at fun o q => (sb.2 it (Ne.symm hne)).trans q, hne, hin⟩, fun b hb => ?_⟩
    · have e1 : ((i + 1 : Nat) : Int) = (i : Int) + 1 := by omega
      rw [e1]
      exact he2
    · have lt : b < s.heap.objs.size := by
        rcases List.mem_cons.mp hb with z | z
        · rw [z]; exact el
        · rw [List.mem_singleton.mp z]; exact il
      rw [upd_ne (Nat.ne_of_lt lt)]
      exact (hf b hb).1
  done := by
    intro X hP hw hK hc i pins s σ H E I hf st hg
    subst hP hw hK
    obtain ⟨⟨old, he⟩, hit, hne, hle⟩ := st
    obtain ⟨hge, xs, hq, hx⟩ := hg
    obtain ⟨its, rv, p, hz⟩ := I.tuple hq
    obtain ⟨f0, f1, f2, f3, f4, f5⟩ := hf it (List.mem_cons_of_mem _ List.mem_cons_self)
    have D := Draws.tuple (prog := X.prog) (w := X.w) (A := X.A.in1) (I.ok.hd hc) it a (apart_it p hit) its.toArray
    have hl := rv.length
    have ei : i = its.toArray.size := by
      rw [List.size_toArray]
      have q : n ≤ i := hge
      omega
    exact wpAny_pyNext_enum_endD D he (by rw [← ei]; exact ⟨hit, p⟩) fun h' eb => ⟨rfl, I.turned (t' := s.toks) (fun b o hb q => eb b o hb q) f0 f1 f3 f4 f5⟩
  self := fun A i s Q E st h => st.1.elim fun _ he => wpAny_pyIter_enum he h
/-- enumerate of a list or of a tuple -/
def iEnA (K : Frag) (ta : TA) : TI := fun σ H R => ta σ H fun vs H1 => ∃ a xs, vs = [.ref a] ∧ ((SqL K H1 a xs ∧ R (Ite K a) H1) ∨ (SqT K H1 a xs ∧ R (EtT K a xs.length) H1))
theorem pi_enA {X : Cx} {e : Expr} {ta : TA} {p pos tpos : Pos} {elts : List Expr} {kk : Nat} (hg : Gl X "enumerate") (hm : X.mg "enumerate" = none) (ha : PA X [e] ta) (hs : starEach [e] X.env = [(false, eval e X.env)] := by rfl) :
    PI X (.Tuple elts kk tpos) (.Call (.Name "enumerate" p) [e] [] pos) (iEnA X.K ta) := by
  refine ⟨fun pins s σ H R I h => Call_ (ld_blt I hg hm boot_enumerate (PyProof.Rows.callWith_type1 (thn (ha.run pos pins s σ H _ I h) fun us s1 ⟨vs, H1, I1, r1, a, xs, ex, hq⟩ => ?_) hs rfl))⟩
  subst ex
  rw [Vals.ref1 r1]
  have fp : ∀ b, b ∈ [s1.heap.objs.size + 1, s1.heap.objs.size] → s1.heap.objs.size ≤ b := fun b z => by
    rcases List.mem_cons.mp z with z | z
    · rw [z]; exact Nat.le_succ _
    · rw [List.mem_singleton.mp z]; exact Nat.le_refl _
  rcases hq with ⟨hq, q⟩ | ⟨hq, q⟩
  · obtain ⟨its, rv, p', hz⟩ := I1.list hq
    refine call_enumerate_list p'.isList fun h' he hit _ hk => wpAny_pyIter_enum he ?_
    exact ⟨s1.heap.objs.size + 1, [s1.heap.objs.size + 1, s1.heap.objs.size], _, _, H1, rfl, I1.kept (t' := s1.toks) hk, turn_enum a (s1.heap.objs.size + 1) s1.heap.objs.size, ⟨⟨.none, he⟩, hit, Nat.succ_ne_self _⟩, fun b hb => I1.fpOk (H' := H1) (fp b hb) (I1.hok.fresh (fp b hb)), q⟩
  · obtain ⟨its, rv, p', hz⟩ := I1.tuple hq
    refine enum1_begins (begins_tuple a its.toArray) p' fun h' he hit hk => wpAny_pyIter_enum he ?_
    exact ⟨s1.heap.objs.size + 1, [s1.heap.objs.size + 1, s1.heap.objs.size], _, _, H1, rfl, I1.kept (t' := s1.toks) hk, turn_enT a (s1.heap.objs.size + 1) s1.heap.objs.size xs.length, ⟨⟨.none, he⟩, ⟨_, hit, rfl, rfl⟩, Nat.succ_ne_self _, Nat.zero_le _⟩, fun b hb => I1.fpOk (H' := H1) (fp b hb) (I1.hok.fresh (fp b hb)), q⟩
section
variable {X : Cx} {cm : Str → Option Addr} {W : WX} {a : Expr} {fa : M D}
theorem enumL_len : ∀ (xs : List D) (k : Nat), (enumL k xs).length = xs.length
  | [], _ => rfl
  | _ :: xs, k => congrArg (· + 1) (enumL_len xs (k + 1))
def itE : D → M (List D)
  | .lst xs => ret (enumL 0 xs)
  | .scr xs => ret (enumL 0 xs)
  | .tup xs => ret (enumL 0 xs)
  | _ => bad
theorem ix_enumA {p tpos : Pos} {elts : List Expr} {kk : Nat} (h : Ex X cm W a fa) (hm : X.mg "enumerate" = none) (hg : Gl X "enumerate" := by rfl) (hs : starEach [a] X.env = [(false, eval a X.env)] := by rfl) : Ix X cm W (.Tuple elts kk tpos) (.Call (.Name "enumerate" p) [a] [] pos) (bind fa itE) := by
  obtain ⟨t, pa, q⟩ := h
  refine ⟨_, pi_enA hg hm (pa_cons pa pa_nil hs) hs, fun B Z σ ρ H R S h => q B Z σ ρ H _ S (PostI.bind h fun d ρ1 v Z1 H1 g1 S1 r1 h1 => ?_)⟩
  have pair : ∀ {Z' : ZS} {H' H'' : Hp} {i : Nat} {x : V} {T : Addr} {d0 : D} {w : V} {B : Bs} {σ : L2.St} {ρ : Rho}, St0 X.K cm Z' B σ ρ H' → H' T = none → Rp X.K cm Z' H' w d0 →
      ∃ Z'', Grow Z' H' Z'' (upd H' T (.tup [.int (i : Nat), w])) ∧ St0 X.K cm Z'' B σ ρ (upd H' T (.tup [.int (i : Nat), w])) ∧ Rp X.K cm Z'' (upd H' T (.tup [.int (i : Nat), w])) (.ref T) (.tup [.int ((0 + i : Nat) : Int), d0]) := fun {Z' H' H'' i x T d0 w B σ ρ} S nT rw' => by
    obtain ⟨Z2, g2, S2, r2⟩ := S.newT (xs := [.int (i : Nat), w]) (ds := [.int ((0 + i : Nat) : Int), d0]) nT (.cons (by rw [Nat.zero_add]; exact .int _) (.cons rw' .nil))
    exact ⟨Z2, g2, S2, r2⟩
  have key : ∀ {p : Addr} {vs : List V} {ds : List D}, (∀ Z' H', Grow Z1 H1 Z' H' → SqL X.K H' p vs) → RpA X.K cm Z1 H1 vs ds → Wks X.K cm (Ite X.K p) Z1 H1 (enumL 0 ds) := fun {p vs ds} hq r Z' H' g i => by
    refine ⟨fun d hd => ?_, fun hn => ⟨vs, hq Z' H' g, ?_⟩⟩
    · rw [enumL_get] at hd
      obtain ⟨d0, ed, rfl⟩ := Option.map_eq_some_iff.mp hd
      obtain ⟨w, hw, rw'⟩ := (RpA.grow g r).getD ed
      refine ⟨⟨vs, w, hq Z' H' g, hw⟩, fun x H'' y B σ ρ S => ?_⟩
      obtain ⟨T, x0, rfl, nT, rfl, hx⟩ := y
      cases (hx vs (hq Z' H' g)).symm.trans hw
      exact pair (x := w) (H'' := H') S nT rw'
    · rw [RpA.length r, ← enumL_len ds 0]
      exact List.getElem?_eq_none_iff.mp hn
  have keyT : ∀ {p : Addr} {vs : List V} {ds : List D}, (∀ Z' H', Grow Z1 H1 Z' H' → SqT X.K H' p vs) → RpA X.K cm Z1 H1 vs ds → Wks X.K cm (EtT X.K p vs.length) Z1 H1 (enumL 0 ds) := fun {p vs ds} hq r Z' H' g i => by
    refine ⟨fun d hd => ?_, fun hn => ⟨?_, vs, hq Z' H' g, rfl⟩⟩
    · rw [enumL_get] at hd
      obtain ⟨d0, ed, rfl⟩ := Option.map_eq_some_iff.mp hd
      obtain ⟨w, hw, rw'⟩ := (RpA.grow g r).getD ed
      refine ⟨⟨(List.getElem?_eq_some_iff.mp hw).1, vs, w, hq Z' H' g, hw⟩, fun x H'' y B σ ρ S => ?_⟩
      obtain ⟨T, x0, rfl, nT, rfl, hx⟩ := y
      cases (hx vs (hq Z' H' g)).symm.trans hw
      exact pair (x := w) (H'' := H') S nT rw'
    · rw [RpA.length r, ← enumL_len ds 0]
      exact List.getElem?_eq_none_iff.mp hn
  unfold itE at h1
  split at h1
  · cases r1 with
    | lst z h2 r2 => exact ⟨_, _, rfl, .inl ⟨.inl (.inl h2), h1 _ Z1 H1 Grow.refl S1 (key (fun Z' H' g => .inl (.inl ((g _ z).2.trans h2))) r2)⟩⟩
  · cases r1 with
    | scr h2 r2 => exact ⟨_, _, rfl, .inl ⟨h2.sq, h1 _ Z1 H1 Grow.refl S1 (key (fun Z' H' g => (h2.grow g).sq) r2)⟩⟩
  · cases r1 with
    | tup h2 r2 => exact ⟨_, _, rfl, .inr ⟨h2.sq, h1 _ Z1 H1 Grow.refl S1 (keyT (fun Z' H' g => (h2.grow g).sq) r2)⟩⟩
  · exact h1.elim
end
end De

set_option Elab.async false
set_option linter.all false
set_option maxRecDepth 100000
set_option maxHeartbeats 2000000
namespace De
open PySem PySem.Spec PyProof.Rows L2
open PySem.W (Frag)
/-! ### tuple(reversed(a tuple)) -/
namespace RvT
open RT
theorem no_len : typeLookup (.type "reversed") "__len__" = pure none := by rw [typeLookup_type, builtinLookup_eq_fast]; kernel_rfl
theorem has_hint : typeLookup (.type "reversed") "__length_hint__" = pure (some (.builtin "reversed.__length_hint__")) := by rw [typeLookup_type, builtinLookup_eq_fast]; kernel_rfl
theorem slot_hint : Slot "reversed" "__length_hint__" "reversed.__length_hint__" :=
  .of (owner := "reversed") (n := "__length_hint__") (by rw [typeLookup_type, builtinLookup_eq_fast]; kernel_rfl) (by decide +kernel) (by decide +kernel) (by decide +kernel) (.inr (by decide +kernel)) (by rw [isSubtype_type]; kernel_rfl)
theorem entry_hint : entryFor table "reversed.__length_hint__" = some Builtin.«reversed.__length_hint__» := entryFor_of_tree (by kernel_rfl)
theorem args_hint (a : Value) : argsOk "reversed.__length_hint__" ⟨[a], []⟩ := by
  unfold argsOk
  rw [signature?_of (id := "reversed.__length_hint__") (n := ['_', '_', 't', 'n', 'i', 'h', '_', 'h', 't', 'g', 'n', 'e', 'l', '_', '_']) (o := ['d', 'e', 's', 'r', 'e', 'v', 'e', 'r']) (by kernel_rfl) owner_rt]
  kernel_rfl
section
variable {prog : Program} {w : World} {A : Around} {E : Value → Shared → Prop} {s : Shared} {it t : Addr} {items : Array Value}
theorem walks_rt (hh : A.handled = none) (hne : t ≠ it) (hsz : items.size ≤ sizeLine) :
    Walks prog w A it [it, t] [it] items.size (fun i v => items[items.size - 1 - i]? = some v) (fun i h => i ≤ items.size ∧ IsRt h it t ((items.size : Int) - 1 - (i : Int)) ∧ IsTup h t items) where
  sub := fun b hb => by
    rw [List.mem_singleton.mp hb]
    exact List.mem_cons_self
  frame := fun _ _ _ x hk => ⟨x.1, x.2.1.at fun o e => hk it List.mem_cons_self o e, x.2.2.elim fun o q => ⟨o, hk t (List.mem_cons_of_mem _ List.mem_cons_self) o q.1, q.2⟩⟩
  item := fun i s Q E hi x hQ => by
    obtain ⟨_, hit, ht⟩ := x
    have e : (items.size : Int) - 1 - (i : Int) = ((items.size - 1 - i : Nat) : Int) := by omega
    rw [e] at hit
    have hx : items[items.size - 1 - i]? = some (items[items.size - 1 - i]'(by omega)) := Array.getElem?_eq_getElem (by omega)
    refine next_rt_item hit ht hx hsz fun h' hit' sb => ?_
    have e2 : ((items.size - 1 - i : Nat) : Int) - 1 = (items.size : Int) - 1 - ((i + 1 : Nat) : Int) := by omega
    rw [e2] at hit'
    exact hQ _ h' _ hx ⟨hi, hit', ht.elim fun o q => ⟨o, (sb.2 t hne).trans q.1, q.2⟩⟩ fun b o hb eo => sb.extBut b o (fun z => hb (by rw [z]; exact List.mem_cons_self)) eo
  done := fun s Q E x hQ => by
    obtain ⟨_, hit, ht⟩ := x
    have e : (items.size : Int) - 1 - (items.size : Int) = -1 := by omega
    rw [e] at hit
    exact next_rt_end hh hit fun h' he => hQ h' s.toks fun b o hb eo => he b o (fun z => hb (by rw [z]; exact List.mem_cons_self)) eo
  self := fun _ _ _ _ x hQ => iter_rt x.2.1 hQ
theorem hint_rt {Q : Value → Shared → Prop} (hit : IsRt s.heap it t ((items.size : Int) - 1)) (ht : IsTup s.heap t items) (hsz : items.size ≤ sizeLine)
    (k : ∀ u tk, s.toks ≤ tk → Q (.int items.size u) { s with toks := tk }) : wpAny (model prog w) A (call (.builtin "reversed.__length_hint__") [.ref it]) Q E s := by
  obtain ⟨o, ho, hc, hd⟩ := id hit
  have hl := sizeLine_eq
  refine wpAny_call_entry slot_hint hit.typeIs entry_hint ?_ (args_hint _)
  unfold Builtin.«reversed.__length_hint__»
  refine wpAny_bind (wpAny_of_eq (a := Value.ref it) rfl ?_)
  refine wpAny_bind (wpAny_field ho hd (x := .ref t) rfl ?_)
  rw [if_neg (show ¬ ((Value.ref t == Value.none) = true) from by simp)]
  refine wpAny_bind (PyProof.Rows.len_tuple ht (by omega) ?_)
  refine wpAny_bind (wpAny_of_eq (a := some ((items.size : Nat) : Int)) rfl ?_)
  refine wpAny_bind (wpAny_field (s := { s with toks := s.toks + 1 + 1 }) ho hd (x := rawInt ((items.size : Int) - 1)) rfl ?_)
  show wpAny _ _ (if ((items.size : Nat) : Int) < (items.size : Int) - 1 + 1 then _ else retInt ((items.size : Int) - 1 + 1)) _ _ _
  rw [if_neg (by omega), show (items.size : Int) - 1 + 1 = items.size by omega]
  unfold retInt
  refine wpAny_bind (wpAny_mkInt ?_)
  exact wpAny_pure ⟨_, rfl, k _ _ (by show s.toks ≤ s.toks + 1 + 1 + 1; omega)⟩
theorem collect_rt {Q : List Value → Shared → Prop} (hh : A.handled = none) (hit : IsRt s.heap it t ((items.size : Int) - 1)) (ht : IsTup s.heap t items) (h0 : 0 < items.size) (hsz : items.size ≤ sizeLine)
    (hQ : ∀ (h' : Heap) (tk : Nat) (acc : Array Value), (∀ b o, b ≠ it → s.heap.get? b = some o → h'.get? b = some o) → ItemsOf (fun i v => items[items.size - 1 - i]? = some v) acc items.size → Q acc.toList { s with heap := h', toks := tk }) :
    wpAny (model prog w) A (collect (.ref it)) Q E s := by
  obtain ⟨oi, hoi, hci, _⟩ := id hit
  obtain ⟨ot, hot, hct, _⟩ := id ht
  have lt1 : it < s.heap.objs.size := Heap.lt_size hoi
  have lt2 : t < s.heap.objs.size := Heap.lt_size hot
  have hne : t ≠ it := fun z => by
    subst z
    rw [hoi] at hot
    cases hot
    exact absurd (hci.symm.trans hct) (by decide)
  have nin : s.heap.objs.size ∉ [it, t] := fun z => by
    rcases List.mem_cons.mp z with z | z
    · exact Nat.lt_irrefl _ (z ▸ lt1)
    · exact Nat.lt_irrefl _ (List.mem_singleton.mp z ▸ lt2)
  have Wk := (walks_rt (prog := prog) (w := w) (A := A.in1) (it := it) (t := t) (items := items) hh hne hsz).toS
  let emp : Obj := { cls := .type "list", data := .seq ([] : List Value).toArray }
  have e0 : ((items.size : Nat) : Int) - 1 - ((0 : Nat) : Int) = (items.size : Int) - 1 := by omega
  unfold collect
  refine wpAny_bind (wpAny_runValue (codeAny_builtin F.entry_proto_collect ?_))
  rw [Around.under_plainId F.plain_proto_collect _]
  show wpAny _ A.in1 (newList [] >>= fun y => again (.builtin "list.__iadd__" ⟨[y, .ref it], []⟩)) _ _ s
  refine wpAny_bind (wpAny_newObj_type (wpAny_pure ⟨plainId_quiet F.plain_list_iadd _, codeAny_builtin F.entry_list_iadd ?_⟩))
  rw [Around.under_plainId F.plain_list_iadd _]
  have p1 : IsRt (s.heap.push emp) it t ((items.size : Int) - 1) := hit.at fun o e => Heap.get?_push_of_some _ e
  have p2 : IsTup (s.heap.push emp) t items := ht.push _
  have g1 : (s.heap.push emp).get? s.heap.objs.size = some emp := Heap.get?_push_size _ rfl
  have ty : ({ s with heap := s.heap.push emp } : Shared).TypeIs (.ref it) "reversed" := IsRt.typeIs (s := { s with heap := s.heap.push emp }) p1
  have q1 : Builtin.List.listSameRef (.ref s.heap.objs.size) (.ref it) = false := beq_eq_false_iff_ne.mpr (Nat.ne_of_gt lt1)
  show wpAny _ A.in1 (Builtin.List.listExtendWith (.ref s.heap.objs.size) (.ref it) (.ref s.heap.objs.size)) _ _ _
  unfold Builtin.List.listExtendWith
  refine wpAny_bind (wpAny_typeOf ty ?_)
  rw [if_neg (by rw [q1]; decide)]
  refine wpAny_bind (iter_rt (s := { s with heap := s.heap.push emp }) p1 (wpAny_bind (wpAny_holding ?_)))
  unfold Builtin.List.listLengthHint
  refine wpAny_bind (wpAny_specialOf ty no_len ?_)
  show wpAny _ A.in1 (specialOf (Value.ref it) (Str.ofString "__length_hint__") >>= _) _ _ _
  refine wpAny_bind (wpAny_specialOf ty has_hint ?_)
  generalize hid : ("reversed.__length_hint__" : String) = id0
  wp_delta
  rw [show splitId id0 = some ("reversed", "__length_hint__") from by subst hid; decide +kernel]
  subst hid
  refine wpAny_bind (wpAny_isInstance (b := true) ty (by rw [isSubtype_type]; kernel_rfl) ?_)
  rw [if_neg (by decide)]
  rw [if_neg (by decide +kernel)]
  refine wpAny_bind (wpAny_rule ?_)
  refine wpAny_bind (wpAny_of_eq (slot_hint.bind _) ?_)
  refine wpAny_bind (wpAny_attempt (hint_rt (s := { s with heap := s.heap.push emp }) p1 p2 hsz fun u tk htk => ?_))
  dsimp only
  have f0 : asInt? (Value.int ((items.size : Nat) : Int) u) = pure (some ((items.size : Nat) : Int)) := by unfold asInt?; rfl
  refine wpAny_bind ?_
  rw [f0]
  refine wpAny_pure ?_
  have hl := sizeLine_eq
  have f1 : (!Builtin.List.listFitsIndex ((items.size : Nat) : Int)) = false := by
    unfold Builtin.List.listFitsIndex
    rw [decide_eq_true (by omega), decide_eq_true (by omega)]
    rfl
  dsimp only
  rw [if_neg (by rw [f1]; decide), if_neg (by omega)]
  have f2 : Builtin.List.listTooLong ((items.size : Nat) : Int).toNat = false := decide_eq_false (by omega)
  rw [if_neg (by rw [f2]; decide)]
  refine wpAny_pure ?_
  have f3 : (((items.size : Nat) : Int) != 0) = true := bne_iff_ne.mpr fun z => by omega
  rw [f3]
  clear hl f1 f2 f3 f0
  show wpAny _ A.in1 (rule "list.extend.makes-room" >>= fun _ => Builtin.List.listTouch (.ref s.heap.objs.size) >>= fun _ => again (.builtin "list.extend.loop" ⟨[.ref s.heap.objs.size, .ref it, .ref s.heap.objs.size], []⟩)) _ _ _
  refine wpAny_bind (wpAny_rule (wpAny_bind ?_))
  show wpAny _ A.in1 (updateSeq s.heap.objs.size (·.push .none) >>= fun _ => updateSeq s.heap.objs.size (·.pop)) _ _ _
  refine wpAny_bind (wpAny_updateSeq (s := { s with heap := s.heap.push emp, toks := tk }) g1 rfl ?_)
  have g2 := Heap.get?_update_self (Obj.mapSeq (·.push Value.none)) g1 rfl
  refine wpAny_updateSeq g2 rfl ?_
  have g3 := Heap.get?_update_self (Obj.mapSeq (·.pop)) g2 rfl
  have oth : ∀ b o, b ≠ s.heap.objs.size → (s.heap.push emp).get? b = some o → (((s.heap.push emp).update s.heap.objs.size (Obj.mapSeq (·.push Value.none))).update s.heap.objs.size (Obj.mapSeq (·.pop))).get? b = some o :=
    fun b o hb e => (Heap.get?_update_other _ _ (Ne.symm hb)).trans ((Heap.get?_update_other _ _ (Ne.symm hb)).trans e)
  refine wpAny_pure ⟨plainId_quiet F.plain_extend_loop _, codeAny_extend_loopS Wk hsz _ nin _ items.size 0 _ _ _ rfl (Nat.zero_le _) ⟨Nat.zero_le _, ?_, ?_⟩ g3 (ItemsOf.nil _) fun s' acc' c' hm hS' hacc => ?_⟩
  · rw [e0]
    exact p1.at fun o e => oth it o (Nat.ne_of_lt lt1) e
  · exact p2.elim fun o q => ⟨o, oth t o (Nat.ne_of_lt lt2) q.1, q.2⟩
  · show wpAny _ A (load s.heap.objs.size >>= _) _ _ s'
    refine wpAny_bind (wpAny_load hS' (wpAny_pure ?_))
    rw [Moved.eq_with hm]
    refine hQ s'.heap s'.toks acc' (fun b o hb e => hm.heap b o (fun z => ?_) (oth b o (Nat.ne_of_lt (Heap.lt_size e)) (Heap.get?_push_of_some _ e))) hacc
    rcases List.mem_cons.mp z with z | z
    · exact Nat.lt_irrefl _ (z ▸ Heap.lt_size e)
    · exact hb (List.mem_singleton.mp z)
theorem new_tuple_rt {Q : Value → Shared → Prop} (hh : A.handled = none) (hit : IsRt s.heap it t ((items.size : Int) - 1)) (ht : IsTup s.heap t items) (h0 : 0 < items.size) (hsz : items.size ≤ sizeLine)
    (k : ∀ (h' : Heap) (tk : Nat) (acc : Array Value), (∀ b o, b ≠ it → s.heap.get? b = some o → h'.get? b = some o) → ItemsOf (fun i v => items[items.size - 1 - i]? = some v) acc items.size → Q (.ref h'.objs.size) { s with heap := h'.push { cls := .type "tuple", data := .seq acc }, toks := tk }) :
    codeAny (model prog w) A (.call (.builtin "tuple.__new__") ⟨[.type "tuple", .ref it], []⟩) (wants Q E) s := by
  refine codeAny_of_tree ?_
  show wpAny _ A.in1 (checkBuiltinCall "tuple.__new__" ⟨[.type "tuple", .ref it], []⟩ >>= fun _ => again (.builtin "tuple.__new__" ⟨[.type "tuple", .ref it], []⟩)) _ _ s
  refine wpAny_bind (wpAny_of_eq (F.newCall_tuple_1 _) (wpAny_pure ⟨plainId_quiet F.plain_tuple_new _, codeAny_builtin F.entry_tuple_new ?_⟩))
  rw [Around.under_plainId F.plain_tuple_new _]
  have a1 := sub_tuple_self
  have a2 := init_tuple_lookup
  have a3 := madeHere_tuple
  have ty : s.TypeIs (.ref it) "reversed" := IsRt.typeIs hit
  have hh1 : A.in1.handled = none := hh
  wp_walk using wpAny_typeOf ty, collect_rt (A := A.in1) hh1 hit ht h0 hsz
  intro h' tk acc hk hacc
  show wpAny _ _ (Builtin.Tuple.tupleExact acc.toList.toArray >>= fun v => PySem.ret v) _ _ _
  unfold Builtin.Tuple.tupleExact
  have e : acc.toList.toArray = acc := Array.toArray_toList
  rw [e]
  exact wpAny_bind (wpAny_newObj_type (wpAny_pure (k h' tk acc hk hacc)) (by show acc.size ≤ sizeLine; rw [hacc.1]; exact hsz))
theorem call_tuple_rt {Q : Value → Shared → Prop} (hh : A.handled = none) (hit : IsRt s.heap it t ((items.size : Int) - 1)) (ht : IsTup s.heap t items) (h0 : 0 < items.size) (hsz : items.size ≤ sizeLine)
    (k : ∀ (h' : Heap) (tk : Nat) (acc : Array Value), (∀ b o, b ≠ it → s.heap.get? b = some o → h'.get? b = some o) → ItemsOf (fun i v => items[items.size - 1 - i]? = some v) acc items.size → Q (.ref h'.objs.size) { s with heap := h'.push { cls := .type "tuple", data := .seq acc }, toks := tk }) :
    wpAny (model prog w) A (call (.type "tuple") [.ref it]) Q E s := by
  refine callType_codes (Q₁ := fun obj s₁ => s₁.TypeIs obj "tuple" ∧ Q obj s₁) F.called_tuple (F.typeCall_tuple_1 _) F.entry_object_init
    (new_tuple_rt (A := A.in1) hh hit ht h0 hsz fun h' tk acc q1 q2 => ⟨⟨_, Heap.get?_push_size _ rfl, rfl⟩, k h' tk acc q1 q2⟩) fun obj s₁ q => ⟨q.1, F.args_object_init_2 obj _, object_init_meets F.called_tuple.init.lookup F.called_tuple.made (by decide) prog w A.in1 _ s₁ ⟨q.1, rfl, q.2⟩⟩
end
end RvT
section
open RT RvT
variable {X : Cx} {cm : Str → Option Addr} {W : WX} {fa : M D}
/-- tuple(reversed(x)), x a tuple that is not empty -/
def tTupRevT (K : Frag) (te : TE) : TE := fun σ H Q => te σ H fun v H1 => ∃ (a : Addr) (xs : List V), v = .ref a ∧ SqT K H1 a xs ∧ 0 < xs.length ∧ ∀ q, H1 q = none → Q (.ref q) (upd H1 q (.tup xs.reverse))
theorem pe_tupRevT {e : Expr} {te : TE} {p p2 pos pos2 : Pos} (hc : X.calm = true) (hg : Gl X "tuple") (hm : X.mg "tuple" = none) (hg2 : Gl X "reversed") (hm2 : X.mg "reversed" = none) (he : PE X e te)
    (hs : starEach [e] X.env = (false, eval e X.env) :: starEach [] X.env := by rfl)
    (hs2 : starEach [.Call (.Name "reversed" p2) [e] [] pos2] X.env = (false, eval (.Call (.Name "reversed" p2) [e] [] pos2) X.env) :: starEach [] X.env := by rfl) :
    PE X (.Call (.Name "tuple" p) [.Call (.Name "reversed" p2) [e] [] pos2] [] pos) (tTupRevT X.K te) := by
  refine ⟨fun pins s σ H Q I h => Call_ (ld_blt I hg hm boot_tuple (PyProof.Rows.callWith_type1 (args_cons (Call_ (ld_blt I hg2 hm2 PyProof.Rows.boot_reversed (PyProof.Rows.callWith_type1 (args_cons (thn (he.run pins s σ H _ I h) fun u s1 ⟨v, H1, I1, r1, a, xs, ev, hq, n0, q⟩ => args_nil ?_) hs) hs rfl))) hs2) hs2 rfl))⟩
  subst ev
  obtain rfl : u = Value.ref a := r1
  obtain ⟨its, rv, p', hz⟩ := I1.tuple hq
  have hl := rv.length
  have hln := line63
  refine call_reversed_tup p' (fun A E Q k => PyProof.Rows.len_tuple p' (by simp only [List.size_toArray] <;> omega) k) (args_nil ?_)
  have keep0 : ∀ b o, s1.heap.get? b = some o → (s1.heap.push (rtObj a ((its.toArray.size : Int) - 1))).get? b = some o := fun b o e => Heap.get?_push_of_some _ e
  have I2 : Inv X pins σ H1 { s1 with heap := s1.heap.push (rtObj a ((its.toArray.size : Int) - 1)), toks := s1.toks + 1 + 1 } := I1.kept (t' := s1.toks + 1 + 1) keep0
  obtain ⟨f0, f1, f2, f3, f4, f5⟩ := I1.fpOk (H' := H1) (b := s1.heap.objs.size) (Nat.le_refl _) (I1.hok.fresh (Nat.le_refl _))
  have hn : its.toArray.size ≤ sizeLine := by rw [List.size_toArray, ← hl]; exact hz
  have hp : 0 < its.toArray.size := by rw [List.size_toArray, ← hl]; exact n0
  refine call_tuple_rt (s := { s1 with heap := s1.heap.push (rtObj a ((its.toArray.size : Int) - 1)), toks := s1.toks + 1 + 1 }) (I1.ok.hd hc) ⟨_, Heap.get?_push_size _ rfl, rfl, rfl⟩ (p'.push _) hp hn fun h' tk acc hk hi => ?_
  have I3 : Inv X pins σ H1 { s1 with heap := h', toks := tk } := I2.turned (t' := tk) (fun b o hb e => hk b o hb e) f0 f1 f3 f4 f5
  refine ⟨.ref h'.objs.size, upd H1 h'.objs.size (.tup xs.reverse), I3.laid (t' := tk) (fun c o e => Heap.get?_push_of_some _ e) (Nat.le_refl _) ⟨by rw [List.length_reverse]; exact hz, acc.toList, vals_rev rv hi, ?_⟩, rfl, q _ (I3.hok.fresh (Nat.le_refl _))⟩
  rw [Array.toArray_toList]
  exact IsTup.new _ _
def revTD : D → M D
  | .tup (x :: xs) => ret (.tup (x :: xs).reverse)
  | _ => bad
theorem RpA.reverse {K : Frag} {Z : ZS} {H : Hp} : ∀ {vs : List V} {ds : List D}, RpA K cm Z H vs ds → RpA K cm Z H vs.reverse ds.reverse
  | _, _, .nil => .nil
  | _, _, .cons h t => by
    rw [List.reverse_cons, List.reverse_cons]
    exact RpA.append (RpA.reverse t) (.cons h .nil)
theorem ex_tupRev {e : Expr} {p p2 pos pos2 : Pos} (hm : X.mg "tuple" = none) (hm2 : X.mg "reversed" = none) (he : Ex X cm W e fa) (hc : X.calm = true := by rfl) (hg : Gl X "tuple" := by rfl) (hg2 : Gl X "reversed" := by rfl)
    (hs : starEach [e] X.env = (false, eval e X.env) :: starEach [] X.env := by rfl)
    (hs2 : starEach [.Call (.Name "reversed" p2) [e] [] pos2] X.env = (false, eval (.Call (.Name "reversed" p2) [e] [] pos2) X.env) :: starEach [] X.env := by rfl) :
    Ex X cm W (.Call (.Name "tuple" p) [.Call (.Name "reversed" p2) [e] [] pos2] [] pos) (bind fa revTD) := by
  obtain ⟨t, pa, q⟩ := he
  refine ⟨_, pe_tupRevT hc hg hm hg2 hm2 pa hs hs2, fun B Z σ ρ H Q S h => q B Z σ ρ H _ S (Post.bind h fun d ρ1 v Z1 H1 g1 S1 r1 h1 => ?_)⟩
  unfold revTD at h1
  split at h1
  · cases r1 with
    | tup h2 r2 =>
      refine ⟨_, _, rfl, h2.sq, by rw [RpA.length r2]; exact Nat.succ_pos _, fun q hq => ?_⟩
      obtain ⟨Z2, g2, S2, r3⟩ := S1.newT hq r2.reverse
      exact h1 _ Z2 _ g2 S2 r3
  · exact h1.elim
end
end De

set_option Elab.async false
set_option linter.all false
set_option maxRecDepth 100000
set_option maxHeartbeats 4000000
namespace De
open PySem PySem.Spec PyProof.Rows L2
open PySem.W (Frag)
/-! ### several except clauses, each with or without a name -/
structure Cla where
  c : Value
  nm : Option Nat
  ts : Addr → Value → Option Addr → TS
def offAt (D : Ends) : Option Nat → Ends
  | none => D
  | some i => { nx := fun σ H => D.nx (σ.set i none) H, rt := D.rt, bk := fun σ H => D.bk (σ.set i none) H, ct := fun σ H => D.ct (σ.set i none) H }
def onAt (σ : L2.St) (a : Addr) : Option Nat → L2.St
  | none => σ
  | some i => σ.set i (some (.ref a))
/-- what the clauses wish of an error, one behind the other -/
def wCla (K : Frag) (Wo : WX) (D : Ends) : List Cla → WX
  | [] => Wo
  | k :: r => fun cls d σ H => ∃ b, PySem.W.exmOne K cls k.c = some b ∧ (b = true → ∀ a, H a = none → k.ts a cls d (offAt D k.nm) (onAt σ a k.nm) H) ∧ (b = false → wCla K Wo D r cls d σ H)
def NmOk (X : Cx) : Option Nat → Option Str → Prop
  | none, none => True
  | some i, some n => X.N[i]? = some n ∧ X.env.kindOf n = some .local
  | _, _ => False
inductive ClaOk (X : Cx) : List ExceptHandler → List Cla → Prop
  | nil : ClaOk X [] []
  | cons {x : Str} {c : Value} {nm : Option Nat} {on : Option Str} {ts : Addr → Value → Option Addr → TS} {b₀ : Stmt} {su : List Stmt} {np p' : Pos} {hds : List ExceptHandler} {l : List Cla} (hc : Names X x c) (hn : NmOk X nm on)
      (hsu : ∀ (a : Addr) (oe : Obj) (cls : Value) (d : Option Addr) (pn : List (Addr × Obj)), Zc cls d oe → (∃ vs, oe.data = .fields vs) → PSs (X.suite a ((a, oe) :: pn)) (b₀ :: su) (ts a cls d)) (r : ClaOk X hds l) :
      ClaOk X (.ExceptHandler (some (.Name x np)) on (b₀ :: su) p' :: hds) (⟨c, nm, ts⟩ :: l)
section
variable {X : Cx} {body : List Stmt} {h₀ : ExceptHandler} {hds : List ExceptHandler} {l : List Cla} {pos : Pos} {tb : WX → TS} {Wo : WX}
theorem ps_try_cla (hN : X.N.Nodup) (hs : X.stack = X.env :: X.outer) (hf : X.env.frame = some X.env.locals) (tk : Takes X Wo)
    (hb : ∀ (W : WX) (pn : List (Addr × Obj)) (xe : Value → Shared → Prop), Takes (X.tr pn xe) W → PassesOwn (model X.prog X.w) X.A X.env xe → PSs (X.tr pn xe) body (tb W))
    (hh : ClaOk X (h₀ :: hds) l) : PS X (.Try body (h₀ :: hds) [] [] pos) (fun D σ H => tb (wCla X.K Wo D l) D σ H) := by
  constructor
  intro pins s σ H D I h
  have ok := I.ok
  have leave : ∀ {f : Flow} {s1 : Shared}, SP (X.tr (X.pn ++ pins) (fun e s₁ => wpAny (model X.prog X.w) X.A (noteFrame e X.env) (fun _ s₂ => wpAny (model X.prog X.w) X.A (setFlight e none) (fun _ s₃ => wpAny (model X.prog X.w) X.A (handleBy e X.env (h₀ :: hds)) (SP X pins D) X.xe s₃) X.xe s₂) X.xe s₁)) [] D f s1 → SP X pins D f s1 := fun {f s1} q => by
    cases f with
    | next =>
      obtain ⟨σ', H', J, q⟩ := q
      exact ⟨σ', H', J.ofTry ok, q⟩
    | brk =>
      obtain ⟨σ', H', J, q⟩ := q
      exact ⟨σ', H', J.ofTry ok, q⟩
    | cont =>
      obtain ⟨σ', H', J, q⟩ := q
      exact ⟨σ', H', J.ofTry ok, q⟩
    | ret u =>
      obtain ⟨v, σ', H', J, r, q⟩ := q
      exact ⟨v, σ', H', J.ofTry ok, r, q⟩
  refine wpAny_Try_except (wpAny_mono ((hb (wCla X.K Wo D l) (X.pn ++ pins) _ (fun u s' xx => ?_) PassesOwn.looking).run [] s σ H D (I.toTry _) h) (fun f s1 q => ?_) fun e s1 z => z)
  · obtain ⟨a, B, sI, pins', σ', H', cls, d, rfl, J0, nb, up, sky, na, os, ag, w⟩ := xx
    have J : Inv X pins σ' H' sI := J0.ofTry ok
    rw [show (X.tr (X.pn ++ pins) _).stack = X.env :: X.outer from hs] at sky
    show wpAny (model X.prog X.w) X.A (noteFrame (.ref a) X.env) _ _ _
    refine Sky.land Zc.steady (by rw [ok.frames, hs]) hf sky fun h3 fl3 up3 => ?_
    have J3 : Inv X pins σ' H' { s' with heap := h3 } := J.landed nb fl3.1 (up.trans up3) os ag
    obtain ⟨oe3, vs3, he3, hz3, hd3⟩ := fl3.there
    have nfr : a ∉ frs (X.env :: X.outer) := fun hm => by
      obtain ⟨_, o', e', hnf⟩ := fl3.2.2.1.mem hm
      cases he3.symm.trans e'
      exact hnf _ hd3
    have nL : a ≠ X.env.locals := fun z => nfr (List.mem_filterMap.mpr ⟨X.env, List.mem_cons_self, by rw [hf, z]⟩)
    have nF : a ∉ X.fs := fun hm => by
      obtain ⟨e, he, q⟩ := List.mem_filterMap.mp hm
      exact nfr (List.mem_filterMap.mpr ⟨e, List.mem_cons_of_mem _ he, q⟩)
    have S3 := J3.suite he3 hd3 na nL nF
    have go : ∀ {hl : List ExceptHandler} {l' : List Cla}, ClaOk X hl l' → wCla X.K Wo D l' cls d σ' H' → wpAny (model X.prog X.w) X.A (handleBy (.ref a) X.env hl) (SP X pins D) X.xe { s' with heap := h3 } := by
      intro hl l' hk
      induction hk with
      | nil =>
        intro w
        refine wpAny_handleBy_nil ?_
        obtain ⟨k1, k2, k3, oe, vs, T, oT, ts', he, hz, hd, h1, hr⟩ := id fl3
        unfold PySem.passOn
        refine wpAny_bind (wpAny_field he hd h1 ?_)
        rw [if_neg (show ¬ ((Value.ref T == Value.none) = true) by simp)]
        have fin : wpAny (model X.prog X.w) X.A (setFlight (.ref a) X.env.frame) (fun _ s4 => wpAny (model X.prog X.w) X.A (throw (.ref a) : Sem Flow) (SP X pins D) X.xe s4) X.xe { s' with heap := h3 } := by
          rw [hf]
          exact HandSPX.setFlight_upZ fl3 fun h4 hh4 up4 => wpAny_throw (tk _ _ ⟨a, B, sI, pins, σ', H', cls, d, rfl, J, nb, (up.trans up3).trans up4, .inr (.inr (by rw [hs]; exact hh4)), na, os, ag, w⟩)
        first
          | exact wpAny_bind fin
          | exact wpAny_bind (wpAny_pure (wpAny_bind fin))
      | @cons x c nm on ts b₀ su np p' hds2 l2 hc hn hsu r ih =>
        intro w
        obtain ⟨b, hb1, hyes, hno⟩ := w
        refine wpAny_handleBy_cons (codeAny_handlers_test ?_) (by intro q; cases q)
        have LT : PySem.W.Looks (model X.prog X.w) h3 (typeOf (.ref a)) cls := fun A Q E s k q => wpAny_typeOf_ref (k _ _ he3) (by rw [hz3.1]; exact q)
        have LM := PySem.W.exm_one (M := model X.prog X.w) J3.kIn LT hb1
        have ask : ∀ {Q E : Value → Shared → Prop}, Q c { s' with heap := h3 } → wpAny (model X.prog X.w) (X.A.mark (some (.ref a))) (eval (.Name x np) X.env) Q E { s' with heap := h3 } := fun {Q E} q => by
          obtain ⟨hg, hdb, hm | ⟨hm, hv, hnn⟩⟩ := hc
          · exact ld_glob (X := X.suite a ((a, oe3) :: (X.pn ++ pins))) S3 hg hm q hdb
          · exact ld_blt (X := X.suite a ((a, oe3) :: (X.pn ++ pins))) S3 hg hm hv q hnn hdb
        refine ask (LM.here ?_)
        cases b with
        | false =>
          show wpAny _ X.A (handleBy (.ref a) X.env hds2) _ _ _
          exact ih (hno rfl)
        | true =>
          cases nm with
          | none =>
            cases on with
            | some n => exact hn.elim
            | none =>
              refine codeAny_handlers_suite (HandSPX.lands_againZ fl3 fun h4 fl4 up4 => ?_)
              have J4 : Inv X pins σ' H' { s' with heap := h4 } := J.landed nb fl4.1 ((up.trans up3).trans up4) os ag
              obtain ⟨oe4, vs4, he4, hz4, hd4⟩ := fl4.there
              refine wpAny_mono ((hsu a oe4 cls d (X.pn ++ pins) hz4 ⟨_, hd4⟩).run [] _ _ H' _ (J4.suite he4 hd4 na nL nF) (hyes rfl a na)) (fun f s6 q => ?_) fun _ _ z => z.elim
              cases f with
              | ret u =>
                obtain ⟨v6, σ6, H6, S6, r6, q6⟩ := q
                exact ⟨_, _, _, S6.unsuite ok, r6, q6⟩
              | next =>
                obtain ⟨σ6, H6, S6, q6⟩ := q
                exact ⟨_, _, S6.unsuite ok, q6⟩
              | brk =>
                obtain ⟨σ6, H6, S6, q6⟩ := q
                exact ⟨_, _, S6.unsuite ok, q6⟩
              | cont =>
                obtain ⟨σ6, H6, S6, q6⟩ := q
                exact ⟨_, _, S6.unsuite ok, q6⟩
          | some i =>
            cases on with
            | none => exact hn.elim
            | some n =>
              obtain ⟨hi, hln⟩ := hn
              refine codeAny_handlers_suite_as (HandSPX.lands_againZ fl3 fun h4 fl4 up4 => ?_)
              have J4 : Inv X pins σ' H' { s' with heap := h4 } := J.landed nb fl4.1 ((up.trans up3).trans up4) os ag
              obtain ⟨oe4, vs4, he4, hz4, hd4⟩ := fl4.there
              refine store_ok (X := X.suite a ((a, oe4) :: (X.pn ++ pins))) (v := .ref a) (J4.suite he4 hd4 na nL nF) hN hi (.inl hln) rfl (fun s5 S5 => ?_) (.inr hln)
              refine wpAny_mono ((hsu a oe4 cls d (X.pn ++ pins) hz4 ⟨_, hd4⟩).run [] s5 _ H' _ S5 (hyes rfl a na)) (fun f s6 q => ?_) fun _ _ z => z.elim
              have gone : ∀ {σ6 : L2.St} {H6 : Hp} {Q : Shared → Prop}, Inv (X.suite a ((a, oe4) :: (X.pn ++ pins))) [] σ6 H6 s6 → (∀ s7, Inv X pins (σ6.set i none) H6 s7 → Q s7) →
                  wpAny (model X.prog X.w) X.A (do bindName X.env n .none; unbindBehindTheSuite X.env n p') (fun _ s7 => Q s7) X.xe s6 := fun S6 hq => gone_ok (S6.unsuite ok) hN hi hln hq
              cases f with
              | ret u =>
                obtain ⟨v6, σ6, H6, S6, r6, q6⟩ := q
                exact gone S6 fun s7 J7 => ⟨_, _, _, J7, r6, q6⟩
              | next =>
                obtain ⟨σ6, H6, S6, q6⟩ := q
                exact gone S6 fun s7 J7 => ⟨_, _, J7, q6⟩
              | brk =>
                obtain ⟨σ6, H6, S6, q6⟩ := q
                exact gone S6 fun s7 J7 => ⟨_, _, J7, q6⟩
              | cont =>
                obtain ⟨σ6, H6, S6, q6⟩ := q
                exact gone S6 fun s7 J7 => ⟨_, _, J7, q6⟩
    exact go hh w
  · have q := leave q
    cases f with
    | next => exact wpAny_execs_nil q
    | brk => exact q
    | cont => exact q
    | ret u => exact q
end
structure ClD where
  nm : Option Nat
  cat : Str → Bool
  gs : Addr → Option Addr → Str → M Fl
def normO : Option Nat → Res Fl → Res Fl
  | none, .ok fl ρ => .ok fl ρ
  | some i, .ok fl ρ => .ok fl (ρ.set i .u)
  | _, _ => .bad
def heldR (ρ : Rho) (a : Addr) (dd : Option Addr) (c : Str) (fs : List (Str × D)) : Option Nat → Rho
  | none => ρ
  | some i => ρ.set i (.d (.xn a dd c fs))
open Classical in
noncomputable def claM : List ClD → Str → List (Str × D) → M Fl
  | [], c, fs => fun ρ => .ex c fs ρ
  | k :: r, c, fs => fun ρ => if k.cat c then (if h : ∃ R : Res Fl, ∀ a dd, (fs = [] → dd = none) → normO k.nm (k.gs a dd c (heldR ρ a dd c fs k.nm)) = R then Classical.choose h else .bad) else claM r c fs ρ
noncomputable def tryN (cl : List ClD) (gb : M Fl) : M Fl := fun ρ => match gb ρ with
  | .ex c fs ρ' => claM cl c fs ρ'
  | r => r
theorem claM_no {k : ClD} {r : List ClD} {c : Str} {fs : List (Str × D)} {ρ : Rho} (h : k.cat c = false) : claM (k :: r) c fs ρ = claM r c fs ρ := by
  show (if k.cat c = true then _ else _) = _
  rw [if_neg (by rw [h]; decide)]
theorem claM_yes {k : ClD} {r : List ClD} {c : Str} {fs : List (Str × D)} {ρ : Rho} {R : Res Fl} (h : k.cat c = true) (hR : ∀ a dd, (fs = [] → dd = none) → normO k.nm (k.gs a dd c (heldR ρ a dd c fs k.nm)) = R) : claM (k :: r) c fs ρ = R := by
  have ex : ∃ R : Res Fl, ∀ a dd, (fs = [] → dd = none) → normO k.nm (k.gs a dd c (heldR ρ a dd c fs k.nm)) = R := ⟨R, hR⟩
  show (if k.cat c = true then _ else _) = _
  rw [if_pos h, dif_pos ex]
  exact (Classical.choose_spec ex 0 none fun _ => rfl).symm.trans (hR 0 none fun _ => rfl)
theorem tryN_ok {cl : List ClD} {gb : M Fl} {ρ ρ' : Rho} {fl : Fl} (h : gb ρ = .ok fl ρ') : tryN cl gb ρ = .ok fl ρ' := by
  unfold tryN
  rw [h]
theorem tryN_ex {cl : List ClD} {gb : M Fl} {ρ ρ' : Rho} {c : Str} {fs : List (Str × D)} (h : gb ρ = .ex c fs ρ') : tryN cl gb ρ = claM cl c fs ρ' := by
  unfold tryN
  rw [h]
inductive ClsOk (X : Cx) (cm : Str → Option Addr) : List ExceptHandler → List ClD → Prop
  | nil : ClsOk X cm [] []
  | cons {x : Str} {C : Addr} {nm : Option Nat} {on : Option Str} {cat : Str → Bool} {gs : Addr → Option Addr → Str → M Fl} {b₀ : Stmt} {su : List Stmt} {np p' : Pos} {hds : List ExceptHandler} {l : List ClD} (hm : X.mg x = some (.ref C)) (hcat : ∀ c' C', cm c' = some C' → PySem.W.exmOne X.K (.ref C') (.ref C) = some (cat c'))
      (hn : NmOk X nm on) (hs : ∀ (a : Addr) (oe : Obj) (C' : Addr) (d : Option Addr) (pn : List (Addr × Obj)) (c : Str), Zc (.ref C') d oe → (∃ vs, oe.data = .fields vs) → cm c = some C' → cat c = true → Sxs (X.suite a ((a, oe) :: pn)) cm W0 (b₀ :: su) (gs a d c))
      (hg : Gl X x) (hd : (x == ("__debug__" : Str)) = false) (r : ClsOk X cm hds l) : ClsOk X cm (.ExceptHandler (some (.Name x np)) on (b₀ :: su) p' :: hds) (⟨nm, cat, gs⟩ :: l)
open Classical in
theorem ClsOk.go {cm : Str → Option Addr} {hds : List ExceptHandler} {cl : List ClD} (h : ClsOk X cm hds cl) : ∃ l, ClaOk X hds l ∧ ∀ (W : WX) (E : Ends) (B : Bs) (Z : ZS) (σ : L2.St) (H : Hp) (c : Str) (fs : List (Str × D)) (C : Addr) (dd : Option Addr) (ρ : Rho),
    St0 X.K cm Z B σ ρ H → cm c = some C → XRp X.K cm Z H dd fs → PostS X.K cm W B Z H (claM cl c fs ρ) E → wCla X.K W E l (.ref C) dd σ H := by
  induction h with
  | nil => exact ⟨[], .nil, fun W E B Z σ H c fs C dd ρ S hc hx h => h C dd Z σ H Grow.refl S hc hx⟩
  | @cons x C0 nm on cat gs b₀ su np p' hds l hm hcat hn hs hg hd r ih =>
    obtain ⟨l2, ok, ih⟩ := ih
    refine ⟨⟨.ref C0, nm, sStarX X.K cm cat gs⟩ :: l2, .cons ⟨hg, hd, .inl hm⟩ hn (fun a oe cls d pn hz hf => ⟨fun pins s σ H D I ⟨B, Z, ρ, c, C', ec, hc, hk, S, h⟩ => ?_⟩) ok, fun W E B Z σ H c fs C dd ρ S hc hx h => ⟨cat c, hcat c C hc, fun hb a ha => ?_, fun hb => ?_⟩⟩
    · subst ec
      obtain ⟨t, p, q⟩ := hs a oe C' d pn c hz hf hc hk
      exact p.run pins s σ H D I (q B Z σ ρ H D S h)
    · have rr : Rp X.K cm Z H (.ref a) (.xn a dd c fs) := by
        rcases hx with ⟨rfl, rfl⟩ | ⟨d, vs, rfl, z, hh, rf, _⟩
        · exact .xn0 hc
        · exact .xn z hh hc rf
      have S2 : St0 X.K cm Z B (onAt σ a nm) (heldR ρ a dd c fs nm) H := by
        cases nm with
        | none => exact S
        | some i => exact S.set rr
      refine ⟨B, Z, heldR ρ a dd c fs nm, c, C, rfl, hc, hb, S2, ?_⟩
      replace h : PostS X.K cm W B Z H (if cat c = true then (if h : ∃ R : Res Fl, ∀ a dd, (fs = [] → dd = none) → normO nm (gs a dd c (heldR ρ a dd c fs nm)) = R then Classical.choose h else .bad) else claM l c fs ρ) E := h
      rw [if_pos hb] at h
      split at h
      · rename_i ex
        have sp := Classical.choose_spec ex a dd (hx.elim (fun q _ => q.1) fun ⟨_, _, _, _, _, _, q⟩ z => absurd z q)
        rw [← sp] at h
        cases es : gs a dd c (heldR ρ a dd c fs nm) with
        | bad =>
          rw [es] at h
          cases nm <;> exact h.elim
        | ex c2 f2 ρ2 =>
          rw [es] at h
          cases nm <;> exact h.elim
        | ok fl ρ2 =>
          rw [es] at h
          cases nm with
          | none => cases fl <;> exact h
          | some i =>
            cases fl with
            | nx => exact fun Z2 σ2 H2 g2 S2 => h Z2 _ H2 g2 (S2.unset i)
            | bk => exact fun Z2 σ2 H2 g2 S2 => h Z2 _ H2 g2 (S2.unset i)
            | ct => exact fun Z2 σ2 H2 g2 S2 => h Z2 _ H2 g2 (S2.unset i)
            | rt d => exact fun v Z2 σ2 H2 g2 S2 r2 => h v Z2 _ H2 g2 (S2.unset i (s := none)) r2
            | rtl ds => exact fun b ws Z2 σ2 H2 g2 S2 h2 n2 z2 r2 => h b ws Z2 _ H2 g2 (S2.unset i (s := none)) h2 n2 z2 r2
      · exact h.elim
    · have hb : cat c = false := hb
      refine ih W E B Z σ H c fs C dd ρ S hc hx ?_
      rw [← claM_no (k := ⟨nm, cat, gs⟩) hb]
      exact h
theorem sx_tryN {cm : Str → Option Addr} {W : WX} {gb : M Fl} {cl : List ClD} (hNd : X.N.Nodup) (tk : Takes X W)
    (hb : ∀ (W' : WX) (pn : List (Addr × Obj)) (xe : Value → Shared → Prop), Takes (X.tr pn xe) W' → PassesOwn (model X.prog X.w) X.A X.env xe → Sxs (X.tr pn xe) cm W' body gb) (hk : ClsOk X cm (h₀ :: hds) cl)
    (hst : X.stack = X.env :: X.outer := by rfl) (hfr : X.env.frame = some X.env.locals := by rfl) : Sx X cm W (.Try body (h₀ :: hds) [] [] pos) (tryN cl gb) := by
  obtain ⟨l, ok, go⟩ := hk.go
  refine ⟨_, ps_try_cla (tb := fun W' => sStar X.K cm W' gb) (Wo := W) hNd hst hfr tk (fun W' pn xe tk' po => (hb W' pn xe tk' po).star) ok, fun B Z σ ρ H E S h => ⟨B, Z, ρ, S, ?_⟩⟩
  cases eg : gb ρ with
  | bad =>
    unfold tryN at h
    rw [eg] at h
    exact h
  | ok fl ρ' =>
    rw [tryN_ok eg] at h
    cases fl <;> exact h
  | ex c fs ρ' =>
    rw [tryN_ex eg] at h
    exact fun C' dd Z' σ' H' g' S' hc hx => go W E B Z' σ' H' c fs C' dd ρ' S' hc hx (h.rebase g')
/-! ### isinstance of the error that a suite holds, where it has no dict of its own -/
def isxM (i : Nat) (a : Addr) (dd : Option Addr) (c : Str) (ans : Str → Bool) : M D := fun ρ => match ρ[i]? with
  | some (.d (.xn a' dd' c' _)) => if a' = a ∧ dd' = dd ∧ c' = c ∧ dd = none then ret (.bl (ans c)) ρ else .bad
  | _ => .bad
theorem ex_isx {X : Cx} {cm : Str → Option Addr} {W : WX} (i : Nat) {x y c : Str} {a C T : Addr} {oe : Obj} {d : Option Addr} {pn : List (Addr × Obj)} {p px py pos : Pos} {ans : Str → Bool} (hE : ExcC X.K C) (hkit : PySem.W.kitOne X.K (.ref C) (.ref T) = some (ans c)) (hz : Zc (.ref C) d oe) (hf : ∃ vs, oe.data = .fields vs)
    (hm : X.mg "isinstance" = none) (hmT : X.mg y = some (.ref T)) (hN : X.N[i]? = some x := by rfl) (hv : Vis X.env.scope x := by first | exact Or.inl rfl | exact Or.inr (Or.inl rfl) | exact Or.inr (Or.inr rfl)) (hg : Gl X "isinstance" := by rfl) (hgy : Gl X y := by rfl)
    (hd : (x == ("__debug__" : Str)) = false := by decide) (hcd : (x == ("__classdict__" : Str)) = false := by decide) (hdy : (y == ("__debug__" : Str)) = false := by decide)
    (hs : starEach [.Name x px, .Name y py] X.env = (false, eval (.Name x px) X.env) :: starEach [.Name y py] X.env := by rfl) (hs2 : starEach [.Name y py] X.env = [(false, eval (.Name y py) X.env)] := by rfl) :
    Ex (X.suite a ((a, oe) :: pn)) cm W (.Call (.Name "isinstance" p) [.Name x px, .Name y py] [] pos) (isxM i a d c ans) := by
  cases d with
  | some dx =>
    refine ⟨_, pe_callB (X := X.suite a ((a, oe) :: pn)) (id := "isinstance") (r := fun _ _ _ => False) (fun _ _ _ _ _ _ _ _ _ z => z.elim) hg hm (by decide +kernel) (pa_cons (pe_var (X := X.suite a ((a, oe) :: pn)) (i := i) hN hv hd hcd) (pa_cons (pe_glob (X := X.suite a ((a, oe) :: pn)) (v := .ref T) hgy hmT rfl hdy) pa_nil hs2) hs) (by decide) (by decide) hs (by rw [hs2]; rfl), fun B Z σ ρ H Q S h => ?_⟩
    unfold isxM at h
    split at h
    · split at h
      · rename_i hh
        exact absurd hh.2.2.2 (by simp)
      · exact h.elim
    · exact h.elim
  | none =>
    refine ⟨_, pe_callB (X := X.suite a ((a, oe) :: pn)) (call_isE hE hz hf) hg hm (by decide +kernel) (pa_cons (pe_var (X := X.suite a ((a, oe) :: pn)) (i := i) hN hv hd hcd) (pa_cons (pe_glob (X := X.suite a ((a, oe) :: pn)) (v := .ref T) hgy hmT rfl hdy) pa_nil hs2) hs) (by decide) (by decide) hs (by rw [hs2]; rfl), fun B Z σ ρ H Q S h => ?_⟩
    unfold isxM at h
    split at h
    · rename_i a' dd' c' fs e
      split at h
      · rename_i hh
        obtain ⟨rfl, rfl, rfl, _⟩ := hh
        obtain ⟨v, e1, r⟩ := S.sl i _ e
        cases r with
        | xn0 hc => exact ⟨_, e1, _, .ref T, _, rfl, fun u r => r, hkit, Post.ret h S (.bl _)⟩
      · exact h.elim
    · exact h.elim
end De

set_option Elab.async false
set_option linter.all false
set_option maxRecDepth 100000
set_option maxHeartbeats 2000000
namespace De
open PySem PySem.Spec PyProof.Rows L2
open PySem.W (Frag)
/-! ### own defs called within an except suite: such that neither raise nor draw -/
/-- what such a def promises, whatever is handled -/
structure FnQ (P : Program) (w : World) (K : Frag) (mg : Str → Option Value) (base : Heap) (k : Nat) (f : Addr) (fd : FuncData) (ps : List Str) (sp : Sp) : Prop where
  len : ∀ vs H Q E, sp vs H Q E → vs.length = ps.length
  run : ∀ (A : Around) (outer : List Env) (s : Shared) (H : Hp) (args : Args) (us : List Value) (vs : List V) (Q : VK) (E : XK) (p : Addr × Obj), L2H.RoomH k A → L2H.PinOk outer H s p → Env0 P w K mg base A outer s H → BindsTo s fd args (ps.zip us) → Vals vs us → sp vs H Q E →
    codeAny (model P w) A (.call (.ref f) args) (CR (L2.CX P w) outer P w H s Q E) s
abbrev cxQ (P : Program) (w : World) (K : Frag) (mg : Str → Option Value) (base : Heap) (N : List Str) (qual : Str) (scope : Scope) (f : Addr) (cd : Value) (A : Around) (outer : List Env) (s : Shared) (H : Hp) (E : XK) (p : Addr × Obj) : Cx := L2H.cxH (L2.CX P w) P w K mg base N qual scope f cd A outer s H E p
theorem fnQ_of {P : Program} {w : World} {K : Frag} {mg : Str → Option Value} {base : Heap} {x qual : Str} {st : Stmt} {f : Addr} {fd : FuncData} {N ps : List Str} {k : Nat} {sp : Sp} (F : Fun K x qual st f fd) (S : FnScope N ps (defScope st)) (len : ∀ vs H Q E, sp vs H Q E → vs.length = ps.length)
    (hbody : ∀ (cdv : Value) (A : Around) (outer : List Env) (s : Shared) (H : Hp) (vs : List V) (Q : VK) (E : XK) (p : Addr × Obj), L2H.RoomH k (A.deeper (envOfC qual (defScope st) s.heap.objs.size f cdv)) → sp vs H Q E →
      ∃ t, PSs (cxQ P w K mg base N qual (defScope st) f cdv A outer s H E p) (defBody st) t ∧ t { nx := fun _ H' => Q .non H', rt := Q } (L2.start N vs) H) : FnQ P w K mg base (k + 1) f fd ps sp := by
  obtain ⟨oc, od, kV, doc, pm, an, cdv, ct, osl, rfl, lk, hcd⟩ := F.ex
  refine ⟨len, fun A outer s H args us vs Q E p hr hpin e0 hb r hsp => ?_⟩
  have hl := len _ _ _ _ hsp
  have up : ∀ b o, base.get? b = some o → s.heap.get? b = some o := fun b o e => (e0.bs b o e).1
  have KX : K.In s.heap := e0.mod.kin.keeps up
  have lim : s.heap.NoLimit := e0.mod.nolimit.keeps up
  refine codeAny_call_function hr.depth (KX _ _ lk) rfl S.co S.gen rfl (PySem.W.codeRec_of KX hcd) (hb _ _ _ _ ?_)
  refine wpAny_newFunctionEnv_cells S.kind (fun ⟨n, v⟩ hy => (S.par n (List.of_mem_zip hy).1).imp id fun q => ⟨q, PySem.W.cellsFrom_some _ _ _ (.inl q)⟩) fun env he s1 x => ?_
  subst he
  refine ⟨lim.keeps x.toInCall.keep, codeAny_func ?_⟩
  obtain ⟨t, ht, hq⟩ := hbody cdv A outer s H vs Q E p (hr.deeper _) hsp
  have I : Inv (cxQ P w K mg base N qual (defScope st) f cdv A outer s H E p) [] (L2.start N vs) H s1 := L2H.inv_startH S hpin e0 hl r x
  refine wpAny_mono (ht.run [] s1 (L2.start N vs) H _ I hq) (fun fl s' hs => ?_) fun e s' hs => hs
  cases fl with
  | brk => exact hs.elim fun _ z => z.elim fun _ z => z.2.elim
  | cont => exact hs.elim fun _ z => z.elim fun _ z => z.2.elim
  | next =>
    obtain ⟨σ', H', J, q⟩ := hs
    exact ⟨V.non, H', J.os, J.bare, J.base, J.hok, rfl, q⟩
  | ret u =>
    obtain ⟨v, σ', H', J, rv, q⟩ := hs
    exact ⟨v, H', J.os, J.bare, J.base, J.hok, rv, q⟩
section
variable {X : Cx} {k : Nat} {f : Addr} {fd : FuncData} {ps : List Str} {sp : Sp} {E : L2.St → XK} {x : Str} {q pos : Pos} {e : Expr} {es : List Expr} {t : TA}
/-- the call, in a suite: the handled error is pinned -/
theorem pe_callQ {p : Addr × Obj} (F : FnQ X.prog X.w X.K X.mg X.base k f fd ps sp) (hr : L2H.RoomH k X.A) (hp : p ∈ X.pn) (hg : Gl X x) (hm : X.mg x = some (.ref f)) (hk : PySem.W.keepIn X.K (.ref f) = true) (hb : L2.Binds X.K fd ps []) (hx : ∀ σ, PassesAt (L2.CX X.prog X.w) X σ (E σ))
    (ha : PA X (e :: es) t) (hdb : (x == ("__debug__" : Str)) = false := by decide) (he : starEach (e :: es) X.env = (false, eval e X.env) :: starEach es X.env := by rfl) (hpl : (backTo pos (starEach es X.env)).any (·.1) = false := by rfl) :
    PE X (.Call (.Name x q) (e :: es) [] pos) (tCallS sp E t) := by
  refine ⟨fun pins s σ H Q I h => wpAny_Call_Name_kw (ld_glob I hg hm (PySem.W.callWith_K (h₀ := X.base) I.ok.mod.kin hk (thn (ha.run pos pins s σ H _ I h) fun us s1 ⟨vs, H1, I1, r, h⟩ => ⟨I1.kIn, ?_⟩) he hpl) hdb)⟩
  have hl : us.length = ps.length := by rw [← r.length]; exact F.len _ _ _ _ h
  have b := hb s1 us I1.kIn (by rw [List.append_nil]; exact hl)
  rw [List.append_nil] at b
  obtain ⟨p1, p2, p3, p4, p5⟩ := I1.pin p (List.mem_append_left _ hp)
  refine wpAny_call (codeAny_mono (F.run X.A X.stack s1 H1 ⟨us, []⟩ us vs Q (E σ) p hr ⟨p1, p2, fun hm => (List.mem_cons.mp (I1.stkSub p.1 hm)).elim p3 p4, p5⟩ I1.env0 b r h) fun r s' hq => ?_)
  cases r with
  | error e => exact hx σ pins H1 s1 e s' I1 hq
  | ok fl =>
    cases fl with
    | ret u => exact I1.after hq
    | next => exact hq.elim
    | brk => exact hq.elim
    | cont => exact hq.elim
end
/-- a def that keeps its promise there, under its name -/
def OwnQ (P : Program) (w : World) (K : Frag) (mg : Str → Option Value) (base : Heap) (x : Str) (k : Nat) (ps : List Str) (sp : Sp) : Prop := ∃ f fd, mg x = some (.ref f) ∧ PySem.W.keepIn K (.ref f) = true ∧ L2.Binds K fd ps [] ∧ FnQ P w K mg base k f fd ps sp
section
variable {P : Program} {w : World} {K : Frag} {mg : Str → Option Value} {base : Heap} {cm : Str → Option Addr} {x : Str} {st : Stmt} {N ps : List Str} {k : Nat} {g : M Fl}
theorem ownQ (FF : List D → Fr D) (F : FunE K mg x st) (S : FnScope N ps (defScope st)) (hlen : ∀ ds, FF ds ≠ .bad → ds.length = ps.length)
    (hbind : ∀ (kV doc pm : Value) (an : Option Addr) (cdv ct : Value) (us : List Value), us.length = ps.length → bindArgs (PySem.W.fnOf x x (defArgs st) (defBody st) (defScope st) .none kV doc pm an cdv ct) ⟨us, []⟩ = pure (ps.zip us))
    (hbody : ∀ (f : Addr) (cdv : Value) (A : Around) (outer : List Env) (s : Shared) (H : Hp) (E : XK) (p : Addr × Obj), L2H.RoomH k (A.deeper (envOfC x (defScope st) s.heap.objs.size f cdv)) → Sxs (cxQ P w K mg base N x (defScope st) f cdv A outer s H E p) cm (WB E) (defBody st) g)
    (heq : ∀ ds, FF ds ≠ .bad → finP (g (startR N ds)) = FF ds) : OwnQ P w K mg base x (k + 1) ps (spP K cm FF) := by
  obtain ⟨f, fd, F1, hm⟩ := F
  refine ⟨f, fd, hm, F1.kp, F1.binds hbind, fnQ_of F1 S (fun vs H Q E ⟨Z, ds, hz, r, h⟩ => ?_) fun cdv A outer s H vs Q E p hr ⟨Z, ds, hz, r, h⟩ => ?_⟩
  · rw [RpA.length r]
    exact hlen ds fun e => by rw [e] at h; exact h
  · have hb : FF ds ≠ .bad := fun e => by
      rw [e] at h
      exact h
    obtain ⟨t, p, q⟩ := hbody f cdv A outer s H E p hr
    refine ⟨t, p, q ⟨H, Z, O0, []⟩ Z _ _ H _ (start_ok hz r) ?_⟩
    have e := heq ds hb
    rw [← e] at h
    cases eg : g (startR N ds) with
    | bad =>
      rw [eg] at h
      exact h
    | ex c fs ρ' =>
      rw [eg] at h
      exact fun C dd Z' σ' H' g' S' hc hx => h C dd Z' H' (S'.go g') hc hx
    | ok fl ρ' =>
      rw [eg] at h
      cases fl with
      | nx => exact fun Z' σ' H' g' S' => h .non Z' H' (S'.go g') .non
      | rt d => exact fun v Z' σ' H' g' S' r' => h v Z' H' (S'.go g') r'
      | rtl d => exact h.elim
      | bk => exact h.elim
      | ct => exact h.elim
end
/-- F(..) in a suite; what raises there is not spoken of -/
def callQ (F : List D → Fr D) (ds : List D) : M D := fun ρ => match F ds with
  | .ok r => .ok r ρ
  | _ => .bad
theorem ex_callQ {X : Cx} {cm : Str → Option Addr} {W : WX} {e : Expr} {es : List Expr} {fs : M (List D)} {x : Str} {q pos : Pos} {k k' : Nat} {ps : List Str} {F : List D → Fr D} {a : Addr} {oe : Obj} {pn : List (Addr × Obj)}
    (O : OwnQ X.prog X.w X.K X.mg X.base x k ps (spP X.K cm F)) (hr : Room k' X.A) (hkk : k ≤ k') (ha : Exs (X.suite a ((a, oe) :: pn)) cm W (e :: es) fs) (hg : Gl X x := by rfl)
    (hdb : (x == ("__debug__" : Str)) = false := by decide) (he : starEach (e :: es) X.env = (false, eval e X.env) :: starEach es X.env := by rfl) (hpl : (backTo pos (starEach es X.env)).any (·.1) = false := by rfl) : Ex (X.suite a ((a, oe) :: pn)) cm W (.Call (.Name x q) (e :: es) [] pos) (bind fs (callQ F)) := by
  obtain ⟨f, fd, hm, hk, hb, Fo⟩ := O
  obtain ⟨t, pa, qa⟩ := ha
  have hr2 : L2H.RoomH k (X.suite a ((a, oe) :: pn)).A := (L2H.roomH_of hr).mono hkk |> fun r => ⟨r.dp, r.un⟩
  refine ⟨_, pe_callQ (X := X.suite a ((a, oe) :: pn)) (E := fun _ => fun _ _ _ => False) (p := (a, oe)) Fo hr2 List.mem_cons_self hg hm hk hb (fun σ pins H s e s' I c => c.elim fun _ c => c.elim fun _ c => c.elim fun _ c => c.elim fun _ c => c.elim fun _ c => c.2.2.2.2.2.2.2.elim) pa hdb he hpl, fun B Z σ ρ H Q S h => qa B Z σ ρ H _ S (Post.bind h fun ds ρ1 vs Z1 H1 g1 S1 r1 h1 => ?_)⟩
  refine ⟨Z1, ds, S1.zin, r1, ?_⟩
  unfold callQ at h1
  cases eF : F ds with
  | ok r =>
    rw [eF] at h1
    intro v Z' H' go rv
    obtain ⟨S2, g2⟩ := S1.went go
    exact h1 v Z' H' g2 S2 rv
  | ex c fs' =>
    rw [eF] at h1
    exact h1.elim
  | bad =>
    rw [eF] at h1
    exact h1.elim
end De

set_option Elab.async false
set_option linter.all false
set_option maxRecDepth 100000
set_option maxHeartbeats 2000000
namespace De
open PySem PySem.Spec PyProof.Rows L2
open PySem.W (Frag)
/-! ### instances: a field is read -/
def fldM (cs : List Str) (f : Str) (fa : M D) : M D := bind fa fun d => match d with
  | .ins c gs => if c ∈ cs then optD (gs.lookup f) else bad
  | _ => bad
section
variable {X : Cx} {cm : Str → Option Addr} {W : WX} {e : Expr} {fa : M D} {f : Str} {pos : Pos} {cs : List Str}
theorem ex_fld (hT : ∀ c ∈ cs, ∀ C, cm c = some C → Cls X.K C ∧ NoAttr X.K C f) (ha : Ex X cm W e fa) (hb : attributeBase e f X.env (eval e X.env) = eval e X.env := by rfl) : Ex X cm W (.Attribute e f pos) (fldM cs f fa) := by
  obtain ⟨t, p, q⟩ := ha
  refine ⟨_, pe_fld p hb, fun B Z σ ρ H Q S h => q B Z σ ρ H _ S (Post.bind h fun d ρ1 v Z1 H1 g1 S1 r1 h1 => ?_)⟩
  split at h1
  · rename_i c gs
    split at h1
    · rename_i hc
      obtain ⟨d', el, h1⟩ := Post.opt h1
      cases r1 with
      | ins z h2 hcm r2 =>
        obtain ⟨v', hl, rv⟩ := r2.lookup el
        obtain ⟨k1, k2⟩ := hT c hc _ hcm
        exact ⟨_, _, _, _, v', rfl, h2, k1, k2, hl, Post.ret h1 S1 rv⟩
    · exact h1.elim
  · exact h1.elim
/-! ### a field of the instance that is being made -/
def putD (f : Str) (d : D) : List (Str × D) → List (Str × D)
  | [] => [(f, d)]
  | (g, x) :: r => if g = f then (g, d) :: r else (g, x) :: putD f d r
theorem RpF.put {K : Frag} {Z : ZS} {H : Hp} {f : Str} {v : V} {d : D} (r : Rp K cm Z H v d) : ∀ {fs : List (Str × V)} {gs : List (Str × D)}, RpF K cm Z H fs gs → RpF K cm Z H (L2.putF f v fs) (putD f d gs)
  | _, _, .nil => .cons r .nil
  | _, _, .cons (x := x) h t => by
    show RpF K cm Z H (if x = f then (x, v) :: _ else (x, _) :: L2.putF f v _) (if x = f then (x, d) :: _ else (x, _) :: putD f d _)
    by_cases e : x = f
    · rw [if_pos e, if_pos e]
      exact .cons r t
    · rw [if_neg e, if_neg e]
      exact .cons h (RpF.put r t)
theorem RpF.length {K : Frag} {Z : ZS} {H : Hp} : ∀ {fs : List (Str × V)} {gs : List (Str × D)}, RpF K cm Z H fs gs → fs.length = gs.length
  | _, _, .nil => rfl
  | _, _, .cons _ t => congrArg (· + 1) (RpF.length t)
def fldS (cs : List Str) (i : Nat) (f : Str) (fa : M D) : M Fl := bind fa fun d ρ => match ρ[i]? with
  | some (.mi c gs) => if c ∈ cs ∧ gs.length < 1000 then .ok .nx (ρ.set i (.mi c (putD f d gs))) else .bad
  | _ => .bad
theorem sx_fldS (i : Nat) {x : Str} {px pa : Pos} (hT : ∀ c ∈ cs, ∀ C, cm c = some C → Cls X.K C ∧ NoAttr X.K C f) (h : Ex X cm W e fa) (hN : X.N[i]? = some x := by rfl) (hv : Vis X.env.scope x := by first | exact Or.inl rfl | exact Or.inr (Or.inl rfl) | exact Or.inr (Or.inr rfl)) (hd : (x == ("__debug__" : Str)) = false := by decide)
    (hcd : (x == ("__classdict__" : Str)) = false := by decide) (hs : swapsWith e (some (.Attribute (.Name x px) f pa)) pos.line X.env = pure false := by rfl) :
    Sx X cm W (.Assign [.Attribute (.Name x px) f pa] e pos) (fldS cs i f fa) := by
  obtain ⟨t, p, q⟩ := h
  refine ⟨_, ps_fld (pe_var (pos := px) hN hv hd hcd) p hs, fun B Z σ ρ H E S h => q B Z σ ρ H _ S (PostS.bind h fun d ρ1 v Z1 H1 g1 S1 r1 h1 => ?_)⟩
  split at h1
  · rename_i c gs e0
    split at h1
    · rename_i hh
      obtain ⟨a, C, dx, fs, es, ha, nz, hc, rf⟩ := S1.sl i _ e0
      obtain ⟨k1, k2⟩ := hT c hh.1 C hc
      obtain ⟨S2, g2⟩ := S1.put (o' := .ins C dx (L2.putF f v fs)) es e0 (.mi c gs c (putD f d gs)) fun g => ⟨a, C, dx, _, rfl, upd_same, nz, hc, RpF.put (r1.grow g) (RpF.grow g rf)⟩
      exact ⟨_, es, a, C, dx, fs, rfl, ha, k1, k2, by rw [rf.length]; exact hh.2, h1 Z1 σ _ g2 S2⟩
    · exact h1.elim
  · exact h1.elim
end
/-! ### __init__ -/
def startI (N : List Str) (c : Str) (ds : List D) : Rho := .mi c [] :: (ds.map .d ++ List.replicate (N.length - (ds.length + 1)) .u)
def finI (c : Str) : Res Fl → Fr (List (Str × D))
  | .ok .nx (.mi c2 gs :: _) => if c2 = c then .ok gs else .bad
  | .ex c' fs _ => .ex c' fs
  | _ => .bad
/-- what __init__ makes of the new instance -/
def spI (K : Frag) (cm : Str → Option Addr) (c : Str) (F : List D → Fr (List (Str × D))) : Sp := fun vs H Q E => ∃ Z a C dx ws ds, vs = .ref a :: ws ∧ (∀ b, Z b → H b ≠ none) ∧ H a = some (.ins C dx []) ∧ ¬ Z a ∧ cm c = some C ∧ RpA K cm Z H ws ds ∧ match F ds with
  | .ok gs => ∀ Z' H' C' dx' fs, Go (fun b => b = a) Z H Z' H' → H' a = some (.ins C' dx' fs) → cm c = some C' → ¬ Z' a → RpF K cm Z' H' fs gs → Q .non H'
  | .ex c' fs' => ∀ C' dd Z' H', Go (fun b => b = a) Z H Z' H' → cm c' = some C' → XRp K cm Z' H' dd fs' → E (.ref C') dd H'
  | .bad => False
section
variable {P : Program} {w : World} {K : Frag} {mg : Str → Option Value} {base : Heap} {cm : Str → Option Addr} {Z : ZS} {H : Hp}
theorem startI_ok {N : List Str} {a C dx : Addr} {c : Str} {vs : List V} {ds : List D} (hz : ∀ b, Z b → H b ≠ none) (ha : H a = some (.ins C dx [])) (nz : ¬ Z a) (hc : cm c = some C) (r : RpA K cm Z H vs ds) : St0 K cm Z ⟨H, Z, fun b => b = a, []⟩ (L2.start N (.ref a :: vs)) (startI N c ds) H := by
  have S := start_ok (N := N.drop 1) hz r
  have e1 : L2.start N (.ref a :: vs) = some (.ref a) :: L2.start (N.drop 1) vs := by
    unfold L2.start
    rw [List.map_cons, List.cons_append, List.length_cons, List.length_drop]
    congr 3
    omega
  have e2 : startI N c ds = .mi c [] :: startR (N.drop 1) ds := by
    unfold startI startR
    rw [List.length_drop]
    congr 3
    omega
  rw [e1, e2]
  have noO : ∀ {i : Nat} {b : Addr}, ¬ OwnAt (startR (N.drop 1) ds) (L2.start (N.drop 1) vs) i b := fun {i b} o => by
    rcases o with o | o
    · have := S.ownM i b o
      obtain ⟨h1, xs', h2⟩ := o
      obtain ⟨a', vs', e', h', _⟩ := S.sl i _ h2
      rw [h1] at e'
      cases e'
      have q : H b = none := this
      rw [q] at h'
      cases h'
    · exact S.ownH i b o
  have at0 : ∀ {i : Nat} {b : Addr}, OwnAt (.mi c [] :: startR (N.drop 1) ds) (some (.ref a) :: L2.start (N.drop 1) vs) i b → i = 0 ∧ b = a ∧ OwnH (.mi c [] :: startR (N.drop 1) ds) (some (.ref a) :: L2.start (N.drop 1) vs) i b := fun {i b} o => by
    cases i with
    | zero =>
      rcases o with ⟨h1, ys, h2⟩ | o
      · cases h2
      · refine ⟨rfl, ?_, o⟩
        have := o.1
        cases this
        rfl
    | succ i =>
      have z : OwnAt (startR (N.drop 1) ds) (L2.start (N.drop 1) vs) i b := ?_
      · exact absurd z noO
      rcases o with ⟨h1, ys, h2⟩ | ⟨h1, ⟨ys, h2⟩ | ⟨c, fs, h2⟩⟩
      · exact .inl ⟨h1, ys, h2⟩
      · exact .inr ⟨h1, .inl ⟨ys, h2⟩⟩
      · exact .inr ⟨h1, .inr ⟨c, fs, h2⟩⟩
  refine ⟨by rw [List.length_cons, List.length_cons, S.len], hz, fun b z => .inl z, fun i e h => ?_, fun i j b o1 o2 => by rw [(at0 o1).1, (at0 o2).1], fun b o e => ⟨by rw [show H b = some o from e]; exact fun q => (nomatch q), fun _ => e⟩, fun i b o => ?_, fun i b o => (at0 (.inr o)).2.1, fun p hp => by cases hp⟩
  · cases i with
    | zero =>
      cases h
      exact ⟨a, C, dx, [], rfl, ha, nz, hc, .nil⟩
    | succ i => exact S.sl i e h
  · obtain ⟨q, _, _⟩ := at0 (.inl o)
    subst q
    obtain ⟨_, ys, h2⟩ := o
    cases h2
theorem fnI {x qual c : Str} {st : Stmt} {f : Addr} {fd : FuncData} {N ps : List Str} {k : Nat} {g : M Fl} (F : Fun K x qual st f fd) (S : FnScope N ps (defScope st)) (FF : List D → Fr (List (Str × D))) (hlen : ∀ ds, FF ds ≠ .bad → ds.length + 1 = ps.length)
    (hbody : ∀ (cdv : Value) (A : Around) (outer : List Env) (s : Shared) (H : Hp) (E : XK), Room k (A.deeper (envOfC qual (defScope st) s.heap.objs.size f cdv)) → Sxs (Bx P w K mg base N qual st f cdv A outer s H E) cm (WB E) (defBody st) g)
    (heq : ∀ ds, FF ds ≠ .bad → finI c (g (startI N c ds)) = FF ds) : FnOk P w K mg base (L2.CX P w) (k + 1) f fd ps (spI K cm c FF) := by
  refine F.okX S (fun vs H Q E h => ?_) (fun cdv A outer s H vs Q E hr h => ?_)
  · obtain ⟨Z, a, C, dx, ws, ds, rfl, hz, ha, nz, hc, r, h⟩ := h
    rw [List.length_cons, RpA.length r]
    exact hlen ds fun e => by rw [e] at h; exact h
  · obtain ⟨Z, a, C, dx, ws, ds, rfl, hz, ha, nz, hc, r, h⟩ := h
    have hb : FF ds ≠ .bad := fun e => by
      rw [e] at h
      exact h
    obtain ⟨t, p, q⟩ := hbody cdv A outer s H E hr
    refine ⟨t, p, q ⟨H, Z, fun b => b = a, []⟩ Z _ _ H _ (startI_ok hz ha nz hc r) ?_⟩
    have e := heq ds hb
    rw [← e] at h
    cases eg : g (startI N c ds) with
    | bad =>
      rw [eg] at h
      exact h
    | ex c fs ρ' =>
      rw [eg] at h
      exact fun C dd Z' σ' H' g' S' hc hx => h C dd Z' H' (S'.go g') hc hx
    | ok fl ρ' =>
      rw [eg] at h
      cases ρ' with
      | nil => cases fl <;> exact h.elim
      | cons e0 ρ' =>
        cases e0 with
        | mi c2 gs =>
          cases fl with
          | nx =>
            intro Z' σ' H' g' S'
            obtain ⟨b, C2, dx2, fs, h1, h2, h3, h4, h5⟩ := S'.sl 0 _ rfl
            have eb : b = a := S'.ownH 0 b ⟨h1, .inr ⟨c2, gs, rfl⟩⟩
            subst eb
            have h : match (if c2 = c then (Fr.ok gs : Fr (List (Str × D))) else .bad) with
              | .ok gs => ∀ Z' H' C' dx' fs, Go (fun x => x = b) Z H Z' H' → H' b = some (.ins C' dx' fs) → cm c = some C' → ¬ Z' b → RpF K cm Z' H' fs gs → Q .non H'
              | .ex c' fs' => ∀ C' dd Z' H', Go (fun x => x = b) Z H Z' H' → cm c' = some C' → XRp K cm Z' H' dd fs' → E (.ref C') dd H'
              | .bad => False := h
            by_cases ec : c2 = c
            · rw [if_pos ec] at h
              exact h Z' H' C2 dx2 fs (S'.go g') h2 (ec ▸ h4) h3 h5
            · rw [if_neg ec] at h
              exact h.elim
          | rt d => exact h.elim
          | rtl d => exact h.elim
          | bk => exact h.elim
          | ct => exact h.elim
        | u => cases fl <;> exact h.elim
        | d x => cases fl <;> exact h.elim
        | m x => cases fl <;> exact h.elim
        | h x => cases fl <;> exact h.elim
end
/-! ### an instance is made -/
section
variable {X : Cx} {k : Nat} {f C : Addr} {fd : FuncData} {ps : List Str} {sp : Sp} {E : L2.St → XK} {x : Str} {p pos : Pos} {e : Expr} {es : List Expr} {t : TA}
def tMakeS (C : Addr) (sp : Sp) (E : L2.St → XK) (t : TA) : TE := fun σ H Q => t σ H fun vs H1 => ∀ a dx, H1 a = none → H1 dx = none → dx ≠ a → sp (.ref a :: vs) (upd (upd H1 dx (.own a)) a (.ins C dx [])) (fun v H2 => v = .non ∧ Q (.ref a) H2) (E σ)
theorem pe_makeS (M : Mk X.K C f) (F : FnOk X.prog X.w X.K X.mg X.base (L2.CX X.prog X.w) k f fd ps sp) (hr : Room (k + 1) X.A) (hg : Gl X x) (hm : X.mg x = some (.ref C)) (hb : L2.Binds X.K fd ps []) (hx : ∀ σ, PassesAt (L2.CX X.prog X.w) X σ (E σ))
    (ha : PA X (e :: es) t) (hdb : (x == ("__debug__" : Str)) = false := by decide) (he : starEach (e :: es) X.env = (false, eval e X.env) :: starEach es X.env := by rfl) (hpl : (backTo pos (starEach es X.env)).any (·.1) = false := by rfl) :
    PE X (.Call (.Name x p) (e :: es) [] pos) (tMakeS C sp E t) := by
  refine ⟨fun pins s σ H Q I h => wpAny_Call_Name_kw (ld_glob I hg hm (PySem.W.callWith_K (h₀ := X.base) I.ok.mod.kin M.kp (thn (ha.run pos pins s σ H _ I h) fun us s1 ⟨vs, H1, I1, r, q⟩ => ⟨I1.kIn, ?_⟩) he hpl) hdb)⟩
  have hq := q (s1.heap.objs.size + 1) s1.heap.objs.size (I1.hok.fresh (Nat.le_succ _)) (I1.hok.fresh (Nat.le_refl _)) (Nat.ne_of_lt (Nat.lt_succ_self _))
  have I2 := Inv.made (C := C) I1
  have r2 : Vals (V.ref (s1.heap.objs.size + 1) :: vs) (Value.ref (s1.heap.objs.size + 1) :: us) := .cons rfl r
  have hl : (Value.ref (s1.heap.objs.size + 1) :: us).length = ps.length := r2.length.symm.trans (F.len _ _ _ _ hq)
  have b := hb _ (Value.ref (s1.heap.objs.size + 1) :: us) I2.kIn (by rw [List.append_nil]; exact hl)
  rw [List.append_nil] at b
  refine wpAny_call (make_map (f := f) I1.kIn M.makes M.init (beq_iff_eq.mp M.fn) (codeAny_mono (F.run _ X.stack _ _ ⟨Value.ref (s1.heap.objs.size + 1) :: us, []⟩ (Value.ref (s1.heap.objs.size + 1) :: us) _ _ (E σ) (hr.make C us []) (I2.env0.make C us []) b r2 hq) fun r s' hq' => ?_))
  cases r with
  | error e => exact hx σ pins _ _ e s' I2 hq'
  | ok fl =>
    cases fl with
    | next => exact hq'.elim
    | brk => exact hq'.elim
    | cont => exact hq'.elim
    | ret u =>
      obtain ⟨v, H', I3, rv, ev, q3⟩ := I2.after hq'
      subst ev
      exact ⟨rv, ⟨V.ref (s1.heap.objs.size + 1), H', I3, rfl, q3⟩⟩
def callI (c : Str) (F : List D → Fr (List (Str × D))) (ds : List D) : M D := fun ρ => match F ds with
  | .ok gs => .ok (.ins c gs) ρ
  | .ex c' fs' => .ex c' fs' ρ
  | .bad => .bad
/-- a class whose __init__ keeps its promise, under its name -/
def OwnI (P : Program) (w : World) (K : Frag) (mg : Str → Option Value) (base : Heap) (cm : Str → Option Addr) (x : Str) (k : Nat) (ps : List Str) (F : List D → Fr (List (Str × D))) : Prop := ∃ C f fd, mg x = some (.ref C) ∧ cm x = some C ∧ Mk K C f ∧ L2.Binds K fd ps [] ∧ FnOk P w K mg base (L2.CX P w) k f fd ps (spI K cm x F)
theorem ex_make {cm : Str → Option Addr} {W : WX} {fs : M (List D)} {F : List D → Fr (List (Str × D))} (O : OwnI X.prog X.w X.K X.mg X.base cm x k ps F) {k' : Nat} (hr : Room k' X.A) (hk : k + 1 ≤ k') (tk : Takes X W) (ha : Exs X cm W (e :: es) fs) (hg : Gl X x := by rfl)
    (hdb : (x == ("__debug__" : Str)) = false := by decide) (he : starEach (e :: es) X.env = (false, eval e X.env) :: starEach es X.env := by rfl) (hpl : (backTo pos (starEach es X.env)).any (·.1) = false := by rfl) : Ex X cm W (.Call (.Name x p) (e :: es) [] pos) (bind fs (callI x F)) := by
  obtain ⟨C, f, fd, hm, hc, M, hb, Fo⟩ := O
  obtain ⟨t, pa, q⟩ := ha
  refine ⟨_, pe_makeS (C := C) M Fo (hr.mono hk) hg hm hb (fun σ => passAt tk σ) pa hdb he hpl, fun B Z σ ρ H Q S h => q B Z σ ρ H _ S (Post.bind h fun ds ρ1 vs Z1 H1 g1 S1 r1 h1 a dx ha hdx hne => ?_)⟩
  have na : ¬ Z1 a := fun z => S1.zin a z ha
  have g0 : ∀ b, H1 b ≠ none → upd (upd H1 dx (.own a)) a (.ins C dx []) b = H1 b := fun b n => by
    rw [upd_ne (fun z => n (by rw [z]; exact ha)), upd_ne (fun z => n (by rw [z]; exact hdx))]
  have h2none : ∀ b, upd (upd H1 dx (.own a)) a (.ins C dx []) b = none → H1 b = none := fun b n => by
    cases e : H1 b with
    | none => rfl
    | some o =>
      rw [g0 b (by rw [e]; exact fun q => nomatch q), e] at n
      cases n
  have gr : Grow Z1 H1 Z1 (upd (upd H1 dx (.own a)) a (.ins C dx [])) := fun b z => ⟨z, g0 b (S1.zin b z)⟩
  refine ⟨Z1, a, C, dx, vs, ds, rfl, fun b z => by rw [g0 b (S1.zin b z)]; exact S1.zin b z, upd_same, na, hc, RpA.grow gr r1, ?_⟩
  unfold callI at h1
  cases eF : F ds with
  | ok gs =>
    rw [eF] at h1
    intro Z' H' C' dx' fs' go ha' hc' nz' rf
    obtain ⟨go1, go2, go3, go4⟩ := go
    have st := S1.step (Z' := fun b => Z' b ∨ b = a) (H' := H') (fun b z => .inl (go1 b z)) (fun b z => z.elim (fun z => (go2 b z).imp id (h2none b)) fun z => .inr (by rw [z]; exact ha)) (fun b z => z.elim (go3 b) fun z => by rw [z, ha']; exact fun q => nomatch q) (fun b n => by
      have n2 : upd (upd H1 dx (.own a)) a (.ins C dx []) b ≠ none := by rw [g0 b n]; exact n
      rw [(go4 b n2).2 (fun z => n (by rw [z]; exact ha)), g0 b n])
    obtain ⟨S2, g2⟩ := st
    exact ⟨rfl, h1 _ _ H' g2 S2 (.ins (.inr rfl) ha' hc' (RpF.grow (fun b z => ⟨.inl z, rfl⟩) rf))⟩
  | ex c' fs' =>
    rw [eF] at h1
    intro C' dd Z' H' go hc' hx
    obtain ⟨go1, go2, go3, go4⟩ := go
    have st := S1.step (Z' := Z') (H' := H') go1 (fun b z => (go2 b z).imp id (h2none b)) go3 (fun b n => by
      have n2 : upd (upd H1 dx (.own a)) a (.ins C dx []) b ≠ none := by rw [g0 b n]; exact n
      rw [(go4 b n2).2 (fun z => n (by rw [z]; exact ha)), g0 b n])
    obtain ⟨S2, g2⟩ := st
    exact h1 C' dd Z' H' g2 S2 hc' hx
  | bad =>
    rw [eF] at h1
    exact h1.elim
end
end De

set_option Elab.async false
set_option linter.all false
set_option maxRecDepth 100000
set_option maxHeartbeats 2000000
namespace De
open PySem PySem.Spec PyProof.Rows L2 NdefX
open PySem.W (Frag)
/-! ### an error whose one field is a short tuple of texts and numbers -/
def itemV : V → Prop
  | .str s => s.length ≤ 1000 ∧ ∀ c ∈ s.cps.toList, c < 16 ^ 8
  | .int i => i.natAbs.log2 < 1900
  | _ => False
theorem repr_items {prog : Program} {w : World} : ∀ {xs : List V} {its : List Value}, Vals xs its → (∀ y ∈ xs, itemV y) → ∃ ts, ReprAll prog w its ts ∧ piled ts ≤ 10010 * xs.length
  | [], _, r, _ => by
    cases r
    exact ⟨[], .nil, Nat.zero_le _⟩
  | y :: xs, _, r, h => by
    cases r with
    | @cons _ u0 _ us0 r1 r2 =>
      obtain ⟨ts, h1, h2⟩ := repr_items (prog := prog) (w := w) r2 fun z hz => h z (List.mem_cons_of_mem _ hz)
      have hy := h y List.mem_cons_self
      have one : ∃ t, ReprIs prog w u0 t ∧ t.length ≤ 10004 := by
        cases y with
        | str s =>
          obtain ⟨u, rfl⟩ := r1
          have q := StrLaws.reprText_len s hy.2
          have hs := hy.1
          exact ⟨_, ReprIs.str s u (by rw [sizeLine_eq]; omega), by omega⟩
        | int i =>
          obtain ⟨u, rfl⟩ := r1
          have hi : i.natAbs.log2 < 1900 := hy
          have q := PyProof.Rows.int_text_len_1921 (i := i) (by omega)
          exact ⟨_, ReprIs.int (a := i) u (by omega), by
            have e : (toString i : Str) = PySem.Str.ofString (toString i) := rfl
            omega⟩
        | _ => exact hy.elim
      obtain ⟨t, h3, h4⟩ := one
      refine ⟨t :: ts, .cons h3 h1, ?_⟩
      rw [piled_cons, List.length_cons]
      omega
def tFmtU (K : Frag) (te : TE) : TE := fun σ H Q => te σ H fun x H1 => ∃ (a : Addr) (xs : List V), x = .ref a ∧ SqT K H1 a xs ∧ (∀ y ∈ xs, itemV y) ∧ xs.length ≤ 4 ∧ ∀ m : Str, m.length ≤ 100000 → Q (.str m) H1
theorem pe_fmtU {X : Cx} {e : Expr} {te : TE} {pos : Pos} {k : Nat} (hr : Room k X.A) (he : PE X e te) : PE X (.FormattedValue e (-1) none pos) (tFmtU X.K te) := by
  refine ⟨fun pins s σ H Q I h => wpAny_FormattedValue_plain (thn (he.run pins s σ H _ I h) fun v s1 hv => ?_)⟩
  obtain ⟨x, H1, I1, r1, a, xs, rfl, ht, hc, hz, q⟩ := hv
  cases r1
  obtain ⟨its, rv, ⟨o, ho, hcl, n, hd⟩, _⟩ := I1.tuple ht
  obtain ⟨ts, h1, h2⟩ := repr_items (prog := X.prog) (w := X.w) rv hc
  have htx := fmt_text ts
  have hu := hr.units
  have hsz : (tupleText ts).length ≤ 50000 := by omega
  exact fmt_tuple (ts := ts) (by omega) ho hcl hd h1 (by rw [sizeLine_eq]; omega) fun m u tk hm => ⟨.str m, H1, I1.tok _, ⟨u, rfl⟩, q m (by omega)⟩
def spE1T (K : Frag) (C : Addr) (f : Str) : Sp := fun vs H Q _ => ∃ a v, vs = [.ref a, v] ∧ H a = some (exo a C none) ∧ (∃ t xs, v = .ref t ∧ SqT K H t xs ∧ (∀ y ∈ xs, itemV y) ∧ xs.length ≤ 4) ∧ ∀ dx, H dx = none → dx ≠ a → Q .non (upd (upd H dx (exd dx [(f, v)])) a (exo a C (some dx)))
theorem err1T {P : Program} {w : World} {K : Frag} {mg : Str → Option Value} {base : Heap} {C fI : Addr} {qual x f : Str} {st : Stmt} {fd : FuncData} {s s2 : Str} {j j2} {p0 p1 p2 p3 p4 p5 p6 q1 q2 q3 r0 r1 r2 r3 : Pos} (T : SupX.SupC P K C fI qual st fd)
    (hst : defBody st = [.Expr (.Call (.Attribute (.Call (.Name "super" p0) [] [] p1) "__init__" p2) [.JoinedStr [.Constant (.str s) j p5, .FormattedValue (.Name x q1) (-1) none q2, .Constant (.str s2) j2 p6] q3] [] p3) p4, .Assign [.Attribute (.Name "self" r0) f r1] (.Name x r2) r3])
    (hsl : s.length ≤ 1000) (hsl2 : s2.length ≤ 1000) (hf : PySem.W.findIn K (.ref C) f = some none)
    (S : NdefX.NScope ["self", x, "__class__"] ["self", x] ["__class__"] (defScope st))
    (hks : (defScope st).names.lookup ("super" : Str) = some .globalImplicit) (h0 : ((defArgs st).posonlyargs ++ (defArgs st).args).head?.map (·.arg) = some "self")
    (hv1 : (defScope st).names.lookup ("self" : Str) = some .local) (hv2 : (defScope st).names.lookup x = some .local) (hd : (x == ("__debug__" : Str)) = false) (hcd : (x == ("__classdict__" : Str)) = false)
    (hsw2 : ∀ env : Env, swapsWith (.Name x r2) (some (.Attribute (.Name "self" r0) f r1)) r3.line env = pure false)
    (hsw : ∀ env : Env, swapsWith (.Call (.Attribute (.Call (.Name "super" p0) [] [] p1) "__init__" p2) [.JoinedStr [.Constant (.str s) j p5, .FormattedValue (.Name x q1) (-1) none q2, .Constant (.str s2) j2 p6] q3] [] p3) none p4.line env = pure false)
    (hev : ∀ env : Env, ∃ pl : Sem Bool, eval (.Call (.Attribute (.Call (.Name "super" p0) [] [] p1) "__init__" p2) [.JoinedStr [.Constant (.str s) j p5, .FormattedValue (.Name x q1) (-1) none q2, .Constant (.str s2) j2 p6] q3] [] p3) env = (do
      let ov ← attributeBase (.Call (.Name "super" p0) [] [] p1) "__init__" env (eval (.Call (.Name "super" p0) [] [] p1) env)
      standAt p2.atName
      let (f, first) ← holding [ov] (getMethod ov "__init__" pl)
      callWith p3 f first (backTo p3 (starEach [.JoinedStr [.Constant (.str s) j p5, .FormattedValue (.Name x q1) (-1) none q2, .Constant (.str s2) j2 p6] q3] env)) [])) :
    FnOk P w K mg base (L2.CX P w) 1 fI fd ["self", x] (spE1T K C f) := by
  refine SupX.fn_sup (k := 0) (N := ["self", x, "__class__"]) T S hst hks h0 rfl (fun _ => rfl) hsw hev (fun vs H Q E h => ?_) fun F A outer s' H vs Q E hq hs hr h => ?_
  · obtain ⟨a, v, rfl, _⟩ := h
    rfl
  · obtain ⟨a, v, rfl, ha, ⟨t, xs, rfl, ht, hi, hl⟩, q⟩ := h
    have V1 : Vis (NdefX.ncx (L2.CX P w) P w K mg base ["self", x, "__class__"] F fI A outer s' H E).env.scope "self" := .inl (by show F.scope.names.lookup _ = _; rw [hs]; exact hv1)
    have V2 : Vis (NdefX.ncx (L2.CX P w) P w K mg base ["self", x, "__class__"] F fI A outer s' H E).env.scope x := .inl (by show F.scope.names.lookup _ = _; rw [hs]; exact hv2)
    refine ⟨a, [.ref t], rfl, ha, _, pe_joined (.cons pe_str (.cons (pe_fmtU (k := 0) hr (pe_var (i := 1) rfl V2 hd hcd)) (.cons pe_str .nil))), _, pss_one (ps_ost (pe_var (i := 0) rfl V1 (by decide) (by decide)) (pe_var (i := 1) rfl V2 hd hcd) (hsw2 _)), ?_⟩
    have e2 : Str.empty.length = 0 := rfl
    have app : ∀ x y : Str, (x ++ y).length = x.length + y.length := fun x y => by
      show (x.cps ++ y.cps).size = _
      rw [Array.size_append]
      rfl
    have hz := sizeLine_eq
    refine ⟨s, rfl, by rw [app]; omega, _, rfl, t, xs, rfl, ht, hi, hl, fun m hm => ?_⟩
    refine ⟨m, rfl, by rw [app, app]; omega, s2, rfl, by rw [app, app, app]; omega, ?_⟩
    exact ⟨ha, _, rfl, _, rfl, a, C, rfl, T.cls, hf, .inl ⟨ha, fun dx hd hne => q dx hd hne⟩⟩
def itemD : D → Bool
  | .str s => decide (s.length ≤ 1000) && s.cps.toList.all fun c => decide (c < 16 ^ 8)
  | .int i => decide (i.natAbs.log2 < 1900)
  | _ => false
def fmtT : D → Bool
  | .tup ds => decide (ds.length ≤ 4) && ds.all itemD
  | _ => false
def raise1TK (c f : Str) (d : D) : M Fl := fun ρ => if fmtT d then .ex c [(f, d)] ρ else .bad
def raise1TM (c f : Str) (fa : M D) : M Fl := bind fa (raise1TK c f)
theorem RpA.items {K : Frag} {cm : Str → Option Addr} {Z : ZS} {H : Hp} : ∀ {vs : List V} {ds : List D}, RpA K cm Z H vs ds → ds.all itemD = true → ∀ y ∈ vs, itemV y
  | _, _, .nil, _ => fun y hy => by cases hy
  | _, _, .cons h t, e => fun y hy => by
    rw [List.all_cons, Bool.and_eq_true] at e
    rcases List.mem_cons.mp hy with z | z
    · subst z
      have e1 := e.1
      cases h with
      | str s =>
        unfold itemD at e1
        rw [Bool.and_eq_true, List.all_eq_true] at e1
        exact ⟨of_decide_eq_true e1.1, fun c hc => of_decide_eq_true (e1.2 c hc)⟩
      | int i =>
        have e2 : decide (i.natAbs.log2 < 1900) = true := e1
        exact (show i.natAbs.log2 < 1900 from of_decide_eq_true e2)
      | _ => cases e1
    · exact RpA.items t e.2 y z
theorem sx_raise1T {X : Cx} {cm : Str → Option Addr} {W : WX} {x c f y : Str} {e : Expr} {fa : M D} {p pos pos2 : Pos} {C fI : Addr} {k : Nat} {fd : FuncData} {qual : Str} {st : Stmt} (T : SupX.SupC X.prog X.K C fI qual st fd) (F1 : FnOk X.prog X.w X.K X.mg X.base (L2.CX X.prog X.w) k fI fd ["self", y] (spE1T X.K C f)) (hr : Room (k + 1) X.A) (hb : L2.Binds X.K fd ["self", y] [])
    (hm : X.mg x = some (.ref C)) (hcm : cm c = some C) (tk : Takes X W) (ha : Ex X cm W e fa) (hc : X.calm = true := by rfl) (hg : Gl X x := by rfl) (hdb : (x == ("__debug__" : Str)) = false := by decide) (he : starEach [e] X.env = (false, eval e X.env) :: starEach [] X.env := by rfl) (hpl : (backTo pos (starEach [] X.env)).any (·.1) = false := by rfl) :
    Sx X cm W (.Raise (some (.Call (.Name x p) [e] [] pos)) none pos2) (raise1TM c f fa) := by
  obtain ⟨t, pa, qa⟩ := ha
  refine ⟨_, ps_raise hc tk (SupX.pmk_sup T F1 hr hb passL hg hm (pa_cons pa pa_nil he) hdb he hpl), fun B Z σ ρ H E S h => ?_⟩
  refine qa B Z σ ρ H _ S (PostS.bind h fun d ρ1 v Z1 H1 g1 S1 r1 h1 => ?_)
  unfold raise1TK at h1
  split at h1
  · rename_i hf
    cases d with
    | tup ds =>
      unfold fmtT at hf
      rw [Bool.and_eq_true] at hf
      cases r1 with
      | @tup t' vs _ h2 r2 =>
        have rr : Rp X.K cm Z1 H1 (.ref t') (.tup ds) := .tup h2 r2
        have hl := of_decide_eq_true hf.1
        refine ⟨(by show 1 ≤ 1000; decide), fun a ha => ⟨a, .ref t', rfl, upd_same, ⟨t', vs, rfl, ?_, r2.items hf.2, by rw [RpA.length r2]; exact hl⟩, fun dx hd hne => ⟨rfl, .inr ⟨dx, [(f, .ref t')], upd_same, ?_, ?_, ?_⟩⟩⟩⟩
        · obtain ⟨S2, g2⟩ := S1.new (p := a) (o := exo a C none) ha
          exact (h2.grow g2).sq
        · rw [upd_ne hne, upd_same]
        · rw [upd_ne hne] at hd
          exact hd
        · rw [upd_ne hne] at hd
          have e1 : upd (del (upd (upd (upd H1 a (exo a C none)) dx (exd dx [(f, .ref t')])) a (exo a C (some dx))) a) dx (.xd [(f, .ref t')]) = upd H1 dx (.xd [(f, .ref t')]) := by
            funext b
            by_cases h1 : b = dx
            · rw [h1, upd_same, upd_same]
            · rw [upd_ne h1, upd_ne h1]
              by_cases h2 : b = a
              · rw [h2, del_same, ha]
              · rw [del_ne h2, upd_ne h2, upd_ne h1, upd_ne h2]
          rw [e1]
          obtain ⟨S2, g2⟩ := S1.new (p := dx) (o := .xd [(f, .ref t')]) hd
          exact h1 C (some dx) _ σ _ g2 S2 hcm (.inr ⟨dx, [(f, .ref t')], rfl, .inr rfl, upd_same, .cons (rr.grow g2) .nil, by simp⟩)
    | _ => cases hf
  · exact h1.elim
end De

set_option Elab.async false
set_option linter.all false
set_option maxRecDepth 100000
set_option maxHeartbeats 2000000
namespace De
open PySem PySem.Spec PyProof.Rows L2
open PySem.W (Frag)
/-! ### e in name, the name's own list, which stays its own -/
def flatIn (x : D) (xs : List D) : Option Bool := if inP.flat x && xs.all inP.flat then some (xs.any fun z => inP.eqF z x) else none
def inM (neg : Bool) (i : Nat) (fa : M D) : M D := bind fa fun x ρ => match ρ[i]? with
  | some ev => (match lstOf ev with
    | some xs => optM ((flatIn x xs).map fun b => if neg then !b else b) ρ
    | none => .bad)
  | none => .bad
section
variable {X : Cx} {cm : Str → Option Addr} {W : WX} {a : Expr} {fa : M D} {pos px : Pos} {x : Str}
theorem inM_ok {ta : TE} {neg : Bool} {i : Nat} (qa : ∀ B Z σ ρ H Q, St0 X.K cm Z B σ ρ H → Post X.K cm W B (rpD X.K cm) Z σ H (fa ρ) Q → ta σ H Q) :
    ∀ B Z σ ρ H Q, St0 X.K cm Z B σ ρ H → Post X.K cm W B (rpD X.K cm) Z σ H (inM neg i fa ρ) Q → tOp (rIn X.K neg) ta (tVar i) σ H Q := fun B Z σ ρ H Q S h => by
  refine qa B Z σ ρ H _ S (Post.bind h fun d ρ1 v Z1 H1 g1 S1 r1 h1 => ?_)
  cases e : ρ1[i]? with
  | none =>
    rw [e] at h1
    exact h1.elim
  | some ev =>
    rw [e] at h1
    cases el : lstOf ev with
    | none =>
      simp only [el] at h1
      exact h1.elim
    | some xs =>
      simp only [el] at h1
      obtain ⟨l, vs, es, hl, nz, rr, _⟩ := (S1.sl i _ e).lst el
      unfold flatIn at h1
      by_cases hf : (inP.flat d && xs.all inP.flat) = true
      · rw [if_pos hf] at h1
        rw [Bool.and_eq_true] at hf
        obtain ⟨f1, f2⟩ := RpA.flat rr hf.2
        obtain ⟨f3, f4⟩ := f2 v d r1 hf.1
        refine ⟨.ref l, es, l, vs, rfl, .inl (.inl (.inl hl)), f3, f1, ?_⟩
        have e1 : inV v vs = xs.any fun z => inP.eqF z d := f4
        rw [e1]
        cases neg with
        | true => exact Post.ret h1 S1 (.bl _)
        | false => exact Post.ret h1 S1 (.bl _)
      · rw [if_neg hf] at h1
        exact h1.elim
theorem ex_inM (i : Nat) (h : Ex X cm W a fa) (hN : X.N[i]? = some x := by rfl) (hv : Vis X.env.scope x := by first | exact Or.inl rfl | exact Or.inr (Or.inl rfl) | exact Or.inr (Or.inr rfl)) (hd : (x == ("__debug__" : Str)) = false := by decide) (hcd : (x == ("__classdict__" : Str)) = false := by decide)
    (hm : behindInMarks .In (.Name x px) = false := by first | exact nomark _ | rfl) : Ex X cm W (.Compare a [.In] [.Name x px] pos) (inM false i fa) := by
  obtain ⟨t, p, q⟩ := h
  exact ⟨_, pe_cmpR op_in_seq p (pe_var (pos := px) (i := i) hN hv hd hcd) hm, inM_ok q⟩
theorem ex_notinM (i : Nat) (h : Ex X cm W a fa) (hN : X.N[i]? = some x := by rfl) (hv : Vis X.env.scope x := by first | exact Or.inl rfl | exact Or.inr (Or.inl rfl) | exact Or.inr (Or.inr rfl)) (hd : (x == ("__debug__" : Str)) = false := by decide) (hcd : (x == ("__classdict__" : Str)) = false := by decide)
    (hm : behindInMarks .NotIn (.Name x px) = false := by first | exact nomark _ | rfl) : Ex X cm W (.Compare a [.NotIn] [.Name x px] pos) (inM true i fa) := by
  obtain ⟨t, p, q⟩ := h
  exact ⟨_, pe_cmpR op_notIn_seq p (pe_var (pos := px) (i := i) hN hv hd hcd) hm, inM_ok q⟩
theorem tx_inM (i : Nat) (h : Ex X cm W a fa) (hN : X.N[i]? = some x := by rfl) (hv : Vis X.env.scope x := by first | exact Or.inl rfl | exact Or.inr (Or.inl rfl) | exact Or.inr (Or.inr rfl)) (hd : (x == ("__debug__" : Str)) = false := by decide) (hcd : (x == ("__classdict__" : Str)) = false := by decide)
    (hm : behindInMarks .In (.Name x px) = false := by first | exact nomark _ | rfl) : Tx X cm W (.Compare a [.In] [.Name x px] pos) (blM (inM false i fa)) := by
  obtain ⟨t, p, q⟩ := h
  exact ⟨_, pt_cmpR op_in_seq p (pe_var (pos := px) (i := i) hN hv hd hcd) hm, blM_ok (inM_ok q)⟩
theorem tx_notinM (i : Nat) (h : Ex X cm W a fa) (hN : X.N[i]? = some x := by rfl) (hv : Vis X.env.scope x := by first | exact Or.inl rfl | exact Or.inr (Or.inl rfl) | exact Or.inr (Or.inr rfl)) (hd : (x == ("__debug__" : Str)) = false := by decide) (hcd : (x == ("__classdict__" : Str)) = false := by decide)
    (hm : behindInMarks .NotIn (.Name x px) = false := by first | exact nomark _ | rfl) : Tx X cm W (.Compare a [.NotIn] [.Name x px] pos) (blM (inM true i fa)) := by
  obtain ⟨t, p, q⟩ := h
  exact ⟨_, pt_cmpR op_notIn_seq p (pe_var (pos := px) (i := i) hN hv hd hcd) hm, blM_ok (inM_ok q)⟩
end
/-! ### __init__ as a plain function -/
def mkI (n : Nat) (N : List Str) (c : Str) (g : M Fl) : List D → Fr (List (Str × D)) := fun ds => if ds.length + 1 = n then finI c (g (startI N c ds)) else .bad
theorem mkI_len {n : Nat} {N : List Str} {c : Str} {g : M Fl} (ds : List D) (h : mkI n N c g ds ≠ .bad) : ds.length + 1 = n := by
  by_cases e : ds.length + 1 = n
  · exact e
  · exact absurd (if_neg e) h
theorem mkI_eq {n : Nat} {N : List Str} {c : Str} {g : M Fl} (ds : List D) (h : mkI n N c g ds ≠ .bad) : finI c (g (startI N c ds)) = mkI n N c g ds := (if_pos (mkI_len ds h)).symm
end De

set_option Elab.async false
set_option linter.all false
set_option maxRecDepth 100000
set_option maxHeartbeats 2000000
namespace De
open PySem PySem.Spec PyProof.Rows L2
open PySem.W (Frag)
/-! ### a key of a written dict -/
def tinM (neg : Bool) (tb : List (Str × D)) (f : M D) : M D := bind f fun d => match d with
  | .str z => ret (.bl (if neg then !(tb.lookup z).isSome else (tb.lookup z).isSome))
  | _ => bad
section
variable {X : Cx} {cm : Str → Option Addr} {W : WX} {e : Expr} {es : List Expr} {fa : M D} {x : Str} {p px pos apos : Pos} {a : Addr} {tb : List (Str × D)}
theorem tin_look {z : Str} {Z : ZS} {H : Hp} {B : Bs} {σ : L2.St} {ρ : Rho} {Q : VK} (neg : Bool) (T : KTab X.K X.w a tb) (S : St0 X.K cm Z B σ ρ H) (h : Post X.K cm W B (rpD X.K cm) Z σ H (ret (.bl (if neg then !(tb.lookup z).isSome else (tb.lookup z).isSome)) ρ) Q) :
    ∃ r : Option Value, PySem.W.nsIn X.K a z = some r ∧ Q (.bl (if neg then !r.isSome else r.isSome)) H := by
  rcases tab_look T z with ⟨d, e1, u, v, e2, rv, rp⟩ | ⟨e1, e2⟩
  · rw [e1] at h
    exact ⟨some u, e2, Post.ret h S (.bl _)⟩
  · rw [e1] at h
    exact ⟨none, e2, Post.ret h S (.bl _)⟩
theorem ex_inT (T : KTab X.K X.w a tb) (hm : X.mg x = some (.ref a)) (h : Ex X cm W e fa) (hg : Gl X x := by rfl) (hd : (x == ("__debug__" : Str)) = false := by decide)
    (hb : behindInMarks .In (.Name x px) = false := by first | exact nomark _ | rfl) : Ex X cm W (.Compare e [.In] [.Name x px] pos) (tinM false tb fa) := by
  obtain ⟨t, pe, q⟩ := h
  obtain ⟨es, n, hl, hk, hm2⟩ := T.ex
  refine ⟨_, pe_cmpR (op_in_kd ⟨hl, hk, T.low⟩) pe (pe_glob (v := .ref a) (pos := px) hg hm rfl hd) hb, fun B Z σ ρ H Q S h => q B Z σ ρ H _ S (Post.bind h fun d ρ1 v Z1 H1 g1 S1 r1 h1 => ?_)⟩
  cases d with
  | str z =>
    cases r1
    obtain ⟨r, e2, q2⟩ := tin_look false T S1 h1
    exact ⟨z, r, rfl, rfl, e2, q2⟩
  | _ => exact h1.elim
theorem tx_inT (T : KTab X.K X.w a tb) (hm : X.mg x = some (.ref a)) (h : Ex X cm W e fa) (hg : Gl X x := by rfl) (hd : (x == ("__debug__" : Str)) = false := by decide)
    (hb : behindInMarks .In (.Name x px) = false := by first | exact nomark _ | rfl) : Tx X cm W (.Compare e [.In] [.Name x px] pos) (blM (tinM false tb fa)) := by
  obtain ⟨t, pe, q⟩ := h
  obtain ⟨es, n, hl, hk, hm2⟩ := T.ex
  refine ⟨_, pt_cmpR (op_in_kd ⟨hl, hk, T.low⟩) pe (pe_glob (v := .ref a) (pos := px) hg hm rfl hd) hb, blM_ok fun B Z σ ρ H Q S h => q B Z σ ρ H _ S (Post.bind h fun d ρ1 v Z1 H1 g1 S1 r1 h1 => ?_)⟩
  cases d with
  | str z =>
    cases r1
    obtain ⟨r, e2, q2⟩ := tin_look false T S1 h1
    exact ⟨z, r, rfl, rfl, e2, q2⟩
  | _ => exact h1.elim
end
/-! ### where a text stands in a list of texts -/
def strsOf : List D → Option (List Str)
  | [] => some []
  | .str s :: r => (strsOf r).map (s :: ·)
  | _ :: _ => none
theorem strsOf_rp {K : Frag} {cm : Str → Option Addr} {Z : ZS} {H : Hp} : ∀ {vs : List V} {ds : List D} {ss : List Str}, RpA K cm Z H vs ds → strsOf ds = some ss → vs = ss.map V.str
  | _, _, ss, .nil, h => by
    cases h
    rfl
  | _, _, ss, .cons (d := d) r t, h => by
    cases d with
    | str s =>
      cases r
      unfold strsOf at h
      obtain ⟨r', e, rfl⟩ := Option.map_eq_some_iff.1 h
      rw [strsOf_rp t e]
      rfl
    | _ => cases h
def idxK (xs : List D) : D → M D
  | .str z => (match strsOf xs with
    | some ss => if z ∈ ss then ret (.int (ss.idxOf z : Nat)) else bad
    | none => bad)
  | _ => bad
def idxL (fe : M D) : D → M D
  | .lst xs => bind fe (idxK xs)
  | _ => bad
def idxM (fo fe : M D) : M D := bind fo (idxL fe)
section
variable {X : Cx} {cm : Str → Option Addr} {W : WX} {o e : Expr} {fo fe : M D} {pos apos : Pos}
theorem ex_index (ho : Ex X cm W o fo) (h : Ex X cm W e fe)
    (hab : attributeBase o "index" X.env (eval o X.env) = eval o X.env := by rfl)
    (hall : ((((backTo pos (starEach [e] X.env)).all fun x => !x.1) && (backToKw pos (keywordEach [] X.env)).all fun x => x.1.isSome) && decide (([e].length + ([] : List Keyword).length + if ([] : List Keyword).isEmpty then 0 else 1) < 30)) = true := by rfl)
    (hl : (apos.endLine == pos.line) = true := by rfl) (he : starEach [e] X.env = (false, eval e X.env) :: starEach [] X.env := by rfl)
    (hpl : ((backTo pos (starEach [] X.env)).any fun x => x.1) = false := by rfl) : Ex X cm W (.Call (.Attribute o "index" apos) [e] [] pos) (idxM fo fe) := by
  obtain ⟨t, p, q⟩ := h
  obtain ⟨t2, p2, q2⟩ := ho
  refine ⟨_, pe_bm PySem.F.plainAttrs_list PySem.F.slot_list_index PySem.F.type_list_index mt_index p2 (pa_cons p pa_nil he) hab hall hl he hpl, fun B Z σ ρ H Q S h => q2 B Z σ ρ H _ S (Post.bind h fun l ρ1 v Z1 H1 g1 S1 r1 h1 => ?_)⟩
  cases r1 with
  | lst z1 hl1 ra =>
    refine ⟨.inl ⟨rfl, _, .inl (.inl hl1)⟩, q B Z1 σ ρ1 H1 _ S1 (Post.bind h1 fun d ρ2 u Z2 H2 g2 S2 r2 h2 => ?_)⟩
    cases d with
    | str z =>
      cases r2
      rename_i ds
      cases es : strsOf ds with
      | none =>
        unfold idxK at h2
        simp only [es] at h2
        exact h2.elim
      | some ss =>
        unfold idxK at h2
        simp only [es] at h2
        by_cases hz : z ∈ ss
        · rw [if_pos hz] at h2
          have ev := strsOf_rp ra es
          subst ev
          have hi : ss.idxOf z < ss.length := List.idxOf_lt_length_iff.2 hz
          refine ⟨_, ss.map V.str, .str z, ss.idxOf z, .str z, rfl, rfl, .inl (.inl ((g2 _ z1).2.trans hl1)), rfl, ?_, ?_, ?_, ?_, Post.ret h2 S2 (.int _)⟩
          · exact List.all_eq_true.2 fun v hv => by
              obtain ⟨s, _, rfl⟩ := List.mem_map.1 hv
              rfl
          · rw [List.getElem?_map, List.getElem?_eq_getElem hi, List.getElem_idxOf]
            rfl
          · exact beq_self_eq_true z
          · intro m z' hm hz'
            rw [List.getElem?_map] at hz'
            obtain ⟨s, hs, rfl⟩ := Option.map_eq_some_iff.1 hz'
            have ne : s ≠ z := fun e => by
              subst e
              obtain ⟨hm2, e2⟩ := List.getElem?_eq_some_iff.1 hs
              have n := List.not_of_lt_findIdx (p := (· == s)) (xs := ss) hm
              simp [e2] at n
            exact beq_eq_false_iff_ne.2 ne
        · rw [if_neg hz] at h2
          exact h2.elim
    | _ => exact h2.elim
  | _ => exact h1.elim
end
/-! ### a def with defaults -/
section
variable {P : Program} {w : World} {K : Frag} {mg : Str → Option Value} {base : Heap} {cm : Str → Option Addr} {x qual : Str} {st : Stmt} {f : Addr} {fd : FuncData} {N ps : List Str} {k : Nat} {g : M Fl} {dvs : List V}
theorem fnPD (F : FunD K x qual (defArgs st) (defBody st) (defScope st) dvs [] f fd) (S : FnScope N ps (defScope st)) (FF : List D → Fr D) (hlen : ∀ ds, FF ds ≠ .bad → ds.length = ps.length)
    (hbody : ∀ (cdv : Value) (A : Around) (outer : List Env) (s : Shared) (H : Hp) (E : XK), Room k (A.deeper (envOfC qual (defScope st) s.heap.objs.size f cdv)) → Sxs (Bx P w K mg base N qual st f cdv A outer s H E) cm (WB E) (defBody st) g)
    (heq : ∀ ds, FF ds ≠ .bad → finP (g (startR N ds)) = FF ds) : FnOk P w K mg base (L2.CX P w) (k + 1) f fd ps (spP K cm FF) := by
  refine F.ok S (fun vs H Q E h => ?_) (fun cdv A outer s H vs Q E hr h => ?_)
  · obtain ⟨Z, ds, hz, r, h⟩ := h
    rw [RpA.length r]
    refine hlen ds fun e => ?_
    rw [e] at h
    exact h
  · obtain ⟨Z, ds, hz, r, h⟩ := h
    have hb : FF ds ≠ .bad := fun e => by
      rw [e] at h
      exact h
    obtain ⟨t, p, q⟩ := hbody cdv A outer s H E hr
    refine ⟨t, p, q ⟨H, Z, O0, []⟩ Z _ _ H _ (start_ok hz r) ?_⟩
    have e := heq ds hb
    rw [← e] at h
    cases eg : g (startR N ds) with
    | bad =>
      rw [eg] at h
      exact h
    | ex c fs ρ' =>
      rw [eg] at h
      exact fun C dd Z' σ' H' g' S' hc hx => h C dd Z' H' (S'.go g') hc hx
    | ok fl ρ' =>
      rw [eg] at h
      cases fl with
      | nx => exact fun Z' σ' H' g' S' => h .non Z' H' (S'.go g') .non
      | rt d => exact fun v Z' σ' H' g' S' r' => h v Z' H' (S'.go g') r'
      | rtl d => exact h.elim
      | bk => exact h.elim
      | ct => exact h.elim
/-- a def of the text with defaults -/
def FunED (K : Frag) (mg : Str → Option Value) (x : Str) (st : Stmt) (dds : List D) : Prop := ∃ f fd dvs, FunD K x x (defArgs st) (defBody st) (defScope st) dvs [] f fd ∧ mg x = some (.ref f) ∧ dvs ≠ [] ∧ dvs.length = dds.length ∧ ∀ cm Z H, RpA K cm Z H dvs dds
/-- with its last arguments left out -/
def OwnD (P : Program) (w : World) (K : Frag) (mg : Str → Option Value) (base : Heap) (x : Str) (k : Nat) (ps : List Str) (sp : Sp) (dds : List D) : Prop := ∃ f fd dvs ds, mg x = some (.ref f) ∧ PySem.W.keepIn K (.ref f) = true ∧ Vals dvs ds ∧ L2.Binds K fd ps ds ∧ (∀ cm Z H, RpA K cm Z H dvs dds) ∧ FnOk P w K mg base (L2.CX P w) k f fd ps sp
theorem ownPD {dds : List D} (FF : List D → Fr D) (F : FunED K mg x st dds) (S : FnScope N ps (defScope st)) (hlen : ∀ ds, FF ds ≠ .bad → ds.length = ps.length) (n : Nat) (hn : n + dds.length = ps.length)
    (hb0 : ∀ (T : Addr) (kV doc pm : Value) (an : Option Addr) (cdv ct : Value) (us its : List Value), us.length = n → its.length = dds.length →
      ∃ k, bindArgs (PySem.W.fnOf x x (defArgs st) (defBody st) (defScope st) (.ref T) kV doc pm an cdv ct) ⟨us, []⟩ = seqItems? (.ref T) >>= k ∧ k (some its.toArray) = pure (ps.zip (us ++ its.drop 0)))
    (hb1 : ∀ (T : Addr) (kV doc pm : Value) (an : Option Addr) (cdv ct : Value) (us its : List Value), us.length = ps.length → its.length = dds.length →
      ∃ k, bindArgs (PySem.W.fnOf x x (defArgs st) (defBody st) (defScope st) (.ref T) kV doc pm an cdv ct) ⟨us, []⟩ = seqItems? (.ref T) >>= k ∧ k (some its.toArray) = pure (ps.zip (us ++ its.drop dds.length)))
    (hbody : ∀ (f : Addr) (cdv : Value) (A : Around) (outer : List Env) (s : Shared) (H : Hp) (E : XK), Room k (A.deeper (envOfC x (defScope st) s.heap.objs.size f cdv)) → Sxs (Bx P w K mg base N x st f cdv A outer s H E) cm (WB E) (defBody st) g)
    (heq : ∀ ds, FF ds ≠ .bad → finP (g (startR N ds)) = FF ds) : Own P w K mg base x (k + 1) ps (spP K cm FF) ∧ OwnD P w K mg base x (k + 1) ps (spP K cm FF) dds := by
  obtain ⟨f, fd, dvs, F1, hm, ne, hl, hd⟩ := F
  have Fo := fnPD (cm := cm) F1 S FF hlen (hbody f) heq
  obtain ⟨ds0, v0, b0⟩ := F1.binds1 (ps := ps) n 0 ne (by omega) fun T kV doc pm an cdv ct us its h1 h2 => hb0 T kV doc pm an cdv ct us its h1 (h2.trans hl)
  obtain ⟨ds1, v1, b1⟩ := F1.binds1 (ps := ps) ps.length dds.length ne (by omega) fun T kV doc pm an cdv ct us its h1 h2 => hb1 T kV doc pm an cdv ct us its h1 (h2.trans hl)
  have e1 : dvs.drop dds.length = [] := List.drop_eq_nil_of_le (by omega)
  rw [e1] at v1
  cases v1
  exact ⟨⟨f, fd, hm, F1.kp, b1, Fo⟩, f, fd, dvs, ds0, hm, F1.kp, v0, b0, hd, Fo⟩
end
section
variable {X : Cx} {cm : Str → Option Addr} {W : WX} {x : Str} {j k : Nat} {ps : List Str} {e : Expr} {es : List Expr} {p pos : Pos} {fs : M (List D)} {dds : List D}
/-- f(e, ..), the last arguments left out -/
theorem ex_ownD {F : List D → Fr D} (O : OwnD X.prog X.w X.K X.mg X.base x j ps (spP X.K cm F) dds) (hr : Room k X.A) (hjk : j ≤ k) (tk : Takes X W) (ha : Exs X cm W (e :: es) fs) (hg : Gl X x := by rfl)
    (hdb : (x == ("__debug__" : Str)) = false := by decide) (he : starEach (e :: es) X.env = (false, eval e X.env) :: starEach es X.env := by rfl) (hpl : (backTo pos (starEach es X.env)).any (·.1) = false := by rfl) : Ex X cm W (.Call (.Name x p) (e :: es) [] pos) (bind fs fun ds => callF F (ds ++ dds)) := by
  obtain ⟨f, fd, dvs, ds0, hm, hk, hv, hb, hd, Fo⟩ := O
  obtain ⟨t, pa, q⟩ := ha
  refine ⟨_, pe_callSD Fo (hr.mono hjk) hg hm hk hb hv (fun σ => passAt tk σ) pa hdb he hpl, fun B Z σ ρ H Q S h => q B Z σ ρ H _ S (Post.bind h fun ds ρ1 vs Z1 H1 g1 S1 r1 h1 => ?_)⟩
  refine ⟨Z1, ds ++ dds, S1.zin, r1.append (hd cm Z1 H1), ?_⟩
  unfold callF at h1
  cases eF : F (ds ++ dds) with
  | ok r =>
    rw [eF] at h1
    intro v Z' H' go rv
    obtain ⟨S2, g2⟩ := S1.went go
    exact h1 v Z' H' g2 S2 rv
  | ex c fs' =>
    rw [eF] at h1
    intro C dd Z' H' go hc hx
    obtain ⟨S2, g2⟩ := S1.went go
    exact h1 C dd Z' H' g2 S2 hc hx
  | bad =>
    rw [eF] at h1
    exact h1
end
end De

set_option Elab.async false
set_option linter.all false
set_option maxRecDepth 100000
set_option maxHeartbeats 2000000
namespace De
open PySem PySem.Spec PyProof.Rows L2
open PySem.W (Frag)
/-! ### methods called -/
section
variable {X : Cx} {CX : CXT} {k : Nat} {f C : Addr} {fd : FuncData} {ps : List Str} {sp : Sp} {E : L2.St → XK} {x m : Str} {p pos apos : Pos} {e o : Expr} {es : List Expr} {ta : TE} {t : TA}
def tMethS (C : Addr) (m : Str) (sp : Sp) (E : L2.St → XK) (ta : TE) (t : TA) : TE := fun σ H Q => ta σ H fun x H1 => ∃ a dx fs, x = .ref a ∧ H1 a = some (.ins C dx fs) ∧ fs.lookup m = none ∧
  t σ H1 fun vs H2 => sp (x :: vs) H2 Q (E σ)
theorem pe_methS' {pl : Sem Bool} (he : PE X o ta) (c : Cls X.K C) (hm : Meth X.K C m f) (F : FnOk X.prog X.w X.K X.mg X.base CX k f fd ps sp) (hr : Room k X.A) (hb : Binds X.K fd ps []) (hx : ∀ σ, PassesAt CX X σ (E σ)) (ha : PA X (e :: es) t)
    (hst : starEach (e :: es) X.env = (false, eval e X.env) :: starEach es X.env := by rfl) (hpl : (backTo pos (starEach es X.env)).any (·.1) = false := by rfl)
    (ht : eval (.Call (.Attribute o m apos) (e :: es) [] pos) X.env = (do
      let ov ← eval o X.env
      standAt apos.atName
      let (f, first) ← holding [ov] (getMethod ov m pl)
      callWith pos f first (backTo pos (starEach (e :: es) X.env)) (backToKw pos (keywordEach [] X.env))) := by rfl) :
    PE X (.Call (.Attribute o m apos) (e :: es) [] pos) (tMethS C m sp E ta t) := by
  refine ⟨fun pins s σ H Q I h => ?_⟩
  refine PySem.W.methodCall_KW (pl := pl) (thn (he.run pins s σ H _ I h) fun u s1 ⟨x, H1, I1, rx, a, dx, fs, ex, ea, l, q⟩ => ?_) ht
  subst ex
  obtain rfl : u = Value.ref a := rx
  refine getmeth_ok I1 ea c hm l ?_
  refine PySem.W.callWith_K (first := [.ref a]) (h₀ := X.base) I.ok.mod.kin hm.kp (thn (ha.run pos pins s1 σ H1 _ I1 q) fun us s2 ⟨vs, H2, I2, r, q2⟩ => ⟨I2.kIn, ?_⟩) hst hpl
  exact run_fnS (us := .ref a :: us) (vs := .ref a :: vs) F hr hb (hx σ) I2 (.cons rfl r) q2
end
/-- a method that keeps its promise, under its class and name -/
def OwnT (P : Program) (w : World) (K : Frag) (mg : Str → Option Value) (base : Heap) (cm : Str → Option Addr) (c m : Str) (k : Nat) (ps : List Str) (F : List D → Fr D) : Prop :=
  ∃ C f fd, cm c = some C ∧ Cls K C ∧ Meth K C m f ∧ L2.Binds K fd ps [] ∧ FnOk P w K mg base (L2.CX P w) k f fd ps (spP K cm F)
def callT (c m : Str) (F : List D → Fr D) (fa : M D) (fs : M (List D)) : M D := bind fa fun d => match d with
  | .ins c' gs => if c' = c ∧ gs.lookup m = none then bind fs fun ds => callF F (.ins c' gs :: ds) else bad
  | _ => bad
theorem RpF.lookup_none {K : Frag} {cm : Str → Option Addr} {Z : ZS} {H : Hp} {f : Str} : ∀ {fs : List (Str × V)} {gs : List (Str × D)}, RpF K cm Z H fs gs → gs.lookup f = none → fs.lookup f = none
  | _, _, .nil, _ => rfl
  | _, _, .cons (x := x) h t, e => by
    rw [List.lookup_cons] at e ⊢
    cases q : f == x with
    | true => rw [q] at e; cases e
    | false =>
      rw [q] at e
      exact RpF.lookup_none t e
theorem ex_callT {X : Cx} {cm : Str → Option Addr} {W : WX} {o e : Expr} {es : List Expr} {c m : Str} {j k : Nat} {ps : List Str} {F : List D → Fr D} {fa : M D} {fs : M (List D)} {apos pos : Pos} {pl : Sem Bool}
    (O : OwnT X.prog X.w X.K X.mg X.base cm c m j ps F) (hr : Room k X.A) (hjk : j ≤ k) (tk : Takes X W) (ho : Ex X cm W o fa) (ha : Exs X cm W (e :: es) fs)
    (hst : starEach (e :: es) X.env = (false, eval e X.env) :: starEach es X.env := by rfl) (hpl : (backTo pos (starEach es X.env)).any (·.1) = false := by rfl)
    (ht : eval (.Call (.Attribute o m apos) (e :: es) [] pos) X.env = (do
      let ov ← eval o X.env
      standAt apos.atName
      let (f, first) ← holding [ov] (getMethod ov m pl)
      callWith pos f first (backTo pos (starEach (e :: es) X.env)) (backToKw pos (keywordEach [] X.env))) := by rfl) :
    Ex X cm W (.Call (.Attribute o m apos) (e :: es) [] pos) (callT c m F fa fs) := by
  obtain ⟨C, f, fd, hc, hC, hM, hb, Fo⟩ := O
  obtain ⟨to, po, qo⟩ := ho
  obtain ⟨t, pa, q⟩ := ha
  refine ⟨_, pe_methS' (pl := pl) po hC hM Fo (hr.mono hjk) hb (fun σ => passAt tk σ) pa hst hpl ht, fun B Z σ ρ H Q S h => qo B Z σ ρ H _ S (Post.bind h fun d ρ1 v Z1 H1 g1 S1 r1 h1 => ?_)⟩
  split at h1
  · rename_i c' gs
    split at h1
    · rename_i hh
      obtain ⟨rfl, hl⟩ := hh
      cases r1 with
      | ins z h2 hcm r2 =>
        rw [hc] at hcm
        cases hcm
        refine ⟨_, _, _, rfl, h2, RpF.lookup_none r2 hl, q B Z1 σ ρ1 H1 _ S1 (Post.bind h1 fun ds ρ2 vs Z2 H2 g2 S2 r3 h3 => ?_)⟩
        refine ⟨Z2, _, S2.zin, .cons (Rp.grow g2 (.ins z h2 hc r2)) r3, ?_⟩
        unfold callF at h3
        cases eF : F (.ins c' gs :: ds) with
        | ok r =>
          rw [eF] at h3
          intro v Z' H' go rv
          obtain ⟨S3, g3⟩ := S2.went go
          exact h3 v Z' H' g3 S3 rv
        | ex c fs' =>
          rw [eF] at h3
          intro C dd Z' H' go hc hx
          obtain ⟨S3, g3⟩ := S2.went go
          exact h3 C dd Z' H' g3 S3 hc hx
        | bad =>
          rw [eF] at h3
          exact h3
    · exact h1.elim
  · exact h1.elim
/-! ### own == -/
section
variable {X : Cx} {n : Nat} {C f a dx : Addr} {fs : List (Str × V)} {fd : FuncData} {ps : List Str} {sp : Sp} {A : Around} {pins : List (Addr × Obj)} {s : Shared} {σ : L2.St} {H : Hp} {y : V} {u tb : Value} {Q' : Bool → Hp → Prop}
abbrev E00 : XK := fun _ _ _ => False
theorem run_eq (F : FnOk X.prog X.w X.K X.mg X.base (L2.CX X.prog X.w) n f fd ps sp) (hb : L2.Binds X.K fd ps []) (sb : Sub X n A) (I : Inv X pins σ H s) (ry : RelV y u)
    (hsp : sp [.ref a, y] H (fun v H' => ∃ b, v = .bl b ∧ Q' b H') E00) :
    wpAny (model X.prog X.w) A (call (.ref f) [.ref a, u]) (fun r s' => ∃ b H', r = .bool b ∧ Inv X pins σ H' s' ∧ Q' b H') X.xe s := by
  have e0 : Env0 X.prog X.w X.K X.mg X.base A X.stack s H := by
    have e := I.env0
    exact ⟨by rw [sb.fr]; exact e.frames, e.mod, e.bs, e.bsz, e.funs, e.frf, e.hok, e.bare⟩
  have hl := F.len _ _ _ _ hsp
  have r2 : Vals [V.ref a, y] [Value.ref a, u] := .cons rfl (.cons ry .nil)
  refine wpAny_call (codeAny_mono (F.run A X.stack s H ⟨[.ref a, u], []⟩ [.ref a, u] [.ref a, y] _ E00 sb.room e0 (by
    have := hb s [.ref a, u] I.kIn (by simpa using hl)
    simpa using this) r2 hsp) fun r s' hq => ?_)
  cases r with
  | error e =>
    obtain ⟨_, _, _, _, _, _, _, _, _, _, _, _, hE⟩ := hq
    exact hE.elim
  | ok fl =>
    cases fl with
    | ret w =>
      obtain ⟨z, H', I', rz, b, ez, q⟩ := I.after hq
      subst ez
      cases rz
      exact ⟨b, H', rfl, I', q⟩
    | next => exact False.elim hq
    | brk => exact False.elim hq
    | cont => exact False.elim hq
theorem rc_eq (F : FnOk X.prog X.w X.K X.mg X.base (L2.CX X.prog X.w) n f fd ps sp) (hb : L2.Binds X.K fd ps []) (hs : PySem.W.findIn X.K (.ref C) "__eq__" = some (some (.ref f))) (hf : PySem.W.isFn X.K (.ref f) = true)
    (sb : Sub X n A) (I : Inv X pins σ H s) (ha : H a = some (.ins C dx fs)) (ry : RelV y u) (hl : PySem.W.Looks (model X.prog X.w) s.heap (typeOf u) tb) (hn : PySem.W.notFirst X.K C tb = true)
    (hsp : sp [.ref a, y] H (fun v H' => ∃ b, v = .bl b ∧ Q' b H') E00) :
    wpAny (model X.prog X.w) A (richCompare .Eq (.ref a) u) (fun r s' => ∃ b H', r = .bool b ∧ Inv X pins σ H' s' ∧ Q' b H') X.xe s := by
  obtain ⟨mA, J, _⟩ := ins_get I.hok ha
  obtain ⟨od, J, _⟩ := J.look
  obtain ⟨m, hF⟩ := I.fr
  refine PySem.W.cmp_K (op := .Eq) (tb := tb) sb.room.units0 hF I.ok.mod.kin J hl hn hs hf (wpAny_mono (run_eq F hb sb I ry hsp) (fun r s' z => ?_) fun _ _ e => e)
  obtain ⟨b, H', rfl, I', q⟩ := z
  exact ⟨b, H', rfl, I', q⟩
theorem entry_ne (F : FnOk X.prog X.w X.K X.mg X.base (L2.CX X.prog X.w) n f fd ps sp) (hb : L2.Binds X.K fd ps []) (hs : PySem.W.findIn X.K (.ref C) "__eq__" = some (some (.ref f))) (hf : PySem.W.isFn X.K (.ref f) = true)
    {b : Addr} (sb : Sub X n A) (I : Inv X pins σ H s) (ha : H a = some (.ins C dx fs)) {Q : Fin → Shared → Prop}
    (hsp : sp [.ref a, .ref b] H (fun v H' => ∃ b, v = .bl b ∧ Q' b H') E00)
    (hq : ∀ b H' s', Inv X pins σ H' s' → Q' b H' → Q (.done (.ret (.bool (!b)))) s') :
    wpAny (model X.prog X.w) A (Builtin.«object.__ne__» ⟨[.ref a, .ref b], []⟩) Q X.xe s := by
  obtain ⟨mA, J, _⟩ := ins_get I.hok ha
  obtain ⟨od, J, _⟩ := J.look
  have hc : wpAny (model X.prog X.w) A (callSpecialIfBound? (.ref a) (Str.ofString "__eq__") [.ref b]) (fun r s' => ∃ b, r = some (.bool b) ∧ ∃ H', Inv X pins σ H' s' ∧ Q' b H') X.xe s :=
    PySem.W.ifBound_K I.kIn J hs hf (wpAny_mono (run_eq F hb sb I (y := .ref b) rfl hsp) (fun r s' z => by
      obtain ⟨b, H', rfl, I', q⟩ := z
      exact ⟨b, rfl, H', I', q⟩) fun _ _ e => e)
  obtain ⟨hp, g, d, tk, os⟩ := s
  unfold Builtin.«object.__ne__»
  repeat (first
    | with_reducible refine wpAny_cRoomFor sb.room.units0 ?_
    | (refine wpAny_bind (m := callSpecialIfBound? (.ref a) (Str.ofString "__eq__") [.ref b]) (wpAny_mono hc (fun r s' hr => by
          obtain ⟨b, rfl, H', I', q⟩ := hr
          have hq' := hq b H' s' I' q
          repeat (first | exact hq' | exact wpAny_pure hq' | exact wpAny_truthy_bool hq' | (refine wpAny_bind (m := truthy (.bool _)) (wpAny_truthy_bool ?_)) | wp_step)) fun _ _ e => e))
    | wp_step)
end
end De

set_option Elab.async false
set_option linter.all false
set_option maxRecDepth 100000
set_option maxHeartbeats 2000000
namespace De
open PySem PySem.Spec PyProof.Rows L2
open PySem.W (Frag)
section
variable {M : Model} {A : Around} {E : Value → Shared → Prop} {s : Shared} {K : Frag} {x C : Addr} {ox : Obj} {od : Option Obj}
theorem ifBound_ne {args : List Value} {Q : Option Value → Shared → Prop} (X : K.In s.heap) (I : PySem.W.InstAt s.heap x ox C od) (hs : PySem.W.findIn K (.ref C) "__ne__" = some (some (.builtin "object.__ne__")))
    (h : wpAny M A (call (.builtin "object.__ne__") (.ref x :: args)) (fun v => Q (some v)) E s) : wpAny M A (callSpecialIfBound? (.ref x) "__ne__" args) Q E s := by
  simp only [callSpecialIfBound?, bindSpecialIfBound?]
  refine wpAny_holding (wpAny_bind (wpAny_bind (wpAny_bind (I.type.here ((PySem.W.looks_findIn X hs).here ?_)))))
  refine wpAny_bind (wpAny_askSetting (wpAny_ite ?_))
  have fin : wpAny M A (call (.builtin "object.__ne__") ([.ref x] ++ args) >>= fun v => pure (some v)) Q E s := wpAny_bind (wpAny_mono h (fun v s' h' => wpAny_pure h') fun _ _ h' => h')
  split
  · exact wpAny_bind (wpAny_of_eq (F.cmp_object.ne.bind _) (wpAny_pure (by exact fin)))
  · exact wpAny_tryCatch (wpAny_bind (wpAny_of_eq (F.cmp_object.ne.bind _) (wpAny_pure (by exact fin))))
end
section
variable {X : Cx} {n : Nat} {C f a dx : Addr} {fs : List (Str × V)} {fd : FuncData} {ps : List Str} {sp : Sp} {A : Around} {pins : List (Addr × Obj)} {s : Shared} {σ : L2.St} {H : Hp} {Q' : Bool → Hp → Prop}
theorem rc_ne (F0 : FnOk X.prog X.w X.K X.mg X.base (L2.CX X.prog X.w) n f fd ps sp) (hb : L2.Binds X.K fd ps []) (hs : PySem.W.findIn X.K (.ref C) "__eq__" = some (some (.ref f))) (hf : PySem.W.isFn X.K (.ref f) = true)
    (hne : PySem.W.findIn X.K (.ref C) "__ne__" = some (some (.builtin "object.__ne__"))) (hm : PySem.W.mroIn X.K C (.type "object") = some true)
    {b : Addr} {dy : Addr} {gs : List (Str × V)} (sb : Sub X (n + 1) A) (I : Inv X pins σ H s) (ha : H a = some (.ins C dx fs)) (hb' : H b = some (.ins C dy gs))
    (hsp : sp [.ref a, .ref b] H (fun v H' => ∃ b, v = .bl b ∧ Q' b H') E00) :
    wpAny (model X.prog X.w) A (richCompare .NotEq (.ref a) (.ref b)) (fun r s' => ∃ b H', r = .bool (!b) ∧ Inv X pins σ H' s' ∧ Q' b H') X.xe s := by
  obtain ⟨mA, J, _⟩ := ins_get I.hok ha
  obtain ⟨od, J, _⟩ := J.look
  obtain ⟨mB, J', _⟩ := ins_get I.hok hb'
  obtain ⟨od', J', _⟩ := J'.look
  have one : wpAny (model X.prog X.w) A (tryCompare (.ref a) "__ne__" (.ref b)) (fun r s' => ∃ b H', r = some (.bool (!b)) ∧ Inv X pins σ H' s' ∧ Q' b H') X.xe s := by
    unfold tryCompare
    refine wpAny_bind (ifBound_ne I.kIn J hne (wpAny_call (codeAny_call_builtin F.cmp_object.ne.plain F.cmpEntry_ne (PySem.W.check_slot F.cmpKind_ne F.cmpSplit_ne (J.type.andThen (PySem.W.looks_mroIn I.kIn hm)) (F.cmpArgs_ne _ _) (entry_ne F0 hb hs hf sb.in1 I ha hsp fun b H' s' I' q => ?_)))))
    exact wpAny_pure ⟨b, H', rfl, I', q⟩
  unfold richCompare
  simp only [oneThing_ref]
  refine wpAny_holding (wpAny_bind (wpAny_cRoomFor sb.room.units0 ?_))
  refine wpAny_bind (J.type.here (wpAny_bind (J'.type.here ?_)))
  rw [show (Value.ref C != Value.ref C) = false from by simp]
  simp only [Bool.false_eq_true, if_false]
  refine wpAny_bind (wpAny_pure ?_)
  simp only [Bool.false_eq_true, if_false]
  refine wpAny_bind (wpAny_mono one (fun r s' z => ?_) fun _ _ e => e)
  obtain ⟨b, H', rfl, I', q⟩ := z
  exact wpAny_pure ⟨b, H', rfl, I', q⟩
end
/-! ### == and != of data, instances of own classes among them -/
/-- an own == that keeps its promise, under its class -/
def OwnE (P : Program) (w : World) (K : Frag) (mg : Str → Option Value) (base : Heap) (cm : Str → Option Addr) (c : Str) (k : Nat) (ps : List Str) (F : List D → Fr D) : Prop :=
  ∃ C f fd, cm c = some C ∧ PySem.W.findIn K (.ref C) "__eq__" = some (some (.ref f)) ∧ PySem.W.isFn K (.ref f) = true ∧ L2.Binds K fd ps [] ∧ FnOk P w K mg base (L2.CX P w) k f fd ps (spP K cm F) ∧
    PySem.W.findIn K (.ref C) "__ne__" = some (some (.builtin "object.__ne__")) ∧ PySem.W.mroIn K C (.type "object") = some true ∧ PySem.W.subIn K (.type "tuple") (.ref C) = some false
abbrev ETab := List (Str × (List D → Fr D))
def eqI (E : ETab) (x y : D) : Option Bool := match x with
  | .ins c gs => (match E.lookup c with
    | some F => (match y with
      | .ins c' _ => if c' = c then (match F [x, y] with | .ok (.bl b) => some b | _ => none) else none
      | .tup _ => (match F [x, y] with | .ok (.bl b) => some b | _ => none)
      | _ => none)
    | none => none)
  | _ => none
def neI (E : ETab) (x y : D) : Option Bool := match y with
  | .ins _ _ => (eqI E x y).map (!·)
  | _ => none
def eqX (E : ETab) (x y : D) : M D := match x with
  | .ins _ _ => optM (eqI E x y)
  | _ => eqD x y
def neX (E : ETab) (x y : D) : M D := match x with
  | .ins _ _ => optM (neI E x y)
  | _ => neD x y
/-- all own == of a table keep their promise -/
def OwnEs (P : Program) (w : World) (K : Frag) (mg : Str → Option Value) (base : Heap) (cm : Str → Option Addr) (k : Nat) (E : ETab) : Prop :=
  ∀ c F, E.lookup c = some F → ∃ j ps, j ≤ k ∧ OwnE P w K mg base cm c j ps F
section
variable {X : Cx} {cm : Str → Option Addr} {W : WX} {k : Nat} {E : ETab}
def rEqI (X : Cx) (cm : Str → Option Addr) (E : ETab) : R2 := fun x y H Q => ∃ (d e : D) (b : Bool) (Z : ZS), (∀ a, Z a → H a ≠ none) ∧ Rp X.K cm Z H x d ∧ Rp X.K cm Z H y e ∧ eqI E d e = some b ∧ ∀ H' Z', Go O0 Z H Z' H' → Q (.bl b) H'
def rNeI (X : Cx) (cm : Str → Option Addr) (E : ETab) : R2 := fun x y H Q => ∃ (d e : D) (b : Bool) (Z : ZS), (∀ a, Z a → H a ≠ none) ∧ Rp X.K cm Z H x d ∧ Rp X.K cm Z H y e ∧ neI E d e = some b ∧ ∀ H' Z', Go O0 Z H Z' H' → Q (.bl b) H'
theorem eqI_inv {x y : D} {b : Bool} (h : eqI E x y = some b) : ∃ c gs F, x = .ins c gs ∧ E.lookup c = some F ∧ F [x, y] = .ok (.bl b) ∧ ((∃ hs, y = .ins c hs) ∨ ∃ ds, y = .tup ds) := by
  unfold eqI at h
  split at h
  · rename_i c gs
    split at h
    · rename_i F eF
      split at h
      · rename_i c' hs
        split at h
        · rename_i ec
          subst ec
          split at h
          · rename_i b' e
            cases h
            exact ⟨c', gs, F, rfl, eF, e, .inl ⟨hs, rfl⟩⟩
          · cases h
        · cases h
      · rename_i ds
        split at h
        · rename_i b' e
          cases h
          exact ⟨c, gs, F, rfl, eF, e, .inr ⟨ds, rfl⟩⟩
        · cases h
      · cases h
    · cases h
  · cases h
theorem looks_tup {M : Model} {h : Heap} {a : Addr} {o : Obj} (ho : h.get? a = some o) (hc : o.cls = .type "tuple") : PySem.W.Looks M h (typeOf (.ref a)) (.type "tuple") := hc ▸ (PySem.W.Looks.ld ho).andThen .now
theorem spP_eq {K : Frag} {Z : ZS} {H : Hp} {x y : V} {d e : D} {b : Bool} {F : List D → Fr D} {Q : Bool → Hp → Prop} (hz : ∀ a, Z a → H a ≠ none) (rx : Rp K cm Z H x d) (ry : Rp K cm Z H y e) (hF : F [d, e] = .ok (.bl b)) (hQ : ∀ H' Z', Go O0 Z H Z' H' → Q b H') : spP K cm F [x, y] H (fun v H' => ∃ b, v = .bl b ∧ Q b H') E00 := by
  refine ⟨Z, [d, e], hz, .cons rx (.cons ry .nil), ?_⟩
  rw [hF]
  intro v Z' H' go rv
  cases rv
  exact ⟨b, rfl, hQ H' Z' go⟩
theorem op_eqI (O : OwnEs X.prog X.w X.K X.mg X.base cm k E) (hr : Room k X.A) : OpR X (compareOp .Eq) (rEqI X cm E) := by
  intro pins s σ H x y v u Q I rx ry hq
  obtain ⟨d, e, b, Z, hz, rd, re, he, hQ⟩ := hq
  obtain ⟨c, gs, F, rfl, eF, hF, hy⟩ := eqI_inv he
  obtain ⟨j, ps, hj, C, f, fd, hc, h1, h2, h3, h4, h5, h6, h7⟩ := O c F eF
  cases rd with
  | @ins a C' dx fs c0 gs0 z ha hc' r2 =>
    rw [hc] at hc'
    cases hc'
    have hsp := spP_eq (Q := fun b' H' => b' = b ∧ Q (.bl b) H') hz (.ins z ha hc r2) re hF fun H' Z' g => ⟨rfl, hQ H' Z' g⟩
    obtain rfl : v = Value.ref a := rx
    have key : ∀ tb, PySem.W.Looks (model X.prog X.w) s.heap (typeOf u) tb → PySem.W.notFirst X.K C tb = true → wpAny (model X.prog X.w) X.A (richCompare .Eq (.ref a) u) (EP X pins σ Q) X.xe s := fun tb hl hn =>
      wpAny_mono (rc_eq h4 h3 h1 h2 ⟨hr.mono hj, rfl⟩ I ha ry hl hn hsp) (fun r s' z => by
        obtain ⟨b', H', rfl, I', rfl, q⟩ := z
        exact ⟨.bl b', H', I', rfl, q⟩) fun _ _ z => z
    rcases hy with ⟨hs, rfl⟩ | ⟨ds, rfl⟩
    · cases re with
      | @ins b' C' dy fs' c0 gs0 z' hb' hc' r2' =>
        rw [hc] at hc'
        cases hc'
        obtain rfl : u = Value.ref b' := ry
        obtain ⟨mB, J, _⟩ := ins_get I.hok hb'
        obtain ⟨od, J, _⟩ := J.look
        exact key _ J.type (by simp [PySem.W.notFirst])
    · cases re with
      | @tup b' xs ds' h r2' =>
        obtain ⟨its, _, hT, _⟩ := I.tuple h.sq
        obtain rfl : u = Value.ref b' := ry
        obtain ⟨o, ho, hoc, _⟩ := hT
        exact key _ (looks_tup ho hoc) (by simp [PySem.W.notFirst, h7])
theorem op_neI (O : OwnEs X.prog X.w X.K X.mg X.base cm k E) (hr : Room (k + 1) X.A) : OpR X (compareOp .NotEq) (rNeI X cm E) := by
  intro pins s σ H x y v u Q I rx ry hq
  obtain ⟨d, e, b, Z, hz, rd, re, hn, hQ⟩ := hq
  unfold neI at hn
  split at hn
  · rename_i c' hs
    cases he : eqI E d (.ins c' hs) with
    | none => rw [he] at hn; cases hn
    | some b0 =>
      rw [he] at hn
      cases hn
      obtain ⟨c, gs, F, rfl, eF, hF, hy⟩ := eqI_inv he
      rcases hy with ⟨hs', e'⟩ | ⟨ds, e'⟩
      · cases e'
        obtain ⟨j, ps, hj, C, f, fd, hc, h1, h2, h3, h4, h5, h6, h7⟩ := O _ F eF
        cases rd with
        | @ins a C' dx fs c0 gs0 z ha hc' r2 =>
          rw [hc] at hc'
          cases hc'
          have hsp := spP_eq (Q := fun b' H' => b' = b0 ∧ Q (.bl (!b0)) H') hz (.ins z ha hc r2) re hF fun H' Z' g => ⟨rfl, hQ H' Z' g⟩
          cases re with
          | @ins b' C' dy fs' c0 gs0 z' hb' hc' r2' =>
            rw [hc] at hc'
            cases hc'
            obtain rfl : v = Value.ref a := rx
            obtain rfl : u = Value.ref b' := ry
            refine wpAny_mono (rc_ne h4 h3 h1 h2 h5 h6 ⟨hr.mono (by omega), rfl⟩ I ha hb' hsp) (fun r s' z => ?_) fun _ _ z => z
            obtain ⟨b', H', rfl, I', rfl, q⟩ := z
            exact ⟨.bl (!b'), H', I', rfl, q⟩
      · cases e'
  · cases hn
theorem opd_eqX : OpD X cm W (fun x y H Q => rEqA X.K x y H Q ∨ rEqI X cm E x y H Q) (eqX E) := fun B Z σ ρ H x y d e Q S rx ry h => by
  unfold eqX at h
  split at h
  · obtain ⟨b, he, h⟩ := h.optB
    exact .inr ⟨_, e, b, Z, S.zin, rx, ry, he, fun H' Z' go => by
      obtain ⟨S', g⟩ := S.went go
      exact h _ Z' H' g S' (.bl b)⟩
  · exact .inl (opd_eq B Z σ ρ H x y _ e Q S rx ry h)
theorem opd_neX : OpD X cm W (fun x y H Q => rNeA X.K x y H Q ∨ rNeI X cm E x y H Q) (neX E) := fun B Z σ ρ H x y d e Q S rx ry h => by
  unfold neX at h
  split at h
  · obtain ⟨b, he, h⟩ := h.optB
    exact .inr ⟨_, e, b, Z, S.zin, rx, ry, he, fun H' Z' go => by
      obtain ⟨S', g⟩ := S.went go
      exact h _ Z' H' g S' (.bl b)⟩
  · exact .inl (opd_ne B Z σ ρ H x y _ e Q S rx ry h)
theorem or_eqX (hu : X.A.units + 64 < cLine) (O : OwnEs X.prog X.w X.K X.mg X.base cm k E) (hr : Room k X.A) : OpR X (compareOp .Eq) (fun x y H Q => rEqA X.K x y H Q ∨ rEqI X cm E x y H Q) := (or_eq hu).or (op_eqI O hr)
theorem or_neX (hu : X.A.units + 64 < cLine) (O : OwnEs X.prog X.w X.K X.mg X.base cm k E) (hr : Room (k + 1) X.A) : OpR X (compareOp .NotEq) (fun x y H Q => rNeA X.K x y H Q ∨ rNeI X cm E x y H Q) := (or_ne hu).or (op_neI O hr)
end
end De

set_option Elab.async false
set_option linter.all false
set_option maxRecDepth 100000
set_option maxHeartbeats 2000000
namespace De
open PySem PySem.Spec PyProof.Rows L2
open PySem.W (Frag)
/-! ### isinstance of an own class -/
theorem sub_ty {K : Frag} {C : Addr} {n : String} {l : List Value} (e : PySem.fastBuiltinMro n = some l) (h : l.all (fun v => match v with | .type _ => true | _ => false) = true) : PySem.W.subIn K (.type n) (.ref C) = some false := by
  show (PySem.fastBuiltinMro n).map (·.contains (.ref C)) = some false
  rw [e]
  have k : l.contains (Value.ref C) = false := by
    induction l with
    | nil => rfl
    | cons v l ih =>
      rw [List.all_cons, Bool.and_eq_true] at h
      have ih' : ∀ (l : List Value), l.all (fun v => match v with | .type _ => true | _ => false) = true → l.contains (Value.ref C) = false := by
        intro l
        induction l with
        | nil => intro _; rfl
        | cons v l ih =>
          intro h
          rw [List.all_cons, Bool.and_eq_true] at h
          rw [List.contains_cons, ih h.2, Bool.or_false]
          cases v <;> first | rfl | (exact absurd h.1 (by simp)) | simp
      rw [List.contains_cons, ih' l h.2, Bool.or_false]
      cases v <;> first | rfl | (exact absurd h.1 (by simp)) | simp
  rw [show Option.map (fun x => x.contains (Value.ref C)) (some l) = some (l.contains (Value.ref C)) from rfl, k]
theorem sub_tuple {K : Frag} {C : Addr} : PySem.W.subIn K (.type "tuple") (.ref C) = some false := sub_ty (l := [.type "tuple", .type "object"]) (by decide +kernel) rfl
def tys : List String := ["NoneType", "bool", "int", "str", "tuple", "list"]
theorem sub_tys {K : Frag} {C : Addr} : ∀ n ∈ tys, PySem.W.subIn K (.type n) (.ref C) = some false := by
  intro n hn
  unfold tys at hn
  simp only [List.mem_cons, List.not_mem_nil, or_false] at hn
  rcases hn with rfl | rfl | rfl | rfl | rfl | rfl
  · exact sub_ty (l := [.type "NoneType", .type "object"]) (by decide +kernel) rfl
  · exact sub_ty (l := [.type "bool", .type "int", .type "object"]) (by decide +kernel) rfl
  · exact sub_ty (l := [.type "int", .type "object"]) (by decide +kernel) rfl
  · exact sub_ty (l := [.type "str", .type "object"]) (by decide +kernel) rfl
  · exact sub_ty (l := [.type "tuple", .type "object"]) (by decide +kernel) rfl
  · exact sub_ty (l := [.type "list", .type "object"]) (by decide +kernel) rfl
theorem tyn_tys {d : D} {n : String} (h : tyn d = some n) : n ∈ tys := by
  unfold tyn at h
  unfold tys
  cases d <;> first | (cases h; decide) | cases h
theorem kit_any {K : Frag} {S : Addr} {t : Value} {b : Bool} (h1 : (t == Value.ref S) = false) (h2 : PySem.W.isClsIn K S = true) (h3 : PySem.W.typeIn K (.ref S) = some (.type "type")) (h4 : PySem.W.subIn K t (.ref S) = some b) : PySem.W.kitOne K t (.ref S) = some b := by
  have e2 : ((PySem.W.clsIn K S).isSome && PySem.W.typeIn K (.ref S) == some (.type "type")) = true := by
    have h2' : (PySem.W.clsIn K S).isSome = true := h2
    rw [h2', h3] <;> rfl
  show (if (t == Value.ref S) = true then some true else if ((PySem.W.clsIn K S).isSome && PySem.W.typeIn K (.ref S) == some (.type "type")) = true then PySem.W.subIn K t (.ref S) else none) = some b
  rw [if_neg (by rw [h1]; exact Bool.false_ne_true), if_pos e2]
  exact h4
/-- what isinstance asks of an own class -/
structure InsC (K : Frag) (C : Addr) : Prop where
  cl : Cls K C
  ha : PySem.W.findIn K (.ref C) "__class__" = some (some (.builtin "object.__class__"))
  hn : PySem.W.specialIn K (.builtin "object.__class__") "__get__" = some (some (.builtin "getset_descriptor.__get__"))
  ht : PySem.W.takesIn K (.builtin "object.__class__") = some true
  hm : PySem.W.mroIn K C (.type "object") = some true
  ci : PySem.W.isClsIn K C = true
  ty : PySem.W.typeIn K (.ref C) = some (.type "type")
/-- the class c under its name; cs: the classes whose instances may be asked -/
def ClsE (K : Frag) (mg : Str → Option Value) (cm : Str → Option Addr) (cs : List Str) (c : Str) : Prop :=
  ∃ C, mg c = some (.ref C) ∧ InsC K C ∧ ∀ c' ∈ cs, ∀ C', cm c' = some C' → InsC K C' ∧ PySem.W.kitOne K (.ref C') (.ref C) = some (c' == c)
def isiC (cs : List Str) (c : Str) (d : D) : Option Bool := match d with
  | .ins c' _ => if c' ∈ cs then some (c' == c) else none
  | d => (tyn d).map fun _ => false
def isiCM (cs : List Str) (c : Str) (fa : M D) : M D := bind fa fun d => optM (isiC cs c d)
section
variable {X : Cx} {cm : Str → Option Addr} {W : WX} {p pos : Pos}
theorem ex_isiC {a : Expr} {fa : M D} {y : Str} {py : Pos} {cs : List Str} (hc : ClsE X.K X.mg cm cs y) (hm : X.mg "isinstance" = none) (ha : Ex X cm W a fa) (hg : Gl X "isinstance" := by rfl) (hgy : Gl X y := by rfl) (hdb : (y == ("__debug__" : Str)) = false := by decide)
    (hs : starEach (a :: [.Name y py]) X.env = (false, eval a X.env) :: starEach [.Name y py] X.env := by rfl) (hs2 : starEach [.Name y py] X.env = [(false, eval (.Name y py) X.env)] := by rfl) : Ex X cm W (.Call (.Name "isinstance" p) [a, .Name y py] [] pos) (isiCM cs y fa) := by
  obtain ⟨C, hmg, hC, hcs⟩ := hc
  obtain ⟨t, pa, q⟩ := ha
  refine ⟨_, pe_callB call_isi hg hm (by decide +kernel) (pa_cons pa (pa_cons (pe_glob (v := .ref C) hgy hmg rfl hdb) pa_nil hs2) hs) (by decide) (by decide) hs (by rw [hs2]; rfl), fun B Z σ ρ H Q S h => q B Z σ ρ H _ S (Post.bind h fun d ρ1 v Z1 H1 g1 S1 r1 h1 => ?_)⟩
  obtain ⟨b, e, h1⟩ := h1.optB
  unfold isiC at e
  split at e
  · rename_i c' gs
    split at e
    · rename_i hin
      cases e
      cases r1 with
      | @ins a' C' dx fs c0 gs0 z h2 hcm r2 =>
        obtain ⟨k1, k2⟩ := hcs _ hin _ hcm
        exact ⟨_, .ref C, .ref C', .ref C, c' == y, rfl, .own C, .base (.ins h2 k1.cl k1.ha k1.hn k1.ht k1.hm), k2, Post.ret h1 S1 (.bl _)⟩
    · cases e
  · cases en : tyn d with
    | none => rw [en] at e; cases e
    | some n =>
      rw [en] at e
      cases e
      exact ⟨v, .ref C, .type n, .ref C, false, rfl, .own C, r1.ty en, kit_any rfl hC.ci hC.ty (sub_tys n (tyn_tys en)), Post.ret h1 S1 (.bl _)⟩
end
end De

set_option Elab.async false
set_option linter.all false
set_option maxRecDepth 100000
set_option maxHeartbeats 2000000
namespace De
open PySem PySem.Spec PyProof.Rows L2
open PySem.W (Frag)
/-! ### comprehensions of several clauses -/
section
variable {prog : Program} {w : World} {A : Around} {R : Result → Shared → Prop} {s : Shared} {C tg i0 elt : Expr} {gs : List Comprehension} {scope : Scope} {pos : Pos} {ifs : List Expr} {k : Nat} {it acc : Value} {env : Env} {act : Sem Unit}
/-- what the turn of the clause k is -/
def TurnIs (C : Expr) (k : Nat) (acc : Value) (env : Env) (tg i0 : Expr) (ifs : List Expr) (act : Sem Unit) : Prop := ∀ it, compTurn C k it acc env = (do
  standAt i0.pos
  match ← pyNext it with
  | none => pure (.done .next)
  | some v =>
    letOwnedTupleGo tg it v
    assign tg env v
    let mut ok := true
    for c in ifs do
      if ok then ok ← isTrue c env (eval c env)
    if ok then
      act
    again (.compLoop C k it acc env))
theorem loop_gen (ht : TurnIs (.ListComp elt gs scope pos) k acc env tg i0 ifs act) (I : Nat → Shared → Prop)
    (turn : ∀ n s, I n s → wpAny (model prog w) A (pyNext it) (fun r s₁ => match r with
      | none => R (.ok .next) s₁
      | some v => wpAny (model prog w) A (letOwnedTupleGo tg it v) (fun _ s₁' => wpAny (model prog w) A (assign tg env v) (fun _ s₂ =>
          wpAny (model prog w) A (forIn ifs true fun c r => if r = true then do let ok ← isTrue c env (eval c env); pure (ForInStep.yield ok) else pure (ForInStep.yield r)) (fun ok s₃ =>
            if ok = true then wpAny (model prog w) A act (fun _ s₄ => ∃ m, m < n ∧ I m s₄) (notedBy (model prog w) A env fun e s' => R (.error e) s') s₃
            else ∃ m, m < n ∧ I m s₃) (notedBy (model prog w) A env fun e s' => R (.error e) s') s₂) (notedBy (model prog w) A env fun e s' => R (.error e) s') s₁') (notedBy (model prog w) A env fun e s' => R (.error e) s') s₁) (notedBy (model prog w) A env fun e s' => R (.error e) s') s)
    (n : Nat) (h : I n s) :
    codeAny (model prog w) A (.compLoop (.ListComp elt gs scope pos) k it acc env) R s := by
  refine codeAny_loop rfl I (fun n s hI => ?_) n h
  show wpAny _ A ((compTurn (.ListComp elt gs scope pos) k it acc env).onRaise (fun x => do noteFrame x env; theTreesLotGoes x)) _ _ s
  refine wpAny_noted ?_
  rw [ht it]
  refine wpAny_bind (wpAny_standAt (wpAny_bind (wpAny_mono (turn n s hI) (fun r s₁ h₁ => ?_) fun _ _ h' => h')))
  cases r with
  | none => exact wpAny_pure h₁
  | some v =>
    refine wpAny_bind (wpAny_mono h₁ (fun _ s₁' h₁' => ?_) fun _ _ h' => h')
    refine wpAny_bind (wpAny_mono h₁' (fun _ s₂ h₂ => wpAny_bind (wpAny_mono h₂ (fun ok s₃ h₃ => ?_) fun _ _ h' => h')) fun _ _ h' => h')
    cases ok with
    | false => exact wpAny_pure ⟨rfl, h₃⟩
    | true => exact wpAny_bind (wpAny_mono h₃ (fun _ s₄ h₄ => wpAny_pure ⟨rfl, h₄⟩) fun _ _ h' => h')
end
abbrev TB := L2.St → Hp → (Hp → Prop) → Prop
/-- what a turn does behind its tests: then the slots vs are open -/
def PB (X : Cx) (act : Sem Unit) (vs : List Nat) (t : TB) : Prop := ∀ (pins : List (Addr × Obj)) (s : Shared) (σ : L2.St) (H : Hp) (Nx : Hp → Prop), Inv X pins σ H s → t σ H Nx →
  wpAny (model X.prog X.w) X.A act (fun _ s' => ∃ H', Inv X pins (wipe σ vs) H' s' ∧ Nx H') (fun _ _ => False) s
/-- the start of the clause k -/
def startAct (C : Expr) (k : Nat) (acc : Value) (env : Env) (i0 : Expr) : Sem Unit := do
  let x ← eval i0 env
  standAt i0.pos
  let x ← foldedSetIterable i0 env x
  let _ ← runOwn (.compStart C k (← holding [x] (pyIter x)) acc env) env
def appAct (acc : Value) (env : Env) (elt : Expr) : Sem Unit := do
  let _ ← call (.builtin "list.append") [acc, ← eval elt env]
/-- the start is what it is -/
def StartIs (prog : Program) (w : World) (C : Expr) (k : Nat) (acc : Value) (env : Env) : Prop := ∀ (A : Around) (R : Result → Shared → Prop) (s : Shared) (it : Value), codeAny (model prog w) A (.compLoop C k it acc env) R s →
  wpAny (model prog w) A (pyIter it) (fun it' s' => codeAny (model prog w) A (.compLoop C k it' acc env) R s') (notedBy (model prog w) A env fun x s' => R (.error x) s') s → codeAny (model prog w) A (.compStart C k it acc env) R s
def tApp (te : TE) (D : Addr) : TB := fun σ H Nx => te σ H fun y H7 => ∃ acc, H7 D = some (.lst acc) ∧ acc.length < sizeLine ∧ Nx (upd H7 D (.lst (acc ++ [y])))
def tLv (wi : TI) (g : TG) (tt : TT) (tin : TB) (vs : List Nat) : TB := fun σ H Nx => wi σ H fun J1 H4 => ∃ W1 : Nat → Nat → Hp → Prop, (∃ m, W1 0 m H4) ∧ ∀ j k H, W1 j k H →
  (J1.stop j H ∧ Nx H) ∨ (J1.go j H ∧ ∃ Nx1 : Hp → Prop, (∀ H', Nx1 H' → ∃ k', k' < k ∧ W1 (j + 1) k' H') ∧ ∀ x H', J1.yld j H x H' → g x (wipe σ vs) H' fun σ3 H5 => wipe σ3 vs = wipe σ vs ∧ tt σ3 H5 fun b H6 =>
    if b = true then tin σ3 H6 Nx1 else Nx1 H6)
section
variable {X : Cx} {s3 : Shared} {H3 : Hp} {scope sc : Scope} {gs : List Comprehension} {cpos : Pos} {ce : Env} {fp : List Addr} {celt elt tg iter : Expr} {ifs : List Expr} {k : Nat} {D : Addr} {act : Sem Unit} {vs vs' : List Nat} {wi : TI} {g : TG} {tt : TT} {te : TE} {tin : TB}
theorem pb_app (he : PE (X.blk s3 H3 scope ce fp) elt te) : PB (X.blk s3 H3 scope ce fp) (appAct (.ref D) ce elt) [] (tApp te D) := fun pins s σ H Nx I h => by
  unfold appAct
  refine wpAny_bind (thnF (he.run _ s σ H _ I h) fun z s1 ⟨yv, H1, I1, r1, acc, hD, hz, nx⟩ => ?_)
  refine wpAny_bind (app_ok (X := X.blk s3 H3 scope ce fp) I1 hD hz r1 fun s2 I2 => ?_)
  exact wpAny_pure ⟨_, I2, nx⟩
theorem wipe_sub {σ : L2.St} (h : ∀ i ∈ vs', i ∈ vs) : wipe (wipe σ vs') vs = wipe σ vs := by
  apply List.ext_getElem?
  intro j
  rw [wipe_get, wipe_get, wipe_length, wipe_get]
  by_cases hj : j ∈ vs ∧ j < σ.length
  · rw [if_pos hj, if_pos hj]
  · rw [if_neg hj, if_neg hj, if_neg fun z => hj ⟨h j z.1, z.2⟩]
theorem pb_loop (hc : X.calm = true) (hT : TurnIs (.ListComp celt gs sc cpos) k (.ref D) ce tg iter ifs act) (hS : StartIs X.prog X.w (.ListComp celt gs sc cpos) k (.ref D) ce) (hi : PI (X.blk s3 H3 scope ce fp) tg iter wi) (hg : PG (X.blk s3 H3 scope ce fp) tg g) (ht : PTs (X.blk s3 H3 scope ce fp) ifs tt)
    (hb : PB (X.blk s3 H3 scope ce fp) act vs' tin) (hv : ∀ i ∈ vs', i ∈ vs) (hs : ∀ x, foldedSetIterable iter ce x = pure x) : PB (X.blk s3 H3 scope ce fp) (startAct (.ListComp celt gs sc cpos) k (.ref D) ce iter) vs (tLv wi g tt tin vs) := fun pins s σ H Nx I h => by
  unfold startAct
  refine wpAny_bind (thnF (hi.run _ s σ H _ I h) fun xv s10 hx => ?_)
  refine wpAny_bind (wpAny_standAt (wpAny_bind (wpAny_of_eq (hs xv) (wpAny_bind (wpAny_holding (thnF hx fun itv s11 h11 => ?_))))))
  obtain ⟨it1, fp1, tn1, J1, H11, e1, I11, T1, st11, f11, W1, ⟨m1, w1⟩, turn1⟩ := h11
  subst e1
  refine wpAny_bind (wpAny_runOwn ?_)
  rw [Around.mark_none]
  have stat1 : ∀ {H' : Hp}, (∀ b ∈ fp1, H' b = none) → ∀ b ∈ fp1, FpOk (X.blk s3 H3 scope ce fp) pins H' b := fun hn b hb => ⟨hn b hb, (f11 b hb).2⟩
  have loop1 : codeAny (model X.prog X.w) X.A (.compLoop (.ListComp celt gs sc cpos) k (.ref it1) (.ref D) ce)
      (fun r s' => match r with
        | .ok _ => ∃ H', Inv (X.blk s3 H3 scope ce fp) pins (wipe σ vs) H' s' ∧ Nx H'
        | .error _ => False) s11 := by
    refine loop_gen hT (fun n s' => ∃ j H', Inv (X.blk s3 H3 scope ce fp) pins (wipe σ vs) H' s' ∧ tn1 j s'.heap ∧ (∀ b ∈ fp1, H' b = none) ∧ W1 j n H') ?_ m1 ⟨0, H11, I11.weak (wipe_length _ _) (fun j v e => (wipe_some e).1), st11, fun b hb => (f11 b hb).1, w1⟩
    rintro n s12 ⟨j, H12, I12, st12, n12, w12⟩
    rcases turn1 j n H12 w12 with ⟨stop1, nx1⟩ | ⟨go1, Nx1, hNx1, step1⟩
    · refine thnF (T1.done (X.blk s3 H3 scope ce fp) rfl rfl rfl hc j _ s12 (wipe σ vs) H12 (fun _ _ => False) I12 (stat1 n12) st12 stop1) fun r s13 ⟨hr, I13⟩ => ?_
      subst hr
      exact ⟨H12, I13, nx1⟩
    · refine thnF (T1.item (X.blk s3 H3 scope ce fp) rfl rfl rfl hc j _ s12 (wipe σ vs) H12 (fun _ _ => False) I12 (stat1 n12) st12 go1) fun r s13 ⟨u1, hr, h13⟩ => ?_
      subst hr
      refine thnF h13 fun _ s14 ⟨x1, H14, I14, r14, y14, st14, n14⟩ => ?_
      have I14' := I14.pinned (stat1 n14) (T1.obj _ _ st14)
      refine thnF (hg.run _ s14 (wipe σ vs) H14 x1 u1 _ I14' r14 (step1 x1 H14 y14)) fun _ s15 ⟨σ15, H15, I15, hw15, q15⟩ => ?_
      refine thnF (ht.run _ s15 σ15 H15 _ I15 q15) fun b1 s16 ⟨H16, I16, q16⟩ => ?_
      have fin1 : ∀ {σ9 : L2.St} {s' : Shared} {H' : Hp}, Inv (X.blk s3 H3 scope ce fp) (pins ++ pinsAt fp1 s14.heap) σ9 H' s' → (wipe σ vs).length = σ9.length → (∀ (j : Nat) v, (wipe σ vs)[j]? = some (some v) → σ9[j]? = some (some v)) → Nx1 H' →
          ∃ m, m < n ∧ ∃ j H', Inv (X.blk s3 H3 scope ce fp) pins (wipe σ vs) H' s' ∧ tn1 j s'.heap ∧ (∀ b ∈ fp1, H' b = none) ∧ W1 j m H' := fun {σ9 s' H'} I' hl hk nx => by
        obtain ⟨m', hm, w'⟩ := hNx1 H' nx
        have pin' : ∀ b ∈ fp1, ∀ o, s14.heap.get? b = some o → s'.heap.get? b = some o ∧ H' b = none := fun b hb o e =>
          let z := I'.pin (b, o) (List.mem_append_right _ (List.mem_append_right _ (mem_pinsAt hb e)))
          ⟨z.1, z.2.1⟩
        refine ⟨m', hm, j + 1, H', I'.unpinned.weak hl hk, T1.keep _ _ _ st14 fun b hb o e => (pin' b hb o e).1, fun b hb => ?_, w'⟩
        obtain ⟨o, e, _⟩ := T1.obj _ _ st14 b hb
        exact (pin' b hb o e).2
      cases b1 with
      | false =>
        simp only [Bool.false_eq_true, if_false] at q16 ⊢
        exact fin1 I16 (by rw [← hw15, wipe_length]) (fun j v e => by rw [← hw15] at e; exact (wipe_some e).1) q16
      | true =>
        simp only [if_true] at q16 ⊢
        refine thnF (hb _ s16 σ15 H16 _ I16 q16) fun _ s17 ⟨H17, I17, nx⟩ => ?_
        exact fin1 I17 (by rw [← hw15, wipe_length, wipe_length]) (fun j v e => by
          rw [← hw15] at e
          obtain ⟨e1, e2⟩ := wipe_some e
          rw [wipe_out fun z => e2 (hv j z)]
          exact e1) nx
  refine codeAny_mono (hS X.A _ s11 _ loop1 (T1.self X.A 0 _ _ _ st11 loop1)) fun r s' hr => ?_
  cases r with
  | ok f =>
    first
      | exact wpAny_pure hr
      | exact wpAny_bind (wpAny_pure (wpAny_pure hr))
  | error e => exact hr.elim
/-- the whole: behind the first clause's tests tin -/
def tLcN (wi : TI) (g : TG) (tt : TT) (tin : Addr → TB) (vs : List Nat) : TE := fun σ H Q => wi σ H fun J H1 => ∀ D, H1 D = none → ∃ W : Nat → Nat → Hp → Prop, (∃ m, W 0 m (upd H1 D (.lst []))) ∧ ∀ i m H, W i m H →
  (J.stop i H ∧ Q (.ref D) H) ∨ (J.go i H ∧ ∃ Nx : Hp → Prop, (∀ H', Nx H' → ∃ m', m' < m ∧ W (i + 1) m' H') ∧ ∀ x H', J.yld i H x H' → g x (wipe σ vs) H' fun σ2 H2 => wipe σ2 vs = wipe σ vs ∧ tt σ2 H2 fun b H3 =>
    if b = true then tin D σ2 H3 Nx else Nx H3)
end
section
variable {X : Cx} {elt tg iter : Expr} {ifs : List Expr} {rest : List Comprehension} {scope : Scope} {own : List (Str × Nat)} {pos pos' : Pos} {wi : TI} {g : TG} {tt : TT} {tin : Addr → TB} {vs1 : List Nat} {act : Addr → Env → Sem Unit} {use : Option (Value → Sem Unit)} {Qf : Value → Shared → Prop}
theorem lcN_core {pins : List (Addr × Obj)} {s : Shared} {σ : L2.St} {H : Hp} {Q : VK}
    (hc : X.calm = true) (hN : X.N.Nodup) (I : Inv X pins σ H s) (hi : PI X tg iter wi) (ok : BlkOk X.N X.env.scope scope own) (hv : ∀ i ∈ vs1, i ∈ own.map (·.2))
    (hT : ∀ D env, TurnIs (.ListComp elt (⟨tg, iter, ifs, 0⟩ :: rest) scope pos) 0 (.ref D) env tg iter ifs (act D env))
    (hg : ∀ (s : Shared) (H : Hp) (C : Addr) (cl : List (Str × Addr)) (fp : List Addr), PG (X.blk s H scope (compEnvC scope cl C X.env) fp) tg g) (ht : ∀ (s : Shared) (H : Hp) (C : Addr) (cl : List (Str × Addr)) (fp : List Addr), PTs (X.blk s H scope (compEnvC scope cl C X.env) fp) ifs tt)
    (hb : ∀ (D : Addr) (s : Shared) (H : Hp) (C : Addr) (cl : List (Str × Addr)) (fp : List Addr), PB (X.blk s H scope (compEnvC scope cl C X.env) fp) (act D (compEnvC scope cl C X.env)) vs1 (tin D)) (hs : ∀ x, foldedSetIterable iter X.env x = pure x)
    (h : tLcN wi g tt tin (own.map (·.2)) σ H Q)
    (hRR : ∀ D C s' m H', Inv X pins σ H' s' → Q (.ref D) H' → s'.heap.Ns C m → FpOk X pins H' C → compPost (model X.prog X.w) X.A X.xe use Qf (.ref D) C (.ok .next) s') :
    wpAny (model X.prog X.w) X.A (comprehension (.ListComp elt (⟨tg, iter, ifs, 0⟩ :: rest) scope pos) scope X.env pos' (newList []) false (eval iter X.env) use) Qf X.xe s := by
  have hfree : ∀ y ∈ scope.names, y.2 = .free → ∃ c, X.env.cells.lookup y.1 = some c := fun y hy e => by
    rcases ok.free y hy e with k | k
    · exact I.ok.has _ (.inl k)
    · exact I.ok.has _ (.inr k)
  refine wpAny_comprehension_free (use := use) rfl hs (closure_ok hfree) ok.kind (fun y hy e => by rw [ok.uniq y hy, e])
    (thn (hi.run pins s σ H _ I h) fun xv s1 hx => thn hx fun itv s2 h2 => ?_)
  obtain ⟨it, fp, tn, J, H2, e, I2, T, st2, f2, q⟩ := h2
  subst e
  refine wpAny_newObj_type (newEnv_comp ?_) (by show 0 ≤ sizeLine; decide)
  generalize hD : s2.heap.objs.size = D
  have hDn : H2 D = none := I2.hok.fresh (Nat.le_of_eq hD)
  obtain ⟨W, ⟨m0, w0⟩, turn⟩ := q D hDn
  generalize hs3 : ({ s2 with heap := s2.heap.push { cls := .type "list", data := .seq ([] : List Value).toArray } } : Shared) = s3
  have I3 : Inv X pins σ (upd H2 D (.lst [])) s3 := by
    rw [← hs3]
    refine I2.laid (t' := s2.toks) (fun b o e => Heap.get?_push_of_some _ e) (Nat.le_of_eq hD) ⟨Nat.zero_le _, [], 0, .nil, ?_⟩
    rw [← hD]
    exact Heap.get?_push_size _ rfl
  have h3 : s3.heap = s2.heap.push { cls := .type "list", data := .seq ([] : List Value).toArray } := by rw [← hs3]
  have sz : ∀ b ∈ fp, b < s2.heap.objs.size := fun b hb => by
    obtain ⟨o, e, _⟩ := T.obj _ _ st2 b hb
    exact Heap.lt_size e
  have f3 : ∀ b ∈ fp, FpOk X pins (upd H2 D (.lst [])) b ∧ b < s3.heap.objs.size := fun b hb => by
    have hlt := sz b hb
    refine ⟨⟨?_, (f2 b hb).2⟩, by rw [h3, Heap.size_push]; exact Nat.lt_succ_of_lt hlt⟩
    rw [upd_ne (by rw [← hD]; exact Nat.ne_of_lt hlt)]
    exact (f2 b hb).1
  have st3 : tn 0 s3.heap := T.keep _ _ _ st2 fun b _ o e => by rw [h3]; exact Heap.get?_push_of_some _ e
  have I4 := block_start I3 ok hN f3
  have pg := hg s3 (upd H2 D (.lst [])) s3.heap.objs.size (cellsFrom (s3.heap.objs.size + 1) scope.names (cloFrom X.env.cells scope.names [])) fp
  have pt := ht s3 (upd H2 D (.lst [])) s3.heap.objs.size (cellsFrom (s3.heap.objs.size + 1) scope.names (cloFrom X.env.cells scope.names [])) fp
  have pb := hb D s3 (upd H2 D (.lst [])) s3.heap.objs.size (cellsFrom (s3.heap.objs.size + 1) scope.names (cloFrom X.env.cells scope.names [])) fp
  show codeAny _ _ (.compStart (.ListComp elt (⟨tg, iter, ifs, 0⟩ :: rest) scope pos) 0 (.ref it) (.ref D) (compEnvC scope (cellsFrom (s3.heap.objs.size + 1) scope.names (cloFrom X.env.cells scope.names [])) s3.heap.objs.size X.env)) (compPost (model X.prog X.w) X.A X.xe use Qf (.ref D) s3.heap.objs.size) { s3 with heap := pushCells (s3.heap.push { cls := .type "dict", data := .dict #[] }) scope.names }
  have nfp : ∀ b ∈ fp, (upd H2 D (.lst [])) b = none := fun b hb => (f3 b hb).1.1
  generalize hce : compEnvC scope (cellsFrom (s3.heap.objs.size + 1) scope.names (cloFrom X.env.cells scope.names [])) s3.heap.objs.size X.env = ce at I4 pg pt pb ⊢
  have cL : ce.locals = s3.heap.objs.size := by subst hce; rfl
  generalize hH3 : upd H2 D (.lst []) = H3 at I3 I4 pg pt pb w0 nfp f3
  generalize hs4 : ({ s3 with heap := pushCells (s3.heap.push { cls := .type "dict", data := .dict #[] }) scope.names } : Shared) = s4 at I4 ⊢
  have st4 : tn 0 s4.heap := T.keep _ _ _ st3 fun b _ o e => by rw [← hs4]; exact pushCells_keeps _ _ _ _ (Heap.get?_push_of_some _ e)
  have stat : ∀ {σ' : L2.St} {H' : Hp} {s' : Shared}, Inv (X.blk s3 H3 scope ce fp) [] σ' H' s' → (∀ b ∈ fp, H' b = none) → ∀ b ∈ fp, FpOk (X.blk s3 H3 scope ce fp) [] H' b := fun {σ' H' s'} I' hn b hb =>
    ⟨hn b hb, (I'.ok.exf b hb).1, I'.ok.exfs b hb, .inl hb, fun x c e => (I'.ok.exf b hb).2 x c e, fun p hp => absurd (show p ∈ ([] : List (Addr × Obj)) ++ [] from hp) (by simp)⟩
  have loop : codeAny (model X.prog X.w) X.A (.compLoop (.ListComp elt (⟨tg, iter, ifs, 0⟩ :: rest) scope pos) 0 (.ref it) (.ref D) ce) (compPost (model X.prog X.w) X.A X.xe use Qf (.ref D) s3.heap.objs.size) s4 := by
    refine loop_gen (hT D ce) (fun n s' => ∃ i H', Inv (X.blk s3 H3 scope ce fp) [] (wipe σ (own.map (·.2))) H' s' ∧ tn i s'.heap ∧ (∀ b ∈ fp, H' b = none) ∧ W i n H') ?_ m0 ⟨0, H3, I4, st4, nfp, w0⟩
    rintro n s5 ⟨i, H5, I5, st5, n5, w5⟩
    rcases turn i n H5 w5 with ⟨stop, qq⟩ | ⟨go, Nx, hNx, step⟩
    · have td := T.done (X.blk s3 H3 scope ce fp) rfl rfl rfl hc i [] s5 _ H5 (fun _ _ => False) I5 (stat I5 n5) st5 stop
      refine thnF td fun r s6 ⟨hr, I6⟩ => ?_
      subst hr
      have I7 : Inv X pins σ H5 s6 := I3.call' (ch := fp) I6.os I6.base I6.hok I6.bare fun b hb => ⟨(f3 b hb).1.2.2.2.1, (f3 b hb).1.2.1, (f3 b hb).1.2.2.2.2.1, (f3 b hb).1.2.2.2.2.2⟩
      have nC : H5 s3.heap.objs.size = none := by
        have z : H5 ce.locals = none := I6.free
        rw [cL] at z
        exact z
      obtain ⟨m, hn, _⟩ := I6.loc
      have hn : s6.heap.Ns ce.locals m := hn
      rw [cL] at hn
      exact hRR D s3.heap.objs.size s6 m H5 I7 qq hn (I3.fpOk (Nat.le_refl _) nC)
    · have ti := T.item (X.blk s3 H3 scope ce fp) rfl rfl rfl hc i [] s5 _ H5 (fun _ _ => False) I5 (stat I5 n5) st5 go
      refine thnF ti fun r s6 ⟨u, hr, h6⟩ => ?_
      subst hr
      refine thnF h6 fun _ s7 ⟨x, H7, I7, r7, y7, st7, n7⟩ => ?_
      have I7' := I7.pinned (stat I7 n7) (T.obj _ _ st7)
      refine thnF (pg.run _ s7 _ H7 x u _ I7' r7 (step x H7 y7)) fun _ s8 ⟨σ8, H8, I8, hw8, q8⟩ => ?_
      refine thnF (pt.run _ s8 σ8 H8 _ I8 q8) fun b s9 ⟨H9, I9, q9⟩ => ?_
      have fin : ∀ {σ9 : L2.St} {s' : Shared} {H' : Hp}, Inv (X.blk s3 H3 scope ce fp) ([] ++ pinsAt fp s7.heap) σ9 H' s' → (wipe σ (own.map (·.2))).length = σ9.length → (∀ (j : Nat) v, (wipe σ (own.map (·.2)))[j]? = some (some v) → σ9[j]? = some (some v)) → Nx H' →
          ∃ m, m < n ∧ ∃ i H', Inv (X.blk s3 H3 scope ce fp) [] (wipe σ (own.map (·.2))) H' s' ∧ tn i s'.heap ∧ (∀ b ∈ fp, H' b = none) ∧ W i m H' := fun {σ9 s' H'} I' hl hk nx => by
        obtain ⟨m', hm, w'⟩ := hNx H' nx
        have pin' : ∀ b ∈ fp, ∀ o, s7.heap.get? b = some o → s'.heap.get? b = some o ∧ H' b = none := fun b hb o e =>
          let z := I'.pin (b, o) (List.mem_append_right _ (List.mem_append_right _ (mem_pinsAt hb e)))
          ⟨z.1, z.2.1⟩
        refine ⟨m', hm, i + 1, H', (I'.unpinned (pins := [])).weak hl hk, T.keep _ _ _ st7 fun b hb o e => (pin' b hb o e).1, fun b hb => ?_, w'⟩
        obtain ⟨o, e, _⟩ := T.obj _ _ st7 b hb
        exact (pin' b hb o e).2
      cases b with
      | false =>
        simp only [Bool.false_eq_true, if_false] at q9 ⊢
        exact fin I9 (by rw [← hw8, wipe_length]) (fun j v e => by rw [← hw8] at e; exact (wipe_some e).1) q9
      | true =>
        simp only [if_true] at q9 ⊢
        refine thnF (pb _ s9 σ8 H9 _ I9 q9) fun _ s10 ⟨H10, I10, nx⟩ => ?_
        exact fin I10 (by rw [← hw8, wipe_length, wipe_length]) (fun j v e => by
          rw [← hw8] at e
          obtain ⟨e1, e2⟩ := wipe_some e
          rw [wipe_out fun z => e2 (hv j z)]
          exact e1) nx
  exact codeAny_compStart_list loop (T.self X.A 0 _ _ _ st4 loop)
theorem pe_lcN (hc : X.calm = true) (hN : X.N.Nodup) (hi : PI X tg iter wi) (ok : BlkOk X.N X.env.scope scope own) (hv : ∀ i ∈ vs1, i ∈ own.map (·.2))
    (hT : ∀ D env, TurnIs (.ListComp elt (⟨tg, iter, ifs, 0⟩ :: rest) scope pos) 0 (.ref D) env tg iter ifs (act D env))
    (hg : ∀ (s : Shared) (H : Hp) (C : Addr) (cl : List (Str × Addr)) (fp : List Addr), PG (X.blk s H scope (compEnvC scope cl C X.env) fp) tg g) (ht : ∀ (s : Shared) (H : Hp) (C : Addr) (cl : List (Str × Addr)) (fp : List Addr), PTs (X.blk s H scope (compEnvC scope cl C X.env) fp) ifs tt)
    (hb : ∀ (D : Addr) (s : Shared) (H : Hp) (C : Addr) (cl : List (Str × Addr)) (fp : List Addr), PB (X.blk s H scope (compEnvC scope cl C X.env) fp) (act D (compEnvC scope cl C X.env)) vs1 (tin D)) (hs : ∀ x, foldedSetIterable iter X.env x = pure x := by intro _; rfl) :
    PE X (.ListComp elt (⟨tg, iter, ifs, 0⟩ :: rest) scope pos) (tLcN wi g tt tin (own.map (·.2))) := by
  refine ⟨fun pins s σ H Q I h => ?_⟩
  rw [eval_ListComp]
  refine lcN_core hc hN I hi ok hv hT hg ht hb hs h fun D C s' m H' I' q hn f => ⟨m, hn, fun h'' sb => ?_⟩
  obtain ⟨f0, f1, f2, f3, f4, f5⟩ := f
  exact ⟨.ref D, H', I'.turned (t' := s'.toks) (fun b o hb e => (sb.2 b hb).trans e) f0 f1 f3 f4 f5, rfl, q⟩
end
end De

set_option Elab.async false
set_option linter.all false
set_option maxRecDepth 100000
set_option maxHeartbeats 2000000
namespace De
open PySem PySem.Spec PyProof.Rows L2
open PySem.W (Frag)
/-! ### comprehensions of several clauses, on data -/
def lcnLoop (own : List Nat) (g : D → M Unit) (am : M (List D)) : List D → M (List D)
  | [] => bind (wipeM own) fun _ => ret []
  | x :: xs => bind (wipeM own) fun _ => bind (g x) fun _ => bind (noEx am) fun ys => bind (lcnLoop own g am xs) fun zs => ret (ys ++ zs)
def lcnIn (own : List Nat) (it : M (List D)) (g : D → M Unit) (am : M (List D)) : M (List D) := bind (noEx it) (lcnLoop own g am)
def lcnM (own : List Nat) (it : M (List D)) (g : D → M Unit) (am : M (List D)) : M (List D) := bind it fun xs => bind (noEx (lcnLoop own g am xs)) fun ys => if small ys.length then ret ys else bad
def oneM (f : M D) : M (List D) := bind (noEx f) fun y => ret [y]
section
variable {X : Cx} {cm : Str → Option Addr} {W : WX} {L : Addr} {own vs' : List Nat} {gd : D → M Unit} {am : M (List D)} {tin : TB} {g : TG} {wi : TI} {it : M (List D)}
def AB (X : Cx) (cm : Str → Option Addr) (L : Addr) (vs : List Nat) (tin : TB) (am : M (List D)) : Prop := ∀ (B : Bs) (Z : ZS) (σ : L2.St) (ρ : Rho) (H : Hp) (acc : List V) (ds : List D) (Nx : Hp → Prop) (ys : List D) (ρ' : Rho), St0 X.K cm Z B σ ρ H →
  H L = some (.lst acc) → ¬ Z L → (∀ j, ¬ OwnAt ρ σ j L) → B.H0 L = none → (∀ p ∈ B.Pr, p.1 ≠ L) → RpA X.K cm Z H acc ds → am ρ = .ok ys ρ' → acc.length + ys.length ≤ sizeLine →
  (∀ Z' H' acc', Grow Z H Z' H' → St0 X.K cm Z' B (wipe σ vs) ρ' H' → H' L = some (.lst acc') → ¬ Z' L → (∀ j, ¬ OwnAt ρ' (wipe σ vs) j L) → acc'.length = acc.length + ys.length → RpA X.K cm Z' H' acc' (ds ++ ys) → Nx H') → tin σ H Nx
theorem bind_inv {α β : Type} {m : M α} {k : α → M β} {ρ ρ' : Rho} {b : β} (h : bind m k ρ = .ok b ρ') : ∃ a ρ1, m ρ = .ok a ρ1 ∧ k a ρ1 = .ok b ρ' := by
  unfold De.bind at h
  cases e : m ρ with
  | ok a ρ1 => rw [e] at h; exact ⟨a, ρ1, rfl, h⟩
  | ex c fs ρ1 => rw [e] at h; cases h
  | bad => rw [e] at h; cases h
theorem noEx_inv {α : Type} {m : M α} {ρ ρ' : Rho} {a : α} (h : noEx m ρ = .ok a ρ') : m ρ = .ok a ρ' := by
  unfold noEx at h
  split at h
  · rename_i e
    cases h
    exact e
  · cases h
theorem ab_app {te : TE} {f : M D} (qe : ∀ B Z σ ρ H Q, St0 X.K cm Z B σ ρ H → Post X.K cm W0 B (rpD X.K cm) Z σ H (f ρ) Q → te σ H Q) : AB X cm L [] (tApp te L) (oneM f) := by
  intro B Z σ ρ H acc ds Nx ys ρ' S hL nz no h0 hp r e hsz hk
  obtain ⟨y, ρ1, e1, e2⟩ := bind_inv e
  have e1 := noEx_inv e1
  cases e2
  have Sg := S.guard hL nz no
  refine qe _ Z σ ρ H _ Sg ?_
  rw [e1]
  intro yv Z5 H5 g5 S5 ry
  obtain ⟨S5', hD5, nz5, no5⟩ := S5.unguard
  obtain ⟨S6, g6⟩ := S5'.putN (o' := .lst (acc ++ [yv])) nz5 no5 h0 hp
  exact ⟨acc, hD5, by simp at hsz; omega, hk Z5 _ (acc ++ [yv]) (g5.trans g6) S6 upd_same nz5 no5 (by simp) (RpA.append (RpA.grow (g5.trans g6) r) (.cons (Rp.grow g6 ry) .nil))⟩
theorem lcn_turns {J : It} {xs : List D} {B : Bs} {Z1 : ZS} {σ : L2.St} {ρ1 ρ' : Rho} {H1 : Hp} {acc : List V} {ds ys : List D} {Fin : Hp → Prop}
    (qg : ∀ B Z σ ρ H v d Q, St0 X.K cm Z B σ ρ H → Rp X.K cm Z H v d → (∀ u ρ', gd d ρ = .ok u ρ' → ∀ σ' , St0 X.K cm Z B σ' ρ' H → wipe σ' own = wipe σ own → Q σ' H) → (∃ u ρ', gd d ρ = .ok u ρ') → g v σ H Q)
    (ab : AB X cm L vs' tin am) (hv : ∀ i ∈ vs', i ∈ own)
    (S1 : St0 X.K cm Z1 B (wipe σ own) (wipeR ρ1 own) H1) (wk : Wks X.K cm J Z1 H1 xs) (hacc : H1 L = some (.lst acc)) (nz : ¬ Z1 L) (no : ∀ j, ¬ OwnAt (wipeR ρ1 own) (wipe σ own) j L) (h0 : B.H0 L = none) (hp : ∀ p ∈ B.Pr, p.1 ≠ L)
    (racc : RpA X.K cm Z1 H1 acc ds) (el : lcnLoop own gd am xs ρ1 = .ok ys ρ') (hsz : acc.length + ys.length ≤ sizeLine)
    (hF : ∀ Z' H' acc', Grow Z1 H1 Z' H' → St0 X.K cm Z' B (wipe σ own) ρ' H' → H' L = some (.lst acc') → ¬ Z' L → (∀ j, ¬ OwnAt ρ' (wipe σ own) j L) → acc'.length = acc.length + ys.length → RpA X.K cm Z' H' acc' (ds ++ ys) → (∀ i e, i ∈ own → ρ'[i]? = some e → e = .u) → Fin H') :
    ∃ W1 : Nat → Nat → Hp → Prop, (∃ m, W1 0 m H1) ∧ ∀ i m H, W1 i m H → (J.stop i H ∧ Fin H) ∨ (J.go i H ∧ ∃ Nx : Hp → Prop, (∀ H', Nx H' → ∃ m', m' < m ∧ W1 (i + 1) m' H') ∧ ∀ x H', J.yld i H x H' → g x (wipe σ own) H' fun σ2 H2 => wipe σ2 own = wipe σ own ∧ tYes σ2 H2 fun b H3 =>
      if b = true then tin σ2 H3 Nx else Nx H3) := by
  refine ⟨fun i m H => m = xs.length - i ∧ ∃ Z2 ρ2 acc2 ds2 zs, Grow Z1 H1 Z2 H ∧ St0 X.K cm Z2 B (wipe σ own) (wipeR ρ2 own) H ∧ H L = some (.lst acc2) ∧ ¬ Z2 L ∧ (∀ j, ¬ OwnAt (wipeR ρ2 own) (wipe σ own) j L) ∧ RpA X.K cm Z2 H acc2 ds2 ∧
    lcnLoop own gd am (xs.drop i) ρ2 = .ok zs ρ' ∧ acc2.length + zs.length = acc.length + ys.length ∧ ds2 ++ zs = ds ++ ys,
    ⟨_, rfl, Z1, ρ1, acc, ds, ys, Grow.refl, S1, hacc, nz, no, racc, by rw [List.drop_zero]; exact el, rfl, rfl⟩, fun i m H2 hW => ?_⟩
  obtain ⟨rfl, Z2, ρ2, acc2, ds2, zs, g2, S2, hacc2, nz2, no2, racc2, el2, hl2, hd2⟩ := hW
  obtain ⟨w1, w2⟩ := wk Z2 H2 g2 i
  cases ed : xs[i]? with
  | none =>
    refine .inl ⟨w2 ed, ?_⟩
    rw [List.drop_eq_nil_of_le (List.getElem?_eq_none_iff.mp ed)] at el2
    have q : (Res.ok [] (wipeR ρ2 own) : Res (List D)) = .ok zs ρ' := el2
    injection q with q1 q2
    subst q1
    subst q2
    rw [List.append_nil] at hd2
    exact hF Z2 H2 acc2 g2 S2 hacc2 nz2 no2 hl2 (hd2 ▸ racc2) fun i e hi he => wipeR_u ρ2 own i e hi he
  | some d =>
    obtain ⟨go, yl⟩ := w1 d ed
    obtain ⟨hil, hid⟩ := List.getElem?_eq_some_iff.mp ed
    have hdr : xs.drop i = d :: xs.drop (i + 1) := by rw [List.drop_eq_getElem_cons hil, hid]
    rw [hdr] at el2
    obtain ⟨_, ρw, ew, el2⟩ := bind_inv el2
    have ew : (Res.ok () (wipeR ρ2 own) : Res Unit) = .ok _ ρw := ew
    injection ew with _ ew
    subst ew
    obtain ⟨u, ρ3, eg, el2⟩ := bind_inv el2
    obtain ⟨y1, ρ4, eam, el2⟩ := bind_inv el2
    have eam := noEx_inv eam
    obtain ⟨z1, ρ5, ez, el2⟩ := bind_inv el2
    have ew : (Res.ok (y1 ++ z1) ρ5 : Res (List D)) = .ok zs ρ' := el2
    injection ew with e1 e2
    subst e1
    subst e2
    refine .inr ⟨go, fun H' => ∃ Z2 ρ2 acc2 ds2 zs, Grow Z1 H1 Z2 H' ∧ St0 X.K cm Z2 B (wipe σ own) (wipeR ρ2 own) H' ∧ H' L = some (.lst acc2) ∧ ¬ Z2 L ∧ (∀ j, ¬ OwnAt (wipeR ρ2 own) (wipe σ own) j L) ∧ RpA X.K cm Z2 H' acc2 ds2 ∧
      lcnLoop own gd am (xs.drop (i + 1)) ρ2 = .ok zs ρ5 ∧ acc2.length + zs.length = acc.length + ys.length ∧ ds2 ++ zs = ds ++ ys, fun H' hN => ⟨xs.length - (i + 1), by omega, rfl, hN⟩, fun x H' hy => ?_⟩
    obtain ⟨Z3, g3, S3, r3⟩ := yl x H' hy _ (wipe σ own) (wipeR ρ2 own) (S2.guard hacc2 nz2 no2)
    refine qg _ Z3 _ _ H' x d _ S3 r3 (fun u' ρ3' eg' σ3 S3' hw => ?_) ⟨u, ρ3, eg⟩
    rw [eg] at eg'
    cases eg'
    rw [wipe_idem] at hw
    refine ⟨hw, ?_⟩
    unfold tYes
    dsimp only
    rw [if_pos rfl]
    obtain ⟨S4, hL4, nz4, no4⟩ := S3'.unguard
    rw [List.length_append] at hl2
    refine ab B Z3 σ3 ρ3 H' acc2 ds2 _ y1 ρ4 S4 hL4 nz4 no4 h0 hp (RpA.grow g3 racc2) eam (by omega) fun Z5 H5 acc5 g5 S5 h5 nz5 no5 len5 r5 => ?_
    have S6 := S5.wiped own
    rw [wipe_sub hv, hw] at S6
    refine ⟨Z5, ρ4, acc5, ds2 ++ y1, z1, (g2.trans g3).trans g5, S6, h5, nz5, fun j o => ?_, r5, ez, by omega, by rw [List.append_assoc]; exact hd2⟩
    rw [← hw, ← wipe_sub hv] at o
    exact no5 j (own_wipe o)
theorem ab_loop
    (qi : ∀ B Z σ ρ H R, St0 X.K cm Z B σ ρ H → PostI X.K cm W0 B Z σ H (it ρ) R → wi σ H R)
    (qg : ∀ B Z σ ρ H v d Q, St0 X.K cm Z B σ ρ H → Rp X.K cm Z H v d → (∀ u ρ', gd d ρ = .ok u ρ' → ∀ σ' , St0 X.K cm Z B σ' ρ' H → wipe σ' own = wipe σ own → Q σ' H) → (∃ u ρ', gd d ρ = .ok u ρ') → g v σ H Q)
    (ab : AB X cm L vs' tin am) (hv : ∀ i ∈ vs', i ∈ own) : AB X cm L own (tLv wi g tYes tin own) (lcnIn own it gd am) := by
  intro B Z σ ρ H acc ds Nx ys ρ' S hL nz no h0 hp r e hsz hk
  obtain ⟨xs, ρ1, e1, e2⟩ := bind_inv e
  have e1 := noEx_inv e1
  refine qi _ Z σ ρ H _ (S.guard hL nz no) ?_
  rw [e1]
  intro J Z1 H1 g1 S1 wk
  obtain ⟨S1, hL1, nz1, no1⟩ := S1.unguard
  exact lcn_turns qg ab hv (S1.wiped own) wk hL1 nz1 (fun j o => no1 j (own_wipe o)) h0 hp (RpA.grow g1 r) e2 hsz fun Z' H' acc' g' S' hL' nz' no' hl' r' _ => hk Z' H' acc' (g1.trans g') S' hL' nz' no' hl' r'
theorem tLcN_ok
    (qi : ∀ B Z σ ρ H R, St0 X.K cm Z B σ ρ H → PostI X.K cm W B Z σ H (it ρ) R → wi σ H R)
    (qg : ∀ B Z σ ρ H v d Q, St0 X.K cm Z B σ ρ H → Rp X.K cm Z H v d → (∀ u ρ', gd d ρ = .ok u ρ' → ∀ σ' , St0 X.K cm Z B σ' ρ' H → wipe σ' own = wipe σ own → Q σ' H) → (∃ u ρ', gd d ρ = .ok u ρ') → g v σ H Q)
    {tinD : Addr → TB} (ab : ∀ L, AB X cm L vs' (tinD L) am) (hv : ∀ i ∈ vs', i ∈ own)
    (B : Bs) (Z : ZS) (σ : L2.St) (ρ : Rho) (H : Hp) (Q : VK) (S : St0 X.K cm Z B σ ρ H) (h : PostL X.K cm W B Z σ H (lcnM own it gd am ρ) Q) : tLcN wi g tYes tinD own σ H Q := by
  refine qi B Z σ ρ H _ S ?_
  unfold lcnM at h
  unfold De.bind at h
  cases eit : it ρ with
  | bad =>
    rw [eit] at h
    exact h
  | ex c fs ρ' =>
    rw [eit] at h
    exact h
  | ok xs ρ1 =>
    rw [eit] at h
    dsimp only at h
    intro J Z1 H1 g1 S1 wk L hL
    cases el : noEx (lcnLoop own gd am xs) ρ1 with
    | bad =>
      rw [el] at h
      exact h.elim
    | ex c fs ρ' =>
      exfalso
      unfold noEx at el
      split at el <;> cases el
    | ok ys ρ' =>
      rw [el] at h
      dsimp only at h
      split at h
      · rename_i hsm
        have hsm := of_decide_eq_true hsm
        have el := noEx_inv el
        obtain ⟨S1', g1', nz1⟩ := S1.newU (o := .lst []) hL
        have npr : ∀ p ∈ B.Pr, p.1 ≠ L := fun p hp e => by
          rw [← e, (S1.pr p hp).1] at hL
          cases hL
        have h0L : B.H0 L = none := S1.new0 hL
        exact lcn_turns qg (ab L) hv (S1'.wiped own) (wk.grow g1') upd_same nz1 (fun j o => by
          have := (S1.wiped own).nz o
          exact this.2 hL) h0L npr .nil el (by simpa using hsm) fun Z' H' acc' g' S' hL' nz' no' hl' r' hu => by
            have S3 : St0 X.K cm Z' B σ ρ' H' := S'.unwipe hu
            refine h L acc' Z' H' ((g1.trans g1').trans g') S3 hL' nz' (fun j o => ?_) h0L npr (by simpa using r')
            rcases o with ⟨o1, xs', o2⟩ | ⟨o1, o2⟩
            · have hj : j ∉ own := fun z => by cases hu j _ z o2
              exact no' j (.inl ⟨by rw [wipe_out hj]; exact o1, xs', o2⟩)
            · have hj : j ∉ own := fun z => by
                rcases o2 with ⟨xs', o2⟩ | ⟨c, fs, o2⟩
                · cases hu j _ z o2
                · cases hu j _ z o2
              exact no' j (.inr ⟨by rw [wipe_out hj]; exact o1, o2⟩)
      · exact h.elim
end
end De

set_option Elab.async false
set_option linter.all false
set_option maxRecDepth 100000
set_option maxHeartbeats 2000000
namespace De
open PySem PySem.Spec PyProof.Rows L2
open PySem.W (Frag)
section
variable {elt t0 i0 t1 i1 t2 i2 t3 i3 : Expr} {scope : Scope} {pos : Pos} {acc : Value} {env : Env} {prog : Program} {w : World}
abbrev LC4 (elt t0 i0 t1 i1 t2 i2 t3 i3 : Expr) (scope : Scope) (pos : Pos) : Expr := .ListComp elt [⟨t0, i0, [], 0⟩, ⟨t1, i1, [], 0⟩, ⟨t2, i2, [], 0⟩, ⟨t3, i3, [], 0⟩] scope pos
theorem turn4_0 : TurnIs (LC4 elt t0 i0 t1 i1 t2 i2 t3 i3 scope pos) 0 acc env t0 i0 [] (startAct (LC4 elt t0 i0 t1 i1 t2 i2 t3 i3 scope pos) 1 acc env i1) := fun it => by
  have e : compTurn (LC4 elt t0 i0 t1 i1 t2 i2 t3 i3 scope pos) 0 it acc env = (do
      standAt i0.pos
      match ← pyNext it with
      | none => pure (.done .next)
      | some v =>
        letOwnedTupleGo t0 it v
        assign t0 env v
        let mut ok := true
        for c in ([] : List Expr) do
          if ok then ok ← isTrue c env (eval c env)
        if ok then
          let x ← eval i1 env
          standAt i1.pos
          let x ← foldedSetIterable i1 env x
          let _ ← runOwn (.compStart (LC4 elt t0 i0 t1 i1 t2 i2 t3 i3 scope pos) 1 (← holding [x] (pyIter x)) acc env) env
        again (.compLoop (LC4 elt t0 i0 t1 i1 t2 i2 t3 i3 scope pos) 0 it acc env)) := by rfl
  rw [e]
  simp only [startAct, bind_assoc, pure_bind] <;> rfl
theorem turn4_1 : TurnIs (LC4 elt t0 i0 t1 i1 t2 i2 t3 i3 scope pos) 1 acc env t1 i1 [] (startAct (LC4 elt t0 i0 t1 i1 t2 i2 t3 i3 scope pos) 2 acc env i2) := fun it => by
  have e : compTurn (LC4 elt t0 i0 t1 i1 t2 i2 t3 i3 scope pos) 1 it acc env = (do
      standAt i1.pos
      match ← pyNext it with
      | none => pure (.done .next)
      | some v =>
        letOwnedTupleGo t1 it v
        assign t1 env v
        let mut ok := true
        for c in ([] : List Expr) do
          if ok then ok ← isTrue c env (eval c env)
        if ok then
          let x ← eval i2 env
          standAt i2.pos
          let x ← foldedSetIterable i2 env x
          let _ ← runOwn (.compStart (LC4 elt t0 i0 t1 i1 t2 i2 t3 i3 scope pos) 2 (← holding [x] (pyIter x)) acc env) env
        again (.compLoop (LC4 elt t0 i0 t1 i1 t2 i2 t3 i3 scope pos) 1 it acc env)) := by rfl
  rw [e]
  simp only [startAct, bind_assoc, pure_bind] <;> rfl
theorem turn4_2 : TurnIs (LC4 elt t0 i0 t1 i1 t2 i2 t3 i3 scope pos) 2 acc env t2 i2 [] (startAct (LC4 elt t0 i0 t1 i1 t2 i2 t3 i3 scope pos) 3 acc env i3) := fun it => by
  have e : compTurn (LC4 elt t0 i0 t1 i1 t2 i2 t3 i3 scope pos) 2 it acc env = (do
      standAt i2.pos
      match ← pyNext it with
      | none => pure (.done .next)
      | some v =>
        letOwnedTupleGo t2 it v
        assign t2 env v
        let mut ok := true
        for c in ([] : List Expr) do
          if ok then ok ← isTrue c env (eval c env)
        if ok then
          let x ← eval i3 env
          standAt i3.pos
          let x ← foldedSetIterable i3 env x
          let _ ← runOwn (.compStart (LC4 elt t0 i0 t1 i1 t2 i2 t3 i3 scope pos) 3 (← holding [x] (pyIter x)) acc env) env
        again (.compLoop (LC4 elt t0 i0 t1 i1 t2 i2 t3 i3 scope pos) 2 it acc env)) := by rfl
  rw [e]
  simp only [startAct, bind_assoc, pure_bind] <;> rfl
theorem turn4_3 : TurnIs (LC4 elt t0 i0 t1 i1 t2 i2 t3 i3 scope pos) 3 acc env t3 i3 [] (appAct acc env elt) := fun it => by
  rfl
theorem start4_1 : StartIs prog w (LC4 elt t0 i0 t1 i1 t2 i2 t3 i3 scope pos) 1 acc env := fun A R s it h0 h => by
  refine codeAny_of_tree ?_
  show wpAny _ _ ((compStart (LC4 elt t0 i0 t1 i1 t2 i2 t3 i3 scope pos) 1 it acc env).onRaise (fun x => do noteFrame x env; standAt theWindowsPlace)) _ _ s
  refine wpAny_notedAt ?_
  unfold compStart
  show wpAny _ _ (ask >>= _) _ _ s
  refine wpAny_bind (wpAny_askSetting (wpAny_ite ?_))
  split
  · first
      | exact wpAny_bind (wpAny_pure (wpAny_pure (And.intro rfl h0)))
      | exact wpAny_pure (And.intro rfl h0)
  · first
      | exact wpAny_bind (wpAny_rule (wpAny_bind (wpAny_standAt (wpAny_bind (wpAny_mono h (fun it' s' h' => wpAny_pure (And.intro rfl h')) fun _ _ x => x)))))
      | (refine wpAny_bind (wpAny_rule ?_); show wpAny _ _ (standAt i1.pos >>= _) _ _ s; exact wpAny_bind (wpAny_standAt (wpAny_bind (wpAny_mono h (fun it' s' h' => wpAny_pure (And.intro rfl h')) fun _ _ x => x))))
theorem start4_2 : StartIs prog w (LC4 elt t0 i0 t1 i1 t2 i2 t3 i3 scope pos) 2 acc env := fun A R s it h0 h => by
  refine codeAny_of_tree ?_
  show wpAny _ _ ((compStart (LC4 elt t0 i0 t1 i1 t2 i2 t3 i3 scope pos) 2 it acc env).onRaise (fun x => do noteFrame x env; standAt theWindowsPlace)) _ _ s
  refine wpAny_notedAt ?_
  unfold compStart
  show wpAny _ _ (ask >>= _) _ _ s
  refine wpAny_bind (wpAny_askSetting (wpAny_ite ?_))
  split
  · first
      | exact wpAny_bind (wpAny_pure (wpAny_pure (And.intro rfl h0)))
      | exact wpAny_pure (And.intro rfl h0)
  · first
      | exact wpAny_bind (wpAny_rule (wpAny_bind (wpAny_standAt (wpAny_bind (wpAny_mono h (fun it' s' h' => wpAny_pure (And.intro rfl h')) fun _ _ x => x)))))
      | (refine wpAny_bind (wpAny_rule ?_); show wpAny _ _ (standAt i2.pos >>= _) _ _ s; exact wpAny_bind (wpAny_standAt (wpAny_bind (wpAny_mono h (fun it' s' h' => wpAny_pure (And.intro rfl h')) fun _ _ x => x))))
theorem start4_3 : StartIs prog w (LC4 elt t0 i0 t1 i1 t2 i2 t3 i3 scope pos) 3 acc env := fun A R s it h0 h => by
  refine codeAny_of_tree ?_
  show wpAny _ _ ((compStart (LC4 elt t0 i0 t1 i1 t2 i2 t3 i3 scope pos) 3 it acc env).onRaise (fun x => do noteFrame x env; standAt theWindowsPlace)) _ _ s
  refine wpAny_notedAt ?_
  unfold compStart
  show wpAny _ _ (ask >>= _) _ _ s
  refine wpAny_bind (wpAny_askSetting (wpAny_ite ?_))
  split
  · first
      | exact wpAny_bind (wpAny_pure (wpAny_pure (And.intro rfl h0)))
      | exact wpAny_pure (And.intro rfl h0)
  · first
      | exact wpAny_bind (wpAny_rule (wpAny_bind (wpAny_standAt (wpAny_bind (wpAny_mono h (fun it' s' h' => wpAny_pure (And.intro rfl h')) fun _ _ x => x)))))
      | (refine wpAny_bind (wpAny_rule ?_); show wpAny _ _ (standAt i3.pos >>= _) _ _ s; exact wpAny_bind (wpAny_standAt (wpAny_bind (wpAny_mono h (fun it' s' h' => wpAny_pure (And.intro rfl h')) fun _ _ x => x))))
end
section
variable {X : Cx} {cm : Str → Option Addr} {W : WX}
def tiStar (K : Frag) (cm : Str → Option Addr) (W : WX) (f : M (List D)) : TI := fun σ H R => ∃ B Z ρ, St0 K cm Z B σ ρ H ∧ PostI K cm W B Z σ H (f ρ) R
theorem Ix.star {tg e : Expr} {f : M (List D)} (h : Ix X cm W tg e f) : PI X tg e (tiStar X.K cm W f) := by
  obtain ⟨t, p, q⟩ := h
  exact ⟨fun pins s σ H R I ⟨B, Z, ρ, S, h⟩ => p.run pins s σ H R I (q B Z σ ρ H R S h)⟩
theorem ab_gx {js own : List Nat} {gd : D → M Unit} (hjs : ∀ j, j ∈ js → j ∈ own) : ∀ B Z σ ρ H v d Q, St0 X.K cm Z B σ ρ H → Rp X.K cm Z H v d → (∀ u ρ', gd d ρ = .ok u ρ' → ∀ σ' , St0 X.K cm Z B σ' ρ' H → wipe σ' own = wipe σ own → Q σ' H) → (∃ u ρ', gd d ρ = .ok u ρ') → tgStar X.K cm js gd v σ H Q :=
  fun B Z σ ρ H v d Q S r k ex => ⟨B, Z, ρ, d, S, r, fun u ρ' e σ' S' n => k u ρ' e σ' S' (wipe_same n hjs), ex⟩
/-- [elt for t0 in i0 for t1 in i1 for t2 in i2 for t3 in i3] -/
theorem lx_comp4 {elt t0 i0 t1 i1 t2 i2 t3 i3 : Expr} {scope : Scope} {pos : Pos} {it0 it1 it2 it3 : M (List D)} {js0 js1 js2 js3 : List Nat} {gd0 gd1 gd2 gd3 : D → M Unit} {f : M D} (own : List (Str × Nat)) (v1 v2 v3 : List Nat) (hN : X.N.Nodup)
    (hi0 : Ix X cm W t0 i0 it0) (ok : blkC X.N X.env.scope scope own = true)
    (hi1 : ∀ (s : Shared) (H : Hp) (C : Addr) (cl : List (Str × Addr)) (fp : List Addr), Ix (X.blk s H scope (compEnvC scope cl C X.env) fp) cm W0 t1 i1 it1)
    (hi2 : ∀ (s : Shared) (H : Hp) (C : Addr) (cl : List (Str × Addr)) (fp : List Addr), Ix (X.blk s H scope (compEnvC scope cl C X.env) fp) cm W0 t2 i2 it2)
    (hi3 : ∀ (s : Shared) (H : Hp) (C : Addr) (cl : List (Str × Addr)) (fp : List Addr), Ix (X.blk s H scope (compEnvC scope cl C X.env) fp) cm W0 t3 i3 it3)
    (hg0 : ∀ (s : Shared) (H : Hp) (C : Addr) (cl : List (Str × Addr)) (fp : List Addr), Gx (X.blk s H scope (compEnvC scope cl C X.env) fp) cm t0 js0 gd0)
    (hg1 : ∀ (s : Shared) (H : Hp) (C : Addr) (cl : List (Str × Addr)) (fp : List Addr), Gx (X.blk s H scope (compEnvC scope cl C X.env) fp) cm t1 js1 gd1)
    (hg2 : ∀ (s : Shared) (H : Hp) (C : Addr) (cl : List (Str × Addr)) (fp : List Addr), Gx (X.blk s H scope (compEnvC scope cl C X.env) fp) cm t2 js2 gd2)
    (hg3 : ∀ (s : Shared) (H : Hp) (C : Addr) (cl : List (Str × Addr)) (fp : List Addr), Gx (X.blk s H scope (compEnvC scope cl C X.env) fp) cm t3 js3 gd3)
    (he : ∀ (s : Shared) (H : Hp) (C : Addr) (cl : List (Str × Addr)) (fp : List Addr), Ex (X.blk s H scope (compEnvC scope cl C X.env) fp) cm W0 elt f)
    (hv : (∀ i ∈ v1, i ∈ own.map (·.2)) ∧ (∀ i ∈ v2, i ∈ v1) ∧ (∀ i ∈ v3, i ∈ v2)) (hj : (∀ j, j ∈ js0 → j ∈ own.map (·.2)) ∧ (∀ j, j ∈ js1 → j ∈ v1) ∧ (∀ j, j ∈ js2 → j ∈ v2) ∧ (∀ j, j ∈ js3 → j ∈ v3))
    (hc : X.calm = true := by rfl) (hs0 : ∀ x, foldedSetIterable i0 X.env x = pure x := by intro _; rfl) (hs1 : ∀ env x, foldedSetIterable i1 env x = pure x := by intro _ _; rfl) (hs2 : ∀ env x, foldedSetIterable i2 env x = pure x := by intro _ _; rfl) (hs3 : ∀ env x, foldedSetIterable i3 env x = pure x := by intro _ _; rfl) :
    Lx X cm W (LC4 elt t0 i0 t1 i1 t2 i2 t3 i3 scope pos) (lcnM (own.map (·.2)) it0 gd0 (lcnIn v1 it1 gd1 (lcnIn v2 it2 gd2 (lcnIn v3 it3 gd3 (oneM f))))) := by
  obtain ⟨wi, pi, qi⟩ := hi0
  obtain ⟨hv1, hv2, hv3⟩ := hv
  obtain ⟨hj0, hj1, hj2, hj3⟩ := hj
  have tyes : ∀ (s : Shared) (H : Hp) (C : Addr) (cl : List (Str × Addr)) (fp : List Addr), PTs (X.blk s H scope (compEnvC scope cl C X.env) fp) [] tYes := fun _ _ _ _ _ => pts_nil
  have b3 : ∀ (L : Addr) (s : Shared) (H : Hp) (C : Addr) (cl : List (Str × Addr)) (fp : List Addr), PB (X.blk s H scope (compEnvC scope cl C X.env) fp) (appAct (.ref L) (compEnvC scope cl C X.env) elt) [] (tApp (tStar X.K cm W0 f) L) := fun L s H C cl fp => pb_app (he s H C cl fp).star
  have b2 : ∀ (L : Addr) (s : Shared) (H : Hp) (C : Addr) (cl : List (Str × Addr)) (fp : List Addr), PB (X.blk s H scope (compEnvC scope cl C X.env) fp) (startAct (LC4 elt t0 i0 t1 i1 t2 i2 t3 i3 scope pos) 3 (.ref L) (compEnvC scope cl C X.env) i3) v3 (tLv (tiStar X.K cm W0 it3) (tgStar X.K cm js3 gd3) tYes (tApp (tStar X.K cm W0 f) L) v3) := fun L s H C cl fp =>
    pb_loop hc turn4_3 start4_3 (hi3 s H C cl fp).star (hg3 s H C cl fp).star (tyes s H C cl fp) (b3 L s H C cl fp) (fun i hi => by cases hi) (hs3 _)
  have b1 : ∀ (L : Addr) (s : Shared) (H : Hp) (C : Addr) (cl : List (Str × Addr)) (fp : List Addr), PB (X.blk s H scope (compEnvC scope cl C X.env) fp) (startAct (LC4 elt t0 i0 t1 i1 t2 i2 t3 i3 scope pos) 2 (.ref L) (compEnvC scope cl C X.env) i2) v2 (tLv (tiStar X.K cm W0 it2) (tgStar X.K cm js2 gd2) tYes (tLv (tiStar X.K cm W0 it3) (tgStar X.K cm js3 gd3) tYes (tApp (tStar X.K cm W0 f) L) v3) v2) := fun L s H C cl fp =>
    pb_loop hc turn4_2 start4_2 (hi2 s H C cl fp).star (hg2 s H C cl fp).star (tyes s H C cl fp) (b2 L s H C cl fp) hv3 (hs2 _)
  have b0 : ∀ (L : Addr) (s : Shared) (H : Hp) (C : Addr) (cl : List (Str × Addr)) (fp : List Addr), PB (X.blk s H scope (compEnvC scope cl C X.env) fp) (startAct (LC4 elt t0 i0 t1 i1 t2 i2 t3 i3 scope pos) 1 (.ref L) (compEnvC scope cl C X.env) i1) v1 (tLv (tiStar X.K cm W0 it1) (tgStar X.K cm js1 gd1) tYes (tLv (tiStar X.K cm W0 it2) (tgStar X.K cm js2 gd2) tYes (tLv (tiStar X.K cm W0 it3) (tgStar X.K cm js3 gd3) tYes (tApp (tStar X.K cm W0 f) L) v3) v2) v1) := fun L s H C cl fp =>
    pb_loop hc turn4_1 start4_1 (hi1 s H C cl fp).star (hg1 s H C cl fp).star (tyes s H C cl fp) (b1 L s H C cl fp) hv2 (hs1 _)
  refine ⟨_, pe_lcN (g := tgStar X.K cm js0 gd0) (tt := tYes) (act := fun L env => startAct (LC4 elt t0 i0 t1 i1 t2 i2 t3 i3 scope pos) 1 (.ref L) env i1) hc hN pi (blkOk_by ok) hv1 (fun L env => turn4_0) (fun s H C cl fp => (hg0 s H C cl fp).star) tyes (fun L s H C cl fp => b0 L s H C cl fp) hs0, fun B Z σ ρ H Q S h => ?_⟩
  have st : ∀ (f : M (List D)) B Z σ ρ H R, St0 X.K cm Z B σ ρ H → PostI X.K cm W0 B Z σ H (f ρ) R → tiStar X.K cm W0 f σ H R := fun f B Z σ ρ H R S h => ⟨B, Z, ρ, S, h⟩
  exact tLcN_ok qi (ab_gx hj0) (fun L => ab_loop (st it1) (ab_gx hj1) (ab_loop (st it2) (ab_gx hj2) (ab_loop (st it3) (ab_gx hj3) (ab_app fun B Z σ ρ H Q S h => ⟨B, Z, ρ, S, h⟩) (fun i hi => by cases hi)) hv3) hv2) hv1 B Z σ ρ H Q S h
end
end De

set_option Elab.async false
set_option linter.all false
set_option maxRecDepth 100000
set_option maxHeartbeats 2000000
namespace De
open PySem PySem.Spec PyProof.Rows L2
open PySem.W (Frag)
/-! ### name = list(e): a list of the name's own -/
def listO (ds : List D) : M (List D) := match ds with
  | [.lst xs] => ret xs
  | [.tup xs] => ret xs
  | _ => bad
section
variable {X : Cx} {cm : Str → Option Addr} {W : WX} {e : Expr} {fa : M D} {p pos : Pos}
theorem lx_list (hm : X.mg "list" = none) (ha : Ex X cm W e fa) (hg : Gl X "list" := by rfl)
    (he : starEach [e] X.env = [(false, eval e X.env)] := by rfl) : Lx X cm W (.Call (.Name "list" p) [e] [] pos) (bind fa fun d => listO [d]) := by
  obtain ⟨t, pa, q⟩ := ha
  refine ⟨_, pe_callTy call_list_of hg hm (by decide +kernel) (pa_cons pa pa_nil he) (by decide) (by decide) he (by rw [show starEach [] X.env = [] from rfl]; rfl), fun B Z σ ρ H Q S h => ?_⟩
  refine q B Z σ ρ H _ S ?_
  unfold De.bind at h
  cases ef : fa ρ with
  | bad =>
    rw [ef] at h
    exact h
  | ex c fs' ρ' =>
    rw [ef] at h
    exact h
  | ok d ρ1 =>
    rw [ef] at h
    intro v Z1 H1 g1 S1 r1
    have key : ∀ {a : Addr} {vs : List V} {ds : List De.D} (h2 : SqL X.K H1 a vs ∨ SqT X.K H1 a vs) (rv : RpA X.K cm Z1 H1 vs ds) (h3 : PostL X.K cm W B Z σ H (.ok ds ρ1) Q), v = .ref a →
        ∃ p ys, [v] = [V.ref p] ∧ (SqL X.K H1 p ys ∨ SqT X.K H1 p ys) ∧ ∀ l, H1 l = none → Q (.ref l) (upd H1 l (.lst ys)) := fun {a vs ds} h2 rv h3 ev => by
      subst ev
      refine ⟨a, vs, rfl, h2, fun l hl => ?_⟩
      obtain ⟨S2, g2, nz⟩ := S1.newU (o := .lst vs) hl
      exact h3 l vs Z1 _ (g1.trans g2) S2 upd_same nz (fun j o => (S1.nz o).2 hl) (S1.new0 hl) (fun p hp eq => by rw [← eq, (S1.pr p hp).1] at hl; cases hl) (RpA.grow g2 rv)
    cases d with
    | lst xs =>
      cases r1 with
      | lst z h2 rv => exact key (.inl (AtL.sq (.inl ⟨z, .inl h2⟩))) rv h rfl
    | tup xs =>
      cases r1 with
      | tup h2 rv => exact key (.inr h2.sq) rv h rfl
    | _ => exact h.elim
end
/-! ### own == under names -/
section
variable {X : Cx} {cm : Str → Option Addr} {k k' : Nat} {E : ETab}
theorem or_eqX' (O : OwnEs X.prog X.w X.K X.mg X.base cm k E) (hr : Room k' X.A) (h : k ≤ k') : OpR X (compareOp .Eq) (fun x y H Q => rEqA X.K x y H Q ∨ rEqI X cm E x y H Q) := or_eqX hr.units O (hr.mono h)
theorem or_neX' (O : OwnEs X.prog X.w X.K X.mg X.base cm k E) (hr : Room k' X.A) (h : k + 1 ≤ k') : OpR X (compareOp .NotEq) (fun x y H Q => rNeA X.K x y H Q ∨ rNeI X cm E x y H Q) := or_neX hr.units O (hr.mono h)
end
theorem ownEs2 {P : Program} {w : World} {K : Frag} {mg : Str → Option Value} {base : Heap} {cm : Str → Option Addr} {c1 c2 : Str} {k1 k2 k : Nat} {p1 p2 : List Str} {F1 F2 : List D → Fr D} (h1 : OwnE P w K mg base cm c1 k1 p1 F1) (h2 : OwnE P w K mg base cm c2 k2 p2 F2) (l1 : k1 ≤ k) (l2 : k2 ≤ k) : OwnEs P w K mg base cm k [(c1, F1), (c2, F2)] := fun c F e => by
  by_cases q1 : c == c1
  · rw [List.lookup_cons, q1] at e
    cases e
    rw [eq_of_beq q1]
    exact ⟨k1, p1, l1, h1⟩
  · have q1 : (c == c1) = false := by simpa using q1
    rw [List.lookup_cons, q1] at e
    by_cases q2 : c == c2
    · simp only [List.lookup_cons, q2] at e
      cases e
      rw [eq_of_beq q2]
      exact ⟨k2, p2, l2, h2⟩
    · have q2 : (c == c2) = false := by simpa using q2
      simp only [List.lookup_cons, q2, List.lookup_nil] at e
      cases e
end De
namespace De
open PySem PySem.Spec PyProof.Rows L2
open PySem.W (Frag)
/-! ### f() -/
section
variable {X : Cx} {cm : Str → Option Addr} {W : WX} {x : Str} {p pos : Pos} {j k : Nat} {ps : List Str}
theorem pe_callS0 {CX : CXT} {f : Addr} {fd : FuncData} {sp : Sp} {E : L2.St → XK} (F : FnOk X.prog X.w X.K X.mg X.base CX k f fd ps sp) (hr : Room k X.A) (hg : Gl X x) (hm : X.mg x = some (.ref f)) (hk : PySem.W.keepIn X.K (.ref f) = true) (hb : L2.Binds X.K fd ps []) (hx : ∀ σ, PassesAt CX X σ (E σ))
    (hdb : (x == ("__debug__" : Str)) = false := by decide) : PE X (.Call (.Name x p) [] [] pos) (tCallS sp E tNil) := by
  refine ⟨fun pins s σ H Q I h => ?_⟩
  refine wpAny_Call_Name_kw (ld_glob I hg hm ?_ hdb)
  exact PySem.W.callWith_K0 I.kIn hk (run_fnS (us := []) F hr hb (hx σ) I .nil h)
theorem ex_own0 {F : List D → Fr D} (O : Own X.prog X.w X.K X.mg X.base x j ps (spP X.K cm F)) (hr : Room k X.A) (hjk : j ≤ k) (tk : Takes X W) (hg : Gl X x := by rfl)
    (hdb : (x == ("__debug__" : Str)) = false := by decide) : Ex X cm W (.Call (.Name x p) [] [] pos) (bind (ret []) (callF F)) := by
  obtain ⟨f, fd, hm, hk, hb, Fo⟩ := O
  refine ⟨_, pe_callS0 Fo (hr.mono hjk) hg hm hk hb (fun σ => passAt tk σ) hdb, fun B Z σ ρ H Q S h => ?_⟩
  have h1 : Post X.K cm W B (rpD X.K cm) Z σ H (callF F [] ρ) Q := h
  refine ⟨Z, [], S.zin, .nil, ?_⟩
  unfold callF at h1
  cases eF : F [] with
  | ok r =>
    rw [eF] at h1
    intro v Z' H' go rv
    obtain ⟨S2, g2⟩ := S.went go
    exact h1 v Z' H' g2 S2 rv
  | ex c fs' =>
    rw [eF] at h1
    intro C dd Z' H' go hc hx
    obtain ⟨S2, g2⟩ := S.went go
    exact h1 C dd Z' H' g2 S2 hc hx
  | bad =>
    rw [eF] at h1
    exact h1
end
end De
namespace De
open PySem PySem.Spec PyProof.Rows L2
open PySem.W (Frag)
/-! ### a if c else b as a test -/
section
variable {X : Cx} {cm : Str → Option Addr} {W : WX} {a b c : Expr} {pos : Pos}
def tIfT (t ta tb : TT) : TT := fun σ H Q => t σ H fun c H1 => if c = true then ta σ H1 Q else tb σ H1 Q
theorem pt_ifExp {tA ta tb : TT} (hc : PT X c tA) (ha : PT X a ta) (hb : PT X b tb) : PT X (.IfExp c a b pos) (tIfT tA ta tb) := by
  refine ⟨fun pins s σ H Q I h => ?_⟩
  refine isTrue_IfExp (thn (hc.run pins s σ H _ I h) fun d s1 ⟨H1, I1, q1⟩ => ?_)
  cases d with
  | true => exact ha.run pins s1 σ H1 Q I1 q1
  | false => exact hb.run pins s1 σ H1 Q I1 q1
theorem tx_if {t ga gb : M Bool} (hc : Tx X cm W c t) (ha : Tx X cm W a ga) (hb : Tx X cm W b gb) : Tx X cm W (.IfExp c a b pos) (iteM t ga gb) := by
  obtain ⟨t, p, q⟩ := hc
  obtain ⟨t1, p1, q1⟩ := ha
  obtain ⟨t2, p2, q2⟩ := hb
  refine ⟨_, pt_ifExp p p1 p2, fun B Z σ ρ H Q S h => q B Z σ ρ H _ S (Post.bind h fun b ρ1 v Z1 H1 g1 S1 r1 h1 => ?_)⟩
  cases (show v = b from r1)
  cases b with
  | true =>
    show (if true = true then _ else _)
    rw [if_pos rfl]
    exact q1 B Z1 σ ρ1 H1 Q S1 h1
  | false =>
    show (if false = true then _ else _)
    rw [if_neg (by decide)]
    exact q2 B Z1 σ ρ1 H1 Q S1 h1
end
end De

set_option Elab.async false
set_option linter.all false
set_option maxRecDepth 100000
set_option maxHeartbeats 2000000
namespace K05
open PySem PySem.Spec PyProof.Rows L2 De
open PySem.W (Frag)
abbrev pw : Program := PySem.Challenge.pw_whosetomorrow_k05_whole_tongues_and_situ
def topS (i : Nat) : Stmt := PySem.Challenge.pw_whosetomorrow_k05_whole_tongues_and_situ.main.body.getD i (.Pass ⟨0, 0, 0, 0⟩)
def classBody : Stmt → List Stmt
  | .ClassDef (body := b) .. => b
  | _ => []
def init_Tongue : Stmt := (classBody (topS 9)).getD 0 (.Pass ⟨0, 0, 0, 0⟩)
def init_Situation : Stmt := (classBody (topS 13)).getD 0 (.Pass ⟨0, 0, 0, 0⟩)
def meth_Tongue_eq : Stmt := (classBody (topS 9)).getD 1 (.Pass ⟨0, 0, 0, 0⟩)
def meth_Situation_eq : Stmt := (classBody (topS 13)).getD 3 (.Pass ⟨0, 0, 0, 0⟩)
def meth_Situation_moved : Stmt := (classBody (topS 13)).getD 1 (.Pass ⟨0, 0, 0, 0⟩)
def meth_Situation_exchanged : Stmt := (classBody (topS 13)).getD 2 (.Pass ⟨0, 0, 0, 0⟩)
def clsL : List Str := ["Tongue", "Situation"]
def fc_shifts_person : List Str := ["Tongue"]
def fc_shifts_you : List Str := ["Tongue"]
def fc_shifts_today : List Str := ["Tongue"]
def fc_shifts_here : List Str := ["Tongue"]
def fc_shifts : List Str := ["Tongue"]
def fc_teller : List Str := ["Situation"]
def fc_hearer : List Str := ["Situation"]
def fc_day : List Str := ["Situation"]
def fc_place : List Str := ["Situation"]
noncomputable def g_is_whole : M Fl :=
  (retM (andV (isiM "int" (rd 0)) (notV (isiM "bool" (rd 0)))))
noncomputable def F_is_whole : List D → Fr D := mkP 1 ["thing"] g_is_whole
noncomputable def g_is_name : M Fl :=
  (seqM (iteF (orM (notM (truM (isiM "str" (rd 0)))) (notM (blM (chain leD leD (ret (.int 1)) (bind (consM (rd 0) (ret [])) lenD) (ret (.int 8)))))) (retM (ret (.bl false))) (ret .nx))
  (retM (bind (consM (lstD (lcM [1] (bind (rd 0) itA) (tgtN 1) (ret true) (bin inD (rd 1) (ret (.str "abcdefghijklmnopqrstuvwxyz"))))) (ret [])) allC)))
noncomputable def F_is_name : List D → Fr D := mkP 1 ["thing", "sign"] g_is_name
noncomputable def g_Tongue : M Fl :=
  (seqM (setM 5 (tupM (consM (rd 1) (consM (rd 2) (consM (rd 3) (consM (rd 4) (ret [])))))))
  (seqM (iteF (notM (truM (bind (consM (lstD (lcM [6] (bind (rd 5) itA) (tgtN 6) (ret true) (isiM "bool" (rd 6)))) (ret [])) allC))) (raiseM "BadTongue") (ret .nx))
  (seqM (fldS fc_shifts_person 0 "shifts_person" (rd 1))
  (seqM (fldS fc_shifts_you 0 "shifts_you" (rd 2))
  (seqM (fldS fc_shifts_today 0 "shifts_today" (rd 3))
  (seqM (fldS fc_shifts_here 0 "shifts_here" (rd 4))
  (fldS fc_shifts 0 "shifts" (rd 5))))))))
noncomputable def F_Tongue : List D → Fr (List (Str × D)) := mkI 5 ["self", "person", "you", "today", "here", "shifts", "shift"] "Tongue" g_Tongue
noncomputable def g_all_tongues : M Fl :=
  (seqM (setM 0 (tupM (consM (ret (.bl false)) (consM (ret (.bl true)) (ret [])))))
  (retM (bind (consM (lstD (lcnM [1, 2, 3, 4] (bind (rd 0) itA) (tgtN 1) (lcnIn [2, 3, 4] (bind (rd 0) itA) (tgtN 2) (lcnIn [3, 4] (bind (rd 0) itA) (tgtN 3) (lcnIn [4] (bind (rd 0) itA) (tgtN 4) (oneM (bind (consM (rd 1) (consM (rd 2) (consM (rd 3) (consM (rd 4) (ret []))))) (callI "Tongue" F_Tongue)))))))) (ret [])) tupleC)))
noncomputable def F_all_tongues : List D → Fr D := mkP 0 ["truths", "person", "you", "today", "here"] g_all_tongues
noncomputable def g_check_names : M Fl :=
  (iteF (orM (notM (truM (bind (consM (rd 0) (ret [])) (callF F_is_name)))) (notM (truM (bind (consM (rd 1) (ret [])) (callF F_is_name))))) (raise1M "BadSituation" "what" (ret (.str "name"))) (ret .nx))
noncomputable def F_check_names : List D → Fr D := mkP 2 ["one", "other"] g_check_names
noncomputable def g_exchange_name : M Fl :=
  (seqM (dropM (bind (consM (rd 1) (consM (rd 2) (ret []))) (callF F_check_names)))
  (seqM (iteF (blM (bin eqD (rd 0) (rd 1))) (retM (rd 2)) (ret .nx))
  (seqM (iteF (blM (bin eqD (rd 0) (rd 2))) (retM (rd 1)) (ret .nx))
  (retM (rd 0)))))
noncomputable def F_exchange_name : List D → Fr D := mkP 3 ["name", "one", "other"] g_exchange_name
noncomputable def b__law_hand_1 : M Fl :=
  (seqM (setM 1 (bin modD (bind (consM (bin addD (bin mulD (rd 1) (ret (.int 1009))) (bind (consM (rd 3) (ret [])) intC)) (ret [])) intC) (ret (.int 2147483629))))
  (appM 2 (iteM (blM (bin geD (rd 3) (ret (.int 0)))) (bind (consM (rd 3) (ret [])) intC) (un negD (bind (consM (rd 3) (ret [])) intC)))))
noncomputable def g__law_hand : M Fl :=
  (seqM (setM 1 (bin addD (bind (consM (rd 0) (ret [])) lenD) (ret (.int 17))))
  (seqM (setL 2 (ret []))
  (seqM (forS (bind (rd 0) itA) (tgtN 3) b__law_hand_1)
  (retL (consM (rd 2) (consM (ret (.int 0)) (consM (ret (.int 0)) (consM (rd 1) (ret [])))))))))
noncomputable def F__law_hand : List D → Option (List D) := mkO 1 ["_law_script", "_law_total", "_law_cells", "_law_cell"] g__law_hand
noncomputable def g__law_mixed : M Fl :=
  (seqM (setM 2 (bin modD (bind (consM (bin addD (bin addD (bin mulD (rd 0) (ret (.int 48271))) (bin mulD (rd 1) (ret (.int 7919)))) (ret (.int 12345))) (ret [])) intC) (ret (.int 2147483647))))
  (seqM (setM 3 (bin modD (bind (consM (bin addD (bin addD (bin mulD (rd 2) (rd 2)) (bin mulD (rd 1) (ret (.int 104729)))) (bin fdivD (rd 2) (ret (.int 127)))) (ret [])) intC) (ret (.int 2147483629))))
  (retM (bin fdivD (bind (consM (bin modD (bind (consM (bin addD (bin mulD (rd 3) (ret (.int 69621))) (bin fdivD (rd 2) (ret (.int 3)))) (ret [])) intC) (ret (.int 2147483587))) (ret [])) intC) (ret (.int 8))))))
noncomputable def F__law_mixed : List D → Fr D := mkP 2 ["_law_number", "_law_turn", "_law_once", "_law_twice"] g__law_mixed
noncomputable def g__law_take : M Fl :=
  (seqM (iteF (andM (blM (bin eqD (hixM 0 (ret (.int 2))) (ret (.int 0)))) (blM (bin ltD (hixM 0 (ret (.int 1))) (bind (consM (hixM 0 (ret (.int 0))) (ret [])) lenD)))) (seqM (setM 2 (bin ixD (hixM 0 (ret (.int 0))) (hixM 0 (ret (.int 1)))))
  (seqM (setIx 0 (bin addD (hixM 0 (ret (.int 1))) (ret (.int 1))) (ret (.int 1)))
  (seqM (iteF (blM (bin ltD (rd 2) (bin powD (ret (.int 10)) (ret (.int 18))))) (retM (bin modD (bind (consM (bind (consM (bin modD (bind (consM (rd 2) (ret [])) intC) (ret (.int 2147483647))) (consM (hixM 0 (ret (.int 1))) (ret []))) (callF F__law_mixed)) (ret [])) intC) (rd 1))) (ret .nx))
  (setIx 0 (rd 2) (ret (.int 2)))))) (ret .nx))
  (seqM (iteF (blM (bin gtD (hixM 0 (ret (.int 2))) (ret (.int 0)))) (seqM (setM 3 (hixM 0 (ret (.int 2))))
  (seqM (setIx 0 (bin fdivD (bind (consM (rd 3) (ret [])) intC) (rd 1)) (ret (.int 2)))
  (retM (bin modD (bind (consM (rd 3) (ret [])) intC) (rd 1))))) (ret .nx))
  (seqM (setIx 0 (bin modD (bind (consM (bin addD (hixM 0 (ret (.int 3))) (ret (.int 1))) (ret [])) intC) (ret (.int 2147483629))) (ret (.int 3)))
  (retM (bin modD (bind (consM (bind (consM (hixM 0 (ret (.int 3))) (consM (hixM 0 (ret (.int 1))) (ret []))) (callF F__law_mixed)) (ret [])) intC) (rd 1))))))
noncomputable def F__law_take : List D → List D → Option (D × List D) := mkM 2 ["_law_hand_here", "_law_many", "_law_cell", "_law_rest"] g__law_take
noncomputable def b__law_name_1 : M Fl :=
  (setM 1 (bin addD (rd 1) (bin ixD (ret (.str "abcdefghijklmnopqrstuvwxyz")) (callMM F__law_take 0 (consM (ret (.int 26)) (ret []))))))
noncomputable def g__law_name : M Fl :=
  (seqM (setM 1 (ret (.str "")))
  (seqM (forS (bind (bin addD (ret (.int 1)) (callMM F__law_take 0 (consM (ret (.int 8)) (ret [])))) itR) (tgtN 2) b__law_name_1)
  (retM (rd 1))))
noncomputable def F__law_name : List D → List D → Option (D × List D) := mkM 1 ["_law_hand_here", "_law_text", "_law_turn"] g__law_name
noncomputable def b__law_names_1 : M Fl :=
  (seqM (setM 4 (callMM F__law_name 0 (ret [])))
  (seqM (iteF (blM (inM false 2 (rd 4))) (setM 4 (bin ixD (lstD (lcM [5] (bind (lstM (consM (ret (.str "q")) (consM (ret (.str "r")) (consM (ret (.str "s")) (consM (ret (.str "t")) (ret [])))))) itA) (tgtN 5) (blM (inM true 2 (rd 5))) (rd 5))) (ret (.int 0)))) (ret .nx))
  (appM 2 (rd 4))))
noncomputable def g__law_names : M Fl :=
  (seqM (setL 2 (ret []))
  (seqM (forS (bind (rd 1) itR) (tgtN 3) b__law_names_1)
  (retM (rd 2))))
noncomputable def F__law_names : List D → List D → Option (D × List D) := mkM 2 ["_law_hand_here", "_law_many", "_law_names_here", "_law_turn", "_law_name_here", "_law_near"] g__law_names
noncomputable def g__law_world : M Fl :=
  (retM (lstM (consM (callMM F__law_names 0 (consM (ret (.int 3)) (ret []))) (consM (callMM F__law_names 0 (consM (ret (.int 2)) (ret []))) (ret [])))))
noncomputable def F__law_world : List D → List D → Option (D × List D) := mkM 1 ["_law_hand_here"] g__law_world
noncomputable def g__law_date : M Fl :=
  (retM (iteM (blM (bin eqD (callMM F__law_take 0 (consM (ret (.int 8)) (ret []))) (ret (.int 0)))) (bin subD (callMM F__law_take 0 (consM (bin mulD (ret (.int 2)) (bin powD (ret (.int 10)) (ret (.int 12)))) (ret []))) (bin powD (ret (.int 10)) (ret (.int 12)))) (bin subD (callMM F__law_take 0 (consM (ret (.int 17)) (ret []))) (ret (.int 3)))))
noncomputable def F__law_date : List D → List D → Option (D × List D) := mkM 1 ["_law_hand_here"] g__law_date
noncomputable def g__law_situation : M Fl :=
  (seqM (setM 2 (bin ixD (rd 1) (ret (.int 0))))
  (retM (tupM (consM (bin ixD (rd 2) (callMM F__law_take 0 (consM (bind (consM (rd 2) (ret [])) lenD) (ret [])))) (consM (bin ixD (rd 2) (callMM F__law_take 0 (consM (bind (consM (rd 2) (ret [])) lenD) (ret [])))) (consM (callMM F__law_date 0 (ret [])) (consM (bin ixD (bin ixD (rd 1) (ret (.int 1))) (callMM F__law_take 0 (consM (bind (consM (bin ixD (rd 1) (ret (.int 1))) (ret [])) lenD) (ret [])))) (ret []))))))))
noncomputable def F__law_situation : List D → List D → Option (D × List D) := mkM 2 ["_law_hand_here", "_law_world_here", "_law_names_here"] g__law_situation
noncomputable def g__law_whole : M Fl :=
  (retM (andV (isiM "int" (rd 0)) (notV (isiM "bool" (rd 0)))))
noncomputable def F__law_whole : List D → Fr D := mkP 1 ["_law_thing"] g__law_whole
noncomputable def g__law_unlike : M Fl :=
  (retM (iteM (truM (rd 1)) (bin notNonD (rd 0) (ret (.bl true))) (bin notNonD (rd 0) (ret (.bl false)))))
noncomputable def F__law_unlike : List D → Fr D := mkP 2 ["_law_told", "_law_due_here"] g__law_unlike
noncomputable def g__law_letters : M Fl :=
  (retM (andV (isiM "str" (rd 0)) (andV (chain ltD ltD (ret (.int 0)) (bind (consM (rd 0) (ret [])) lenD) (ret (.int 9))) (bind (consM (lstD (lcM [1] (bind (rd 0) itA) (tgtN 1) (ret true) (bin inD (rd 1) (ret (.str "abcdefghijklmnopqrstuvwxyz"))))) (ret [])) allC))))
noncomputable def F__law_letters : List D → Fr D := mkP 1 ["_law_thing", "_law_sign"] g__law_letters
noncomputable def g__law_tongue_tried : M Fl :=
  (seqM (unpM (tgtT 4 (tgsCons (tgtN 1) (tgsCons (tgtN 2) (tgsCons (tgtN 3) (tgsCons (tgtN 4) tgsNil))))) (rd 0))
  (seqM (tryM (fun c => c == "BadTongue") (setM 5 (bind (consM (rd 1) (consM (rd 2) (consM (rd 3) (consM (rd 4) (ret []))))) (callI "Tongue" F_Tongue))) (retM (ret (.str "refused"))))
  (retM (rd 5))))
noncomputable def F__law_tongue_tried : List D → Fr D := mkP 1 ["_law_shifts", "_law_person", "_law_you", "_law_today", "_law_here", "_law_told"] g__law_tongue_tried
noncomputable def g_Situation : M Fl :=
  (seqM (iteF (notM (truM (bind (consM (rd 1) (ret [])) (callF F_is_name)))) (raise1M "BadSituation" "what" (ret (.str "teller"))) (ret .nx))
  (seqM (iteF (notM (truM (bind (consM (rd 2) (ret [])) (callF F_is_name)))) (raise1M "BadSituation" "what" (ret (.str "hearer"))) (ret .nx))
  (seqM (iteF (notM (truM (bind (consM (rd 3) (ret [])) (callF F_is_whole)))) (raise1M "BadSituation" "what" (ret (.str "day"))) (ret .nx))
  (seqM (iteF (notM (truM (bind (consM (rd 4) (ret [])) (callF F_is_name)))) (raise1M "BadSituation" "what" (ret (.str "place"))) (ret .nx))
  (seqM (fldS fc_teller 0 "teller" (rd 1))
  (seqM (fldS fc_hearer 0 "hearer" (rd 2))
  (seqM (fldS fc_day 0 "day" (rd 3))
  (fldS fc_place 0 "place" (rd 4)))))))))
noncomputable def F_Situation : List D → Fr (List (Str × D)) := mkI 5 ["self", "teller", "hearer", "day", "place"] "Situation" g_Situation
noncomputable def g__law_tried : M Fl :=
  (seqM (unpM (tgtT 4 (tgsCons (tgtN 1) (tgsCons (tgtN 2) (tgsCons (tgtN 3) (tgsCons (tgtN 4) tgsNil))))) (rd 0))
  (seqM (tryAsM 6 (fun c => c == "BadSituation") (setM 5 (bind (consM (rd 1) (consM (rd 2) (consM (rd 3) (consM (rd 4) (ret []))))) (callI "Situation" F_Situation))) (fun a dd c => (retM (xfM 6 a dd c "what"))))
  (retM (rd 5))))
noncomputable def F__law_tried : List D → Fr D := mkP 1 ["_law_args", "_law_teller", "_law_hearer", "_law_day", "_law_place", "_law_told", "raised"] g__law_tried
noncomputable def g_Situation_moved : M Fl :=
  (seqM (iteF (notM (truM (bind (consM (rd 1) (ret [])) (callF F_is_whole)))) (raise1M "BadSituation" "what" (ret (.str "day"))) (ret .nx))
  (retM (bind (consM (fldM fc_teller "teller" (rd 0)) (consM (fldM fc_hearer "hearer" (rd 0)) (consM (bin addD (fldM fc_day "day" (rd 0)) (rd 1)) (consM (fldM fc_place "place" (rd 0)) (ret []))))) (callI "Situation" F_Situation))))
noncomputable def F_Situation_moved : List D → Fr D := mkP 2 ["self", "days"] g_Situation_moved
noncomputable def g__law_moved : M Fl :=
  (seqM (tryAsM 3 (fun c => c == "BadSituation") (setM 2 (callT "Situation" "moved" F_Situation_moved (rd 0) (consM (rd 1) (ret [])))) (fun a dd c => (retM (xfM 3 a dd c "what"))))
  (retM (rd 2)))
noncomputable def F__law_moved : List D → Fr D := mkP 2 ["_law_situation_here", "_law_days", "_law_told", "raised"] g__law_moved
noncomputable def g_Situation_exchanged : M Fl :=
  (seqM (setM 3 (bind (consM (fldM fc_teller "teller" (rd 0)) (consM (rd 1) (consM (rd 2) (ret [])))) (callF F_exchange_name)))
  (seqM (setM 4 (bind (consM (fldM fc_hearer "hearer" (rd 0)) (consM (rd 1) (consM (rd 2) (ret [])))) (callF F_exchange_name)))
  (retM (bind (consM (rd 3) (consM (rd 4) (consM (fldM fc_day "day" (rd 0)) (consM (fldM fc_place "place" (rd 0)) (ret []))))) (callI "Situation" F_Situation)))))
noncomputable def F_Situation_exchanged : List D → Fr D := mkP 3 ["self", "one", "other", "teller", "hearer"] g_Situation_exchanged
noncomputable def g__law_exchanged : M Fl :=
  (seqM (tryAsM 4 (fun c => c == "BadSituation") (setM 3 (callT "Situation" "exchanged" F_Situation_exchanged (rd 0) (consM (rd 1) (consM (rd 2) (ret []))))) (fun a dd c => (retM (xfM 4 a dd c "what"))))
  (retM (rd 3)))
noncomputable def F__law_exchanged : List D → Fr D := mkP 3 ["_law_situation_here", "_law_one", "_law_other_here", "_law_told", "raised"] g__law_exchanged
noncomputable def g__law_name_exchanged : M Fl :=
  (seqM (tryAsM 4 (fun c => c == "BadSituation") (setM 3 (bind (consM (rd 0) (consM (rd 1) (consM (rd 2) (ret [])))) (callF F_exchange_name))) (fun a dd c => (retM (lstM (consM (ret (.str "no")) (consM (xfM 4 a dd c "what") (ret [])))))))
  (retM (rd 3)))
noncomputable def F__law_name_exchanged : List D → Fr D := mkP 3 ["_law_name_here", "_law_one", "_law_other_here", "_law_told", "raised"] g__law_name_exchanged
noncomputable def g__law_parts : M Fl :=
  (retM (tupM (consM (fldM fc_teller "teller" (rd 0)) (consM (fldM fc_hearer "hearer" (rd 0)) (consM (fldM fc_day "day" (rd 0)) (consM (fldM fc_place "place" (rd 0)) (ret [])))))))
noncomputable def F__law_parts : List D → Fr D := mkP 1 ["_law_situation_here"] g__law_parts
noncomputable def g__law_other : M Fl :=
  (seqM (iteF (blM (bin eqD (rd 0) (rd 1))) (retM (rd 2)) (ret .nx))
  (retM (iteM (blM (bin eqD (rd 0) (rd 2))) (rd 1) (rd 0))))
noncomputable def F__law_other : List D → Fr D := mkP 3 ["_law_name_here", "_law_one", "_law_other_here"] g__law_other
noncomputable def g_Tongue_eq : M Fl :=
  (retM (andV (isiCM clsL "Tongue" (rd 1)) (bin eqD (fldM fc_shifts "shifts" (rd 0)) (fldM fc_shifts "shifts" (rd 1)))))
noncomputable def F_Tongue_eq : List D → Fr D := mkP 2 ["self", "other"] g_Tongue_eq
noncomputable def g_Situation_eq : M Fl :=
  (retM (andV (isiCM clsL "Situation" (rd 1)) (andV (bin eqD (fldM fc_teller "teller" (rd 0)) (fldM fc_teller "teller" (rd 1))) (andV (bin eqD (fldM fc_hearer "hearer" (rd 0)) (fldM fc_hearer "hearer" (rd 1))) (andV (bin eqD (fldM fc_day "day" (rd 0)) (fldM fc_day "day" (rd 1))) (bin eqD (fldM fc_place "place" (rd 0)) (fldM fc_place "place" (rd 1))))))))
noncomputable def F_Situation_eq : List D → Fr D := mkP 2 ["self", "other"] g_Situation_eq
noncomputable def etab : ETab := [("Tongue", F_Tongue_eq), ("Situation", F_Situation_eq)]
noncomputable def b__law_tongues_right_1 : M Fl :=
  (iteF (orM (truM (bind (consM (bin (eqX etab) (rd 3) (rd 7)) (consM (bin eqD (rd 6) (rd 2)) (ret []))) (callF F__law_unlike))) (truM (bind (consM (bin (neX etab) (rd 3) (rd 7)) (consM (bin neD (rd 6) (rd 2)) (ret []))) (callF F__law_unlike)))) (retM (ret (.bl false))) (ret .nx))
noncomputable def b__law_tongues_right_2 : M Fl :=
  (seqM (setM 4 (tupM (consM (bin geD (rd 2) (ret (.int 8))) (consM (bin eqD (bin modD (bind (consM (bin fdivD (rd 2) (ret (.int 4))) (ret [])) intC) (ret (.int 2))) (ret (.int 1))) (consM (bin eqD (bin modD (bind (consM (bin fdivD (rd 2) (ret (.int 2))) (ret [])) intC) (ret (.int 2))) (ret (.int 1))) (consM (bin eqD (bin modD (bind (consM (rd 2) (ret [])) intC) (ret (.int 2))) (ret (.int 1))) (ret [])))))))
  (seqM (setM 5 (tupM (consM (fldM fc_shifts_person "shifts_person" (rd 3)) (consM (fldM fc_shifts_you "shifts_you" (rd 3)) (consM (fldM fc_shifts_today "shifts_today" (rd 3)) (consM (fldM fc_shifts_here "shifts_here" (rd 3)) (ret [])))))))
  (seqM (iteF (orM (blM (bin neD (rd 5) (rd 4))) (orM (blM (bin neD (fldM fc_shifts "shifts" (rd 3)) (rd 4))) (orM (notM (truM (isiM "tuple" (fldM fc_shifts "shifts" (rd 3))))) (notM (truM (bind (consM (lstD (lcM [9] (bind (bin addD (rd 5) (fldM fc_shifts "shifts" (rd 3))) itA) (tgtN 9) (ret true) (isiM "bool" (rd 9)))) (ret [])) allC)))))) (retM (ret (.bl false))) (ret .nx))
  (seqM (forS (bind (rd 1) itE) (tgtT 2 (tgsCons (tgtN 6) (tgsCons (tgtN 7) tgsNil))) b__law_tongues_right_1)
  (seqM (iteF (orM (blM (bin (neX etab) (bind (consM (rd 4) (ret [])) (callF F__law_tongue_tried)) (rd 3))) (blM (bin (eqX etab) (rd 3) (rd 4)))) (retM (ret (.bl false))) (ret .nx))
  (seqM (setC 8 (bind (rd 4) fun d => listO [d]))
  (seqM (setIx 8 (bin ixD (lstM (consM (ret (.int 0)) (consM (ret (.int 1)) (consM (ret .non) (consM (ret (.str "True")) (consM (tupM (consM (ret (.bl true)) (ret []))) (consM (un negD (ret (.int 1))) (ret [])))))))) (callMM F__law_take 0 (consM (ret (.int 6)) (ret [])))) (callMM F__law_take 0 (consM (ret (.int 4)) (ret []))))
  (iteF (blM (bin neD (bind (consM (rd 8) (ret [])) (callF F__law_tongue_tried)) (ret (.str "refused")))) (retM (ret (.bl false))) (ret .nx)))))))))
noncomputable def g__law_tongues_right : M Fl :=
  (seqM (setM 1 (bind (ret []) (callF F_all_tongues)))
  (seqM (iteF (orM (notM (truM (isiM "tuple" (rd 1)))) (blM (bin neD (bind (consM (rd 1) (ret [])) lenD) (ret (.int 16))))) (retM (ret (.bl false))) (ret .nx))
  (seqM (forS (bind (rd 1) itE) (tgtT 2 (tgsCons (tgtN 2) (tgsCons (tgtN 3) tgsNil))) b__law_tongues_right_2)
  (retM (ret (.bl true))))))
noncomputable def F__law_tongues_right : List D → List D → Option (D × List D) := mkM 1 ["_law_hand_here", "_law_tongues", "_law_number", "_law_tongue", "_law_due_here", "_law_told", "_law_place", "_law_other_here", "_law_spoilt", "_law_shift"] g__law_tongues_right
noncomputable def b__law_due_1 : M Fl :=
  (iteF (notM (iteM (blM (bin eqD (rd 1) (ret (.int 2)))) (truM (bind (consM (bin ixD (rd 0) (rd 1)) (ret [])) (callF F__law_whole))) (truM (bind (consM (bin ixD (rd 0) (rd 1)) (ret [])) (callF F__law_letters))))) (retM (rd 2)) (ret .nx))
noncomputable def g__law_due : M Fl :=
  (seqM (forS (bind (lstM (consM (ret (.str "teller")) (consM (ret (.str "hearer")) (consM (ret (.str "day")) (consM (ret (.str "place")) (ret [])))))) itE) (tgtT 2 (tgsCons (tgtN 1) (tgsCons (tgtN 2) tgsNil))) b__law_due_1)
  (retM (ret .non)))
noncomputable def F__law_due : List D → Fr D := mkP 1 ["_law_args", "_law_place", "_law_what"] g__law_due
noncomputable def b_law_1 : M Fl :=
  (iteF (orM (blM (bin neD (bind (consM (rd 5) (consM (bin ixD (rd 14) (ret (.int 0))) (consM (bin ixD (rd 14) (ret (.int 1))) (ret [])))) (callF F__law_exchanged)) (ret (.str "name")))) (blM (bin neD (bind (consM (rd 9) (consM (bin ixD (rd 14) (ret (.int 0))) (consM (bin ixD (rd 14) (ret (.int 1))) (ret [])))) (callF F__law_name_exchanged)) (lstM (consM (ret (.str "no")) (consM (ret (.str "name")) (ret []))))))) (retM (ret (.bl false))) (ret .nx))
noncomputable def b_law_2 : M Fl :=
  (iteF (blM (bin neD (bind (consM (rd 12) (consM (rd 9) (consM (rd 10) (ret [])))) (callF F__law_name_exchanged)) (bind (consM (rd 12) (consM (rd 9) (consM (rd 10) (ret [])))) (callF F__law_other)))) (retM (ret (.bl false))) (ret .nx))
noncomputable def b_law_3 : M Fl :=
  (setIx 15 (bin ixD (lstM (consM (ret .non) (consM (ret (.bl true)) (consM (ret (.str "")) (consM (bin addD (bin ixD (rd 4) (ret (.int 0))) (ret (.str "abcdefgh"))) (consM (callMM F__law_name 1 (ret [])) (consM (ret (.int 7)) (consM (bin addD (bin ixD (rd 4) (ret (.int 1))) (ret (.str "A"))) (consM (lstM (consM (bin ixD (rd 4) (ret (.int 0))) (ret []))) (consM (bin subD (ret (.int 1)) (bin ixD (rd 4) (ret (.int 2)))) (ret []))))))))))) (callMM F__law_take 1 (consM (ret (.int 9)) (ret [])))) (rd 16))
noncomputable def b_law_4 : M Fl :=
  (seqM (setC 15 (bind (rd 4) fun d => listO [d]))
  (seqM (forS (bind (lstM (consM (callMM F__law_take 1 (consM (ret (.int 4)) (ret []))) (consM (callMM F__law_take 1 (consM (ret (.int 4)) (ret []))) (ret [])))) itA) (tgtN 16) b_law_3)
  (seqM (setM 17 (bind (consM (rd 15) (ret [])) (callF F__law_due)))
  (seqM (setM 11 (bind (consM (rd 15) (ret [])) (callF F__law_tried)))
  (iteF (blM (bin notNonD (rd 17) (ret .non))) (iteF (blM (bin neD (rd 11) (rd 17))) (retM (ret (.bl false))) (ret .nx)) (iteF (orM (notM (truM (isiCM clsL "Situation" (rd 11)))) (orM (blM (bin neD (bind (consM (rd 11) (ret [])) (callF F__law_parts)) (bind (consM (rd 15) (ret [])) tupleC))) (truM (bind (consM (bin (eqX etab) (rd 11) (rd 5)) (consM (bin eqD (bind (consM (rd 15) (ret [])) tupleC) (bind (consM (rd 4) (ret [])) tupleC)) (ret []))) (callF F__law_unlike))))) (retM (ret (.bl false))) (ret .nx)))))))
noncomputable def b_law_5 : M Fl :=
  (seqM (setM 4 (callMM F__law_situation 1 (consM (rd 2) (ret []))))
  (seqM (iteF (blM (bin eqD (rd 3) (ret (.int 1)))) (setM 4 (tupM (consM (callMM F__law_name 1 (ret [])) (consM (callMM F__law_name 1 (ret [])) (consM (bin subD (callMM F__law_take 1 (consM (bin mulD (ret (.int 2)) (bin powD (ret (.int 10)) (ret (.int 40)))) (ret []))) (bin powD (ret (.int 10)) (ret (.int 40)))) (consM (callMM F__law_name 1 (ret [])) (ret []))))))) (ret .nx))
  (seqM (setM 5 (bind (consM (rd 4) (ret [])) (callF F__law_tried)))
  (seqM (iteF (orM (notM (truM (isiCM clsL "Situation" (rd 5)))) (orM (blM (bin neD (bind (consM (rd 5) (ret [])) (callF F__law_parts)) (bind (consM (rd 4) (ret [])) tupleC))) (notM (truM (bind (consM (fldM fc_day "day" (rd 5)) (ret [])) (callF F__law_whole)))))) (retM (ret (.bl false))) (ret .nx))
  (seqM (forS (bind (ret (.int 3)) itR) (tgtN 6) b_law_4)
  (seqM (setM 7 (bin ixD (lstM (consM (bin subD (callMM F__law_take 1 (consM (ret (.int 41)) (ret []))) (ret (.int 20))) (consM (bin subD (callMM F__law_take 1 (consM (bin mulD (ret (.int 2)) (bin powD (ret (.int 10)) (ret (.int 40)))) (ret []))) (bin powD (ret (.int 10)) (ret (.int 40)))) (consM (ret (.int 0)) (ret []))))) (callMM F__law_take 1 (consM (ret (.int 3)) (ret [])))))
  (seqM (setM 8 (bind (consM (rd 5) (consM (rd 7) (ret []))) (callF F__law_moved)))
  (seqM (iteF (orM (blM (bin neD (bind (consM (rd 8) (ret [])) (callF F__law_parts)) (tupM (consM (bin ixD (rd 4) (ret (.int 0))) (consM (bin ixD (rd 4) (ret (.int 1))) (consM (bin addD (bin ixD (rd 4) (ret (.int 2))) (rd 7)) (consM (bin ixD (rd 4) (ret (.int 3))) (ret [])))))))) (blM (bin (neX etab) (bind (consM (rd 8) (consM (un negD (rd 7)) (ret []))) (callF F__law_moved)) (rd 5)))) (retM (ret (.bl false))) (ret .nx))
  (seqM (iteF (blM (bin neD (bind (consM (rd 5) (consM (bin ixD (lstM (consM (ret .non) (consM (ret (.bl true)) (consM (ret (.str "1")) (consM (tupM (consM (ret (.int 1)) (ret []))) (ret [])))))) (callMM F__law_take 1 (consM (ret (.int 4)) (ret [])))) (ret []))) (callF F__law_moved)) (ret (.str "day")))) (retM (ret (.bl false))) (ret .nx))
  (seqM (setM 9 (bin ixD (bin addD (bind (consM (slM (rd 4) (ret none) (intO (ret (.int 2)))) (ret [])) listC) (bind (consM (bin ixD (rd 2) (ret (.int 0))) (ret [])) listC)) (callMM F__law_take 1 (consM (ret (.int 5)) (ret [])))))
  (seqM (setM 10 (bin ixD (bin addD (bind (consM (slM (rd 4) (ret none) (intO (ret (.int 2)))) (ret [])) listC) (lstM (consM (callMM F__law_name 1 (ret [])) (ret [])))) (callMM F__law_take 1 (consM (ret (.int 3)) (ret [])))))
  (seqM (setM 11 (bind (consM (rd 5) (consM (rd 9) (consM (rd 10) (ret [])))) (callF F__law_exchanged)))
  (seqM (iteF (blM (bin neD (bind (consM (rd 11) (ret [])) (callF F__law_parts)) (tupM (consM (bind (consM (bin ixD (rd 4) (ret (.int 0))) (consM (rd 9) (consM (rd 10) (ret [])))) (callF F__law_other)) (consM (bind (consM (bin ixD (rd 4) (ret (.int 1))) (consM (rd 9) (consM (rd 10) (ret [])))) (callF F__law_other)) (consM (bin ixD (rd 4) (ret (.int 2))) (consM (bin ixD (rd 4) (ret (.int 3))) (ret [])))))))) (retM (ret (.bl false))) (ret .nx))
  (seqM (iteF (orM (blM (bin (neX etab) (bind (consM (rd 11) (consM (rd 9) (consM (rd 10) (ret [])))) (callF F__law_exchanged)) (rd 5))) (orM (blM (bin (neX etab) (bind (consM (rd 5) (consM (rd 10) (consM (rd 9) (ret [])))) (callF F__law_exchanged)) (rd 11))) (blM (bin neD (bind (consM (rd 5) (ret [])) (callF F__law_parts)) (bind (consM (rd 4) (ret [])) tupleC))))) (retM (ret (.bl false))) (ret .nx))
  (seqM (forS (bind (lstM (consM (rd 9) (consM (rd 10) (consM (callMM F__law_name 1 (ret [])) (consM (bin ixD (rd 4) (ret (.int 0))) (ret [])))))) itA) (tgtN 12) b_law_2)
  (seqM (setM 13 (bin ixD (lstM (consM (ret .non) (consM (ret (.str "")) (consM (bin addD (rd 9) (ret (.str "abcdefgh"))) (consM (ret (.int 3)) (consM (ret (.str "Ann")) (consM (ret (.bl true)) (ret [])))))))) (callMM F__law_take 1 (consM (ret (.int 6)) (ret [])))))
  (forS (bind (lstM (consM (tupM (consM (rd 13) (consM (rd 10) (ret [])))) (consM (tupM (consM (rd 9) (consM (rd 13) (ret [])))) (consM (tupM (consM (rd 13) (consM (rd 13) (ret [])))) (ret []))))) itA) (tgtN 14) b_law_1)))))))))))))))))
noncomputable def g_law : M Fl :=
  (seqM (setC 1 (bind (consM (rd 0) (ret [])) (callO F__law_hand)))
  (seqM (iteF (notM (truM (callMM F__law_tongues_right 1 (ret [])))) (retM (ret (.bl false))) (ret .nx))
  (seqM (setM 2 (callMM F__law_world 1 (ret [])))
  (seqM (forS (bind (ret (.int 5)) itR) (tgtN 3) b_law_5)
  (retM (ret (.bl true)))))))
noncomputable def F_law : List D → Fr D := mkP 1 ["_law_script", "_law_hand_here", "_law_world_here", "_law_turn", "_law_args", "_law_situation_here", "_law_again", "_law_days", "_law_moved_here", "_law_one", "_law_other_here", "_law_told", "_law_name_here", "_law_bad", "_law_pair", "_law_spoilt", "_law_spot", "_law_due_here"] g_law
end K05

set_option Elab.async false
set_option linter.all false
set_option maxRecDepth 100000
set_option maxHeartbeats 2000000
namespace K05
open PySem PySem.Spec PyProof.Rows L2 De
open PySem.W (Frag)

def errs : List Str := ["BadTongue", "BadSituation", "Tongue", "Situation"]
def cmOf (mg : Str → Option Value) : Str → Option Addr := fun c => if c ∈ errs then (match mg c with | some (.ref a) => some a | _ => none) else none
structure Facts (P : Program) (w : World) (K : Frag) (mg : Str → Option Value) (base : Heap) : Prop where
  blt : Blt mg
  e_BadTongue : ∃ C fI fd, mg "BadTongue" = some (.ref C) ∧ (∃ st, SupX.SupC P K C fI "BadTongue.__init__" st fd) ∧ cmOf mg "BadTongue" = some C ∧ (∀ c' C', cmOf mg c' = some C' → PySem.W.exmOne K (.ref C') (.ref C) = some (c' == "BadTongue")) ∧ L2.Binds K fd ["self"] [] ∧ FnOk P w K mg base (L2.CX P w) 1 fI fd ["self"] (spE0 C)
  e_BadSituation : ∃ C fI fd, mg "BadSituation" = some (.ref C) ∧ (∃ st, SupX.SupC P K C fI "BadSituation.__init__" st fd) ∧ cmOf mg "BadSituation" = some C ∧ (∀ c' C', cmOf mg c' = some C' → PySem.W.exmOne K (.ref C') (.ref C) = some (c' == "BadSituation")) ∧ L2.Binds K fd ["self", "what"] [] ∧ FnOk P w K mg base (L2.CX P w) 1 fI fd ["self", "what"] (spE1 C "what")
  xf_BadSituation_what : ∀ (c : Str) C, (c == ("BadSituation" : Str)) = true → cmOf mg c = some C → XfC K C ∧ PySem.W.findIn K (.ref C) "what" = some none
  i_Tongue : ∃ C f fd, mg "Tongue" = some (.ref C) ∧ cmOf mg "Tongue" = some C ∧ Mk K C f ∧ L2.Binds K fd ["self", "person", "you", "today", "here"] [] ∧ Fun K "__init__" "Tongue.__init__" init_Tongue f fd
  k_Tongue : ClsE K mg (cmOf mg) clsL "Tongue"
  i_Situation : ∃ C f fd, mg "Situation" = some (.ref C) ∧ cmOf mg "Situation" = some C ∧ Mk K C f ∧ L2.Binds K fd ["self", "teller", "hearer", "day", "place"] [] ∧ Fun K "__init__" "Situation.__init__" init_Situation f fd
  k_Situation : ClsE K mg (cmOf mg) clsL "Situation"
  q_Tongue_eq : ∃ C f fd, cmOf mg "Tongue" = some C ∧ PySem.W.findIn K (.ref C) "__eq__" = some (some (.ref f)) ∧ PySem.W.isFn K (.ref f) = true ∧ L2.Binds K fd ["self", "other"] [] ∧ Fun K "__eq__" "Tongue.__eq__" meth_Tongue_eq f fd ∧ PySem.W.findIn K (.ref C) "__ne__" = some (some (.builtin "object.__ne__")) ∧ PySem.W.mroIn K C (.type "object") = some true
  q_Situation_eq : ∃ C f fd, cmOf mg "Situation" = some C ∧ PySem.W.findIn K (.ref C) "__eq__" = some (some (.ref f)) ∧ PySem.W.isFn K (.ref f) = true ∧ L2.Binds K fd ["self", "other"] [] ∧ Fun K "__eq__" "Situation.__eq__" meth_Situation_eq f fd ∧ PySem.W.findIn K (.ref C) "__ne__" = some (some (.builtin "object.__ne__")) ∧ PySem.W.mroIn K C (.type "object") = some true
  m_Situation_moved : ∃ C f fd, cmOf mg "Situation" = some C ∧ Cls K C ∧ Meth K C "moved" f ∧ L2.Binds K fd ["self", "days"] [] ∧ Fun K "moved" "Situation.moved" meth_Situation_moved f fd
  m_Situation_exchanged : ∃ C f fd, cmOf mg "Situation" = some C ∧ Cls K C ∧ Meth K C "exchanged" f ∧ L2.Binds K fd ["self", "one", "other"] [] ∧ Fun K "exchanged" "Situation.exchanged" meth_Situation_exchanged f fd
  fl_shifts_person : ∀ c ∈ fc_shifts_person, ∀ C, cmOf mg c = some C → Cls K C ∧ NoAttr K C "shifts_person"
  fl_shifts_you : ∀ c ∈ fc_shifts_you, ∀ C, cmOf mg c = some C → Cls K C ∧ NoAttr K C "shifts_you"
  fl_shifts_today : ∀ c ∈ fc_shifts_today, ∀ C, cmOf mg c = some C → Cls K C ∧ NoAttr K C "shifts_today"
  fl_shifts_here : ∀ c ∈ fc_shifts_here, ∀ C, cmOf mg c = some C → Cls K C ∧ NoAttr K C "shifts_here"
  fl_shifts : ∀ c ∈ fc_shifts, ∀ C, cmOf mg c = some C → Cls K C ∧ NoAttr K C "shifts"
  fl_teller : ∀ c ∈ fc_teller, ∀ C, cmOf mg c = some C → Cls K C ∧ NoAttr K C "teller"
  fl_hearer : ∀ c ∈ fc_hearer, ∀ C, cmOf mg c = some C → Cls K C ∧ NoAttr K C "hearer"
  fl_day : ∀ c ∈ fc_day, ∀ C, cmOf mg c = some C → Cls K C ∧ NoAttr K C "day"
  fl_place : ∀ c ∈ fc_place, ∀ C, cmOf mg c = some C → Cls K C ∧ NoAttr K C "place"
  c_LETTERS : ∃ u, mg "LETTERS" = some u ∧ RelV (.str "abcdefghijklmnopqrstuvwxyz") u
  f_is_whole : FunE K mg "is_whole" (topS 6)
  f_is_name : FunE K mg "is_name" (topS 7)
  f_all_tongues : FunE K mg "all_tongues" (topS 10)
  f_check_names : FunE K mg "check_names" (topS 11)
  f_exchange_name : FunE K mg "exchange_name" (topS 12)
  f__law_hand : FunE K mg "_law_hand" (topS 15)
  f__law_mixed : FunE K mg "_law_mixed" (topS 16)
  f__law_take : FunE K mg "_law_take" (topS 17)
  f__law_name : FunE K mg "_law_name" (topS 18)
  f__law_names : FunE K mg "_law_names" (topS 19)
  f__law_world : FunE K mg "_law_world" (topS 20)
  f__law_date : FunE K mg "_law_date" (topS 21)
  f__law_situation : FunE K mg "_law_situation" (topS 22)
  f__law_whole : FunE K mg "_law_whole" (topS 23)
  f__law_unlike : FunE K mg "_law_unlike" (topS 24)
  f__law_letters : FunE K mg "_law_letters" (topS 25)
  f__law_tongue_tried : FunE K mg "_law_tongue_tried" (topS 26)
  f__law_tried : FunE K mg "_law_tried" (topS 27)
  f__law_moved : FunE K mg "_law_moved" (topS 28)
  f__law_exchanged : FunE K mg "_law_exchanged" (topS 29)
  f__law_name_exchanged : FunE K mg "_law_name_exchanged" (topS 30)
  f__law_parts : FunE K mg "_law_parts" (topS 31)
  f__law_other : FunE K mg "_law_other" (topS 32)
  f__law_tongues_right : FunE K mg "_law_tongues_right" (topS 33)
  f__law_due : FunE K mg "_law_due" (topS 34)
section
variable {P : Program} {w : World} {K : Frag} {mg : Str → Option Value} {base : Heap}
theorem sc_is_whole : FnScope ["thing"] ["thing"] (defScope (topS 6)) := ⟨rfl, rfl, rfl, by decide +kernel, rfl, by decide +kernel, by decide +kernel⟩
theorem own_is_whole (T : Facts P w K mg base) : Own P w K mg base "is_whole" 1 ["thing"] (spP K (cmOf mg) F_is_whole) := by
  refine ownP (g := g_is_whole) F_is_whole T.f_is_whole sc_is_whole mkP_len (fun _ _ _ _ _ _ us hl => match us, hl with | [_], _ => rfl) (fun f cdv A outer s H E hr => ?_) mkP_eq
  have tk : Takes (Bx P w K mg base ["thing"] "is_whole" (topS 6) f cdv A outer s H E) (WB E) := takes_of rfl rfl rfl rfl
  have po := poB (P := P) (w := w) (K := K) (mg := mg) (base := base) (N := ["thing"]) (x := "is_whole") (st := (topS 6)) (f := f) (cdv := cdv) (A := A) (outer := outer) (s := s) (H := H) (E := E)
  exact (sxs_one (sx_ret (ex_and (ex_isi "int" T.blt.isinstance T.blt.int (by decide +kernel) (ex_rd 0)) (ex_one (ex_not (ex_isi "bool" T.blt.isinstance T.blt.bool (by decide +kernel) (ex_rd 0)))))))
theorem sc_is_name : FnScope ["thing", "sign"] ["thing"] (defScope (topS 7)) := ⟨rfl, rfl, rfl, by decide +kernel, rfl, by decide +kernel, by decide +kernel⟩
theorem own_is_name (T : Facts P w K mg base) : Own P w K mg base "is_name" 1 ["thing"] (spP K (cmOf mg) F_is_name) := by
  obtain ⟨_, g_LETTERS, r_LETTERS⟩ := T.c_LETTERS
  refine ownP (g := g_is_name) F_is_name T.f_is_name sc_is_name mkP_len (fun _ _ _ _ _ _ us hl => match us, hl with | [_], _ => rfl) (fun f cdv A outer s H E hr => ?_) mkP_eq
  have tk : Takes (Bx P w K mg base ["thing", "sign"] "is_name" (topS 7) f cdv A outer s H E) (WB E) := takes_of rfl rfl rfl rfl
  have po := poB (P := P) (w := w) (K := K) (mg := mg) (base := base) (N := ["thing", "sign"]) (x := "is_name") (st := (topS 7)) (f := f) (cdv := cdv) (A := A) (outer := outer) (s := s) (H := H) (E := E)
  exact (sxs_cons (sx_if (tx_w (wx_or (tx_not (tx_tru (ex_isi "str" T.blt.isinstance T.blt.str (by decide +kernel) (ex_rd 0)))) (wx_or1 (tx_not (tx_chain op_le opd_le op_le opd_le ex_int (ex_callB call_len cd_len T.blt.len (by decide +kernel) (exs_cons (ex_rd 0) exs_nil)) ex_int))))) (sxs_one (sx_ret ex_bl)) sxs_nil)
      (sxs_one (sx_ret (ex_callB (cr_all rfl) cd_all T.blt.all (by decide +kernel) (exs_cons (ex_lx (lx_comp [("sign", 1)] sc_is_name.nd (ix_any (ex_rd 0)) (by rfl) (fun _ _ _ _ _ => (gx_name 1 sc_is_name.nd)) (by decide) (nx_name 1) (fun _ _ _ _ _ => txs_nil) (fun _ _ _ _ _ => (ex_cmp (or_in (room65 hr)) opd_in (ex_rd 1) (ex_glob g_LETTERS r_LETTERS (fun _ _ => .str _)))))) exs_nil)))))
theorem sc_Tongue : FnScope ["self", "person", "you", "today", "here", "shifts", "shift"] ["self", "person", "you", "today", "here"] (defScope init_Tongue) := ⟨rfl, rfl, rfl, by decide +kernel, rfl, by decide +kernel, by decide +kernel⟩
theorem own_Tongue (T : Facts P w K mg base) : OwnI P w K mg base (cmOf mg) "Tongue" 3 ["self", "person", "you", "today", "here"] F_Tongue := by
  obtain ⟨_, _, _, g_BadTongue, ⟨_, e_BadTongue⟩, c_BadTongue, cat_BadTongue, b_BadTongue, F_BadTongue⟩ := T.e_BadTongue
  obtain ⟨C, f, fd, hm, hc, M, hb, F1⟩ := T.i_Tongue
  refine ⟨C, f, fd, hm, hc, M, hb, fnI (g := g_Tongue) F1 sc_Tongue F_Tongue mkI_len (fun cdv A outer s H E hr => ?_) mkI_eq⟩
  have tk : Takes (Bx P w K mg base ["self", "person", "you", "today", "here", "shifts", "shift"] "Tongue.__init__" init_Tongue f cdv A outer s H E) (WB E) := takes_of rfl rfl rfl rfl
  have po := poB (P := P) (w := w) (K := K) (mg := mg) (base := base) (N := ["self", "person", "you", "today", "here", "shifts", "shift"]) (x := "Tongue.__init__") (st := init_Tongue) (f := f) (cdv := cdv) (A := A) (outer := outer) (s := s) (H := H) (E := E)
  exact (sxs_cons (sx_set 5 sc_Tongue.nd (ex_tup (exs_cons (ex_rd 1) (exs_cons (ex_rd 2) (exs_cons (ex_rd 3) (exs_cons (ex_rd 4) exs_nil))))))
      (sxs_cons (sx_if (tx_not (tx_tru (ex_callB (cr_all rfl) cd_all T.blt.all (by decide +kernel) (exs_cons (ex_lx (lx_comp [("shift", 6)] sc_Tongue.nd (ix_any (ex_rd 5)) (by rfl) (fun _ _ _ _ _ => (gx_name 6 sc_Tongue.nd)) (by decide) (nx_name 6) (fun _ _ _ _ _ => txs_nil) (fun _ _ _ _ _ => (ex_isi "bool" T.blt.isinstance T.blt.bool (by decide +kernel) (ex_rd 6))))) exs_nil)))) (sxs_one (sx_raise0 (c := "BadTongue") e_BadTongue F_BadTongue (hr.mono (by decide)) b_BadTongue g_BadTongue c_BadTongue tk)) sxs_nil)
      (sxs_cons (sx_fldS 0 T.fl_shifts_person (ex_rd 1))
      (sxs_cons (sx_fldS 0 T.fl_shifts_you (ex_rd 2))
      (sxs_cons (sx_fldS 0 T.fl_shifts_today (ex_rd 3))
      (sxs_cons (sx_fldS 0 T.fl_shifts_here (ex_rd 4))
      (sxs_one (sx_fldS 0 T.fl_shifts (ex_rd 5)))))))))
theorem sc_all_tongues : FnScope ["truths", "person", "you", "today", "here"] [] (defScope (topS 10)) := ⟨rfl, rfl, rfl, by decide +kernel, rfl, by decide +kernel, by decide +kernel⟩
theorem own_all_tongues (T : Facts P w K mg base) (O_Tongue : OwnI P w K mg base (cmOf mg) "Tongue" 3 ["self", "person", "you", "today", "here"] F_Tongue) : Own P w K mg base "all_tongues" 5 [] (spP K (cmOf mg) F_all_tongues) := by
  refine ownP (g := g_all_tongues) F_all_tongues T.f_all_tongues sc_all_tongues mkP_len (fun _ _ _ _ _ _ us hl => match us, hl with | [], _ => rfl) (fun f cdv A outer s H E hr => ?_) mkP_eq
  have tk : Takes (Bx P w K mg base ["truths", "person", "you", "today", "here"] "all_tongues" (topS 10) f cdv A outer s H E) (WB E) := takes_of rfl rfl rfl rfl
  have po := poB (P := P) (w := w) (K := K) (mg := mg) (base := base) (N := ["truths", "person", "you", "today", "here"]) (x := "all_tongues") (st := (topS 10)) (f := f) (cdv := cdv) (A := A) (outer := outer) (s := s) (H := H) (E := E)
  exact (sxs_cons (sx_set 0 sc_all_tongues.nd (ex_tup (exs_cons ex_bl (exs_cons ex_bl exs_nil))))
      (sxs_one (sx_ret (ex_callTy call_tuple_of cd_tuple T.blt.tuple (by decide +kernel) (exs_cons (ex_lx (lx_comp4 [("person", 1), ("you", 2), ("today", 3), ("here", 4)] [2, 3, 4] [3, 4] [4] sc_all_tongues.nd (ix_any (ex_rd 0)) (by rfl) (fun _ _ _ _ _ => (ix_any (ex_rd 0))) (fun _ _ _ _ _ => (ix_any (ex_rd 0))) (fun _ _ _ _ _ => (ix_any (ex_rd 0))) (fun _ _ _ _ _ => (gx_name 1 sc_all_tongues.nd)) (fun _ _ _ _ _ => (gx_name 2 sc_all_tongues.nd)) (fun _ _ _ _ _ => (gx_name 3 sc_all_tongues.nd)) (fun _ _ _ _ _ => (gx_name 4 sc_all_tongues.nd)) (fun _ _ _ _ _ => (ex_make O_Tongue hr (by decide) takes0 (exs_cons (ex_rd 1) (exs_cons (ex_rd 2) (exs_cons (ex_rd 3) (exs_cons (ex_rd 4) exs_nil)))))) (by decide) (by decide))) exs_nil)))))
theorem sc_check_names : FnScope ["one", "other"] ["one", "other"] (defScope (topS 11)) := ⟨rfl, rfl, rfl, by decide +kernel, rfl, by decide +kernel, by decide +kernel⟩
theorem own_check_names (T : Facts P w K mg base) (O_is_name : Own P w K mg base "is_name" 1 ["thing"] (spP K (cmOf mg) F_is_name)) : Own P w K mg base "check_names" 3 ["one", "other"] (spP K (cmOf mg) F_check_names) := by
  obtain ⟨_, _, _, g_BadSituation, ⟨_, e_BadSituation⟩, c_BadSituation, cat_BadSituation, b_BadSituation, F_BadSituation⟩ := T.e_BadSituation
  refine ownP (g := g_check_names) F_check_names T.f_check_names sc_check_names mkP_len (fun _ _ _ _ _ _ us hl => match us, hl with | [_, _], _ => rfl) (fun f cdv A outer s H E hr => ?_) mkP_eq
  have tk : Takes (Bx P w K mg base ["one", "other"] "check_names" (topS 11) f cdv A outer s H E) (WB E) := takes_of rfl rfl rfl rfl
  have po := poB (P := P) (w := w) (K := K) (mg := mg) (base := base) (N := ["one", "other"]) (x := "check_names") (st := (topS 11)) (f := f) (cdv := cdv) (A := A) (outer := outer) (s := s) (H := H) (E := E)
  exact (sxs_one (sx_if (tx_w (wx_or (tx_not (tx_tru (ex_own O_is_name hr (by decide) tk (exs_cons (ex_rd 0) exs_nil)))) (wx_or1 (tx_not (tx_tru (ex_own O_is_name hr (by decide) tk (exs_cons (ex_rd 1) exs_nil))))))) (sxs_one (sx_raise1 (c := "BadSituation") (f := "what") e_BadSituation F_BadSituation (hr.mono (by decide)) b_BadSituation g_BadSituation c_BadSituation tk ex_str)) sxs_nil))
theorem sc_exchange_name : FnScope ["name", "one", "other"] ["name", "one", "other"] (defScope (topS 12)) := ⟨rfl, rfl, rfl, by decide +kernel, rfl, by decide +kernel, by decide +kernel⟩
theorem own_exchange_name (T : Facts P w K mg base) (O_check_names : Own P w K mg base "check_names" 3 ["one", "other"] (spP K (cmOf mg) F_check_names)) : Own P w K mg base "exchange_name" 4 ["name", "one", "other"] (spP K (cmOf mg) F_exchange_name) := by
  refine ownP (g := g_exchange_name) F_exchange_name T.f_exchange_name sc_exchange_name mkP_len (fun _ _ _ _ _ _ us hl => match us, hl with | [_, _, _], _ => rfl) (fun f cdv A outer s H E hr => ?_) mkP_eq
  have tk : Takes (Bx P w K mg base ["name", "one", "other"] "exchange_name" (topS 12) f cdv A outer s H E) (WB E) := takes_of rfl rfl rfl rfl
  have po := poB (P := P) (w := w) (K := K) (mg := mg) (base := base) (N := ["name", "one", "other"]) (x := "exchange_name") (st := (topS 12)) (f := f) (cdv := cdv) (A := A) (outer := outer) (s := s) (H := H) (E := E)
  exact (sxs_cons (sx_expr (ex_own O_check_names hr (by decide) tk (exs_cons (ex_rd 1) (exs_cons (ex_rd 2) exs_nil))))
      (sxs_cons (sx_if (tx_cmp (or_eq hr.units) opd_eq (ex_rd 0) (ex_rd 1)) (sxs_one (sx_ret (ex_rd 2))) sxs_nil)
      (sxs_cons (sx_if (tx_cmp (or_eq hr.units) opd_eq (ex_rd 0) (ex_rd 2)) (sxs_one (sx_ret (ex_rd 1))) sxs_nil)
      (sxs_one (sx_ret (ex_rd 0))))))
theorem sc__law_hand : FnScope ["_law_script", "_law_total", "_law_cells", "_law_cell"] ["_law_script"] (defScope (topS 15)) := ⟨rfl, rfl, rfl, by decide +kernel, rfl, by decide +kernel, by decide +kernel⟩
theorem own__law_hand (T : Facts P w K mg base) : Own P w K mg base "_law_hand" 1 ["_law_script"] (spO K (cmOf mg) F__law_hand) := by
  refine ownO (g := g__law_hand) F__law_hand T.f__law_hand sc__law_hand mkO_len (fun _ _ _ _ _ _ us hl => match us, hl with | [_], _ => rfl) (fun f cdv A outer s H E hr => ?_) mkO_eq
  have tk : Takes (Bx P w K mg base ["_law_script", "_law_total", "_law_cells", "_law_cell"] "_law_hand" (topS 15) f cdv A outer s H E) (WB E) := takes_of rfl rfl rfl rfl
  have po := poB (P := P) (w := w) (K := K) (mg := mg) (base := base) (N := ["_law_script", "_law_total", "_law_cells", "_law_cell"]) (x := "_law_hand") (st := (topS 15)) (f := f) (cdv := cdv) (A := A) (outer := outer) (s := s) (H := H) (E := E)
  exact (sxs_cons (sx_set 1 sc__law_hand.nd (ex_op or_add opd_add (ex_callB call_len cd_len T.blt.len (by decide +kernel) (exs_cons (ex_rd 0) exs_nil)) ex_int))
      (sxs_cons (sx_setL 2 sc__law_hand.nd exs_nil)
      (sxs_cons (sx_for (ix_any (ex_rd 0)) (gx_name 3 sc__law_hand.nd) (nx_name 3) (sxs_cons (sx_set 1 sc__law_hand.nd (ex_op op_mod opd_mod (ex_callTy call_int1 cd_int T.blt.int (by decide +kernel) (exs_cons (ex_op or_add opd_add (ex_op or_mul opd_mul (ex_rd 1) ex_int) (ex_callTy call_int1 cd_int T.blt.int (by decide +kernel) (exs_cons (ex_rd 3) exs_nil))) exs_nil)) ex_int))
        (sxs_one (sx_app 2 (ex_if (tx_cmp op_ge opd_ge (ex_rd 3) ex_int) (ex_callTy call_int1 cd_int T.blt.int (by decide +kernel) (exs_cons (ex_rd 3) exs_nil)) (ex_un un_neg und_neg (ex_callTy call_int1 cd_int T.blt.int (by decide +kernel) (exs_cons (ex_rd 3) exs_nil))))))) po)
      (sxs_one (sx_retL (exs_cons (ex_rd 2) (exs_cons ex_int (exs_cons ex_int (exs_cons (ex_rd 1) exs_nil)))))))))
theorem sc__law_mixed : FnScope ["_law_number", "_law_turn", "_law_once", "_law_twice"] ["_law_number", "_law_turn"] (defScope (topS 16)) := ⟨rfl, rfl, rfl, by decide +kernel, rfl, by decide +kernel, by decide +kernel⟩
theorem own__law_mixed (T : Facts P w K mg base) : Own P w K mg base "_law_mixed" 1 ["_law_number", "_law_turn"] (spP K (cmOf mg) F__law_mixed) := by
  refine ownP (g := g__law_mixed) F__law_mixed T.f__law_mixed sc__law_mixed mkP_len (fun _ _ _ _ _ _ us hl => match us, hl with | [_, _], _ => rfl) (fun f cdv A outer s H E hr => ?_) mkP_eq
  have tk : Takes (Bx P w K mg base ["_law_number", "_law_turn", "_law_once", "_law_twice"] "_law_mixed" (topS 16) f cdv A outer s H E) (WB E) := takes_of rfl rfl rfl rfl
  have po := poB (P := P) (w := w) (K := K) (mg := mg) (base := base) (N := ["_law_number", "_law_turn", "_law_once", "_law_twice"]) (x := "_law_mixed") (st := (topS 16)) (f := f) (cdv := cdv) (A := A) (outer := outer) (s := s) (H := H) (E := E)
  exact (sxs_cons (sx_set 2 sc__law_mixed.nd (ex_op op_mod opd_mod (ex_callTy call_int1 cd_int T.blt.int (by decide +kernel) (exs_cons (ex_op or_add opd_add (ex_op or_add opd_add (ex_op or_mul opd_mul (ex_rd 0) ex_int) (ex_op or_mul opd_mul (ex_rd 1) ex_int)) ex_int) exs_nil)) ex_int))
      (sxs_cons (sx_set 3 sc__law_mixed.nd (ex_op op_mod opd_mod (ex_callTy call_int1 cd_int T.blt.int (by decide +kernel) (exs_cons (ex_op or_add opd_add (ex_op or_add opd_add (ex_op or_mul opd_mul (ex_rd 2) (ex_rd 2)) (ex_op or_mul opd_mul (ex_rd 1) ex_int)) (ex_op op_fdivW opd_fdiv (ex_rd 2) ex_int)) exs_nil)) ex_int))
      (sxs_one (sx_ret (ex_op op_fdivW opd_fdiv (ex_callTy call_int1 cd_int T.blt.int (by decide +kernel) (exs_cons (ex_op op_mod opd_mod (ex_callTy call_int1 cd_int T.blt.int (by decide +kernel) (exs_cons (ex_op or_add opd_add (ex_op or_mul opd_mul (ex_rd 3) ex_int) (ex_op op_fdivW opd_fdiv (ex_rd 2) ex_int)) exs_nil)) ex_int) exs_nil)) ex_int)))))
theorem sc__law_take : FnScope ["_law_hand_here", "_law_many", "_law_cell", "_law_rest"] ["_law_hand_here", "_law_many"] (defScope (topS 17)) := ⟨rfl, rfl, rfl, by decide +kernel, rfl, by decide +kernel, by decide +kernel⟩
theorem own__law_take (T : Facts P w K mg base) (O__law_mixed : Own P w K mg base "_law_mixed" 1 ["_law_number", "_law_turn"] (spP K (cmOf mg) F__law_mixed)) : Own P w K mg base "_law_take" 2 ["_law_hand_here", "_law_many"] (spM K (cmOf mg) F__law_take) := by
  refine ownM (g := g__law_take) F__law_take T.f__law_take sc__law_take mkM_len (fun _ _ _ _ _ _ us hl => match us, hl with | [_, _], _ => rfl) (fun f cdv A outer s H E hr => ?_) mkM_eq
  have tk : Takes (Bx P w K mg base ["_law_hand_here", "_law_many", "_law_cell", "_law_rest"] "_law_take" (topS 17) f cdv A outer s H E) (WB E) := takes_of rfl rfl rfl rfl
  have po := poB (P := P) (w := w) (K := K) (mg := mg) (base := base) (N := ["_law_hand_here", "_law_many", "_law_cell", "_law_rest"]) (x := "_law_take") (st := (topS 17)) (f := f) (cdv := cdv) (A := A) (outer := outer) (s := s) (H := H) (E := E)
  exact (sxs_cons (sx_if (tx_w (wx_and (tx_cmp (or_eq hr.units) opd_eq (ex_hix 0 ex_int) ex_int) (wx_and1 (tx_cmp op_lt opd_lt (ex_hix 0 ex_int) (ex_callB call_len cd_len T.blt.len (by decide +kernel) (exs_cons (ex_hix 0 ex_int) exs_nil)))))) (sxs_cons (sx_set 2 sc__law_take.nd (ex_ix (ex_hix 0 ex_int) (ex_hix 0 ex_int)))
        (sxs_cons (sx_setIx 0 (ex_op or_add opd_add (ex_hix 0 ex_int) ex_int) ex_int)
        (sxs_cons (sx_if (tx_cmp op_lt opd_lt (ex_rd 2) (ex_op op_pow opd_pow ex_int ex_int)) (sxs_one (sx_ret (ex_op op_mod opd_mod (ex_callTy call_int1 cd_int T.blt.int (by decide +kernel) (exs_cons (ex_own O__law_mixed hr (by decide) tk (exs_cons (ex_op op_mod opd_mod (ex_callTy call_int1 cd_int T.blt.int (by decide +kernel) (exs_cons (ex_rd 2) exs_nil)) ex_int) (exs_cons (ex_hix 0 ex_int) exs_nil))) exs_nil)) (ex_rd 1)))) sxs_nil)
        (sxs_one (sx_setIx 0 (ex_rd 2) ex_int))))) sxs_nil)
      (sxs_cons (sx_if (tx_cmp op_gt opd_gt (ex_hix 0 ex_int) ex_int) (sxs_cons (sx_set 3 sc__law_take.nd (ex_hix 0 ex_int))
        (sxs_cons (sx_setIx 0 (ex_op op_fdivW opd_fdiv (ex_callTy call_int1 cd_int T.blt.int (by decide +kernel) (exs_cons (ex_rd 3) exs_nil)) (ex_rd 1)) ex_int)
        (sxs_one (sx_ret (ex_op op_mod opd_mod (ex_callTy call_int1 cd_int T.blt.int (by decide +kernel) (exs_cons (ex_rd 3) exs_nil)) (ex_rd 1)))))) sxs_nil)
      (sxs_cons (sx_setIx 0 (ex_op op_mod opd_mod (ex_callTy call_int1 cd_int T.blt.int (by decide +kernel) (exs_cons (ex_op or_add opd_add (ex_hix 0 ex_int) ex_int) exs_nil)) ex_int) ex_int)
      (sxs_one (sx_ret (ex_op op_mod opd_mod (ex_callTy call_int1 cd_int T.blt.int (by decide +kernel) (exs_cons (ex_own O__law_mixed hr (by decide) tk (exs_cons (ex_hix 0 ex_int) (exs_cons (ex_hix 0 ex_int) exs_nil))) exs_nil)) (ex_rd 1)))))))
theorem sc__law_name : FnScope ["_law_hand_here", "_law_text", "_law_turn"] ["_law_hand_here"] (defScope (topS 18)) := ⟨rfl, rfl, rfl, by decide +kernel, rfl, by decide +kernel, by decide +kernel⟩
theorem own__law_name (T : Facts P w K mg base) (O__law_take : Own P w K mg base "_law_take" 2 ["_law_hand_here", "_law_many"] (spM K (cmOf mg) F__law_take)) : Own P w K mg base "_law_name" 3 ["_law_hand_here"] (spM K (cmOf mg) F__law_name) := by
  refine ownM (g := g__law_name) F__law_name T.f__law_name sc__law_name mkM_len (fun _ _ _ _ _ _ us hl => match us, hl with | [_], _ => rfl) (fun f cdv A outer s H E hr => ?_) mkM_eq
  have tk : Takes (Bx P w K mg base ["_law_hand_here", "_law_text", "_law_turn"] "_law_name" (topS 18) f cdv A outer s H E) (WB E) := takes_of rfl rfl rfl rfl
  have po := poB (P := P) (w := w) (K := K) (mg := mg) (base := base) (N := ["_law_hand_here", "_law_text", "_law_turn"]) (x := "_law_name") (st := (topS 18)) (f := f) (cdv := cdv) (A := A) (outer := outer) (s := s) (H := H) (E := E)
  exact (sxs_cons (sx_set 1 sc__law_name.nd ex_str)
      (sxs_cons (sx_for (ix_range1 (ex_op or_add opd_add ex_int (ex_ownM 0 O__law_take hr (by decide) tk (exs_cons ex_int exs_nil))) T.blt.range) (gx_name 2 sc__law_name.nd) (nx_name 2) (sxs_one (sx_set 1 sc__law_name.nd (ex_op or_add opd_add (ex_rd 1) (ex_ix ex_str (ex_ownM 0 O__law_take hr (by decide) tk (exs_cons ex_int exs_nil)))))) po)
      (sxs_one (sx_ret (ex_rd 1)))))
theorem sc__law_names : FnScope ["_law_hand_here", "_law_many", "_law_names_here", "_law_turn", "_law_name_here", "_law_near"] ["_law_hand_here", "_law_many"] (defScope (topS 19)) := ⟨rfl, rfl, rfl, by decide +kernel, rfl, by decide +kernel, by decide +kernel⟩
theorem own__law_names (T : Facts P w K mg base) (O__law_name : Own P w K mg base "_law_name" 3 ["_law_hand_here"] (spM K (cmOf mg) F__law_name)) : Own P w K mg base "_law_names" 4 ["_law_hand_here", "_law_many"] (spM K (cmOf mg) F__law_names) := by
  refine ownM (g := g__law_names) F__law_names T.f__law_names sc__law_names mkM_len (fun _ _ _ _ _ _ us hl => match us, hl with | [_, _], _ => rfl) (fun f cdv A outer s H E hr => ?_) mkM_eq
  have tk : Takes (Bx P w K mg base ["_law_hand_here", "_law_many", "_law_names_here", "_law_turn", "_law_name_here", "_law_near"] "_law_names" (topS 19) f cdv A outer s H E) (WB E) := takes_of rfl rfl rfl rfl
  have po := poB (P := P) (w := w) (K := K) (mg := mg) (base := base) (N := ["_law_hand_here", "_law_many", "_law_names_here", "_law_turn", "_law_name_here", "_law_near"]) (x := "_law_names") (st := (topS 19)) (f := f) (cdv := cdv) (A := A) (outer := outer) (s := s) (H := H) (E := E)
  exact (sxs_cons (sx_setL 2 sc__law_names.nd exs_nil)
      (sxs_cons (sx_for (ix_range1 (ex_rd 1) T.blt.range) (gx_name 3 sc__law_names.nd) (nx_name 3) (sxs_cons (sx_set 4 sc__law_names.nd (ex_ownM 0 O__law_name hr (by decide) tk exs_nil))
        (sxs_cons (sx_if (tx_inM 2 (ex_rd 4)) (sxs_one (sx_set 4 sc__law_names.nd (ex_ix (ex_lx (lx_comp [("_law_near", 5)] sc__law_names.nd (ix_any (ex_lst (exs_cons ex_str (exs_cons ex_str (exs_cons ex_str (exs_cons ex_str exs_nil)))))) (by rfl) (fun _ _ _ _ _ => (gx_name 5 sc__law_names.nd)) (by decide) (nx_name 5) (fun _ _ _ _ _ => (txs_one (tx_notinM 2 (ex_rd 5)))) (fun _ _ _ _ _ => (ex_rd 5)))) ex_int))) sxs_nil)
        (sxs_one (sx_app 2 (ex_rd 4))))) po)
      (sxs_one (sx_ret (ex_rd 2)))))
theorem sc__law_world : FnScope ["_law_hand_here"] ["_law_hand_here"] (defScope (topS 20)) := ⟨rfl, rfl, rfl, by decide +kernel, rfl, by decide +kernel, by decide +kernel⟩
theorem own__law_world (T : Facts P w K mg base) (O__law_names : Own P w K mg base "_law_names" 4 ["_law_hand_here", "_law_many"] (spM K (cmOf mg) F__law_names)) : Own P w K mg base "_law_world" 5 ["_law_hand_here"] (spM K (cmOf mg) F__law_world) := by
  refine ownM (g := g__law_world) F__law_world T.f__law_world sc__law_world mkM_len (fun _ _ _ _ _ _ us hl => match us, hl with | [_], _ => rfl) (fun f cdv A outer s H E hr => ?_) mkM_eq
  have tk : Takes (Bx P w K mg base ["_law_hand_here"] "_law_world" (topS 20) f cdv A outer s H E) (WB E) := takes_of rfl rfl rfl rfl
  have po := poB (P := P) (w := w) (K := K) (mg := mg) (base := base) (N := ["_law_hand_here"]) (x := "_law_world") (st := (topS 20)) (f := f) (cdv := cdv) (A := A) (outer := outer) (s := s) (H := H) (E := E)
  exact (sxs_one (sx_ret (ex_lst (exs_cons (ex_ownM 0 O__law_names hr (by decide) tk (exs_cons ex_int exs_nil)) (exs_cons (ex_ownM 0 O__law_names hr (by decide) tk (exs_cons ex_int exs_nil)) exs_nil)))))
theorem sc__law_date : FnScope ["_law_hand_here"] ["_law_hand_here"] (defScope (topS 21)) := ⟨rfl, rfl, rfl, by decide +kernel, rfl, by decide +kernel, by decide +kernel⟩
theorem own__law_date (T : Facts P w K mg base) (O__law_take : Own P w K mg base "_law_take" 2 ["_law_hand_here", "_law_many"] (spM K (cmOf mg) F__law_take)) : Own P w K mg base "_law_date" 3 ["_law_hand_here"] (spM K (cmOf mg) F__law_date) := by
  refine ownM (g := g__law_date) F__law_date T.f__law_date sc__law_date mkM_len (fun _ _ _ _ _ _ us hl => match us, hl with | [_], _ => rfl) (fun f cdv A outer s H E hr => ?_) mkM_eq
  have tk : Takes (Bx P w K mg base ["_law_hand_here"] "_law_date" (topS 21) f cdv A outer s H E) (WB E) := takes_of rfl rfl rfl rfl
  have po := poB (P := P) (w := w) (K := K) (mg := mg) (base := base) (N := ["_law_hand_here"]) (x := "_law_date") (st := (topS 21)) (f := f) (cdv := cdv) (A := A) (outer := outer) (s := s) (H := H) (E := E)
  exact (sxs_one (sx_ret (ex_if (tx_cmp (or_eq hr.units) opd_eq (ex_ownM 0 O__law_take hr (by decide) tk (exs_cons ex_int exs_nil)) ex_int) (ex_op op_sub opd_sub (ex_ownM 0 O__law_take hr (by decide) tk (exs_cons (ex_op or_mul opd_mul ex_int (ex_op op_pow opd_pow ex_int ex_int)) exs_nil)) (ex_op op_pow opd_pow ex_int ex_int)) (ex_op op_sub opd_sub (ex_ownM 0 O__law_take hr (by decide) tk (exs_cons ex_int exs_nil)) ex_int))))
theorem sc__law_situation : FnScope ["_law_hand_here", "_law_world_here", "_law_names_here"] ["_law_hand_here", "_law_world_here"] (defScope (topS 22)) := ⟨rfl, rfl, rfl, by decide +kernel, rfl, by decide +kernel, by decide +kernel⟩
theorem own__law_situation (T : Facts P w K mg base) (O__law_take : Own P w K mg base "_law_take" 2 ["_law_hand_here", "_law_many"] (spM K (cmOf mg) F__law_take)) (O__law_date : Own P w K mg base "_law_date" 3 ["_law_hand_here"] (spM K (cmOf mg) F__law_date)) : Own P w K mg base "_law_situation" 4 ["_law_hand_here", "_law_world_here"] (spM K (cmOf mg) F__law_situation) := by
  refine ownM (g := g__law_situation) F__law_situation T.f__law_situation sc__law_situation mkM_len (fun _ _ _ _ _ _ us hl => match us, hl with | [_, _], _ => rfl) (fun f cdv A outer s H E hr => ?_) mkM_eq
  have tk : Takes (Bx P w K mg base ["_law_hand_here", "_law_world_here", "_law_names_here"] "_law_situation" (topS 22) f cdv A outer s H E) (WB E) := takes_of rfl rfl rfl rfl
  have po := poB (P := P) (w := w) (K := K) (mg := mg) (base := base) (N := ["_law_hand_here", "_law_world_here", "_law_names_here"]) (x := "_law_situation") (st := (topS 22)) (f := f) (cdv := cdv) (A := A) (outer := outer) (s := s) (H := H) (E := E)
  exact (sxs_cons (sx_set 2 sc__law_situation.nd (ex_ix (ex_rd 1) ex_int))
      (sxs_one (sx_ret (ex_tup (exs_cons (ex_ix (ex_rd 2) (ex_ownM 0 O__law_take hr (by decide) tk (exs_cons (ex_callB call_len cd_len T.blt.len (by decide +kernel) (exs_cons (ex_rd 2) exs_nil)) exs_nil))) (exs_cons (ex_ix (ex_rd 2) (ex_ownM 0 O__law_take hr (by decide) tk (exs_cons (ex_callB call_len cd_len T.blt.len (by decide +kernel) (exs_cons (ex_rd 2) exs_nil)) exs_nil))) (exs_cons (ex_ownM 0 O__law_date hr (by decide) tk exs_nil) (exs_cons (ex_ix (ex_ix (ex_rd 1) ex_int) (ex_ownM 0 O__law_take hr (by decide) tk (exs_cons (ex_callB call_len cd_len T.blt.len (by decide +kernel) (exs_cons (ex_ix (ex_rd 1) ex_int) exs_nil)) exs_nil))) exs_nil))))))))
theorem sc__law_whole : FnScope ["_law_thing"] ["_law_thing"] (defScope (topS 23)) := ⟨rfl, rfl, rfl, by decide +kernel, rfl, by decide +kernel, by decide +kernel⟩
theorem own__law_whole (T : Facts P w K mg base) : Own P w K mg base "_law_whole" 1 ["_law_thing"] (spP K (cmOf mg) F__law_whole) := by
  refine ownP (g := g__law_whole) F__law_whole T.f__law_whole sc__law_whole mkP_len (fun _ _ _ _ _ _ us hl => match us, hl with | [_], _ => rfl) (fun f cdv A outer s H E hr => ?_) mkP_eq
  have tk : Takes (Bx P w K mg base ["_law_thing"] "_law_whole" (topS 23) f cdv A outer s H E) (WB E) := takes_of rfl rfl rfl rfl
  have po := poB (P := P) (w := w) (K := K) (mg := mg) (base := base) (N := ["_law_thing"]) (x := "_law_whole") (st := (topS 23)) (f := f) (cdv := cdv) (A := A) (outer := outer) (s := s) (H := H) (E := E)
  exact (sxs_one (sx_ret (ex_and (ex_isi "int" T.blt.isinstance T.blt.int (by decide +kernel) (ex_rd 0)) (ex_one (ex_not (ex_isi "bool" T.blt.isinstance T.blt.bool (by decide +kernel) (ex_rd 0)))))))
theorem sc__law_unlike : FnScope ["_law_told", "_law_due_here"] ["_law_told", "_law_due_here"] (defScope (topS 24)) := ⟨rfl, rfl, rfl, by decide +kernel, rfl, by decide +kernel, by decide +kernel⟩
theorem own__law_unlike (T : Facts P w K mg base) : Own P w K mg base "_law_unlike" 1 ["_law_told", "_law_due_here"] (spP K (cmOf mg) F__law_unlike) := by
  refine ownP (g := g__law_unlike) F__law_unlike T.f__law_unlike sc__law_unlike mkP_len (fun _ _ _ _ _ _ us hl => match us, hl with | [_, _], _ => rfl) (fun f cdv A outer s H E hr => ?_) mkP_eq
  have tk : Takes (Bx P w K mg base ["_law_told", "_law_due_here"] "_law_unlike" (topS 24) f cdv A outer s H E) (WB E) := takes_of rfl rfl rfl rfl
  have po := poB (P := P) (w := w) (K := K) (mg := mg) (base := base) (N := ["_law_told", "_law_due_here"]) (x := "_law_unlike") (st := (topS 24)) (f := f) (cdv := cdv) (A := A) (outer := outer) (s := s) (H := H) (E := E)
  exact (sxs_one (sx_ret (ex_if (tx_tru (ex_rd 1)) (ex_cmp or_isnot opd_isnot (ex_rd 0) ex_bl) (ex_cmp or_isnot opd_isnot (ex_rd 0) ex_bl))))
theorem sc__law_letters : FnScope ["_law_thing", "_law_sign"] ["_law_thing"] (defScope (topS 25)) := ⟨rfl, rfl, rfl, by decide +kernel, rfl, by decide +kernel, by decide +kernel⟩
theorem own__law_letters (T : Facts P w K mg base) : Own P w K mg base "_law_letters" 1 ["_law_thing"] (spP K (cmOf mg) F__law_letters) := by
  refine ownP (g := g__law_letters) F__law_letters T.f__law_letters sc__law_letters mkP_len (fun _ _ _ _ _ _ us hl => match us, hl with | [_], _ => rfl) (fun f cdv A outer s H E hr => ?_) mkP_eq
  have tk : Takes (Bx P w K mg base ["_law_thing", "_law_sign"] "_law_letters" (topS 25) f cdv A outer s H E) (WB E) := takes_of rfl rfl rfl rfl
  have po := poB (P := P) (w := w) (K := K) (mg := mg) (base := base) (N := ["_law_thing", "_law_sign"]) (x := "_law_letters") (st := (topS 25)) (f := f) (cdv := cdv) (A := A) (outer := outer) (s := s) (H := H) (E := E)
  exact (sxs_one (sx_ret (ex_and (ex_isi "str" T.blt.isinstance T.blt.str (by decide +kernel) (ex_rd 0)) (ex_and (ex_chain op_lt opd_lt op_lt opd_lt ex_int (ex_callB call_len cd_len T.blt.len (by decide +kernel) (exs_cons (ex_rd 0) exs_nil)) ex_int) (ex_one (ex_callB (cr_all rfl) cd_all T.blt.all (by decide +kernel) (exs_cons (ex_lx (lx_comp [("_law_sign", 1)] sc__law_letters.nd (ix_any (ex_rd 0)) (by rfl) (fun _ _ _ _ _ => (gx_name 1 sc__law_letters.nd)) (by decide) (nx_name 1) (fun _ _ _ _ _ => txs_nil) (fun _ _ _ _ _ => (ex_cmp (or_in (room65 hr)) opd_in (ex_rd 1) ex_str)))) exs_nil)))))))
theorem sc__law_tongue_tried : FnScope ["_law_shifts", "_law_person", "_law_you", "_law_today", "_law_here", "_law_told"] ["_law_shifts"] (defScope (topS 26)) := ⟨rfl, rfl, rfl, by decide +kernel, rfl, by decide +kernel, by decide +kernel⟩
theorem own__law_tongue_tried (T : Facts P w K mg base) (O_Tongue : OwnI P w K mg base (cmOf mg) "Tongue" 3 ["self", "person", "you", "today", "here"] F_Tongue) : Own P w K mg base "_law_tongue_tried" 5 ["_law_shifts"] (spP K (cmOf mg) F__law_tongue_tried) := by
  obtain ⟨_, _, _, g_BadTongue, ⟨_, e_BadTongue⟩, c_BadTongue, cat_BadTongue, b_BadTongue, F_BadTongue⟩ := T.e_BadTongue
  refine ownP (g := g__law_tongue_tried) F__law_tongue_tried T.f__law_tongue_tried sc__law_tongue_tried mkP_len (fun _ _ _ _ _ _ us hl => match us, hl with | [_], _ => rfl) (fun f cdv A outer s H E hr => ?_) mkP_eq
  have tk : Takes (Bx P w K mg base ["_law_shifts", "_law_person", "_law_you", "_law_today", "_law_here", "_law_told"] "_law_tongue_tried" (topS 26) f cdv A outer s H E) (WB E) := takes_of rfl rfl rfl rfl
  have po := poB (P := P) (w := w) (K := K) (mg := mg) (base := base) (N := ["_law_shifts", "_law_person", "_law_you", "_law_today", "_law_here", "_law_told"]) (x := "_law_tongue_tried") (st := (topS 26)) (f := f) (cdv := cdv) (A := A) (outer := outer) (s := s) (H := H) (E := E)
  exact (sxs_cons (sx_unp (gx_tup 4 (gxs_cons (gx_name 1 sc__law_tongue_tried.nd) (gxs_cons (gx_name 2 sc__law_tongue_tried.nd) (gxs_cons (gx_name 3 sc__law_tongue_tried.nd) (gxs_cons (gx_name 4 sc__law_tongue_tried.nd) gxs_nil))))) (nx_tup (nxs_cons (nx_name 1) (nxs_cons (nx_name 2) (nxs_cons (nx_name 3) (nxs_cons (nx_name 4) nxs_nil))))) (ex_rd 0))
      (sxs_cons (sx_try (fun c => c == "BadTongue") g_BadTongue cat_BadTongue tk (fun W' pn xe tk' po' => (sxs_one (sx_set 5 sc__law_tongue_tried.nd (ex_make O_Tongue hr (by decide) tk' (exs_cons (ex_rd 1) (exs_cons (ex_rd 2) (exs_cons (ex_rd 3) (exs_cons (ex_rd 4) exs_nil)))))))) (fun _ _ _ _ _ _ _ => (sxs_one (sx_ret ex_str))))
      (sxs_one (sx_ret (ex_rd 5)))))
theorem sc_Situation : FnScope ["self", "teller", "hearer", "day", "place"] ["self", "teller", "hearer", "day", "place"] (defScope init_Situation) := ⟨rfl, rfl, rfl, by decide +kernel, rfl, by decide +kernel, by decide +kernel⟩
theorem own_Situation (T : Facts P w K mg base) (O_is_whole : Own P w K mg base "is_whole" 1 ["thing"] (spP K (cmOf mg) F_is_whole)) (O_is_name : Own P w K mg base "is_name" 1 ["thing"] (spP K (cmOf mg) F_is_name)) : OwnI P w K mg base (cmOf mg) "Situation" 3 ["self", "teller", "hearer", "day", "place"] F_Situation := by
  obtain ⟨_, _, _, g_BadSituation, ⟨_, e_BadSituation⟩, c_BadSituation, cat_BadSituation, b_BadSituation, F_BadSituation⟩ := T.e_BadSituation
  obtain ⟨C, f, fd, hm, hc, M, hb, F1⟩ := T.i_Situation
  refine ⟨C, f, fd, hm, hc, M, hb, fnI (g := g_Situation) F1 sc_Situation F_Situation mkI_len (fun cdv A outer s H E hr => ?_) mkI_eq⟩
  have tk : Takes (Bx P w K mg base ["self", "teller", "hearer", "day", "place"] "Situation.__init__" init_Situation f cdv A outer s H E) (WB E) := takes_of rfl rfl rfl rfl
  have po := poB (P := P) (w := w) (K := K) (mg := mg) (base := base) (N := ["self", "teller", "hearer", "day", "place"]) (x := "Situation.__init__") (st := init_Situation) (f := f) (cdv := cdv) (A := A) (outer := outer) (s := s) (H := H) (E := E)
  exact (sxs_cons (sx_if (tx_not (tx_tru (ex_own O_is_name hr (by decide) tk (exs_cons (ex_rd 1) exs_nil)))) (sxs_one (sx_raise1 (c := "BadSituation") (f := "what") e_BadSituation F_BadSituation (hr.mono (by decide)) b_BadSituation g_BadSituation c_BadSituation tk ex_str)) sxs_nil)
      (sxs_cons (sx_if (tx_not (tx_tru (ex_own O_is_name hr (by decide) tk (exs_cons (ex_rd 2) exs_nil)))) (sxs_one (sx_raise1 (c := "BadSituation") (f := "what") e_BadSituation F_BadSituation (hr.mono (by decide)) b_BadSituation g_BadSituation c_BadSituation tk ex_str)) sxs_nil)
      (sxs_cons (sx_if (tx_not (tx_tru (ex_own O_is_whole hr (by decide) tk (exs_cons (ex_rd 3) exs_nil)))) (sxs_one (sx_raise1 (c := "BadSituation") (f := "what") e_BadSituation F_BadSituation (hr.mono (by decide)) b_BadSituation g_BadSituation c_BadSituation tk ex_str)) sxs_nil)
      (sxs_cons (sx_if (tx_not (tx_tru (ex_own O_is_name hr (by decide) tk (exs_cons (ex_rd 4) exs_nil)))) (sxs_one (sx_raise1 (c := "BadSituation") (f := "what") e_BadSituation F_BadSituation (hr.mono (by decide)) b_BadSituation g_BadSituation c_BadSituation tk ex_str)) sxs_nil)
      (sxs_cons (sx_fldS 0 T.fl_teller (ex_rd 1))
      (sxs_cons (sx_fldS 0 T.fl_hearer (ex_rd 2))
      (sxs_cons (sx_fldS 0 T.fl_day (ex_rd 3))
      (sxs_one (sx_fldS 0 T.fl_place (ex_rd 4))))))))))
theorem sc__law_tried : FnScope ["_law_args", "_law_teller", "_law_hearer", "_law_day", "_law_place", "_law_told", "raised"] ["_law_args"] (defScope (topS 27)) := ⟨rfl, rfl, rfl, by decide +kernel, rfl, by decide +kernel, by decide +kernel⟩
theorem own__law_tried (T : Facts P w K mg base) (O_Situation : OwnI P w K mg base (cmOf mg) "Situation" 3 ["self", "teller", "hearer", "day", "place"] F_Situation) : Own P w K mg base "_law_tried" 5 ["_law_args"] (spP K (cmOf mg) F__law_tried) := by
  obtain ⟨_, _, _, g_BadSituation, ⟨_, e_BadSituation⟩, c_BadSituation, cat_BadSituation, b_BadSituation, F_BadSituation⟩ := T.e_BadSituation
  refine ownP (g := g__law_tried) F__law_tried T.f__law_tried sc__law_tried mkP_len (fun _ _ _ _ _ _ us hl => match us, hl with | [_], _ => rfl) (fun f cdv A outer s H E hr => ?_) mkP_eq
  have tk : Takes (Bx P w K mg base ["_law_args", "_law_teller", "_law_hearer", "_law_day", "_law_place", "_law_told", "raised"] "_law_tried" (topS 27) f cdv A outer s H E) (WB E) := takes_of rfl rfl rfl rfl
  have po := poB (P := P) (w := w) (K := K) (mg := mg) (base := base) (N := ["_law_args", "_law_teller", "_law_hearer", "_law_day", "_law_place", "_law_told", "raised"]) (x := "_law_tried") (st := (topS 27)) (f := f) (cdv := cdv) (A := A) (outer := outer) (s := s) (H := H) (E := E)
  exact (sxs_cons (sx_unp (gx_tup 4 (gxs_cons (gx_name 1 sc__law_tried.nd) (gxs_cons (gx_name 2 sc__law_tried.nd) (gxs_cons (gx_name 3 sc__law_tried.nd) (gxs_cons (gx_name 4 sc__law_tried.nd) gxs_nil))))) (nx_tup (nxs_cons (nx_name 1) (nxs_cons (nx_name 2) (nxs_cons (nx_name 3) (nxs_cons (nx_name 4) nxs_nil))))) (ex_rd 0))
      (sxs_cons (sx_tryAs 6 (fun c => c == "BadSituation") sc__law_tried.nd g_BadSituation cat_BadSituation tk (fun W' pn xe tk' po' => (sxs_one (sx_set 5 sc__law_tried.nd (ex_make O_Situation hr (by decide) tk' (exs_cons (ex_rd 1) (exs_cons (ex_rd 2) (exs_cons (ex_rd 3) (exs_cons (ex_rd 4) exs_nil)))))))) (fun a oe C' d pn c hz hf hc hk => (sxs_one (sx_ret (ex_xf 6 (T.xf_BadSituation_what _ _ hk hc).1 (T.xf_BadSituation_what _ _ hk hc).2 hz hf)))))
      (sxs_one (sx_ret (ex_rd 5)))))
theorem sc_Situation_moved : FnScope ["self", "days"] ["self", "days"] (defScope meth_Situation_moved) := ⟨rfl, rfl, rfl, by decide +kernel, rfl, by decide +kernel, by decide +kernel⟩
theorem own_Situation_moved (T : Facts P w K mg base) (O_is_whole : Own P w K mg base "is_whole" 1 ["thing"] (spP K (cmOf mg) F_is_whole)) (O_Situation : OwnI P w K mg base (cmOf mg) "Situation" 3 ["self", "teller", "hearer", "day", "place"] F_Situation) : OwnT P w K mg base (cmOf mg) "Situation" "moved" 5 ["self", "days"] F_Situation_moved := by
  obtain ⟨_, _, _, g_BadSituation, ⟨_, e_BadSituation⟩, c_BadSituation, cat_BadSituation, b_BadSituation, F_BadSituation⟩ := T.e_BadSituation
  obtain ⟨C, f, fd, hc, hC, hM, hb, F1⟩ := T.m_Situation_moved
  refine ⟨C, f, fd, hc, hC, hM, hb, fnP (g := g_Situation_moved) F1 sc_Situation_moved F_Situation_moved mkP_len (fun cdv A outer s H E hr => ?_) mkP_eq⟩
  have tk : Takes (Bx P w K mg base ["self", "days"] "Situation.moved" meth_Situation_moved f cdv A outer s H E) (WB E) := takes_of rfl rfl rfl rfl
  have po := poB (P := P) (w := w) (K := K) (mg := mg) (base := base) (N := ["self", "days"]) (x := "Situation.moved") (st := meth_Situation_moved) (f := f) (cdv := cdv) (A := A) (outer := outer) (s := s) (H := H) (E := E)
  exact (sxs_cons (sx_if (tx_not (tx_tru (ex_own O_is_whole hr (by decide) tk (exs_cons (ex_rd 1) exs_nil)))) (sxs_one (sx_raise1 (c := "BadSituation") (f := "what") e_BadSituation F_BadSituation (hr.mono (by decide)) b_BadSituation g_BadSituation c_BadSituation tk ex_str)) sxs_nil)
      (sxs_one (sx_ret (ex_make O_Situation hr (by decide) tk (exs_cons (ex_fld T.fl_teller (ex_rd 0)) (exs_cons (ex_fld T.fl_hearer (ex_rd 0)) (exs_cons (ex_op or_add opd_add (ex_fld T.fl_day (ex_rd 0)) (ex_rd 1)) (exs_cons (ex_fld T.fl_place (ex_rd 0)) exs_nil))))))))
theorem sc__law_moved : FnScope ["_law_situation_here", "_law_days", "_law_told", "raised"] ["_law_situation_here", "_law_days"] (defScope (topS 28)) := ⟨rfl, rfl, rfl, by decide +kernel, rfl, by decide +kernel, by decide +kernel⟩
theorem own__law_moved (T : Facts P w K mg base) (O_Situation_moved : OwnT P w K mg base (cmOf mg) "Situation" "moved" 5 ["self", "days"] F_Situation_moved) : Own P w K mg base "_law_moved" 6 ["_law_situation_here", "_law_days"] (spP K (cmOf mg) F__law_moved) := by
  obtain ⟨_, _, _, g_BadSituation, ⟨_, e_BadSituation⟩, c_BadSituation, cat_BadSituation, b_BadSituation, F_BadSituation⟩ := T.e_BadSituation
  refine ownP (g := g__law_moved) F__law_moved T.f__law_moved sc__law_moved mkP_len (fun _ _ _ _ _ _ us hl => match us, hl with | [_, _], _ => rfl) (fun f cdv A outer s H E hr => ?_) mkP_eq
  have tk : Takes (Bx P w K mg base ["_law_situation_here", "_law_days", "_law_told", "raised"] "_law_moved" (topS 28) f cdv A outer s H E) (WB E) := takes_of rfl rfl rfl rfl
  have po := poB (P := P) (w := w) (K := K) (mg := mg) (base := base) (N := ["_law_situation_here", "_law_days", "_law_told", "raised"]) (x := "_law_moved") (st := (topS 28)) (f := f) (cdv := cdv) (A := A) (outer := outer) (s := s) (H := H) (E := E)
  exact (sxs_cons (sx_tryAs 3 (fun c => c == "BadSituation") sc__law_moved.nd g_BadSituation cat_BadSituation tk (fun W' pn xe tk' po' => (sxs_one (sx_set 2 sc__law_moved.nd (ex_callT O_Situation_moved hr (by decide) tk' (ex_rd 0) (exs_cons (ex_rd 1) exs_nil))))) (fun a oe C' d pn c hz hf hc hk => (sxs_one (sx_ret (ex_xf 3 (T.xf_BadSituation_what _ _ hk hc).1 (T.xf_BadSituation_what _ _ hk hc).2 hz hf)))))
      (sxs_one (sx_ret (ex_rd 2))))
theorem sc_Situation_exchanged : FnScope ["self", "one", "other", "teller", "hearer"] ["self", "one", "other"] (defScope meth_Situation_exchanged) := ⟨rfl, rfl, rfl, by decide +kernel, rfl, by decide +kernel, by decide +kernel⟩
theorem own_Situation_exchanged (T : Facts P w K mg base) (O_exchange_name : Own P w K mg base "exchange_name" 4 ["name", "one", "other"] (spP K (cmOf mg) F_exchange_name)) (O_Situation : OwnI P w K mg base (cmOf mg) "Situation" 3 ["self", "teller", "hearer", "day", "place"] F_Situation) : OwnT P w K mg base (cmOf mg) "Situation" "exchanged" 5 ["self", "one", "other"] F_Situation_exchanged := by
  obtain ⟨C, f, fd, hc, hC, hM, hb, F1⟩ := T.m_Situation_exchanged
  refine ⟨C, f, fd, hc, hC, hM, hb, fnP (g := g_Situation_exchanged) F1 sc_Situation_exchanged F_Situation_exchanged mkP_len (fun cdv A outer s H E hr => ?_) mkP_eq⟩
  have tk : Takes (Bx P w K mg base ["self", "one", "other", "teller", "hearer"] "Situation.exchanged" meth_Situation_exchanged f cdv A outer s H E) (WB E) := takes_of rfl rfl rfl rfl
  have po := poB (P := P) (w := w) (K := K) (mg := mg) (base := base) (N := ["self", "one", "other", "teller", "hearer"]) (x := "Situation.exchanged") (st := meth_Situation_exchanged) (f := f) (cdv := cdv) (A := A) (outer := outer) (s := s) (H := H) (E := E)
  exact (sxs_cons (sx_set 3 sc_Situation_exchanged.nd (ex_own O_exchange_name hr (by decide) tk (exs_cons (ex_fld T.fl_teller (ex_rd 0)) (exs_cons (ex_rd 1) (exs_cons (ex_rd 2) exs_nil)))))
      (sxs_cons (sx_set 4 sc_Situation_exchanged.nd (ex_own O_exchange_name hr (by decide) tk (exs_cons (ex_fld T.fl_hearer (ex_rd 0)) (exs_cons (ex_rd 1) (exs_cons (ex_rd 2) exs_nil)))))
      (sxs_one (sx_ret (ex_make O_Situation hr (by decide) tk (exs_cons (ex_rd 3) (exs_cons (ex_rd 4) (exs_cons (ex_fld T.fl_day (ex_rd 0)) (exs_cons (ex_fld T.fl_place (ex_rd 0)) exs_nil)))))))))
theorem sc__law_exchanged : FnScope ["_law_situation_here", "_law_one", "_law_other_here", "_law_told", "raised"] ["_law_situation_here", "_law_one", "_law_other_here"] (defScope (topS 29)) := ⟨rfl, rfl, rfl, by decide +kernel, rfl, by decide +kernel, by decide +kernel⟩
theorem own__law_exchanged (T : Facts P w K mg base) (O_Situation_exchanged : OwnT P w K mg base (cmOf mg) "Situation" "exchanged" 5 ["self", "one", "other"] F_Situation_exchanged) : Own P w K mg base "_law_exchanged" 6 ["_law_situation_here", "_law_one", "_law_other_here"] (spP K (cmOf mg) F__law_exchanged) := by
  obtain ⟨_, _, _, g_BadSituation, ⟨_, e_BadSituation⟩, c_BadSituation, cat_BadSituation, b_BadSituation, F_BadSituation⟩ := T.e_BadSituation
  refine ownP (g := g__law_exchanged) F__law_exchanged T.f__law_exchanged sc__law_exchanged mkP_len (fun _ _ _ _ _ _ us hl => match us, hl with | [_, _, _], _ => rfl) (fun f cdv A outer s H E hr => ?_) mkP_eq
  have tk : Takes (Bx P w K mg base ["_law_situation_here", "_law_one", "_law_other_here", "_law_told", "raised"] "_law_exchanged" (topS 29) f cdv A outer s H E) (WB E) := takes_of rfl rfl rfl rfl
  have po := poB (P := P) (w := w) (K := K) (mg := mg) (base := base) (N := ["_law_situation_here", "_law_one", "_law_other_here", "_law_told", "raised"]) (x := "_law_exchanged") (st := (topS 29)) (f := f) (cdv := cdv) (A := A) (outer := outer) (s := s) (H := H) (E := E)
  exact (sxs_cons (sx_tryAs 4 (fun c => c == "BadSituation") sc__law_exchanged.nd g_BadSituation cat_BadSituation tk (fun W' pn xe tk' po' => (sxs_one (sx_set 3 sc__law_exchanged.nd (ex_callT O_Situation_exchanged hr (by decide) tk' (ex_rd 0) (exs_cons (ex_rd 1) (exs_cons (ex_rd 2) exs_nil)))))) (fun a oe C' d pn c hz hf hc hk => (sxs_one (sx_ret (ex_xf 4 (T.xf_BadSituation_what _ _ hk hc).1 (T.xf_BadSituation_what _ _ hk hc).2 hz hf)))))
      (sxs_one (sx_ret (ex_rd 3))))
theorem sc__law_name_exchanged : FnScope ["_law_name_here", "_law_one", "_law_other_here", "_law_told", "raised"] ["_law_name_here", "_law_one", "_law_other_here"] (defScope (topS 30)) := ⟨rfl, rfl, rfl, by decide +kernel, rfl, by decide +kernel, by decide +kernel⟩
theorem own__law_name_exchanged (T : Facts P w K mg base) (O_exchange_name : Own P w K mg base "exchange_name" 4 ["name", "one", "other"] (spP K (cmOf mg) F_exchange_name)) : Own P w K mg base "_law_name_exchanged" 5 ["_law_name_here", "_law_one", "_law_other_here"] (spP K (cmOf mg) F__law_name_exchanged) := by
  obtain ⟨_, _, _, g_BadSituation, ⟨_, e_BadSituation⟩, c_BadSituation, cat_BadSituation, b_BadSituation, F_BadSituation⟩ := T.e_BadSituation
  refine ownP (g := g__law_name_exchanged) F__law_name_exchanged T.f__law_name_exchanged sc__law_name_exchanged mkP_len (fun _ _ _ _ _ _ us hl => match us, hl with | [_, _, _], _ => rfl) (fun f cdv A outer s H E hr => ?_) mkP_eq
  have tk : Takes (Bx P w K mg base ["_law_name_here", "_law_one", "_law_other_here", "_law_told", "raised"] "_law_name_exchanged" (topS 30) f cdv A outer s H E) (WB E) := takes_of rfl rfl rfl rfl
  have po := poB (P := P) (w := w) (K := K) (mg := mg) (base := base) (N := ["_law_name_here", "_law_one", "_law_other_here", "_law_told", "raised"]) (x := "_law_name_exchanged") (st := (topS 30)) (f := f) (cdv := cdv) (A := A) (outer := outer) (s := s) (H := H) (E := E)
  exact (sxs_cons (sx_tryAs 4 (fun c => c == "BadSituation") sc__law_name_exchanged.nd g_BadSituation cat_BadSituation tk (fun W' pn xe tk' po' => (sxs_one (sx_set 3 sc__law_name_exchanged.nd (ex_own O_exchange_name hr (by decide) tk' (exs_cons (ex_rd 0) (exs_cons (ex_rd 1) (exs_cons (ex_rd 2) exs_nil))))))) (fun a oe C' d pn c hz hf hc hk => (sxs_one (sx_ret (ex_lst (exs_cons ex_str (exs_cons (ex_xf 4 (T.xf_BadSituation_what _ _ hk hc).1 (T.xf_BadSituation_what _ _ hk hc).2 hz hf) exs_nil)))))))
      (sxs_one (sx_ret (ex_rd 3))))
theorem sc__law_parts : FnScope ["_law_situation_here"] ["_law_situation_here"] (defScope (topS 31)) := ⟨rfl, rfl, rfl, by decide +kernel, rfl, by decide +kernel, by decide +kernel⟩
theorem own__law_parts (T : Facts P w K mg base) : Own P w K mg base "_law_parts" 1 ["_law_situation_here"] (spP K (cmOf mg) F__law_parts) := by
  refine ownP (g := g__law_parts) F__law_parts T.f__law_parts sc__law_parts mkP_len (fun _ _ _ _ _ _ us hl => match us, hl with | [_], _ => rfl) (fun f cdv A outer s H E hr => ?_) mkP_eq
  have tk : Takes (Bx P w K mg base ["_law_situation_here"] "_law_parts" (topS 31) f cdv A outer s H E) (WB E) := takes_of rfl rfl rfl rfl
  have po := poB (P := P) (w := w) (K := K) (mg := mg) (base := base) (N := ["_law_situation_here"]) (x := "_law_parts") (st := (topS 31)) (f := f) (cdv := cdv) (A := A) (outer := outer) (s := s) (H := H) (E := E)
  exact (sxs_one (sx_ret (ex_tup (exs_cons (ex_fld T.fl_teller (ex_rd 0)) (exs_cons (ex_fld T.fl_hearer (ex_rd 0)) (exs_cons (ex_fld T.fl_day (ex_rd 0)) (exs_cons (ex_fld T.fl_place (ex_rd 0)) exs_nil)))))))
theorem sc__law_other : FnScope ["_law_name_here", "_law_one", "_law_other_here"] ["_law_name_here", "_law_one", "_law_other_here"] (defScope (topS 32)) := ⟨rfl, rfl, rfl, by decide +kernel, rfl, by decide +kernel, by decide +kernel⟩
theorem own__law_other (T : Facts P w K mg base) : Own P w K mg base "_law_other" 1 ["_law_name_here", "_law_one", "_law_other_here"] (spP K (cmOf mg) F__law_other) := by
  refine ownP (g := g__law_other) F__law_other T.f__law_other sc__law_other mkP_len (fun _ _ _ _ _ _ us hl => match us, hl with | [_, _, _], _ => rfl) (fun f cdv A outer s H E hr => ?_) mkP_eq
  have tk : Takes (Bx P w K mg base ["_law_name_here", "_law_one", "_law_other_here"] "_law_other" (topS 32) f cdv A outer s H E) (WB E) := takes_of rfl rfl rfl rfl
  have po := poB (P := P) (w := w) (K := K) (mg := mg) (base := base) (N := ["_law_name_here", "_law_one", "_law_other_here"]) (x := "_law_other") (st := (topS 32)) (f := f) (cdv := cdv) (A := A) (outer := outer) (s := s) (H := H) (E := E)
  exact (sxs_cons (sx_if (tx_cmp (or_eq hr.units) opd_eq (ex_rd 0) (ex_rd 1)) (sxs_one (sx_ret (ex_rd 2))) sxs_nil)
      (sxs_one (sx_ret (ex_if (tx_cmp (or_eq hr.units) opd_eq (ex_rd 0) (ex_rd 2)) (ex_rd 1) (ex_rd 0)))))
theorem sc_Tongue_eq : FnScope ["self", "other"] ["self", "other"] (defScope meth_Tongue_eq) := ⟨rfl, rfl, rfl, by decide +kernel, rfl, by decide +kernel, by decide +kernel⟩
theorem own_Tongue_eq (T : Facts P w K mg base) : OwnE P w K mg base (cmOf mg) "Tongue" 1 ["self", "other"] F_Tongue_eq := by
  obtain ⟨C, f, fd, hc, h1, h2, hb, F1, h3, h4⟩ := T.q_Tongue_eq
  refine ⟨C, f, fd, hc, h1, h2, hb, fnP (g := g_Tongue_eq) F1 sc_Tongue_eq F_Tongue_eq mkP_len (fun cdv A outer s H E hr => ?_) mkP_eq, h3, h4, sub_tuple⟩
  have tk : Takes (Bx P w K mg base ["self", "other"] "Tongue.__eq__" meth_Tongue_eq f cdv A outer s H E) (WB E) := takes_of rfl rfl rfl rfl
  have po := poB (P := P) (w := w) (K := K) (mg := mg) (base := base) (N := ["self", "other"]) (x := "Tongue.__eq__") (st := meth_Tongue_eq) (f := f) (cdv := cdv) (A := A) (outer := outer) (s := s) (H := H) (E := E)
  exact (sxs_one (sx_ret (ex_and (ex_isiC T.k_Tongue T.blt.isinstance (ex_rd 1)) (ex_one (ex_cmp (or_eq hr.units) opd_eq (ex_fld T.fl_shifts (ex_rd 0)) (ex_fld T.fl_shifts (ex_rd 1)))))))
theorem sc_Situation_eq : FnScope ["self", "other"] ["self", "other"] (defScope meth_Situation_eq) := ⟨rfl, rfl, rfl, by decide +kernel, rfl, by decide +kernel, by decide +kernel⟩
theorem own_Situation_eq (T : Facts P w K mg base) : OwnE P w K mg base (cmOf mg) "Situation" 1 ["self", "other"] F_Situation_eq := by
  obtain ⟨C, f, fd, hc, h1, h2, hb, F1, h3, h4⟩ := T.q_Situation_eq
  refine ⟨C, f, fd, hc, h1, h2, hb, fnP (g := g_Situation_eq) F1 sc_Situation_eq F_Situation_eq mkP_len (fun cdv A outer s H E hr => ?_) mkP_eq, h3, h4, sub_tuple⟩
  have tk : Takes (Bx P w K mg base ["self", "other"] "Situation.__eq__" meth_Situation_eq f cdv A outer s H E) (WB E) := takes_of rfl rfl rfl rfl
  have po := poB (P := P) (w := w) (K := K) (mg := mg) (base := base) (N := ["self", "other"]) (x := "Situation.__eq__") (st := meth_Situation_eq) (f := f) (cdv := cdv) (A := A) (outer := outer) (s := s) (H := H) (E := E)
  exact (sxs_one (sx_ret (ex_and (ex_isiC T.k_Situation T.blt.isinstance (ex_rd 1)) (ex_and (ex_cmp (or_eq hr.units) opd_eq (ex_fld T.fl_teller (ex_rd 0)) (ex_fld T.fl_teller (ex_rd 1))) (ex_and (ex_cmp (or_eq hr.units) opd_eq (ex_fld T.fl_hearer (ex_rd 0)) (ex_fld T.fl_hearer (ex_rd 1))) (ex_and (ex_cmp (or_eq hr.units) opd_eq (ex_fld T.fl_day (ex_rd 0)) (ex_fld T.fl_day (ex_rd 1))) (ex_one (ex_cmp (or_eq hr.units) opd_eq (ex_fld T.fl_place (ex_rd 0)) (ex_fld T.fl_place (ex_rd 1))))))))))
theorem sc__law_tongues_right : FnScope ["_law_hand_here", "_law_tongues", "_law_number", "_law_tongue", "_law_due_here", "_law_told", "_law_place", "_law_other_here", "_law_spoilt", "_law_shift"] ["_law_hand_here"] (defScope (topS 33)) := ⟨rfl, rfl, rfl, by decide +kernel, rfl, by decide +kernel, by decide +kernel⟩
theorem own__law_tongues_right (T : Facts P w K mg base) (O_Tongue_eq : OwnE P w K mg base (cmOf mg) "Tongue" 1 ["self", "other"] F_Tongue_eq) (O_all_tongues : Own P w K mg base "all_tongues" 5 [] (spP K (cmOf mg) F_all_tongues)) (O_Situation_eq : OwnE P w K mg base (cmOf mg) "Situation" 1 ["self", "other"] F_Situation_eq) (O__law_take : Own P w K mg base "_law_take" 2 ["_law_hand_here", "_law_many"] (spM K (cmOf mg) F__law_take)) (O__law_unlike : Own P w K mg base "_law_unlike" 1 ["_law_told", "_law_due_here"] (spP K (cmOf mg) F__law_unlike)) (O__law_tongue_tried : Own P w K mg base "_law_tongue_tried" 5 ["_law_shifts"] (spP K (cmOf mg) F__law_tongue_tried)) : Own P w K mg base "_law_tongues_right" 6 ["_law_hand_here"] (spM K (cmOf mg) F__law_tongues_right) := by
  refine ownM (g := g__law_tongues_right) F__law_tongues_right T.f__law_tongues_right sc__law_tongues_right mkM_len (fun _ _ _ _ _ _ us hl => match us, hl with | [_], _ => rfl) (fun f cdv A outer s H E hr => ?_) mkM_eq
  have tk : Takes (Bx P w K mg base ["_law_hand_here", "_law_tongues", "_law_number", "_law_tongue", "_law_due_here", "_law_told", "_law_place", "_law_other_here", "_law_spoilt", "_law_shift"] "_law_tongues_right" (topS 33) f cdv A outer s H E) (WB E) := takes_of rfl rfl rfl rfl
  have po := poB (P := P) (w := w) (K := K) (mg := mg) (base := base) (N := ["_law_hand_here", "_law_tongues", "_law_number", "_law_tongue", "_law_due_here", "_law_told", "_law_place", "_law_other_here", "_law_spoilt", "_law_shift"]) (x := "_law_tongues_right") (st := (topS 33)) (f := f) (cdv := cdv) (A := A) (outer := outer) (s := s) (H := H) (E := E)
  have OE : OwnEs P w K mg base (cmOf mg) 1 etab := ownEs2 O_Tongue_eq O_Situation_eq (by decide) (by decide)
  exact (sxs_cons (sx_set 1 sc__law_tongues_right.nd (ex_own0 O_all_tongues hr (by decide) tk))
      (sxs_cons (sx_if (tx_w (wx_or (tx_not (tx_tru (ex_isi "tuple" T.blt.isinstance T.blt.tuple (by decide +kernel) (ex_rd 1)))) (wx_or1 (tx_cmp (or_ne hr.units) opd_ne (ex_callB call_len cd_len T.blt.len (by decide +kernel) (exs_cons (ex_rd 1) exs_nil)) ex_int)))) (sxs_one (sx_ret ex_bl)) sxs_nil)
      (sxs_cons (sx_for (ix_enumA (ex_rd 1) T.blt.enumerate) (gx_tup 2 (gxs_cons (gx_name 2 sc__law_tongues_right.nd) (gxs_cons (gx_name 3 sc__law_tongues_right.nd) gxs_nil))) (nx_tup (nxs_cons (nx_name 2) (nxs_cons (nx_name 3) nxs_nil))) (sxs_cons (sx_set 4 sc__law_tongues_right.nd (ex_tup (exs_cons (ex_cmp op_ge opd_ge (ex_rd 2) ex_int) (exs_cons (ex_cmp (or_eq hr.units) opd_eq (ex_op op_mod opd_mod (ex_callTy call_int1 cd_int T.blt.int (by decide +kernel) (exs_cons (ex_op op_fdivW opd_fdiv (ex_rd 2) ex_int) exs_nil)) ex_int) ex_int) (exs_cons (ex_cmp (or_eq hr.units) opd_eq (ex_op op_mod opd_mod (ex_callTy call_int1 cd_int T.blt.int (by decide +kernel) (exs_cons (ex_op op_fdivW opd_fdiv (ex_rd 2) ex_int) exs_nil)) ex_int) ex_int) (exs_cons (ex_cmp (or_eq hr.units) opd_eq (ex_op op_mod opd_mod (ex_callTy call_int1 cd_int T.blt.int (by decide +kernel) (exs_cons (ex_rd 2) exs_nil)) ex_int) ex_int) exs_nil))))))
        (sxs_cons (sx_set 5 sc__law_tongues_right.nd (ex_tup (exs_cons (ex_fld T.fl_shifts_person (ex_rd 3)) (exs_cons (ex_fld T.fl_shifts_you (ex_rd 3)) (exs_cons (ex_fld T.fl_shifts_today (ex_rd 3)) (exs_cons (ex_fld T.fl_shifts_here (ex_rd 3)) exs_nil))))))
        (sxs_cons (sx_if (tx_w (wx_or (tx_cmp (or_ne hr.units) opd_ne (ex_rd 5) (ex_rd 4)) (wx_or (tx_cmp (or_ne hr.units) opd_ne (ex_fld T.fl_shifts (ex_rd 3)) (ex_rd 4)) (wx_or (tx_not (tx_tru (ex_isi "tuple" T.blt.isinstance T.blt.tuple (by decide +kernel) (ex_fld T.fl_shifts (ex_rd 3))))) (wx_or1 (tx_not (tx_tru (ex_callB (cr_all rfl) cd_all T.blt.all (by decide +kernel) (exs_cons (ex_lx (lx_comp [("_law_shift", 9)] sc__law_tongues_right.nd (ix_any (ex_op or_add opd_add (ex_rd 5) (ex_fld T.fl_shifts (ex_rd 3)))) (by rfl) (fun _ _ _ _ _ => (gx_name 9 sc__law_tongues_right.nd)) (by decide) (nx_name 9) (fun _ _ _ _ _ => txs_nil) (fun _ _ _ _ _ => (ex_isi "bool" T.blt.isinstance T.blt.bool (by decide +kernel) (ex_rd 9))))) exs_nil))))))))) (sxs_one (sx_ret ex_bl)) sxs_nil)
        (sxs_cons (sx_for (ix_enumA (ex_rd 1) T.blt.enumerate) (gx_tup 2 (gxs_cons (gx_name 6 sc__law_tongues_right.nd) (gxs_cons (gx_name 7 sc__law_tongues_right.nd) gxs_nil))) (nx_tup (nxs_cons (nx_name 6) (nxs_cons (nx_name 7) nxs_nil))) (sxs_one (sx_if (tx_w (wx_or (tx_tru (ex_own O__law_unlike hr (by decide) tk (exs_cons (ex_cmp (or_eqX' OE hr (by decide)) opd_eqX (ex_rd 3) (ex_rd 7)) (exs_cons (ex_cmp (or_eq hr.units) opd_eq (ex_rd 6) (ex_rd 2)) exs_nil)))) (wx_or1 (tx_tru (ex_own O__law_unlike hr (by decide) tk (exs_cons (ex_cmp (or_neX' OE hr (by decide)) opd_neX (ex_rd 3) (ex_rd 7)) (exs_cons (ex_cmp (or_ne hr.units) opd_ne (ex_rd 6) (ex_rd 2)) exs_nil))))))) (sxs_one (sx_ret ex_bl)) sxs_nil)) po)
        (sxs_cons (sx_if (tx_w (wx_or (tx_cmp (or_neX' OE hr (by decide)) opd_neX (ex_own O__law_tongue_tried hr (by decide) tk (exs_cons (ex_rd 4) exs_nil)) (ex_rd 3)) (wx_or1 (tx_cmp (or_eqX' OE hr (by decide)) opd_eqX (ex_rd 3) (ex_rd 4))))) (sxs_one (sx_ret ex_bl)) sxs_nil)
        (sxs_cons (sx_setLx 8 sc__law_tongues_right.nd (lx_list T.blt.list (ex_rd 4)))
        (sxs_cons (sx_setIx 8 (ex_ix (ex_lst (exs_cons ex_int (exs_cons ex_int (exs_cons ex_non (exs_cons ex_str (exs_cons (ex_tup (exs_cons ex_bl exs_nil)) (exs_cons (ex_un un_neg und_neg ex_int) exs_nil))))))) (ex_ownM 0 O__law_take hr (by decide) tk (exs_cons ex_int exs_nil))) (ex_ownM 0 O__law_take hr (by decide) tk (exs_cons ex_int exs_nil)))
        (sxs_one (sx_if (tx_cmp (or_ne hr.units) opd_ne (ex_own O__law_tongue_tried hr (by decide) tk (exs_cons (ex_rd 8) exs_nil)) ex_str) (sxs_one (sx_ret ex_bl)) sxs_nil))))))))) po)
      (sxs_one (sx_ret ex_bl)))))
theorem sc__law_due : FnScope ["_law_args", "_law_place", "_law_what"] ["_law_args"] (defScope (topS 34)) := ⟨rfl, rfl, rfl, by decide +kernel, rfl, by decide +kernel, by decide +kernel⟩
theorem own__law_due (T : Facts P w K mg base) (O__law_whole : Own P w K mg base "_law_whole" 1 ["_law_thing"] (spP K (cmOf mg) F__law_whole)) (O__law_letters : Own P w K mg base "_law_letters" 1 ["_law_thing"] (spP K (cmOf mg) F__law_letters)) : Own P w K mg base "_law_due" 2 ["_law_args"] (spP K (cmOf mg) F__law_due) := by
  refine ownP (g := g__law_due) F__law_due T.f__law_due sc__law_due mkP_len (fun _ _ _ _ _ _ us hl => match us, hl with | [_], _ => rfl) (fun f cdv A outer s H E hr => ?_) mkP_eq
  have tk : Takes (Bx P w K mg base ["_law_args", "_law_place", "_law_what"] "_law_due" (topS 34) f cdv A outer s H E) (WB E) := takes_of rfl rfl rfl rfl
  have po := poB (P := P) (w := w) (K := K) (mg := mg) (base := base) (N := ["_law_args", "_law_place", "_law_what"]) (x := "_law_due") (st := (topS 34)) (f := f) (cdv := cdv) (A := A) (outer := outer) (s := s) (H := H) (E := E)
  exact (sxs_cons (sx_for (ix_enumA (ex_lst (exs_cons ex_str (exs_cons ex_str (exs_cons ex_str (exs_cons ex_str exs_nil))))) T.blt.enumerate) (gx_tup 2 (gxs_cons (gx_name 1 sc__law_due.nd) (gxs_cons (gx_name 2 sc__law_due.nd) gxs_nil))) (nx_tup (nxs_cons (nx_name 1) (nxs_cons (nx_name 2) nxs_nil))) (sxs_one (sx_if (tx_not (tx_if (tx_cmp (or_eq hr.units) opd_eq (ex_rd 1) ex_int) (tx_tru (ex_own O__law_whole hr (by decide) tk (exs_cons (ex_ix (ex_rd 0) (ex_rd 1)) exs_nil))) (tx_tru (ex_own O__law_letters hr (by decide) tk (exs_cons (ex_ix (ex_rd 0) (ex_rd 1)) exs_nil))))) (sxs_one (sx_ret (ex_rd 2))) sxs_nil)) po)
      (sxs_one (sx_ret ex_non)))
end
end K05

set_option Elab.async false
set_option linter.all false
set_option maxRecDepth 100000
set_option maxHeartbeats 2000000
namespace K05
open PySem PySem.Spec PyProof.Rows L2 De
open PySem.W (Frag)
section
variable {P : Program} {w : World} {K : Frag} {mg : Str → Option Value} {base : Heap}
theorem sc_law : FnScope ["_law_script", "_law_hand_here", "_law_world_here", "_law_turn", "_law_args", "_law_situation_here", "_law_again", "_law_days", "_law_moved_here", "_law_one", "_law_other_here", "_law_told", "_law_name_here", "_law_bad", "_law_pair", "_law_spoilt", "_law_spot", "_law_due_here"] ["_law_script"] (defScope (topS 35)) := ⟨rfl, rfl, rfl, by decide +kernel, rfl, by decide +kernel, by decide +kernel⟩
theorem own_law (T : Facts P w K mg base) (O_Tongue_eq : OwnE P w K mg base (cmOf mg) "Tongue" 1 ["self", "other"] F_Tongue_eq) (O_Situation_eq : OwnE P w K mg base (cmOf mg) "Situation" 1 ["self", "other"] F_Situation_eq) (O__law_hand : Own P w K mg base "_law_hand" 1 ["_law_script"] (spO K (cmOf mg) F__law_hand)) (O__law_take : Own P w K mg base "_law_take" 2 ["_law_hand_here", "_law_many"] (spM K (cmOf mg) F__law_take)) (O__law_name : Own P w K mg base "_law_name" 3 ["_law_hand_here"] (spM K (cmOf mg) F__law_name)) (O__law_world : Own P w K mg base "_law_world" 5 ["_law_hand_here"] (spM K (cmOf mg) F__law_world)) (O__law_situation : Own P w K mg base "_law_situation" 4 ["_law_hand_here", "_law_world_here"] (spM K (cmOf mg) F__law_situation)) (O__law_whole : Own P w K mg base "_law_whole" 1 ["_law_thing"] (spP K (cmOf mg) F__law_whole)) (O__law_unlike : Own P w K mg base "_law_unlike" 1 ["_law_told", "_law_due_here"] (spP K (cmOf mg) F__law_unlike)) (O__law_tried : Own P w K mg base "_law_tried" 5 ["_law_args"] (spP K (cmOf mg) F__law_tried)) (O__law_moved : Own P w K mg base "_law_moved" 6 ["_law_situation_here", "_law_days"] (spP K (cmOf mg) F__law_moved)) (O__law_exchanged : Own P w K mg base "_law_exchanged" 6 ["_law_situation_here", "_law_one", "_law_other_here"] (spP K (cmOf mg) F__law_exchanged)) (O__law_name_exchanged : Own P w K mg base "_law_name_exchanged" 5 ["_law_name_here", "_law_one", "_law_other_here"] (spP K (cmOf mg) F__law_name_exchanged)) (O__law_parts : Own P w K mg base "_law_parts" 1 ["_law_situation_here"] (spP K (cmOf mg) F__law_parts)) (O__law_other : Own P w K mg base "_law_other" 1 ["_law_name_here", "_law_one", "_law_other_here"] (spP K (cmOf mg) F__law_other)) (O__law_tongues_right : Own P w K mg base "_law_tongues_right" 6 ["_law_hand_here"] (spM K (cmOf mg) F__law_tongues_right)) (O__law_due : Own P w K mg base "_law_due" 2 ["_law_args"] (spP K (cmOf mg) F__law_due)) : ∀ {f : Addr} {fd : FuncData}, Fun K "law" "law" (topS 35) f fd → FnOk P w K mg base (L2.CX P w) 7 f fd ["_law_script"] (spP K (cmOf mg) F_law) := by
  intro f fd F1
  refine fnP (g := g_law) F1 sc_law F_law mkP_len (fun cdv A outer s H E hr => ?_) mkP_eq
  have tk : Takes (Bx P w K mg base ["_law_script", "_law_hand_here", "_law_world_here", "_law_turn", "_law_args", "_law_situation_here", "_law_again", "_law_days", "_law_moved_here", "_law_one", "_law_other_here", "_law_told", "_law_name_here", "_law_bad", "_law_pair", "_law_spoilt", "_law_spot", "_law_due_here"] "law" (topS 35) f cdv A outer s H E) (WB E) := takes_of rfl rfl rfl rfl
  have po := poB (P := P) (w := w) (K := K) (mg := mg) (base := base) (N := ["_law_script", "_law_hand_here", "_law_world_here", "_law_turn", "_law_args", "_law_situation_here", "_law_again", "_law_days", "_law_moved_here", "_law_one", "_law_other_here", "_law_told", "_law_name_here", "_law_bad", "_law_pair", "_law_spoilt", "_law_spot", "_law_due_here"]) (x := "law") (st := (topS 35)) (f := f) (cdv := cdv) (A := A) (outer := outer) (s := s) (H := H) (E := E)
  have OE : OwnEs P w K mg base (cmOf mg) 1 etab := ownEs2 O_Tongue_eq O_Situation_eq (by decide) (by decide)
  exact (sxs_cons (sx_setLx 1 sc_law.nd (lx_own O__law_hand hr (by decide) tk (exs_cons (ex_rd 0) exs_nil)))
      (sxs_cons (sx_if (tx_not (tx_tru (ex_ownM 1 O__law_tongues_right hr (by decide) tk exs_nil))) (sxs_one (sx_ret ex_bl)) sxs_nil)
      (sxs_cons (sx_set 2 sc_law.nd (ex_ownM 1 O__law_world hr (by decide) tk exs_nil))
      (sxs_cons (sx_for (ix_range1 ex_int T.blt.range) (gx_name 3 sc_law.nd) (nx_name 3) (sxs_cons (sx_set 4 sc_law.nd (ex_ownM 1 O__law_situation hr (by decide) tk (exs_cons (ex_rd 2) exs_nil)))
        (sxs_cons (sx_if (tx_cmp (or_eq hr.units) opd_eq (ex_rd 3) ex_int) (sxs_one (sx_set 4 sc_law.nd (ex_tup (exs_cons (ex_ownM 1 O__law_name hr (by decide) tk exs_nil) (exs_cons (ex_ownM 1 O__law_name hr (by decide) tk exs_nil) (exs_cons (ex_op op_sub opd_sub (ex_ownM 1 O__law_take hr (by decide) tk (exs_cons (ex_op or_mul opd_mul ex_int (ex_op op_pow opd_pow ex_int ex_int)) exs_nil)) (ex_op op_pow opd_pow ex_int ex_int)) (exs_cons (ex_ownM 1 O__law_name hr (by decide) tk exs_nil) exs_nil))))))) sxs_nil)
        (sxs_cons (sx_set 5 sc_law.nd (ex_own O__law_tried hr (by decide) tk (exs_cons (ex_rd 4) exs_nil)))
        (sxs_cons (sx_if (tx_w (wx_or (tx_not (tx_tru (ex_isiC T.k_Situation T.blt.isinstance (ex_rd 5)))) (wx_or (tx_cmp (or_ne hr.units) opd_ne (ex_own O__law_parts hr (by decide) tk (exs_cons (ex_rd 5) exs_nil)) (ex_callTy call_tuple_of cd_tuple T.blt.tuple (by decide +kernel) (exs_cons (ex_rd 4) exs_nil))) (wx_or1 (tx_not (tx_tru (ex_own O__law_whole hr (by decide) tk (exs_cons (ex_fld T.fl_day (ex_rd 5)) exs_nil)))))))) (sxs_one (sx_ret ex_bl)) sxs_nil)
        (sxs_cons (sx_for (ix_range1 ex_int T.blt.range) (gx_name 6 sc_law.nd) (nx_name 6) (sxs_cons (sx_setLx 15 sc_law.nd (lx_list T.blt.list (ex_rd 4)))
          (sxs_cons (sx_for (ix_any (ex_lst (exs_cons (ex_ownM 1 O__law_take hr (by decide) tk (exs_cons ex_int exs_nil)) (exs_cons (ex_ownM 1 O__law_take hr (by decide) tk (exs_cons ex_int exs_nil)) exs_nil)))) (gx_name 16 sc_law.nd) (nx_name 16) (sxs_one (sx_setIx 15 (ex_ix (ex_lst (exs_cons ex_non (exs_cons ex_bl (exs_cons ex_str (exs_cons (ex_op or_add opd_add (ex_ix (ex_rd 4) ex_int) ex_str) (exs_cons (ex_ownM 1 O__law_name hr (by decide) tk exs_nil) (exs_cons ex_int (exs_cons (ex_op or_add opd_add (ex_ix (ex_rd 4) ex_int) ex_str) (exs_cons (ex_lst (exs_cons (ex_ix (ex_rd 4) ex_int) exs_nil)) (exs_cons (ex_op op_sub opd_sub ex_int (ex_ix (ex_rd 4) ex_int)) exs_nil)))))))))) (ex_ownM 1 O__law_take hr (by decide) tk (exs_cons ex_int exs_nil))) (ex_rd 16))) po)
          (sxs_cons (sx_set 17 sc_law.nd (ex_own O__law_due hr (by decide) tk (exs_cons (ex_rd 15) exs_nil)))
          (sxs_cons (sx_set 11 sc_law.nd (ex_own O__law_tried hr (by decide) tk (exs_cons (ex_rd 15) exs_nil)))
          (sxs_one (sx_if (tx_cmp or_isnot opd_isnot (ex_rd 17) ex_non) (sxs_one (sx_if (tx_cmp (or_ne hr.units) opd_ne (ex_rd 11) (ex_rd 17)) (sxs_one (sx_ret ex_bl)) sxs_nil)) (sxs_one (sx_if (tx_w (wx_or (tx_not (tx_tru (ex_isiC T.k_Situation T.blt.isinstance (ex_rd 11)))) (wx_or (tx_cmp (or_ne hr.units) opd_ne (ex_own O__law_parts hr (by decide) tk (exs_cons (ex_rd 11) exs_nil)) (ex_callTy call_tuple_of cd_tuple T.blt.tuple (by decide +kernel) (exs_cons (ex_rd 15) exs_nil))) (wx_or1 (tx_tru (ex_own O__law_unlike hr (by decide) tk (exs_cons (ex_cmp (or_eqX' OE hr (by decide)) opd_eqX (ex_rd 11) (ex_rd 5)) (exs_cons (ex_cmp (or_eq hr.units) opd_eq (ex_callTy call_tuple_of cd_tuple T.blt.tuple (by decide +kernel) (exs_cons (ex_rd 15) exs_nil)) (ex_callTy call_tuple_of cd_tuple T.blt.tuple (by decide +kernel) (exs_cons (ex_rd 4) exs_nil))) exs_nil)))))))) (sxs_one (sx_ret ex_bl)) sxs_nil)))))))) po)
        (sxs_cons (sx_set 7 sc_law.nd (ex_ix (ex_lst (exs_cons (ex_op op_sub opd_sub (ex_ownM 1 O__law_take hr (by decide) tk (exs_cons ex_int exs_nil)) ex_int) (exs_cons (ex_op op_sub opd_sub (ex_ownM 1 O__law_take hr (by decide) tk (exs_cons (ex_op or_mul opd_mul ex_int (ex_op op_pow opd_pow ex_int ex_int)) exs_nil)) (ex_op op_pow opd_pow ex_int ex_int)) (exs_cons ex_int exs_nil)))) (ex_ownM 1 O__law_take hr (by decide) tk (exs_cons ex_int exs_nil))))
        (sxs_cons (sx_set 8 sc_law.nd (ex_own O__law_moved hr (by decide) tk (exs_cons (ex_rd 5) (exs_cons (ex_rd 7) exs_nil))))
        (sxs_cons (sx_if (tx_w (wx_or (tx_cmp (or_ne hr.units) opd_ne (ex_own O__law_parts hr (by decide) tk (exs_cons (ex_rd 8) exs_nil)) (ex_tup (exs_cons (ex_ix (ex_rd 4) ex_int) (exs_cons (ex_ix (ex_rd 4) ex_int) (exs_cons (ex_op or_add opd_add (ex_ix (ex_rd 4) ex_int) (ex_rd 7)) (exs_cons (ex_ix (ex_rd 4) ex_int) exs_nil)))))) (wx_or1 (tx_cmp (or_neX' OE hr (by decide)) opd_neX (ex_own O__law_moved hr (by decide) tk (exs_cons (ex_rd 8) (exs_cons (ex_un un_neg und_neg (ex_rd 7)) exs_nil))) (ex_rd 5))))) (sxs_one (sx_ret ex_bl)) sxs_nil)
        (sxs_cons (sx_if (tx_cmp (or_ne hr.units) opd_ne (ex_own O__law_moved hr (by decide) tk (exs_cons (ex_rd 5) (exs_cons (ex_ix (ex_lst (exs_cons ex_non (exs_cons ex_bl (exs_cons ex_str (exs_cons (ex_tup (exs_cons ex_int exs_nil)) exs_nil))))) (ex_ownM 1 O__law_take hr (by decide) tk (exs_cons ex_int exs_nil))) exs_nil))) ex_str) (sxs_one (sx_ret ex_bl)) sxs_nil)
        (sxs_cons (sx_set 9 sc_law.nd (ex_ix (ex_op or_add opd_add (ex_callTy call_list_of cd_list T.blt.list (by decide +kernel) (exs_cons (ex_sl (ex_rd 4) ox_none (ox_some ex_int)) exs_nil)) (ex_callTy call_list_of cd_list T.blt.list (by decide +kernel) (exs_cons (ex_ix (ex_rd 2) ex_int) exs_nil))) (ex_ownM 1 O__law_take hr (by decide) tk (exs_cons ex_int exs_nil))))
        (sxs_cons (sx_set 10 sc_law.nd (ex_ix (ex_op or_add opd_add (ex_callTy call_list_of cd_list T.blt.list (by decide +kernel) (exs_cons (ex_sl (ex_rd 4) ox_none (ox_some ex_int)) exs_nil)) (ex_lst (exs_cons (ex_ownM 1 O__law_name hr (by decide) tk exs_nil) exs_nil))) (ex_ownM 1 O__law_take hr (by decide) tk (exs_cons ex_int exs_nil))))
        (sxs_cons (sx_set 11 sc_law.nd (ex_own O__law_exchanged hr (by decide) tk (exs_cons (ex_rd 5) (exs_cons (ex_rd 9) (exs_cons (ex_rd 10) exs_nil)))))
        (sxs_cons (sx_if (tx_cmp (or_ne hr.units) opd_ne (ex_own O__law_parts hr (by decide) tk (exs_cons (ex_rd 11) exs_nil)) (ex_tup (exs_cons (ex_own O__law_other hr (by decide) tk (exs_cons (ex_ix (ex_rd 4) ex_int) (exs_cons (ex_rd 9) (exs_cons (ex_rd 10) exs_nil)))) (exs_cons (ex_own O__law_other hr (by decide) tk (exs_cons (ex_ix (ex_rd 4) ex_int) (exs_cons (ex_rd 9) (exs_cons (ex_rd 10) exs_nil)))) (exs_cons (ex_ix (ex_rd 4) ex_int) (exs_cons (ex_ix (ex_rd 4) ex_int) exs_nil)))))) (sxs_one (sx_ret ex_bl)) sxs_nil)
        (sxs_cons (sx_if (tx_w (wx_or (tx_cmp (or_neX' OE hr (by decide)) opd_neX (ex_own O__law_exchanged hr (by decide) tk (exs_cons (ex_rd 11) (exs_cons (ex_rd 9) (exs_cons (ex_rd 10) exs_nil)))) (ex_rd 5)) (wx_or (tx_cmp (or_neX' OE hr (by decide)) opd_neX (ex_own O__law_exchanged hr (by decide) tk (exs_cons (ex_rd 5) (exs_cons (ex_rd 10) (exs_cons (ex_rd 9) exs_nil)))) (ex_rd 11)) (wx_or1 (tx_cmp (or_ne hr.units) opd_ne (ex_own O__law_parts hr (by decide) tk (exs_cons (ex_rd 5) exs_nil)) (ex_callTy call_tuple_of cd_tuple T.blt.tuple (by decide +kernel) (exs_cons (ex_rd 4) exs_nil))))))) (sxs_one (sx_ret ex_bl)) sxs_nil)
        (sxs_cons (sx_for (ix_any (ex_lst (exs_cons (ex_rd 9) (exs_cons (ex_rd 10) (exs_cons (ex_ownM 1 O__law_name hr (by decide) tk exs_nil) (exs_cons (ex_ix (ex_rd 4) ex_int) exs_nil)))))) (gx_name 12 sc_law.nd) (nx_name 12) (sxs_one (sx_if (tx_cmp (or_ne hr.units) opd_ne (ex_own O__law_name_exchanged hr (by decide) tk (exs_cons (ex_rd 12) (exs_cons (ex_rd 9) (exs_cons (ex_rd 10) exs_nil)))) (ex_own O__law_other hr (by decide) tk (exs_cons (ex_rd 12) (exs_cons (ex_rd 9) (exs_cons (ex_rd 10) exs_nil))))) (sxs_one (sx_ret ex_bl)) sxs_nil)) po)
        (sxs_cons (sx_set 13 sc_law.nd (ex_ix (ex_lst (exs_cons ex_non (exs_cons ex_str (exs_cons (ex_op or_add opd_add (ex_rd 9) ex_str) (exs_cons ex_int (exs_cons ex_str (exs_cons ex_bl exs_nil))))))) (ex_ownM 1 O__law_take hr (by decide) tk (exs_cons ex_int exs_nil))))
        (sxs_one (sx_for (ix_any (ex_lst (exs_cons (ex_tup (exs_cons (ex_rd 13) (exs_cons (ex_rd 10) exs_nil))) (exs_cons (ex_tup (exs_cons (ex_rd 9) (exs_cons (ex_rd 13) exs_nil))) (exs_cons (ex_tup (exs_cons (ex_rd 13) (exs_cons (ex_rd 13) exs_nil))) exs_nil))))) (gx_name 14 sc_law.nd) (nx_name 14) (sxs_one (sx_if (tx_w (wx_or (tx_cmp (or_ne hr.units) opd_ne (ex_own O__law_exchanged hr (by decide) tk (exs_cons (ex_rd 5) (exs_cons (ex_ix (ex_rd 14) ex_int) (exs_cons (ex_ix (ex_rd 14) ex_int) exs_nil)))) ex_str) (wx_or1 (tx_cmp (or_ne hr.units) opd_ne (ex_own O__law_name_exchanged hr (by decide) tk (exs_cons (ex_rd 9) (exs_cons (ex_ix (ex_rd 14) ex_int) (exs_cons (ex_ix (ex_rd 14) ex_int) exs_nil)))) (ex_lst (exs_cons ex_str (exs_cons ex_str exs_nil))))))) (sxs_one (sx_ret ex_bl)) sxs_nil)) po)))))))))))))))))) po)
      (sxs_one (sx_ret ex_bl))))))
theorem all_own (T : Facts P w K mg base) {f : Addr} {fd : FuncData} (F1 : Fun K "law" "law" (topS 35) f fd) : FnOk P w K mg base (L2.CX P w) 7 f fd ["_law_script"] (spP K (cmOf mg) F_law) := by
  have O_is_whole := own_is_whole T 
  have O_is_name := own_is_name T 
  have O_Tongue := own_Tongue T 
  have O_all_tongues := own_all_tongues T O_Tongue
  have O_check_names := own_check_names T O_is_name
  have O_exchange_name := own_exchange_name T O_check_names
  have O__law_hand := own__law_hand T 
  have O__law_mixed := own__law_mixed T 
  have O__law_take := own__law_take T O__law_mixed
  have O__law_name := own__law_name T O__law_take
  have O__law_names := own__law_names T O__law_name
  have O__law_world := own__law_world T O__law_names
  have O__law_date := own__law_date T O__law_take
  have O__law_situation := own__law_situation T O__law_take O__law_date
  have O__law_whole := own__law_whole T 
  have O__law_unlike := own__law_unlike T 
  have O__law_letters := own__law_letters T 
  have O__law_tongue_tried := own__law_tongue_tried T O_Tongue
  have O_Situation := own_Situation T O_is_whole O_is_name
  have O__law_tried := own__law_tried T O_Situation
  have O_Situation_moved := own_Situation_moved T O_is_whole O_Situation
  have O__law_moved := own__law_moved T O_Situation_moved
  have O_Situation_exchanged := own_Situation_exchanged T O_exchange_name O_Situation
  have O__law_exchanged := own__law_exchanged T O_Situation_exchanged
  have O__law_name_exchanged := own__law_name_exchanged T O_exchange_name
  have O__law_parts := own__law_parts T 
  have O__law_other := own__law_other T 
  have O_Tongue_eq := own_Tongue_eq T 
  have O_Situation_eq := own_Situation_eq T 
  have O__law_tongues_right := own__law_tongues_right T O_Tongue_eq O_all_tongues O_Situation_eq O__law_take O__law_unlike O__law_tongue_tried
  have O__law_due := own__law_due T O__law_whole O__law_letters
  exact own_law T O_Tongue_eq O_Situation_eq O__law_hand O__law_take O__law_name O__law_world O__law_situation O__law_whole O__law_unlike O__law_tried O__law_moved O__law_exchanged O__law_name_exchanged O__law_parts O__law_other O__law_tongues_right O__law_due F1
end
end K05

set_option Elab.async false
set_option linter.all false
set_option maxRecDepth 100000
set_option maxHeartbeats 1000000
namespace De
open K05
open PySem (Str sizeLine_eq)
/-! the hand -/
def celN (cs : List Nat) : List D := cs.map fun (n : Nat) => D.int (n : Int)
theorem hand_loop (v : D) : ∀ (ys : List Int) (t : Int) (cs : List Nat) (e : EV), cs.length + ys.length ≤ 1000 → -(2 ^ 62) < t → t < 2 ^ 62 →
    ∃ t' cs' e', forM (tgtN 3) b__law_hand_1 (ys.map .int) [.d v, .d (.int t), .m (celN cs), e] = .ok .nx [.d v, .d (.int t'), .m (celN cs'), e'] ∧ cs'.length ≤ 1000 ∧ -(2 ^ 62) < t' ∧ t' < 2 ^ 62
  | [], t, cs, e, h, h1, h2 => ⟨t, cs, e, rfl, by simpa using h, h1, h2⟩
  | y :: ys, t, cs, e, h, h1, h2 => by
    have hl : (celN cs).length < 16777216 := by
      unfold celN
      rw [List.length_map]
      simp at h
      omega
    have hm : in64 t = true := by
      unfold in64
      rw [Bool.and_eq_true]
      exact ⟨decide_eq_true (by omega), decide_eq_true (by omega)⟩
    have key : ∃ c : Nat, De.bind (tgtN 3 (.int y)) (fun _ => b__law_hand_1) [.d v, .d (.int t), .m (celN cs), e] = .ok .nx [.d v, .d (.int ((t * 1009 + y) % 2147483629)), .m (celN (cs ++ [c])), .d (.int y)] := by
      by_cases hy : 0 ≤ y
      · refine ⟨y.toNat, ?_⟩
        have e1 : celN (cs ++ [y.toNat]) = celN cs ++ [.int y] := by
          unfold celN
          rw [List.map_append]
          have : ((y.toNat : Nat) : Int) = y := Int.toNat_of_nonneg hy
          simp [this]
        rw [e1]
        simp [startR, startH, ↓atI_cast, ↓andT_ok, ↓andT_ex, ↓andT_bad, ↓bind_ap, ↓ret_ap, ↓bad_ap, ↓andB_ok, ↓andB_t, ↓andB_f, ↓andB_ex, ↓andB_bad, ↓iteM_ap, ↓iteF_ap, ↓andM_ap, ↓orM_ap, ↓notM_ap, ↓blR_bl, ↓blM_ap, ↓andR_bl, ↓andV_ap, ↓orR_bl, ↓orV_ap, ↓notR_bl, ↓notV_ap, ↓bin_ap, ↓un_ap, ↓chR_bl, ↓chain_ap, ↓consM_ap, ↓tupM_ap, ↓lstM_ap, ↓smallT_ap, ↓smallL_ap, ↓seqM_ap, ↓seqK_nx, ↓seqK_rt, ↓seqK_rtl, ↓seqK_bk, ↓seqK_ct, ↓seqK_ex, ↓seqK_bad, ↓retM_ap, ↓dropM_ap, ↓put_ap, ↓setM_ap, ↓setC_ap, ↓setL_ap, ↓smallS_ap, ↓retL_ap, ↓smallR_ap, ↓unpM_ap, ↓lstD_ap, ↓lcM_ap, ↓smallC_ap, ↓isiM_ak, ↓isiK_ap, ↓isi2M_ak, ↓isi2K_ap, ↓callF_ap, ↓resF_ok, ↓resF_ex, ↓forS_ap, ↓forM_nil, ↓forM_cons, ↓forK_nx, ↓forK_ct, ↓forK_bk, ↓forK_rt, ↓forK_ex, ↓tryM_ap, ↓tryK_ok, ↓tryK_ex, ↓noExK_ok, ↓raiseM_ap, ↓appM_ap, ↓apps_m, ↓appK_ap, ↓appKK_m, ↓callMM_ap, ↓mmK_m, ↓mmK_h, ↓callM_ap, ↓cmK_m, ↓cmK_h, ↓resM_some, ↓callO_ap, ↓resO_some, ↓slM_ap, ↓intO_ap, ↓intK_int, ↓rd_ap, ↓rdK_d, ↓rdK_m, ↓finP_rt, ↓finP_nx, ↓finP_ex, ↓finO_rtl, ↓finM_rt, ↓finM_nx, ↓eqD_ap, ↓neD_ap, ↓inD_ap, ↓notInD_ap, ↓negD_ap, ↓isNonD_ap, ↓notNonD_ap, ↓isBlD_ap, ↓notBlD_ap, ↓lenS_ap, ↓lenT_ap, ↓lenL_ap, ↓lenC_ap, ↓intI_ap, ↓intB_ap, ↓all_ap, ↓any_ap, ↓reprI_ap, ↓reprS_ap, ↓tupT_ap, ↓tupL_ap, ↓lstT_ap, ↓lstL_ap, ↓ixT_ap, ↓ixL_ap, ↓ixC_ap, ↓ixB_ap, ↓tgetM_ap, ↓tgetK_ap, ↓tixM_ap, ↓tixK_ap, ↓tgtN_ap, ↓tgtT_tup, ↓tgtT_lst, ↓tgsNil_ap, ↓tgsCons_ap, ↓itA_lst, ↓itA_scr, ↓itA_tup, ↓itA_str, ↓hixM_ak, ↓hixK_h, ↓hixK_m, ↓hixL_ap, ↓hixR_h, ↓hixR_m, ↓subD_ap, ↓ltD_ap, ↓leD_ap, ↓gtD_ap, ↓geD_ap, ↓modD_ap, ↓fdivD_ap, ↓addL_ap, ↓addI_ap, ↓addS_ap, ↓slS_ap, ↓mulI_ap, ↓mulR_ap, optK_some, optKD_some, eqP, eqS, inP, inP.flat, inP.eqF, isN, L2.atI, L2.ixN, isiO, isi2O, tyn, L2.kitB, sbeq, toP, toPs, PySem.SeqAt.shaped, PySem.PyData.canLay0, PySem.PyData.canLayAll0, PySem.PyData.depth, PySem.PyData.depthAll, PySem.PyData.eqv, PySem.PyData.eqvAll, strOk_of, b__law_hand_1, hm, hl, hy]
      · refine ⟨(-y).toNat, ?_⟩
        have e1 : celN (cs ++ [(-y).toNat]) = celN cs ++ [.int (-y)] := by
          unfold celN
          rw [List.map_append]
          have : (((-y).toNat : Nat) : Int) = -y := Int.toNat_of_nonneg (by omega)
          simp only [List.map_cons, List.map_nil, this]
        rw [e1]
        simp [startR, startH, ↓atI_cast, ↓andT_ok, ↓andT_ex, ↓andT_bad, ↓bind_ap, ↓ret_ap, ↓bad_ap, ↓andB_ok, ↓andB_t, ↓andB_f, ↓andB_ex, ↓andB_bad, ↓iteM_ap, ↓iteF_ap, ↓andM_ap, ↓orM_ap, ↓notM_ap, ↓blR_bl, ↓blM_ap, ↓andR_bl, ↓andV_ap, ↓orR_bl, ↓orV_ap, ↓notR_bl, ↓notV_ap, ↓bin_ap, ↓un_ap, ↓chR_bl, ↓chain_ap, ↓consM_ap, ↓tupM_ap, ↓lstM_ap, ↓smallT_ap, ↓smallL_ap, ↓seqM_ap, ↓seqK_nx, ↓seqK_rt, ↓seqK_rtl, ↓seqK_bk, ↓seqK_ct, ↓seqK_ex, ↓seqK_bad, ↓retM_ap, ↓dropM_ap, ↓put_ap, ↓setM_ap, ↓setC_ap, ↓setL_ap, ↓smallS_ap, ↓retL_ap, ↓smallR_ap, ↓unpM_ap, ↓lstD_ap, ↓lcM_ap, ↓smallC_ap, ↓isiM_ak, ↓isiK_ap, ↓isi2M_ak, ↓isi2K_ap, ↓callF_ap, ↓resF_ok, ↓resF_ex, ↓forS_ap, ↓forM_nil, ↓forM_cons, ↓forK_nx, ↓forK_ct, ↓forK_bk, ↓forK_rt, ↓forK_ex, ↓tryM_ap, ↓tryK_ok, ↓tryK_ex, ↓noExK_ok, ↓raiseM_ap, ↓appM_ap, ↓apps_m, ↓appK_ap, ↓appKK_m, ↓callMM_ap, ↓mmK_m, ↓mmK_h, ↓callM_ap, ↓cmK_m, ↓cmK_h, ↓resM_some, ↓callO_ap, ↓resO_some, ↓slM_ap, ↓intO_ap, ↓intK_int, ↓rd_ap, ↓rdK_d, ↓rdK_m, ↓finP_rt, ↓finP_nx, ↓finP_ex, ↓finO_rtl, ↓finM_rt, ↓finM_nx, ↓eqD_ap, ↓neD_ap, ↓inD_ap, ↓notInD_ap, ↓negD_ap, ↓isNonD_ap, ↓notNonD_ap, ↓isBlD_ap, ↓notBlD_ap, ↓lenS_ap, ↓lenT_ap, ↓lenL_ap, ↓lenC_ap, ↓intI_ap, ↓intB_ap, ↓all_ap, ↓any_ap, ↓reprI_ap, ↓reprS_ap, ↓tupT_ap, ↓tupL_ap, ↓lstT_ap, ↓lstL_ap, ↓ixT_ap, ↓ixL_ap, ↓ixC_ap, ↓ixB_ap, ↓tgetM_ap, ↓tgetK_ap, ↓tixM_ap, ↓tixK_ap, ↓tgtN_ap, ↓tgtT_tup, ↓tgtT_lst, ↓tgsNil_ap, ↓tgsCons_ap, ↓itA_lst, ↓itA_scr, ↓itA_tup, ↓itA_str, ↓hixM_ak, ↓hixK_h, ↓hixK_m, ↓hixL_ap, ↓hixR_h, ↓hixR_m, ↓subD_ap, ↓ltD_ap, ↓leD_ap, ↓gtD_ap, ↓geD_ap, ↓modD_ap, ↓fdivD_ap, ↓addL_ap, ↓addI_ap, ↓addS_ap, ↓slS_ap, ↓mulI_ap, ↓mulR_ap, optK_some, optKD_some, eqP, eqS, inP, inP.flat, inP.eqF, isN, L2.atI, L2.ixN, isiO, isi2O, tyn, L2.kitB, sbeq, toP, toPs, PySem.SeqAt.shaped, PySem.PyData.canLay0, PySem.PyData.canLayAll0, PySem.PyData.depth, PySem.PyData.depthAll, PySem.PyData.eqv, PySem.PyData.eqvAll, strOk_of, b__law_hand_1, hm, hl, hy]
    obtain ⟨c, key⟩ := key
    have b1 : 0 ≤ (t * 1009 + y) % 2147483629 := Int.emod_nonneg _ (by decide)
    have b2 : (t * 1009 + y) % 2147483629 < 2147483629 := Int.emod_lt_of_pos _ (by decide)
    obtain ⟨t', cs', e', q1, q2⟩ := hand_loop v ys ((t * 1009 + y) % 2147483629) (cs ++ [c]) (.d (.int y)) (by simp at h ⊢; omega) (by omega) (by omega)
    refine ⟨t', cs', e', ?_, q2⟩
    rw [List.map_cons, forM_cons, key, forK_nx, q1]
/-- what the hand is at any time -/
def HG (h : List D) : Prop := ∃ (cs : List Nat) (i r : Nat) (t : Int), h = [D.lst (celN cs), D.int (i : Int), D.int (r : Int), D.int t]
theorem hand_ok (xs : List Int) (hx : xs.length ≤ 63) : ∃ h, F__law_hand [.scr (xs.map .int)] = some h ∧ HG h := by
  obtain ⟨t', cs', e', q, q2, _⟩ := hand_loop (.scr (xs.map .int)) xs (xs.length + 17) [] .u (by simp; omega) (by omega) (by omega)
  refine ⟨[.lst (celN cs'), .int 0, .int 0, .int t'], ?_, cs', 0, 0, t', rfl⟩
  unfold F__law_hand mkO g__law_hand
  have q' := q
  simp only [celN, List.map_nil] at q'
  simp [startR, startH, ↓atI_cast, ↓andT_ok, ↓andT_ex, ↓andT_bad, ↓bind_ap, ↓ret_ap, ↓bad_ap, ↓andB_ok, ↓andB_t, ↓andB_f, ↓andB_ex, ↓andB_bad, ↓iteM_ap, ↓iteF_ap, ↓andM_ap, ↓orM_ap, ↓notM_ap, ↓blR_bl, ↓blM_ap, ↓andR_bl, ↓andV_ap, ↓orR_bl, ↓orV_ap, ↓notR_bl, ↓notV_ap, ↓bin_ap, ↓un_ap, ↓chR_bl, ↓chain_ap, ↓consM_ap, ↓tupM_ap, ↓lstM_ap, ↓smallT_ap, ↓smallL_ap, ↓seqM_ap, ↓seqK_nx, ↓seqK_rt, ↓seqK_rtl, ↓seqK_bk, ↓seqK_ct, ↓seqK_ex, ↓seqK_bad, ↓retM_ap, ↓dropM_ap, ↓put_ap, ↓setM_ap, ↓setC_ap, ↓setL_ap, ↓smallS_ap, ↓retL_ap, ↓smallR_ap, ↓unpM_ap, ↓lstD_ap, ↓lcM_ap, ↓smallC_ap, ↓isiM_ak, ↓isiK_ap, ↓isi2M_ak, ↓isi2K_ap, ↓callF_ap, ↓resF_ok, ↓resF_ex, ↓forS_ap, ↓forM_nil, ↓forM_cons, ↓forK_nx, ↓forK_ct, ↓forK_bk, ↓forK_rt, ↓forK_ex, ↓tryM_ap, ↓tryK_ok, ↓tryK_ex, ↓noExK_ok, ↓raiseM_ap, ↓appM_ap, ↓apps_m, ↓appK_ap, ↓appKK_m, ↓callMM_ap, ↓mmK_m, ↓mmK_h, ↓callM_ap, ↓cmK_m, ↓cmK_h, ↓resM_some, ↓callO_ap, ↓resO_some, ↓slM_ap, ↓intO_ap, ↓intK_int, ↓rd_ap, ↓rdK_d, ↓rdK_m, ↓finP_rt, ↓finP_nx, ↓finP_ex, ↓finO_rtl, ↓finM_rt, ↓finM_nx, ↓eqD_ap, ↓neD_ap, ↓inD_ap, ↓notInD_ap, ↓negD_ap, ↓isNonD_ap, ↓notNonD_ap, ↓isBlD_ap, ↓notBlD_ap, ↓lenS_ap, ↓lenT_ap, ↓lenL_ap, ↓lenC_ap, ↓intI_ap, ↓intB_ap, ↓all_ap, ↓any_ap, ↓reprI_ap, ↓reprS_ap, ↓tupT_ap, ↓tupL_ap, ↓lstT_ap, ↓lstL_ap, ↓ixT_ap, ↓ixL_ap, ↓ixC_ap, ↓ixB_ap, ↓tgetM_ap, ↓tgetK_ap, ↓tixM_ap, ↓tixK_ap, ↓tgtN_ap, ↓tgtT_tup, ↓tgtT_lst, ↓tgsNil_ap, ↓tgsCons_ap, ↓itA_lst, ↓itA_scr, ↓itA_tup, ↓itA_str, ↓hixM_ak, ↓hixK_h, ↓hixK_m, ↓hixL_ap, ↓hixR_h, ↓hixR_m, ↓subD_ap, ↓ltD_ap, ↓leD_ap, ↓gtD_ap, ↓geD_ap, ↓modD_ap, ↓fdivD_ap, ↓addL_ap, ↓addI_ap, ↓addS_ap, ↓slS_ap, ↓mulI_ap, ↓mulR_ap, optK_some, optKD_some, eqP, eqS, inP, inP.flat, inP.eqF, isN, L2.atI, L2.ixN, isiO, isi2O, tyn, L2.kitB, sbeq, toP, toPs, PySem.SeqAt.shaped, PySem.PyData.canLay0, PySem.PyData.canLayAll0, PySem.PyData.depth, PySem.PyData.depthAll, PySem.PyData.eqv, PySem.PyData.eqvAll, strOk_of, itA, q', celN]
end De

set_option Elab.async false
set_option linter.all false
set_option maxRecDepth 100000
set_option maxHeartbeats 1000000
namespace De
open K05
open PySem (Str sizeLine_eq)
def mix1 (n t : Int) : Int := (n * 48271 + t * 7919 + 12345) % 2147483647
def mix2 (n t : Int) : Int := (mix1 n t * mix1 n t + t * 104729 + mix1 n t / 127) % 2147483629
def mix (n t : Int) : Int := (mix2 n t * 69621 + mix1 n t / 3) % 2147483587 / 8
theorem mixed_ok (n t : Int) : F__law_mixed [.int n, .int t] = .ok (.int (mix n t)) := by
  have b1 : 0 ≤ mix1 n t := Int.emod_nonneg _ (by decide)
  have b2 : mix1 n t < 2147483647 := Int.emod_lt_of_pos _ (by decide)
  have hm : in64 (mix1 n t) = true := by
    unfold in64
    rw [Bool.and_eq_true]
    exact ⟨decide_eq_true (by omega), decide_eq_true (by omega)⟩
  have c1 : in64 48271 = true := by decide
  have c2 : in64 7919 = true := by decide
  have c3 : in64 104729 = true := by decide
  have c4 : in64 69621 = true := by decide
  unfold mix1 at hm
  unfold F__law_mixed mkP g__law_mixed mix mix2 mix1
  have l1 : Nat.log2 127 < 9000 := by decide
  have l2 : Nat.log2 3 < 9000 := by decide
  have l3 : Nat.log2 8 < 9000 := by decide
  simp [startR, startH, ↓atI_cast, ↓andT_ok, ↓andT_ex, ↓andT_bad, ↓bind_ap, ↓ret_ap, ↓bad_ap, ↓andB_ok, ↓andB_t, ↓andB_f, ↓andB_ex, ↓andB_bad, ↓iteM_ap, ↓iteF_ap, ↓andM_ap, ↓orM_ap, ↓notM_ap, ↓blR_bl, ↓blM_ap, ↓andR_bl, ↓andV_ap, ↓orR_bl, ↓orV_ap, ↓notR_bl, ↓notV_ap, ↓bin_ap, ↓un_ap, ↓chR_bl, ↓chain_ap, ↓consM_ap, ↓tupM_ap, ↓lstM_ap, ↓smallT_ap, ↓smallL_ap, ↓seqM_ap, ↓seqK_nx, ↓seqK_rt, ↓seqK_rtl, ↓seqK_bk, ↓seqK_ct, ↓seqK_ex, ↓seqK_bad, ↓retM_ap, ↓dropM_ap, ↓put_ap, ↓setM_ap, ↓setC_ap, ↓setL_ap, ↓smallS_ap, ↓retL_ap, ↓smallR_ap, ↓unpM_ap, ↓lstD_ap, ↓lcM_ap, ↓smallC_ap, ↓isiM_ak, ↓isiK_ap, ↓isi2M_ak, ↓isi2K_ap, ↓callF_ap, ↓resF_ok, ↓resF_ex, ↓forS_ap, ↓forM_nil, ↓forM_cons, ↓forK_nx, ↓forK_ct, ↓forK_bk, ↓forK_rt, ↓forK_ex, ↓tryM_ap, ↓tryK_ok, ↓tryK_ex, ↓noExK_ok, ↓raiseM_ap, ↓appM_ap, ↓apps_m, ↓appK_ap, ↓appKK_m, ↓callMM_ap, ↓mmK_m, ↓mmK_h, ↓callM_ap, ↓cmK_m, ↓cmK_h, ↓resM_some, ↓callO_ap, ↓resO_some, ↓slM_ap, ↓intO_ap, ↓intK_int, ↓rd_ap, ↓rdK_d, ↓rdK_m, ↓finP_rt, ↓finP_nx, ↓finP_ex, ↓finO_rtl, ↓finM_rt, ↓finM_nx, ↓eqD_ap, ↓neD_ap, ↓inD_ap, ↓notInD_ap, ↓negD_ap, ↓isNonD_ap, ↓notNonD_ap, ↓isBlD_ap, ↓notBlD_ap, ↓lenS_ap, ↓lenT_ap, ↓lenL_ap, ↓lenC_ap, ↓intI_ap, ↓intB_ap, ↓all_ap, ↓any_ap, ↓reprI_ap, ↓reprS_ap, ↓tupT_ap, ↓tupL_ap, ↓lstT_ap, ↓lstL_ap, ↓ixT_ap, ↓ixL_ap, ↓ixC_ap, ↓ixB_ap, ↓tgetM_ap, ↓tgetK_ap, ↓tixM_ap, ↓tixK_ap, ↓tgtN_ap, ↓tgtT_tup, ↓tgtT_lst, ↓tgsNil_ap, ↓tgsCons_ap, ↓itA_lst, ↓itA_scr, ↓itA_tup, ↓itA_str, ↓hixM_ak, ↓hixK_h, ↓hixK_m, ↓hixL_ap, ↓hixR_h, ↓hixR_m, ↓subD_ap, ↓ltD_ap, ↓leD_ap, ↓gtD_ap, ↓geD_ap, ↓modD_ap, ↓fdivD_ap, ↓addL_ap, ↓addI_ap, ↓addS_ap, ↓slS_ap, ↓mulI_ap, ↓mulR_ap, optK_some, optKD_some, eqP, eqS, inP, inP.flat, inP.eqF, isN, L2.atI, L2.ixN, isiO, isi2O, tyn, L2.kitB, sbeq, toP, toPs, PySem.SeqAt.shaped, PySem.PyData.canLay0, PySem.PyData.canLayAll0, PySem.PyData.depth, PySem.PyData.depthAll, PySem.PyData.eqv, PySem.PyData.eqvAll, strOk_of, hm, c1, c2, c3, c4, l1, l2, l3]
theorem powLit (a b : Int) (h : 0 ≤ b) (h2 : b ≤ 1000) (h3 : a.natAbs < 1000) : De.bin powD (De.ret (.int a)) (De.ret (.int b)) = De.ret (.int (a ^ b.toNat)) := by
  funext ρ
  rw [bin_ap, ret_ap, andT_ok, bind_ap, ret_ap, andT_ok, powD_ap a b ρ h h2 h3]
  rfl
theorem pow18 : ∃ big : Int, 0 < big ∧ De.bin powD (De.ret (.int 10)) (De.ret (.int 18)) = De.ret (.int big) := ⟨10 ^ (18 : Int).toNat, Int.pow_pos (by decide), powLit 10 18 (by decide) (by decide) (by decide)⟩
theorem take_ok {h : List D} (hh : HG h) (m : Nat) (m0 : 0 < m) (m1 : m.log2 < 9000) : ∃ (v : Nat) (h' : List D), v < m ∧ F__law_take h [.int (m : Int)] = some (.int (v : Int), h') ∧ HG h' := by
  obtain ⟨cs, i, r, t, rfl⟩ := hh
  have rem : ∀ x : Int, ∃ v : Nat, v < m ∧ x % (m : Int) = (v : Int) := fun x => by
    have a := Int.emod_nonneg x (b := (m : Int)) (by omega)
    have b := Int.emod_lt_of_pos x (b := (m : Int)) (by omega)
    exact ⟨(x % (m : Int)).toNat, by omega, by omega⟩
  have mix := mixed_ok
  obtain ⟨big, big_pos, hpow⟩ := pow18
  by_cases hr : r = 0
  · subst hr
    by_cases hi : i < (celN cs).length
    · have hc : ∃ c : Nat, (celN cs)[i]? = some (.int (c : Int)) := by
        unfold celN at hi ⊢
        rw [List.length_map] at hi
        exact ⟨cs[i], by simp [List.getElem?_map, List.getElem?_eq_getElem hi]⟩
      obtain ⟨c, hc⟩ := hc
      have hc' : (celN cs)[i] = .int (c : Int) := by
        rw [List.getElem?_eq_getElem hi] at hc
        exact Option.some.inj hc
      by_cases h18 : (c : Int) < big
      · obtain ⟨v, hv, ev⟩ := rem (De.mix ((c : Int) % 2147483647) ((i : Int) + 1))
        refine ⟨v, [.lst (celN cs), .int ((i + 1 : Nat) : Int), .int ((0 : Nat) : Int), .int t], hv, ?_, cs, i + 1, 0, t, rfl⟩
        unfold F__law_take mkM g__law_take
        rw [hpow]
        simp [startR, startH, ↓atI_cast, ↓andT_ok, ↓andT_ex, ↓andT_bad, ↓bind_ap, ↓ret_ap, ↓bad_ap, ↓andB_ok, ↓andB_t, ↓andB_f, ↓andB_ex, ↓andB_bad, ↓iteM_ap, ↓iteF_ap, ↓andM_ap, ↓orM_ap, ↓notM_ap, ↓blR_bl, ↓blM_ap, ↓andR_bl, ↓andV_ap, ↓orR_bl, ↓orV_ap, ↓notR_bl, ↓notV_ap, ↓bin_ap, ↓un_ap, ↓chR_bl, ↓chain_ap, ↓consM_ap, ↓tupM_ap, ↓lstM_ap, ↓smallT_ap, ↓smallL_ap, ↓seqM_ap, ↓seqK_nx, ↓seqK_rt, ↓seqK_rtl, ↓seqK_bk, ↓seqK_ct, ↓seqK_ex, ↓seqK_bad, ↓retM_ap, ↓dropM_ap, ↓put_ap, ↓setM_ap, ↓setC_ap, ↓setL_ap, ↓smallS_ap, ↓retL_ap, ↓smallR_ap, ↓unpM_ap, ↓lstD_ap, ↓lcM_ap, ↓smallC_ap, ↓isiM_ak, ↓isiK_ap, ↓isi2M_ak, ↓isi2K_ap, ↓callF_ap, ↓resF_ok, ↓resF_ex, ↓forS_ap, ↓forM_nil, ↓forM_cons, ↓forK_nx, ↓forK_ct, ↓forK_bk, ↓forK_rt, ↓forK_ex, ↓tryM_ap, ↓tryK_ok, ↓tryK_ex, ↓noExK_ok, ↓raiseM_ap, ↓appM_ap, ↓apps_m, ↓appK_ap, ↓appKK_m, ↓callMM_ap, ↓mmK_m, ↓mmK_h, ↓callM_ap, ↓cmK_m, ↓cmK_h, ↓resM_some, ↓callO_ap, ↓resO_some, ↓slM_ap, ↓intO_ap, ↓intK_int, ↓rd_ap, ↓rdK_d, ↓rdK_m, ↓finP_rt, ↓finP_nx, ↓finP_ex, ↓finO_rtl, ↓finM_rt, ↓finM_nx, ↓eqD_ap, ↓neD_ap, ↓inD_ap, ↓notInD_ap, ↓negD_ap, ↓isNonD_ap, ↓notNonD_ap, ↓isBlD_ap, ↓notBlD_ap, ↓lenS_ap, ↓lenT_ap, ↓lenL_ap, ↓lenC_ap, ↓intI_ap, ↓intB_ap, ↓all_ap, ↓any_ap, ↓reprI_ap, ↓reprS_ap, ↓tupT_ap, ↓tupL_ap, ↓lstT_ap, ↓lstL_ap, ↓ixT_ap, ↓ixL_ap, ↓ixC_ap, ↓ixB_ap, ↓tgetM_ap, ↓tgetK_ap, ↓tixM_ap, ↓tixK_ap, ↓tgtN_ap, ↓tgtT_tup, ↓tgtT_lst, ↓tgsNil_ap, ↓tgsCons_ap, ↓itA_lst, ↓itA_scr, ↓itA_tup, ↓itA_str, ↓hixM_ak, ↓hixK_h, ↓hixK_m, ↓hixL_ap, ↓hixR_h, ↓hixR_m, ↓subD_ap, ↓ltD_ap, ↓leD_ap, ↓gtD_ap, ↓geD_ap, ↓modD_ap, ↓fdivD_ap, ↓addL_ap, ↓addI_ap, ↓addS_ap, ↓slS_ap, ↓mulI_ap, ↓mulR_ap, optK_some, optKD_some, eqP, eqS, inP, inP.flat, inP.eqF, isN, L2.atI, L2.ixN, isiO, isi2O, tyn, L2.kitB, sbeq, toP, toPs, PySem.SeqAt.shaped, PySem.PyData.canLay0, PySem.PyData.canLayAll0, PySem.PyData.depth, PySem.PyData.depthAll, PySem.PyData.eqv, PySem.PyData.eqvAll, strOk_of, hixM, setIx, lstOf, lstTo, hi, hc, hc', h18, mix, m0, ev]
      · refine ⟨c % m, [.lst (celN cs), .int ((i + 1 : Nat) : Int), .int ((c / m : Nat) : Int), .int t], Nat.mod_lt _ m0, ?_, cs, i + 1, c / m, t, rfl⟩
        unfold F__law_take mkM g__law_take
        rw [hpow]
        have c0 : 0 < c := by
          have := big_pos
          omega
        simp [startR, startH, ↓atI_cast, ↓andT_ok, ↓andT_ex, ↓andT_bad, ↓bind_ap, ↓ret_ap, ↓bad_ap, ↓andB_ok, ↓andB_t, ↓andB_f, ↓andB_ex, ↓andB_bad, ↓iteM_ap, ↓iteF_ap, ↓andM_ap, ↓orM_ap, ↓notM_ap, ↓blR_bl, ↓blM_ap, ↓andR_bl, ↓andV_ap, ↓orR_bl, ↓orV_ap, ↓notR_bl, ↓notV_ap, ↓bin_ap, ↓un_ap, ↓chR_bl, ↓chain_ap, ↓consM_ap, ↓tupM_ap, ↓lstM_ap, ↓smallT_ap, ↓smallL_ap, ↓seqM_ap, ↓seqK_nx, ↓seqK_rt, ↓seqK_rtl, ↓seqK_bk, ↓seqK_ct, ↓seqK_ex, ↓seqK_bad, ↓retM_ap, ↓dropM_ap, ↓put_ap, ↓setM_ap, ↓setC_ap, ↓setL_ap, ↓smallS_ap, ↓retL_ap, ↓smallR_ap, ↓unpM_ap, ↓lstD_ap, ↓lcM_ap, ↓smallC_ap, ↓isiM_ak, ↓isiK_ap, ↓isi2M_ak, ↓isi2K_ap, ↓callF_ap, ↓resF_ok, ↓resF_ex, ↓forS_ap, ↓forM_nil, ↓forM_cons, ↓forK_nx, ↓forK_ct, ↓forK_bk, ↓forK_rt, ↓forK_ex, ↓tryM_ap, ↓tryK_ok, ↓tryK_ex, ↓noExK_ok, ↓raiseM_ap, ↓appM_ap, ↓apps_m, ↓appK_ap, ↓appKK_m, ↓callMM_ap, ↓mmK_m, ↓mmK_h, ↓callM_ap, ↓cmK_m, ↓cmK_h, ↓resM_some, ↓callO_ap, ↓resO_some, ↓slM_ap, ↓intO_ap, ↓intK_int, ↓rd_ap, ↓rdK_d, ↓rdK_m, ↓finP_rt, ↓finP_nx, ↓finP_ex, ↓finO_rtl, ↓finM_rt, ↓finM_nx, ↓eqD_ap, ↓neD_ap, ↓inD_ap, ↓notInD_ap, ↓negD_ap, ↓isNonD_ap, ↓notNonD_ap, ↓isBlD_ap, ↓notBlD_ap, ↓lenS_ap, ↓lenT_ap, ↓lenL_ap, ↓lenC_ap, ↓intI_ap, ↓intB_ap, ↓all_ap, ↓any_ap, ↓reprI_ap, ↓reprS_ap, ↓tupT_ap, ↓tupL_ap, ↓lstT_ap, ↓lstL_ap, ↓ixT_ap, ↓ixL_ap, ↓ixC_ap, ↓ixB_ap, ↓tgetM_ap, ↓tgetK_ap, ↓tixM_ap, ↓tixK_ap, ↓tgtN_ap, ↓tgtT_tup, ↓tgtT_lst, ↓tgsNil_ap, ↓tgsCons_ap, ↓itA_lst, ↓itA_scr, ↓itA_tup, ↓itA_str, ↓hixM_ak, ↓hixK_h, ↓hixK_m, ↓hixL_ap, ↓hixR_h, ↓hixR_m, ↓subD_ap, ↓ltD_ap, ↓leD_ap, ↓gtD_ap, ↓geD_ap, ↓modD_ap, ↓fdivD_ap, ↓addL_ap, ↓addI_ap, ↓addS_ap, ↓slS_ap, ↓mulI_ap, ↓mulR_ap, optK_some, optKD_some, eqP, eqS, inP, inP.flat, inP.eqF, isN, L2.atI, L2.ixN, isiO, isi2O, tyn, L2.kitB, sbeq, toP, toPs, PySem.SeqAt.shaped, PySem.PyData.canLay0, PySem.PyData.canLayAll0, PySem.PyData.depth, PySem.PyData.depthAll, PySem.PyData.eqv, PySem.PyData.eqvAll, strOk_of, hixM, setIx, lstOf, lstTo, hi, hc, hc', h18, m0, m1, c0]
    · obtain ⟨v, hv, ev⟩ := rem (De.mix ((t + 1) % 2147483629) (i : Int))
      refine ⟨v, [.lst (celN cs), .int (i : Int), .int ((0 : Nat) : Int), .int ((t + 1) % 2147483629)], hv, ?_, cs, i, 0, _, rfl⟩
      unfold F__law_take mkM g__law_take
      simp [startR, startH, ↓atI_cast, ↓andT_ok, ↓andT_ex, ↓andT_bad, ↓bind_ap, ↓ret_ap, ↓bad_ap, ↓andB_ok, ↓andB_t, ↓andB_f, ↓andB_ex, ↓andB_bad, ↓iteM_ap, ↓iteF_ap, ↓andM_ap, ↓orM_ap, ↓notM_ap, ↓blR_bl, ↓blM_ap, ↓andR_bl, ↓andV_ap, ↓orR_bl, ↓orV_ap, ↓notR_bl, ↓notV_ap, ↓bin_ap, ↓un_ap, ↓chR_bl, ↓chain_ap, ↓consM_ap, ↓tupM_ap, ↓lstM_ap, ↓smallT_ap, ↓smallL_ap, ↓seqM_ap, ↓seqK_nx, ↓seqK_rt, ↓seqK_rtl, ↓seqK_bk, ↓seqK_ct, ↓seqK_ex, ↓seqK_bad, ↓retM_ap, ↓dropM_ap, ↓put_ap, ↓setM_ap, ↓setC_ap, ↓setL_ap, ↓smallS_ap, ↓retL_ap, ↓smallR_ap, ↓unpM_ap, ↓lstD_ap, ↓lcM_ap, ↓smallC_ap, ↓isiM_ak, ↓isiK_ap, ↓isi2M_ak, ↓isi2K_ap, ↓callF_ap, ↓resF_ok, ↓resF_ex, ↓forS_ap, ↓forM_nil, ↓forM_cons, ↓forK_nx, ↓forK_ct, ↓forK_bk, ↓forK_rt, ↓forK_ex, ↓tryM_ap, ↓tryK_ok, ↓tryK_ex, ↓noExK_ok, ↓raiseM_ap, ↓appM_ap, ↓apps_m, ↓appK_ap, ↓appKK_m, ↓callMM_ap, ↓mmK_m, ↓mmK_h, ↓callM_ap, ↓cmK_m, ↓cmK_h, ↓resM_some, ↓callO_ap, ↓resO_some, ↓slM_ap, ↓intO_ap, ↓intK_int, ↓rd_ap, ↓rdK_d, ↓rdK_m, ↓finP_rt, ↓finP_nx, ↓finP_ex, ↓finO_rtl, ↓finM_rt, ↓finM_nx, ↓eqD_ap, ↓neD_ap, ↓inD_ap, ↓notInD_ap, ↓negD_ap, ↓isNonD_ap, ↓notNonD_ap, ↓isBlD_ap, ↓notBlD_ap, ↓lenS_ap, ↓lenT_ap, ↓lenL_ap, ↓lenC_ap, ↓intI_ap, ↓intB_ap, ↓all_ap, ↓any_ap, ↓reprI_ap, ↓reprS_ap, ↓tupT_ap, ↓tupL_ap, ↓lstT_ap, ↓lstL_ap, ↓ixT_ap, ↓ixL_ap, ↓ixC_ap, ↓ixB_ap, ↓tgetM_ap, ↓tgetK_ap, ↓tixM_ap, ↓tixK_ap, ↓tgtN_ap, ↓tgtT_tup, ↓tgtT_lst, ↓tgsNil_ap, ↓tgsCons_ap, ↓itA_lst, ↓itA_scr, ↓itA_tup, ↓itA_str, ↓hixM_ak, ↓hixK_h, ↓hixK_m, ↓hixL_ap, ↓hixR_h, ↓hixR_m, ↓subD_ap, ↓ltD_ap, ↓leD_ap, ↓gtD_ap, ↓geD_ap, ↓modD_ap, ↓fdivD_ap, ↓addL_ap, ↓addI_ap, ↓addS_ap, ↓slS_ap, ↓mulI_ap, ↓mulR_ap, optK_some, optKD_some, eqP, eqS, inP, inP.flat, inP.eqF, isN, L2.atI, L2.ixN, isiO, isi2O, tyn, L2.kitB, sbeq, toP, toPs, PySem.SeqAt.shaped, PySem.PyData.canLay0, PySem.PyData.canLayAll0, PySem.PyData.depth, PySem.PyData.depthAll, PySem.PyData.eqv, PySem.PyData.eqvAll, strOk_of, hixM, setIx, lstOf, lstTo, hi, mix, m0, ev]
  · have r0 : 0 < r := by omega
    refine ⟨r % m, [.lst (celN cs), .int (i : Int), .int ((r / m : Nat) : Int), .int t], Nat.mod_lt _ m0, ?_, cs, i, r / m, t, rfl⟩
    unfold F__law_take mkM g__law_take
    simp [startR, startH, ↓atI_cast, ↓andT_ok, ↓andT_ex, ↓andT_bad, ↓bind_ap, ↓ret_ap, ↓bad_ap, ↓andB_ok, ↓andB_t, ↓andB_f, ↓andB_ex, ↓andB_bad, ↓iteM_ap, ↓iteF_ap, ↓andM_ap, ↓orM_ap, ↓notM_ap, ↓blR_bl, ↓blM_ap, ↓andR_bl, ↓andV_ap, ↓orR_bl, ↓orV_ap, ↓notR_bl, ↓notV_ap, ↓bin_ap, ↓un_ap, ↓chR_bl, ↓chain_ap, ↓consM_ap, ↓tupM_ap, ↓lstM_ap, ↓smallT_ap, ↓smallL_ap, ↓seqM_ap, ↓seqK_nx, ↓seqK_rt, ↓seqK_rtl, ↓seqK_bk, ↓seqK_ct, ↓seqK_ex, ↓seqK_bad, ↓retM_ap, ↓dropM_ap, ↓put_ap, ↓setM_ap, ↓setC_ap, ↓setL_ap, ↓smallS_ap, ↓retL_ap, ↓smallR_ap, ↓unpM_ap, ↓lstD_ap, ↓lcM_ap, ↓smallC_ap, ↓isiM_ak, ↓isiK_ap, ↓isi2M_ak, ↓isi2K_ap, ↓callF_ap, ↓resF_ok, ↓resF_ex, ↓forS_ap, ↓forM_nil, ↓forM_cons, ↓forK_nx, ↓forK_ct, ↓forK_bk, ↓forK_rt, ↓forK_ex, ↓tryM_ap, ↓tryK_ok, ↓tryK_ex, ↓noExK_ok, ↓raiseM_ap, ↓appM_ap, ↓apps_m, ↓appK_ap, ↓appKK_m, ↓callMM_ap, ↓mmK_m, ↓mmK_h, ↓callM_ap, ↓cmK_m, ↓cmK_h, ↓resM_some, ↓callO_ap, ↓resO_some, ↓slM_ap, ↓intO_ap, ↓intK_int, ↓rd_ap, ↓rdK_d, ↓rdK_m, ↓finP_rt, ↓finP_nx, ↓finP_ex, ↓finO_rtl, ↓finM_rt, ↓finM_nx, ↓eqD_ap, ↓neD_ap, ↓inD_ap, ↓notInD_ap, ↓negD_ap, ↓isNonD_ap, ↓notNonD_ap, ↓isBlD_ap, ↓notBlD_ap, ↓lenS_ap, ↓lenT_ap, ↓lenL_ap, ↓lenC_ap, ↓intI_ap, ↓intB_ap, ↓all_ap, ↓any_ap, ↓reprI_ap, ↓reprS_ap, ↓tupT_ap, ↓tupL_ap, ↓lstT_ap, ↓lstL_ap, ↓ixT_ap, ↓ixL_ap, ↓ixC_ap, ↓ixB_ap, ↓tgetM_ap, ↓tgetK_ap, ↓tixM_ap, ↓tixK_ap, ↓tgtN_ap, ↓tgtT_tup, ↓tgtT_lst, ↓tgsNil_ap, ↓tgsCons_ap, ↓itA_lst, ↓itA_scr, ↓itA_tup, ↓itA_str, ↓hixM_ak, ↓hixK_h, ↓hixK_m, ↓hixL_ap, ↓hixR_h, ↓hixR_m, ↓subD_ap, ↓ltD_ap, ↓leD_ap, ↓gtD_ap, ↓geD_ap, ↓modD_ap, ↓fdivD_ap, ↓addL_ap, ↓addI_ap, ↓addS_ap, ↓slS_ap, ↓mulI_ap, ↓mulR_ap, optK_some, optKD_some, eqP, eqS, inP, inP.flat, inP.eqF, isN, L2.atI, L2.ixN, isiO, isi2O, tyn, L2.kitB, sbeq, toP, toPs, PySem.SeqAt.shaped, PySem.PyData.canLay0, PySem.PyData.canLayAll0, PySem.PyData.depth, PySem.PyData.depthAll, PySem.PyData.eqv, PySem.PyData.eqvAll, strOk_of, hixM, setIx, lstOf, lstTo, hr, r0, m0, m1]
end De

set_option Elab.async false
set_option linter.all false
set_option maxRecDepth 100000
set_option maxHeartbeats 1000000
namespace De
open K05
open PySem (Str sizeLine_eq)
theorem rng7 (n : Nat) (N : Int) (e : N = (n : Int)) (h : n < 1000) (ρ : Rho) : itR (.int N) ρ = .ok (rngL 0 n) ρ := by
  subst e
  have z : in62 (n : Int) = true := by
    unfold in62
    rw [Bool.and_eq_true]
    exact ⟨decide_eq_true (by omega), decide_eq_true (by omega)⟩
  show (if in62 (n : Int) then De.ret (rngL 0 (n : Int).toNat) else De.bad) ρ = _
  rw [z, Int.toNat_natCast]
  rfl
theorem take_i {h : List D} (hh : HG h) (m : Nat) (M : Int) (e : M = (m : Int)) (m0 : 0 < m) (m1 : m.log2 < 9000) : ∃ (v : Nat) (h' : List D), v < m ∧ F__law_take h [.int M] = some (.int (v : Int), h') ∧ HG h' := by
  subst e
  exact take_ok hh m m0 m1
theorem blsOf_map {α : Type} (p : α → Bool) : ∀ cs : List α, blsOf (cs.map fun c => .bl (p c)) = some (cs.map p)
  | [] => rfl
  | c :: cs => by
    show (blsOf (cs.map fun c => .bl (p c))).map (p c :: ·) = _
    rw [blsOf_map p cs]
    rfl
/-- a name: one to eight small letters -/
def nm (s : Str) : Bool := decide (1 ≤ (s.length : Int)) && (decide ((s.length : Int) ≤ 8) && s.cps.toList.all fun c => decide (c ∈ abc))
theorem lcname (s : Str) (v : D) : lcLoop [1] (tgtN 1) (De.ret true) (De.bin inD (rd 1) (De.ret (.str "abcdefghijklmnopqrstuvwxyz"))) (s.cps.toList.map fun c => .str ⟨#[c]⟩) [.d v, .u] = .ok (s.cps.toList.map fun c => .bl (decide (c ∈ abc))) [.d v, .u] := by
  have h := lc_pure (i := 1) (ρ := [.d v, .u]) (f := De.bin inD (rd 1) (De.ret (.str "abcdefghijklmnopqrstuvwxyz"))) (h := fun d => match d with | .str ⟨⟨[c]⟩⟩ => .bl (decide (c ∈ abc)) | _ => .non) (s.cps.toList.map fun c => .str ⟨#[c]⟩) .u (fun x hx => by
    obtain ⟨c, _, rfl⟩ := List.mem_map.1 hx
    rfl)
  rw [List.map_map] at h
  exact h
theorem is_name_str (s : Str) (hs : s.length ≤ 1000) : F_is_name [.str s] = .ok (.bl (nm s)) := by
  have h1 : s.length ≤ 16777216 := by omega
  have h2 : (s.cps.toList.map fun c => D.str ⟨#[c]⟩).length ≤ 16777216 := by
    rw [List.length_map]
    exact h1
  unfold F_is_name mkP g_is_name
  by_cases a : (1 : Int) ≤ s.length
  · by_cases b : (s.length : Int) ≤ 8
    · have h3 : s.cps.size ≤ 16777216 := h1
      simp [startR, startH, ↓atI_cast, ↓andT_ok, ↓andT_ex, ↓andT_bad, ↓bind_ap, ↓ret_ap, ↓bad_ap, ↓andB_ok, ↓andB_t, ↓andB_f, ↓andB_ex, ↓andB_bad, ↓iteM_ap, ↓iteF_ap, ↓andM_ap, ↓orM_ap, ↓notM_ap, ↓blR_bl, ↓blM_ap, ↓andR_bl, ↓andV_ap, ↓orR_bl, ↓orV_ap, ↓notR_bl, ↓notV_ap, ↓bin_ap, ↓un_ap, ↓chR_bl, ↓chain_ap, ↓consM_ap, ↓tupM_ap, ↓lstM_ap, ↓smallT_ap, ↓smallL_ap, ↓seqM_ap, ↓seqK_nx, ↓seqK_rt, ↓seqK_rtl, ↓seqK_bk, ↓seqK_ct, ↓seqK_ex, ↓seqK_bad, ↓retM_ap, ↓dropM_ap, ↓put_ap, ↓setM_ap, ↓setC_ap, ↓setL_ap, ↓smallS_ap, ↓retL_ap, ↓smallR_ap, ↓unpM_ap, ↓lstD_ap, ↓lcM_ap, ↓smallC_ap, ↓isiM_ak, ↓isiK_ap, ↓isi2M_ak, ↓isi2K_ap, ↓callF_ap, ↓resF_ok, ↓resF_ex, ↓forS_ap, ↓forM_nil, ↓forM_cons, ↓forK_nx, ↓forK_ct, ↓forK_bk, ↓forK_rt, ↓forK_ex, ↓tryM_ap, ↓tryK_ok, ↓tryK_ex, ↓noExK_ok, ↓raiseM_ap, ↓appM_ap, ↓apps_m, ↓appK_ap, ↓appKK_m, ↓callMM_ap, ↓mmK_m, ↓mmK_h, ↓callM_ap, ↓cmK_m, ↓cmK_h, ↓resM_some, ↓callO_ap, ↓resO_some, ↓slM_ap, ↓intO_ap, ↓intK_int, ↓rd_ap, ↓rdK_d, ↓rdK_m, ↓finP_rt, ↓finP_nx, ↓finP_ex, ↓finO_rtl, ↓finM_rt, ↓finM_nx, ↓eqD_ap, ↓neD_ap, ↓inD_ap, ↓notInD_ap, ↓negD_ap, ↓isNonD_ap, ↓notNonD_ap, ↓isBlD_ap, ↓notBlD_ap, ↓lenS_ap, ↓lenT_ap, ↓lenL_ap, ↓lenC_ap, ↓intI_ap, ↓intB_ap, ↓all_ap, ↓any_ap, ↓reprI_ap, ↓reprS_ap, ↓tupT_ap, ↓tupL_ap, ↓lstT_ap, ↓lstL_ap, ↓ixT_ap, ↓ixL_ap, ↓ixC_ap, ↓ixB_ap, ↓tgetM_ap, ↓tgetK_ap, ↓tixM_ap, ↓tixK_ap, ↓tgtN_ap, ↓tgtT_tup, ↓tgtT_lst, ↓tgsNil_ap, ↓tgsCons_ap, ↓itA_lst, ↓itA_scr, ↓itA_tup, ↓itA_str, ↓hixM_ak, ↓hixK_h, ↓hixK_m, ↓hixL_ap, ↓hixR_h, ↓hixR_m, ↓subD_ap, ↓ltD_ap, ↓leD_ap, ↓gtD_ap, ↓geD_ap, ↓modD_ap, ↓fdivD_ap, ↓addL_ap, ↓addI_ap, ↓addS_ap, ↓slS_ap, ↓mulI_ap, ↓mulR_ap, optK_some, optKD_some, eqP, eqS, inP, inP.flat, inP.eqF, isN, L2.atI, L2.ixN, isiO, isi2O, tyn, L2.kitB, sbeq, toP, toPs, PySem.SeqAt.shaped, PySem.PyData.canLay0, PySem.PyData.canLayAll0, PySem.PyData.depth, PySem.PyData.depthAll, PySem.PyData.eqv, PySem.PyData.eqvAll, strOk_of, ↓truM_ap, ↓truR_bl, h1, h2, h3, a, b, itA, lcname, blsOf_map, nm]
    · simp [startR, startH, ↓atI_cast, ↓andT_ok, ↓andT_ex, ↓andT_bad, ↓bind_ap, ↓ret_ap, ↓bad_ap, ↓andB_ok, ↓andB_t, ↓andB_f, ↓andB_ex, ↓andB_bad, ↓iteM_ap, ↓iteF_ap, ↓andM_ap, ↓orM_ap, ↓notM_ap, ↓blR_bl, ↓blM_ap, ↓andR_bl, ↓andV_ap, ↓orR_bl, ↓orV_ap, ↓notR_bl, ↓notV_ap, ↓bin_ap, ↓un_ap, ↓chR_bl, ↓chain_ap, ↓consM_ap, ↓tupM_ap, ↓lstM_ap, ↓smallT_ap, ↓smallL_ap, ↓seqM_ap, ↓seqK_nx, ↓seqK_rt, ↓seqK_rtl, ↓seqK_bk, ↓seqK_ct, ↓seqK_ex, ↓seqK_bad, ↓retM_ap, ↓dropM_ap, ↓put_ap, ↓setM_ap, ↓setC_ap, ↓setL_ap, ↓smallS_ap, ↓retL_ap, ↓smallR_ap, ↓unpM_ap, ↓lstD_ap, ↓lcM_ap, ↓smallC_ap, ↓isiM_ak, ↓isiK_ap, ↓isi2M_ak, ↓isi2K_ap, ↓callF_ap, ↓resF_ok, ↓resF_ex, ↓forS_ap, ↓forM_nil, ↓forM_cons, ↓forK_nx, ↓forK_ct, ↓forK_bk, ↓forK_rt, ↓forK_ex, ↓tryM_ap, ↓tryK_ok, ↓tryK_ex, ↓noExK_ok, ↓raiseM_ap, ↓appM_ap, ↓apps_m, ↓appK_ap, ↓appKK_m, ↓callMM_ap, ↓mmK_m, ↓mmK_h, ↓callM_ap, ↓cmK_m, ↓cmK_h, ↓resM_some, ↓callO_ap, ↓resO_some, ↓slM_ap, ↓intO_ap, ↓intK_int, ↓rd_ap, ↓rdK_d, ↓rdK_m, ↓finP_rt, ↓finP_nx, ↓finP_ex, ↓finO_rtl, ↓finM_rt, ↓finM_nx, ↓eqD_ap, ↓neD_ap, ↓inD_ap, ↓notInD_ap, ↓negD_ap, ↓isNonD_ap, ↓notNonD_ap, ↓isBlD_ap, ↓notBlD_ap, ↓lenS_ap, ↓lenT_ap, ↓lenL_ap, ↓lenC_ap, ↓intI_ap, ↓intB_ap, ↓all_ap, ↓any_ap, ↓reprI_ap, ↓reprS_ap, ↓tupT_ap, ↓tupL_ap, ↓lstT_ap, ↓lstL_ap, ↓ixT_ap, ↓ixL_ap, ↓ixC_ap, ↓ixB_ap, ↓tgetM_ap, ↓tgetK_ap, ↓tixM_ap, ↓tixK_ap, ↓tgtN_ap, ↓tgtT_tup, ↓tgtT_lst, ↓tgsNil_ap, ↓tgsCons_ap, ↓itA_lst, ↓itA_scr, ↓itA_tup, ↓itA_str, ↓hixM_ak, ↓hixK_h, ↓hixK_m, ↓hixL_ap, ↓hixR_h, ↓hixR_m, ↓subD_ap, ↓ltD_ap, ↓leD_ap, ↓gtD_ap, ↓geD_ap, ↓modD_ap, ↓fdivD_ap, ↓addL_ap, ↓addI_ap, ↓addS_ap, ↓slS_ap, ↓mulI_ap, ↓mulR_ap, optK_some, optKD_some, eqP, eqS, inP, inP.flat, inP.eqF, isN, L2.atI, L2.ixN, isiO, isi2O, tyn, L2.kitB, sbeq, toP, toPs, PySem.SeqAt.shaped, PySem.PyData.canLay0, PySem.PyData.canLayAll0, PySem.PyData.depth, PySem.PyData.depthAll, PySem.PyData.eqv, PySem.PyData.eqvAll, strOk_of, ↓truM_ap, ↓truR_bl, h1, h2, a, b, nm]
  · simp [startR, startH, ↓atI_cast, ↓andT_ok, ↓andT_ex, ↓andT_bad, ↓bind_ap, ↓ret_ap, ↓bad_ap, ↓andB_ok, ↓andB_t, ↓andB_f, ↓andB_ex, ↓andB_bad, ↓iteM_ap, ↓iteF_ap, ↓andM_ap, ↓orM_ap, ↓notM_ap, ↓blR_bl, ↓blM_ap, ↓andR_bl, ↓andV_ap, ↓orR_bl, ↓orV_ap, ↓notR_bl, ↓notV_ap, ↓bin_ap, ↓un_ap, ↓chR_bl, ↓chain_ap, ↓consM_ap, ↓tupM_ap, ↓lstM_ap, ↓smallT_ap, ↓smallL_ap, ↓seqM_ap, ↓seqK_nx, ↓seqK_rt, ↓seqK_rtl, ↓seqK_bk, ↓seqK_ct, ↓seqK_ex, ↓seqK_bad, ↓retM_ap, ↓dropM_ap, ↓put_ap, ↓setM_ap, ↓setC_ap, ↓setL_ap, ↓smallS_ap, ↓retL_ap, ↓smallR_ap, ↓unpM_ap, ↓lstD_ap, ↓lcM_ap, ↓smallC_ap, ↓isiM_ak, ↓isiK_ap, ↓isi2M_ak, ↓isi2K_ap, ↓callF_ap, ↓resF_ok, ↓resF_ex, ↓forS_ap, ↓forM_nil, ↓forM_cons, ↓forK_nx, ↓forK_ct, ↓forK_bk, ↓forK_rt, ↓forK_ex, ↓tryM_ap, ↓tryK_ok, ↓tryK_ex, ↓noExK_ok, ↓raiseM_ap, ↓appM_ap, ↓apps_m, ↓appK_ap, ↓appKK_m, ↓callMM_ap, ↓mmK_m, ↓mmK_h, ↓callM_ap, ↓cmK_m, ↓cmK_h, ↓resM_some, ↓callO_ap, ↓resO_some, ↓slM_ap, ↓intO_ap, ↓intK_int, ↓rd_ap, ↓rdK_d, ↓rdK_m, ↓finP_rt, ↓finP_nx, ↓finP_ex, ↓finO_rtl, ↓finM_rt, ↓finM_nx, ↓eqD_ap, ↓neD_ap, ↓inD_ap, ↓notInD_ap, ↓negD_ap, ↓isNonD_ap, ↓notNonD_ap, ↓isBlD_ap, ↓notBlD_ap, ↓lenS_ap, ↓lenT_ap, ↓lenL_ap, ↓lenC_ap, ↓intI_ap, ↓intB_ap, ↓all_ap, ↓any_ap, ↓reprI_ap, ↓reprS_ap, ↓tupT_ap, ↓tupL_ap, ↓lstT_ap, ↓lstL_ap, ↓ixT_ap, ↓ixL_ap, ↓ixC_ap, ↓ixB_ap, ↓tgetM_ap, ↓tgetK_ap, ↓tixM_ap, ↓tixK_ap, ↓tgtN_ap, ↓tgtT_tup, ↓tgtT_lst, ↓tgsNil_ap, ↓tgsCons_ap, ↓itA_lst, ↓itA_scr, ↓itA_tup, ↓itA_str, ↓hixM_ak, ↓hixK_h, ↓hixK_m, ↓hixL_ap, ↓hixR_h, ↓hixR_m, ↓subD_ap, ↓ltD_ap, ↓leD_ap, ↓gtD_ap, ↓geD_ap, ↓modD_ap, ↓fdivD_ap, ↓addL_ap, ↓addI_ap, ↓addS_ap, ↓slS_ap, ↓mulI_ap, ↓mulR_ap, optK_some, optKD_some, eqP, eqS, inP, inP.flat, inP.eqF, isN, L2.atI, L2.ixN, isiO, isi2O, tyn, L2.kitB, sbeq, toP, toPs, PySem.SeqAt.shaped, PySem.PyData.canLay0, PySem.PyData.canLayAll0, PySem.PyData.depth, PySem.PyData.depthAll, PySem.PyData.eqv, PySem.PyData.eqvAll, strOk_of, ↓truM_ap, ↓truR_bl, h1, h2, a, nm]
theorem str_app (s t : Str) : (s ++ t).length = s.length + t.length := by
  show (s.cps ++ t.cps).size = _
  exact Array.size_append
theorem name_loop : ∀ (ys : List D) (h : List D) (s : Str) (e : EV), HG h → (∀ c ∈ s.cps.toList, c ∈ abc) → s.length + ys.length ≤ 8 →
    ∃ h' s' e', forM (tgtN 2) b__law_name_1 ys [.h h, .d (.str s), e] = .ok .nx [.h h', .d (.str s'), e'] ∧ HG h' ∧ (∀ c ∈ s'.cps.toList, c ∈ abc) ∧ s'.length = s.length + ys.length
  | [], h, s, e, hh, hs, hl => ⟨h, s, e, rfl, hh, hs, rfl⟩
  | y :: ys, h, s, e, hh, hs, hl => by
    obtain ⟨v, h1, hv, e1, hh1⟩ := take_i hh 26 26 rfl (by decide) (by decide)
    have hc : ∃ c : Nat, c ∈ abc ∧ ∀ ρ, De.ixD (.str "abcdefghijklmnopqrstuvwxyz") (.int (v : Int)) ρ = .ok (.str ⟨#[c]⟩) ρ := by
      have hlen : abc.length = 26 := by decide
      refine ⟨abc[v], List.getElem_mem _, fun ρ => ?_⟩
      have q : L2.atI abc (v : Int) = some abc[v] := by rw [atI_cast]; exact List.getElem?_eq_getElem (by omega)
      show (match L2.atI abc (v : Int) with
        | some c => if small ("abcdefghijklmnopqrstuvwxyz" : Str).length then De.ret (D.str ⟨#[c]⟩) else De.bad
        | none => De.bad) ρ = _
      rw [q]
      have z : small ("abcdefghijklmnopqrstuvwxyz" : Str).length = true := by decide
      simp only [z, if_true]
      rfl
    obtain ⟨c, hca, hc⟩ := hc
    have ha : ∀ ρ, addD (.str s) (.str ⟨#[c]⟩) ρ = .ok (.str (s ++ ⟨#[c]⟩)) ρ := fun ρ => by
      have z : small (s.length + (⟨#[c]⟩ : Str).length) = true := small_ok (by
        have : (⟨#[c]⟩ : Str).length = 1 := rfl
        simp at hl
        omega)
      show (if small (s.length + (⟨#[c]⟩ : Str).length) then De.ret (D.str (s ++ ⟨#[c]⟩)) else De.bad) ρ = _
      rw [z]
      rfl
    have key : De.bind (tgtN 2 y) (fun _ => b__law_name_1) [.h h, .d (.str s), e] = .ok .nx [.h h1, .d (.str (s ++ ⟨#[c]⟩)), .d y] := by
      rw [bind_ap, tgtN_ap, andT_ok]
      unfold b__law_name_1
      rw [setM_ap, bin_ap]
      simp only [rd, List.set_cons_succ, List.set_cons_zero, List.getElem?_cons_zero, List.getElem?_cons_succ, andT_ok]
      simp only [bind_ap, bin_ap, ret_ap, andT_ok, callMM_ap, List.getElem?_cons_zero, mmK_h, consM_ap, callM_ap, cmK_h, e1, resM_some, List.set_cons_zero, hc, ha, put_ap, List.set_cons_succ]
    have hl2 : (s ++ (⟨#[c]⟩ : Str)).length = s.length + 1 := str_app _ _
    simp only [List.length_cons] at hl ⊢
    obtain ⟨h', s', e', q1, q2, q4, q3⟩ := name_loop ys h1 (s ++ ⟨#[c]⟩) (.d y) hh1 (fun x hx => by
      have hx' : x ∈ s.cps.toList ++ [c] := by
        have e : (s ++ (⟨#[c]⟩ : Str)).cps.toList = s.cps.toList ++ [c] := by
          show (s.cps ++ #[c]).toList = _
          simp
        rw [e] at hx
        exact hx
      rcases List.mem_append.1 hx' with z | z
      · exact hs x z
      · rw [List.mem_singleton.1 z]
        exact hca) (by omega)
    exact ⟨h', s', e', by rw [forM_cons, key, forK_nx, q1], q2, q4, by omega⟩
theorem name_ok {h : List D} (hh : HG h) : ∃ (s : Str) (h' : List D), F__law_name h [] = some (.str s, h') ∧ HG h' ∧ nm s = true := by
  obtain ⟨v, h1, hv, e1, hh1⟩ := take_i hh 8 8 rfl (by decide) (by decide)
  have hn : (rngL 0 (1 + v)).length = 1 + v := by simp [rngL]
  obtain ⟨h', s', e', q1, q2, q4, q3⟩ := name_loop (rngL 0 (1 + v)) h1 "" .u hh1 (fun c hc => by cases hc) (by rw [hn]; show 0 + (1 + v) ≤ 8; omega)
  refine ⟨s', h', ?_, q2, ?_⟩
  · have hr : ∀ ρ, itR (.int (1 + (v : Int))) ρ = .ok (rngL 0 (1 + v)) ρ := fun ρ => by
      have z : in62 (1 + (v : Int)) = true := by
        unfold in62
        rw [Bool.and_eq_true]
        exact ⟨decide_eq_true (by omega), decide_eq_true (by omega)⟩
      have z2 : (1 + (v : Int)).toNat = 1 + v := by omega
      show (if in62 (1 + (v : Int)) then De.ret (rngL 0 (1 + (v : Int)).toNat) else De.bad) ρ = _
      rw [z, z2]
      rfl
    unfold F__law_name mkM g__law_name
    simp [startR, startH, ↓atI_cast, ↓andT_ok, ↓andT_ex, ↓andT_bad, ↓bind_ap, ↓ret_ap, ↓bad_ap, ↓andB_ok, ↓andB_t, ↓andB_f, ↓andB_ex, ↓andB_bad, ↓iteM_ap, ↓iteF_ap, ↓andM_ap, ↓orM_ap, ↓notM_ap, ↓blR_bl, ↓blM_ap, ↓andR_bl, ↓andV_ap, ↓orR_bl, ↓orV_ap, ↓notR_bl, ↓notV_ap, ↓bin_ap, ↓un_ap, ↓chR_bl, ↓chain_ap, ↓consM_ap, ↓tupM_ap, ↓lstM_ap, ↓smallT_ap, ↓smallL_ap, ↓seqM_ap, ↓seqK_nx, ↓seqK_rt, ↓seqK_rtl, ↓seqK_bk, ↓seqK_ct, ↓seqK_ex, ↓seqK_bad, ↓retM_ap, ↓dropM_ap, ↓put_ap, ↓setM_ap, ↓setC_ap, ↓setL_ap, ↓smallS_ap, ↓retL_ap, ↓smallR_ap, ↓unpM_ap, ↓lstD_ap, ↓lcM_ap, ↓smallC_ap, ↓isiM_ak, ↓isiK_ap, ↓isi2M_ak, ↓isi2K_ap, ↓callF_ap, ↓resF_ok, ↓resF_ex, ↓forS_ap, ↓forM_nil, ↓forM_cons, ↓forK_nx, ↓forK_ct, ↓forK_bk, ↓forK_rt, ↓forK_ex, ↓tryM_ap, ↓tryK_ok, ↓tryK_ex, ↓noExK_ok, ↓raiseM_ap, ↓appM_ap, ↓apps_m, ↓appK_ap, ↓appKK_m, ↓callMM_ap, ↓mmK_m, ↓mmK_h, ↓callM_ap, ↓cmK_m, ↓cmK_h, ↓resM_some, ↓callO_ap, ↓resO_some, ↓slM_ap, ↓intO_ap, ↓intK_int, ↓rd_ap, ↓rdK_d, ↓rdK_m, ↓finP_rt, ↓finP_nx, ↓finP_ex, ↓finO_rtl, ↓finM_rt, ↓finM_nx, ↓eqD_ap, ↓neD_ap, ↓inD_ap, ↓notInD_ap, ↓negD_ap, ↓isNonD_ap, ↓notNonD_ap, ↓isBlD_ap, ↓notBlD_ap, ↓lenS_ap, ↓lenT_ap, ↓lenL_ap, ↓lenC_ap, ↓intI_ap, ↓intB_ap, ↓all_ap, ↓any_ap, ↓reprI_ap, ↓reprS_ap, ↓tupT_ap, ↓tupL_ap, ↓lstT_ap, ↓lstL_ap, ↓ixT_ap, ↓ixL_ap, ↓ixC_ap, ↓ixB_ap, ↓tgetM_ap, ↓tgetK_ap, ↓tixM_ap, ↓tixK_ap, ↓tgtN_ap, ↓tgtT_tup, ↓tgtT_lst, ↓tgsNil_ap, ↓tgsCons_ap, ↓itA_lst, ↓itA_scr, ↓itA_tup, ↓itA_str, ↓hixM_ak, ↓hixK_h, ↓hixK_m, ↓hixL_ap, ↓hixR_h, ↓hixR_m, ↓subD_ap, ↓ltD_ap, ↓leD_ap, ↓gtD_ap, ↓geD_ap, ↓modD_ap, ↓fdivD_ap, ↓addL_ap, ↓addI_ap, ↓addS_ap, ↓slS_ap, ↓mulI_ap, ↓mulR_ap, optK_some, optKD_some, eqP, eqS, inP, inP.flat, inP.eqF, isN, L2.atI, L2.ixN, isiO, isi2O, tyn, L2.kitB, sbeq, toP, toPs, PySem.SeqAt.shaped, PySem.PyData.canLay0, PySem.PyData.canLayAll0, PySem.PyData.depth, PySem.PyData.depthAll, PySem.PyData.eqv, PySem.PyData.eqvAll, strOk_of, e1, ↓hr, q1]
  · have z : (("" : Str)).length = 0 := rfl
    unfold nm
    rw [decide_eq_true (by omega), decide_eq_true (by omega), Bool.true_and, Bool.true_and, List.all_eq_true]
    exact fun c hc => decide_eq_true (q4 c hc)
theorem is_whole_int (i : Int) : F_is_whole [.int i] = .ok (.bl true) := by kernel_rfl
theorem is_name_ok {s : Str} (h : nm s = true) : F_is_name [.str s] = .ok (.bl true) := by
  have l : s.length ≤ 1000 := by
    unfold nm at h
    rw [Bool.and_eq_true, Bool.and_eq_true] at h
    have := of_decide_eq_true h.2.1
    omega
  rw [is_name_str s l, h]
theorem nm_len {z : Str} (h : nm z = true) : z.length ≤ 8 ∧ ∀ c ∈ z.cps.toList, c ∈ abc := by
  unfold nm at h
  rw [Bool.and_eq_true, Bool.and_eq_true, List.all_eq_true] at h
  have := of_decide_eq_true h.2.1
  exact ⟨by omega, fun c hc => of_decide_eq_true (h.2.2 c hc)⟩
theorem nm_ok {z : Str} (h : nm z = true) : PySem.PyData.strOk z = true := by
  have h1 := (nm_len h).2
  unfold PySem.PyData.strOk
  rw [← Array.all_toList, List.all_eq_true]
  intro c hc
  have e : ∀ c ∈ abc, decide (c < 1114112) = true := by decide +kernel
  exact e c (h1 c hc)
theorem lwhole_int (i : Int) : F__law_whole [.int i] = .ok (.bl true) := by kernel_rfl
theorem powB (a b : Nat) (h2 : b ≤ 1000) (h3 : a < 1000) (h4 : 0 < a) : ∃ B : Nat, 0 < B ∧ B = a ^ b ∧ De.bin powD (De.ret (.int (a : Int))) (De.ret (.int (b : Int))) = De.ret (.int (B : Int)) := by
  refine ⟨a ^ b, Nat.pow_pos h4, rfl, ?_⟩
  rw [powLit (a : Int) (b : Int) (by omega) (by omega) (by omega)]
  congr 2
theorem date_ok {h : List D} (hh : HG h) : ∃ (n : Int) (h' : List D), F__law_date h [] = some (.int n, h') ∧ HG h' := by
  obtain ⟨v, h1, hv, e1, hh1⟩ := take_i hh 8 8 rfl (by decide) (by decide)
  obtain ⟨B, B0, B1, hB⟩ := powB 10 12 (by decide) (by decide) (by decide)
  have hB' : De.bin powD (De.ret (.int 10)) (De.ret (.int 12)) = De.ret (.int (B : Int)) := hB
  have i2 : in64 2 = true := by decide
  by_cases v0 : v = 0
  · subst v0
    have lg : (2 * B).log2 < 9000 := by
      have z : 2 * B ≠ 0 := by omega
      exact Nat.lt_trans ((Nat.log2_lt z (k := 60)).2 (by rw [B1]; decide)) (by decide)
    obtain ⟨u, h2, hu, e2, hh2⟩ := take_i hh1 (2 * B) (2 * (B : Int)) (by omega) (by omega) lg
    refine ⟨(u : Int) - B, h2, ?_, hh2⟩
    unfold F__law_date mkM g__law_date
    rw [hB']
    simp [startR, startH, ↓atI_cast, ↓andT_ok, ↓andT_ex, ↓andT_bad, ↓bind_ap, ↓ret_ap, ↓bad_ap, ↓andB_ok, ↓andB_t, ↓andB_f, ↓andB_ex, ↓andB_bad, ↓iteM_ap, ↓iteF_ap, ↓andM_ap, ↓orM_ap, ↓notM_ap, ↓blR_bl, ↓blM_ap, ↓andR_bl, ↓andV_ap, ↓orR_bl, ↓orV_ap, ↓notR_bl, ↓notV_ap, ↓bin_ap, ↓un_ap, ↓chR_bl, ↓chain_ap, ↓consM_ap, ↓tupM_ap, ↓lstM_ap, ↓smallT_ap, ↓smallL_ap, ↓seqM_ap, ↓seqK_nx, ↓seqK_rt, ↓seqK_rtl, ↓seqK_bk, ↓seqK_ct, ↓seqK_ex, ↓seqK_bad, ↓retM_ap, ↓dropM_ap, ↓put_ap, ↓setM_ap, ↓setC_ap, ↓setL_ap, ↓smallS_ap, ↓retL_ap, ↓smallR_ap, ↓unpM_ap, ↓lstD_ap, ↓lcM_ap, ↓smallC_ap, ↓isiM_ak, ↓isiK_ap, ↓isi2M_ak, ↓isi2K_ap, ↓callF_ap, ↓resF_ok, ↓resF_ex, ↓forS_ap, ↓forM_nil, ↓forM_cons, ↓forK_nx, ↓forK_ct, ↓forK_bk, ↓forK_rt, ↓forK_ex, ↓tryM_ap, ↓tryK_ok, ↓tryK_ex, ↓noExK_ok, ↓raiseM_ap, ↓appM_ap, ↓apps_m, ↓appK_ap, ↓appKK_m, ↓callMM_ap, ↓mmK_m, ↓mmK_h, ↓callM_ap, ↓cmK_m, ↓cmK_h, ↓resM_some, ↓callO_ap, ↓resO_some, ↓slM_ap, ↓intO_ap, ↓intK_int, ↓rd_ap, ↓rdK_d, ↓rdK_m, ↓finP_rt, ↓finP_nx, ↓finP_ex, ↓finO_rtl, ↓finM_rt, ↓finM_nx, ↓eqD_ap, ↓neD_ap, ↓inD_ap, ↓notInD_ap, ↓negD_ap, ↓isNonD_ap, ↓notNonD_ap, ↓isBlD_ap, ↓notBlD_ap, ↓lenS_ap, ↓lenT_ap, ↓lenL_ap, ↓lenC_ap, ↓intI_ap, ↓intB_ap, ↓all_ap, ↓any_ap, ↓reprI_ap, ↓reprS_ap, ↓tupT_ap, ↓tupL_ap, ↓lstT_ap, ↓lstL_ap, ↓ixT_ap, ↓ixL_ap, ↓ixC_ap, ↓ixB_ap, ↓tgetM_ap, ↓tgetK_ap, ↓tixM_ap, ↓tixK_ap, ↓tgtN_ap, ↓tgtT_tup, ↓tgtT_lst, ↓tgsNil_ap, ↓tgsCons_ap, ↓itA_lst, ↓itA_scr, ↓itA_tup, ↓itA_str, ↓hixM_ak, ↓hixK_h, ↓hixK_m, ↓hixL_ap, ↓hixR_h, ↓hixR_m, ↓subD_ap, ↓ltD_ap, ↓leD_ap, ↓gtD_ap, ↓geD_ap, ↓modD_ap, ↓fdivD_ap, ↓addL_ap, ↓addI_ap, ↓addS_ap, ↓slS_ap, ↓mulI_ap, ↓mulR_ap, optK_some, optKD_some, eqP, eqS, inP, inP.flat, inP.eqF, isN, L2.atI, L2.ixN, isiO, isi2O, tyn, L2.kitB, sbeq, toP, toPs, PySem.SeqAt.shaped, PySem.PyData.canLay0, PySem.PyData.canLayAll0, PySem.PyData.depth, PySem.PyData.depthAll, PySem.PyData.eqv, PySem.PyData.eqvAll, strOk_of, e1, e2, i2]
  · obtain ⟨u, h2, hu, e2, hh2⟩ := take_i hh1 17 17 rfl (by decide) (by decide)
    have n0 : ((v : Int) == 0) = false := beq_eq_false_iff_ne.2 (by omega)
    refine ⟨(u : Int) - 3, h2, ?_, hh2⟩
    unfold F__law_date mkM g__law_date
    simp [startR, startH, ↓atI_cast, ↓andT_ok, ↓andT_ex, ↓andT_bad, ↓bind_ap, ↓ret_ap, ↓bad_ap, ↓andB_ok, ↓andB_t, ↓andB_f, ↓andB_ex, ↓andB_bad, ↓iteM_ap, ↓iteF_ap, ↓andM_ap, ↓orM_ap, ↓notM_ap, ↓blR_bl, ↓blM_ap, ↓andR_bl, ↓andV_ap, ↓orR_bl, ↓orV_ap, ↓notR_bl, ↓notV_ap, ↓bin_ap, ↓un_ap, ↓chR_bl, ↓chain_ap, ↓consM_ap, ↓tupM_ap, ↓lstM_ap, ↓smallT_ap, ↓smallL_ap, ↓seqM_ap, ↓seqK_nx, ↓seqK_rt, ↓seqK_rtl, ↓seqK_bk, ↓seqK_ct, ↓seqK_ex, ↓seqK_bad, ↓retM_ap, ↓dropM_ap, ↓put_ap, ↓setM_ap, ↓setC_ap, ↓setL_ap, ↓smallS_ap, ↓retL_ap, ↓smallR_ap, ↓unpM_ap, ↓lstD_ap, ↓lcM_ap, ↓smallC_ap, ↓isiM_ak, ↓isiK_ap, ↓isi2M_ak, ↓isi2K_ap, ↓callF_ap, ↓resF_ok, ↓resF_ex, ↓forS_ap, ↓forM_nil, ↓forM_cons, ↓forK_nx, ↓forK_ct, ↓forK_bk, ↓forK_rt, ↓forK_ex, ↓tryM_ap, ↓tryK_ok, ↓tryK_ex, ↓noExK_ok, ↓raiseM_ap, ↓appM_ap, ↓apps_m, ↓appK_ap, ↓appKK_m, ↓callMM_ap, ↓mmK_m, ↓mmK_h, ↓callM_ap, ↓cmK_m, ↓cmK_h, ↓resM_some, ↓callO_ap, ↓resO_some, ↓slM_ap, ↓intO_ap, ↓intK_int, ↓rd_ap, ↓rdK_d, ↓rdK_m, ↓finP_rt, ↓finP_nx, ↓finP_ex, ↓finO_rtl, ↓finM_rt, ↓finM_nx, ↓eqD_ap, ↓neD_ap, ↓inD_ap, ↓notInD_ap, ↓negD_ap, ↓isNonD_ap, ↓notNonD_ap, ↓isBlD_ap, ↓notBlD_ap, ↓lenS_ap, ↓lenT_ap, ↓lenL_ap, ↓lenC_ap, ↓intI_ap, ↓intB_ap, ↓all_ap, ↓any_ap, ↓reprI_ap, ↓reprS_ap, ↓tupT_ap, ↓tupL_ap, ↓lstT_ap, ↓lstL_ap, ↓ixT_ap, ↓ixL_ap, ↓ixC_ap, ↓ixB_ap, ↓tgetM_ap, ↓tgetK_ap, ↓tixM_ap, ↓tixK_ap, ↓tgtN_ap, ↓tgtT_tup, ↓tgtT_lst, ↓tgsNil_ap, ↓tgsCons_ap, ↓itA_lst, ↓itA_scr, ↓itA_tup, ↓itA_str, ↓hixM_ak, ↓hixK_h, ↓hixK_m, ↓hixL_ap, ↓hixR_h, ↓hixR_m, ↓subD_ap, ↓ltD_ap, ↓leD_ap, ↓gtD_ap, ↓geD_ap, ↓modD_ap, ↓fdivD_ap, ↓addL_ap, ↓addI_ap, ↓addS_ap, ↓slS_ap, ↓mulI_ap, ↓mulR_ap, optK_some, optKD_some, eqP, eqS, inP, inP.flat, inP.eqF, isN, L2.atI, L2.ixN, isiO, isi2O, tyn, L2.kitB, sbeq, toP, toPs, PySem.SeqAt.shaped, PySem.PyData.canLay0, PySem.PyData.canLayAll0, PySem.PyData.depth, PySem.PyData.depthAll, PySem.PyData.eqv, PySem.PyData.eqvAll, strOk_of, e1, e2, n0, v0]
theorem str_beq (a b : Str) : (inP.eqF (.str a) (.str b)) = (a == b) := rfl
/-- the four letters, less those that are taken -/
def four : List D := [.str "q", .str "r", .str "s", .str "t"]
def freeL (xs : List Str) : List D := four.filter fun d => !((xs.map D.str).any fun z => inP.eqF z d)
theorem any_mem (xs : List Str) (s : Str) : ((xs.map D.str).any fun z => inP.eqF z (.str s)) = decide (s ∈ xs) := by
  induction xs with
  | nil => rfl
  | cons x xs ih =>
    rw [List.map_cons, List.any_cons, ih, str_beq]
    by_cases h : x = s
    · subst h
      simp
    · have h2 : (x == s) = false := beq_eq_false_iff_ne.2 h
      have h3 : (s ∈ x :: xs) ↔ s ∈ xs := by
        rw [List.mem_cons]
        exact ⟨fun z => z.resolve_left (fun y => h y.symm), .inr⟩
      rw [h2, Bool.false_or]
      by_cases m : s ∈ xs
      · rw [decide_eq_true m, decide_eq_true (h3.2 m)]
      · rw [decide_eq_false m, decide_eq_false (fun z => m (h3.1 z))]
theorem free_ok (xs : List Str) (h : xs.length ≤ 3) : ∃ s r, freeL xs = .str s :: r ∧ nm s = true := by
  have key : ∀ s : Str, s ∈ (["q", "r", "s", "t"] : List Str) → s ∉ xs → ∃ s r, freeL xs = .str s :: r ∧ nm s = true := fun s hs hx => by
    have hm : D.str s ∈ freeL xs := by
      unfold freeL four
      rw [List.mem_filter, any_mem, decide_eq_false hx]
      refine ⟨?_, rfl⟩
      simp only [List.mem_cons, List.not_mem_nil, or_false] at hs ⊢
      rcases hs with rfl | rfl | rfl | rfl <;> simp
    cases hf : freeL xs with
    | nil =>
      rw [hf] at hm
      cases hm
    | cons d r =>
      have hd : d ∈ four := by
        have : d ∈ freeL xs := by rw [hf]; exact List.mem_cons_self
        exact (List.mem_filter.1 this).1
      unfold four at hd
      simp only [List.mem_cons, List.not_mem_nil, or_false] at hd
      rcases hd with rfl | rfl | rfl | rfl <;> exact ⟨_, r, rfl, by decide +kernel⟩
  by_cases h1 : ("q" : Str) ∈ xs
  · by_cases h2 : ("r" : Str) ∈ xs
    · by_cases h3 : ("s" : Str) ∈ xs
      · by_cases h4 : ("t" : Str) ∈ xs
        · exfalso
          have nd : (["q", "r", "s", "t"] : List Str).Nodup := by decide +kernel
          have := List.Nodup.length_le_of_subset (l₂ := xs) nd (fun z hz => by
            simp only [List.mem_cons, List.not_mem_nil, or_false] at hz
            rcases hz with rfl | rfl | rfl | rfl <;> assumption)
          have e : (["q", "r", "s", "t"] : List Str).length = 4 := rfl
          omega
        · exact key "t" (by simp) h4
      · exact key "s" (by simp) h3
    · exact key "r" (by simp) h2
  · exact key "q" (by simp) h1
theorem flat_strs (xs : List Str) : (xs.map D.str).all inP.flat = true := by
  rw [List.all_map]
  exact List.all_eq_true.2 fun _ _ => rfl
theorem flatIn_ok (s : Str) (xs : List Str) : flatIn (.str s) (xs.map D.str) = some (decide (s ∈ xs)) := by
  unfold flatIn
  rw [flat_strs, any_mem]
  rfl
theorem inM_ap (neg : Bool) (i : Nat) (fa : M D) (s : Str) (xs : List Str) (ρ ρ' : Rho) (h : fa ρ = .ok (.str s) ρ') (hi : ρ'[i]? = some (.m (xs.map D.str))) : inM neg i fa ρ = .ok (.bl (if neg then !decide (s ∈ xs) else decide (s ∈ xs))) ρ' := by
  show De.bind fa _ ρ = _
  rw [bind_ap, h, andT_ok]
  simp only [hi, lstOf, flatIn_ok, Option.map_some]
  rfl
theorem names_loop : ∀ (ys : List D) {h : List D} (xs : List Str) (v : D) (e3 e4 e5 : EV), HG h → (∀ s ∈ xs, nm s = true) → xs.length + ys.length ≤ 3 →
    ∃ (h' : List D) (zs : List Str) (f3 f4 f5 : EV), forM (tgtN 3) b__law_names_1 ys [.h h, .d v, .m (xs.map D.str), e3, e4, e5] = .ok .nx [.h h', .d v, .m (zs.map D.str), f3, f4, f5] ∧ HG h' ∧ (∀ s ∈ zs, nm s = true) ∧ zs.length = xs.length + ys.length
  | [], h, xs, v, e3, e4, e5, hh, hx, hl => ⟨h, xs, e3, e4, e5, rfl, hh, hx, rfl⟩
  | y :: ys, h, xs, v, e3, e4, e5, hh, hx, hl => by
    obtain ⟨s, h1, e1, hh1, hs⟩ := name_ok hh
    simp only [List.length_cons] at hl
    have key : ∃ (z : Str) (f4 f5 : EV), nm z = true ∧ De.bind (tgtN 3 y) (fun _ => b__law_names_1) [.h h, .d v, .m (xs.map D.str), e3, e4, e5] = .ok .nx [.h h1, .d v, .m ((xs ++ [z]).map D.str), .d y, f4, f5] := by
      have l1 : (xs.map D.str).length < 16777216 := by rw [List.length_map]; omega
      by_cases c : s ∈ xs
      · obtain ⟨z, r, hf, hz⟩ := free_ok xs (by omega)
        have lc := lc_filter (i := 5) (ρ := [.h h1, .d v, .m (xs.map D.str), .d y, .d (.str s), .u]) (t := blM (inM true 2 (rd 5))) (p := fun d => !((xs.map D.str).any fun z => inP.eqF z d)) (f := rd 5) (h := fun d => d) four e5 (fun x hx' => by
          have hx2 : x ∈ four := hx'
          unfold four at hx2
          simp only [List.mem_cons, List.not_mem_nil, or_false] at hx2
          have one : ∀ q : Str, blM (inM true 2 (rd 5)) [.h h1, .d v, .m (xs.map D.str), .d y, .d (.str s), .d (.str q)] = .ok (!((xs.map D.str).any fun z => inP.eqF z (.str q))) [.h h1, .d v, .m (xs.map D.str), .d y, .d (.str s), .d (.str q)] := fun q => by
            rw [any_mem, blM_ap, inM_ap true 2 (rd 5) q xs _ _ rfl rfl, andT_ok]
            rfl
          rcases hx2 with rfl | rfl | rfl | rfl <;> exact one _) (fun x _ => rfl)
        rw [List.map_id'] at lc
        have lc' : lcLoop [5] (tgtN 5) (blM (inM true 2 (rd 5))) (rd 5) [.str "q", .str "r", .str "s", .str "t"] [.h h1, .d v, .m (xs.map D.str), .d y, .d (.str s), e5] = .ok (.str z :: r) [.h h1, .d v, .m (xs.map D.str), .d y, .d (.str s), .u] := by
          rw [← hf]
          exact lc
        have i1 := inM_ap false 2 (rd 4) s xs [.h h1, .d v, .m (xs.map D.str), .d y, .d (.str s), e5] _ rfl rfl
        rw [if_neg Bool.false_ne_true, decide_eq_true c] at i1
        have ixz : ∀ ρ, De.ixD (.lst (.str z :: r)) (.int 0) ρ = .ok (.str z) ρ := fun ρ => by
          show optD (L2.atI (D.str z :: r) ((0 : Nat) : Int)) ρ = _
          rw [atI_cast]
          rfl
        refine ⟨z, .d (.str z), .u, hz, ?_⟩
        rw [List.map_append]
        unfold b__law_names_1
        have ap := fun (d : D) ρ => appKK_m (xs.map D.str) 2 d ρ l1
        simp [startR, startH, ↓atI_cast, ↓andT_ok, ↓andT_ex, ↓andT_bad, ↓bind_ap, ↓ret_ap, ↓bad_ap, ↓andB_ok, ↓andB_t, ↓andB_f, ↓andB_ex, ↓andB_bad, ↓iteM_ap, ↓iteF_ap, ↓andM_ap, ↓orM_ap, ↓notM_ap, ↓blR_bl, ↓blM_ap, ↓andR_bl, ↓andV_ap, ↓orR_bl, ↓orV_ap, ↓notR_bl, ↓notV_ap, ↓bin_ap, ↓un_ap, ↓chR_bl, ↓chain_ap, ↓consM_ap, ↓tupM_ap, ↓lstM_ap, ↓smallT_ap, ↓smallL_ap, ↓seqM_ap, ↓seqK_nx, ↓seqK_rt, ↓seqK_rtl, ↓seqK_bk, ↓seqK_ct, ↓seqK_ex, ↓seqK_bad, ↓retM_ap, ↓dropM_ap, ↓put_ap, ↓setM_ap, ↓setC_ap, ↓setL_ap, ↓smallS_ap, ↓retL_ap, ↓smallR_ap, ↓unpM_ap, ↓lstD_ap, ↓lcM_ap, ↓smallC_ap, ↓isiM_ak, ↓isiK_ap, ↓isi2M_ak, ↓isi2K_ap, ↓callF_ap, ↓resF_ok, ↓resF_ex, ↓forS_ap, ↓forM_nil, ↓forM_cons, ↓forK_nx, ↓forK_ct, ↓forK_bk, ↓forK_rt, ↓forK_ex, ↓tryM_ap, ↓tryK_ok, ↓tryK_ex, ↓noExK_ok, ↓raiseM_ap, ↓appM_ap, ↓apps_m, ↓appK_ap, ↓appKK_m, ↓callMM_ap, ↓mmK_m, ↓mmK_h, ↓callM_ap, ↓cmK_m, ↓cmK_h, ↓resM_some, ↓callO_ap, ↓resO_some, ↓slM_ap, ↓intO_ap, ↓intK_int, ↓rd_ap, ↓rdK_d, ↓rdK_m, ↓finP_rt, ↓finP_nx, ↓finP_ex, ↓finO_rtl, ↓finM_rt, ↓finM_nx, ↓eqD_ap, ↓neD_ap, ↓inD_ap, ↓notInD_ap, ↓negD_ap, ↓isNonD_ap, ↓notNonD_ap, ↓isBlD_ap, ↓notBlD_ap, ↓lenS_ap, ↓lenT_ap, ↓lenL_ap, ↓lenC_ap, ↓intI_ap, ↓intB_ap, ↓all_ap, ↓any_ap, ↓reprI_ap, ↓reprS_ap, ↓tupT_ap, ↓tupL_ap, ↓lstT_ap, ↓lstL_ap, ↓ixT_ap, ↓ixL_ap, ↓ixC_ap, ↓ixB_ap, ↓tgetM_ap, ↓tgetK_ap, ↓tixM_ap, ↓tixK_ap, ↓tgtN_ap, ↓tgtT_tup, ↓tgtT_lst, ↓tgsNil_ap, ↓tgsCons_ap, ↓itA_lst, ↓itA_scr, ↓itA_tup, ↓itA_str, ↓hixM_ak, ↓hixK_h, ↓hixK_m, ↓hixL_ap, ↓hixR_h, ↓hixR_m, ↓subD_ap, ↓ltD_ap, ↓leD_ap, ↓gtD_ap, ↓geD_ap, ↓modD_ap, ↓fdivD_ap, ↓addL_ap, ↓addI_ap, ↓addS_ap, ↓slS_ap, ↓mulI_ap, ↓mulR_ap, optK_some, optKD_some, eqP, eqS, inP, inP.flat, inP.eqF, isN, L2.atI, L2.ixN, isiO, isi2O, tyn, L2.kitB, sbeq, toP, toPs, PySem.SeqAt.shaped, PySem.PyData.canLay0, PySem.PyData.canLayAll0, PySem.PyData.depth, PySem.PyData.depthAll, PySem.PyData.eqv, PySem.PyData.eqvAll, strOk_of, e1, ↓i1, ↓lc', ↓ixz, ↓ap, l1]
      · have i1 := inM_ap false 2 (rd 4) s xs [.h h1, .d v, .m (xs.map D.str), .d y, .d (.str s), e5] _ rfl rfl
        rw [if_neg Bool.false_ne_true, decide_eq_false c] at i1
        refine ⟨s, .d (.str s), e5, hs, ?_⟩
        rw [List.map_append]
        unfold b__law_names_1
        have ap := fun (d : D) ρ => appKK_m (xs.map D.str) 2 d ρ l1
        simp [startR, startH, ↓atI_cast, ↓andT_ok, ↓andT_ex, ↓andT_bad, ↓bind_ap, ↓ret_ap, ↓bad_ap, ↓andB_ok, ↓andB_t, ↓andB_f, ↓andB_ex, ↓andB_bad, ↓iteM_ap, ↓iteF_ap, ↓andM_ap, ↓orM_ap, ↓notM_ap, ↓blR_bl, ↓blM_ap, ↓andR_bl, ↓andV_ap, ↓orR_bl, ↓orV_ap, ↓notR_bl, ↓notV_ap, ↓bin_ap, ↓un_ap, ↓chR_bl, ↓chain_ap, ↓consM_ap, ↓tupM_ap, ↓lstM_ap, ↓smallT_ap, ↓smallL_ap, ↓seqM_ap, ↓seqK_nx, ↓seqK_rt, ↓seqK_rtl, ↓seqK_bk, ↓seqK_ct, ↓seqK_ex, ↓seqK_bad, ↓retM_ap, ↓dropM_ap, ↓put_ap, ↓setM_ap, ↓setC_ap, ↓setL_ap, ↓smallS_ap, ↓retL_ap, ↓smallR_ap, ↓unpM_ap, ↓lstD_ap, ↓lcM_ap, ↓smallC_ap, ↓isiM_ak, ↓isiK_ap, ↓isi2M_ak, ↓isi2K_ap, ↓callF_ap, ↓resF_ok, ↓resF_ex, ↓forS_ap, ↓forM_nil, ↓forM_cons, ↓forK_nx, ↓forK_ct, ↓forK_bk, ↓forK_rt, ↓forK_ex, ↓tryM_ap, ↓tryK_ok, ↓tryK_ex, ↓noExK_ok, ↓raiseM_ap, ↓appM_ap, ↓apps_m, ↓appK_ap, ↓appKK_m, ↓callMM_ap, ↓mmK_m, ↓mmK_h, ↓callM_ap, ↓cmK_m, ↓cmK_h, ↓resM_some, ↓callO_ap, ↓resO_some, ↓slM_ap, ↓intO_ap, ↓intK_int, ↓rd_ap, ↓rdK_d, ↓rdK_m, ↓finP_rt, ↓finP_nx, ↓finP_ex, ↓finO_rtl, ↓finM_rt, ↓finM_nx, ↓eqD_ap, ↓neD_ap, ↓inD_ap, ↓notInD_ap, ↓negD_ap, ↓isNonD_ap, ↓notNonD_ap, ↓isBlD_ap, ↓notBlD_ap, ↓lenS_ap, ↓lenT_ap, ↓lenL_ap, ↓lenC_ap, ↓intI_ap, ↓intB_ap, ↓all_ap, ↓any_ap, ↓reprI_ap, ↓reprS_ap, ↓tupT_ap, ↓tupL_ap, ↓lstT_ap, ↓lstL_ap, ↓ixT_ap, ↓ixL_ap, ↓ixC_ap, ↓ixB_ap, ↓tgetM_ap, ↓tgetK_ap, ↓tixM_ap, ↓tixK_ap, ↓tgtN_ap, ↓tgtT_tup, ↓tgtT_lst, ↓tgsNil_ap, ↓tgsCons_ap, ↓itA_lst, ↓itA_scr, ↓itA_tup, ↓itA_str, ↓hixM_ak, ↓hixK_h, ↓hixK_m, ↓hixL_ap, ↓hixR_h, ↓hixR_m, ↓subD_ap, ↓ltD_ap, ↓leD_ap, ↓gtD_ap, ↓geD_ap, ↓modD_ap, ↓fdivD_ap, ↓addL_ap, ↓addI_ap, ↓addS_ap, ↓slS_ap, ↓mulI_ap, ↓mulR_ap, optK_some, optKD_some, eqP, eqS, inP, inP.flat, inP.eqF, isN, L2.atI, L2.ixN, isiO, isi2O, tyn, L2.kitB, sbeq, toP, toPs, PySem.SeqAt.shaped, PySem.PyData.canLay0, PySem.PyData.canLayAll0, PySem.PyData.depth, PySem.PyData.depthAll, PySem.PyData.eqv, PySem.PyData.eqvAll, strOk_of, e1, ↓i1, ↓ap, l1]
    obtain ⟨z, f4, f5, hz, key⟩ := key
    obtain ⟨h', zs, g3, g4, g5, q1, q2, q3, q4⟩ := names_loop ys (xs ++ [z]) v (.d y) f4 f5 hh1 (fun s hs => by
      rcases List.mem_append.1 hs with w | w
      · exact hx s w
      · rw [List.mem_singleton.1 w]
        exact hz) (by rw [List.length_append, List.length_singleton]; omega)
    refine ⟨h', zs, g3, g4, g5, by rw [forM_cons, key, forK_nx, q1], q2, q3, ?_⟩
    rw [q4, List.length_append, List.length_singleton, List.length_cons]
    omega
theorem names_ok {h : List D} (hh : HG h) (n : Nat) (N : Int) (e : N = (n : Int)) (hn : n ≤ 3) : ∃ (zs : List Str) (h' : List D), F__law_names h [.int N] = some (.lst (zs.map D.str), h') ∧ HG h' ∧ (∀ s ∈ zs, nm s = true) ∧ zs.length = n := by
  have hl : (rngL 0 n).length = n := by simp [rngL]
  obtain ⟨h', zs, f3, f4, f5, q1, q2, q3, q4⟩ := names_loop (rngL 0 n) [] (.int N) .u .u .u hh (fun s hs => by cases hs) (by rw [hl]; simpa using hn)
  have r := fun ρ => rng7 n N e (by omega) ρ
  rw [hl] at q4
  have q1' : forM (tgtN 3) b__law_names_1 (rngL 0 n) [.h h, .d (.int N), .m [], .u, .u, .u] = .ok .nx [.h h', .d (.int N), .m (zs.map D.str), f3, f4, f5] := q1
  refine ⟨zs, h', ?_, q2, q3, by simpa using q4⟩
  generalize rngL 0 n = R at r q1'
  unfold F__law_names mkM g__law_names
  simp [startR, startH, ↓atI_cast, ↓andT_ok, ↓andT_ex, ↓andT_bad, ↓bind_ap, ↓ret_ap, ↓bad_ap, ↓andB_ok, ↓andB_t, ↓andB_f, ↓andB_ex, ↓andB_bad, ↓iteM_ap, ↓iteF_ap, ↓andM_ap, ↓orM_ap, ↓notM_ap, ↓blR_bl, ↓blM_ap, ↓andR_bl, ↓andV_ap, ↓orR_bl, ↓orV_ap, ↓notR_bl, ↓notV_ap, ↓bin_ap, ↓un_ap, ↓chR_bl, ↓chain_ap, ↓consM_ap, ↓tupM_ap, ↓lstM_ap, ↓smallT_ap, ↓smallL_ap, ↓seqM_ap, ↓seqK_nx, ↓seqK_rt, ↓seqK_rtl, ↓seqK_bk, ↓seqK_ct, ↓seqK_ex, ↓seqK_bad, ↓retM_ap, ↓dropM_ap, ↓put_ap, ↓setM_ap, ↓setC_ap, ↓setL_ap, ↓smallS_ap, ↓retL_ap, ↓smallR_ap, ↓unpM_ap, ↓lstD_ap, ↓lcM_ap, ↓smallC_ap, ↓isiM_ak, ↓isiK_ap, ↓isi2M_ak, ↓isi2K_ap, ↓callF_ap, ↓resF_ok, ↓resF_ex, ↓forS_ap, ↓forM_nil, ↓forM_cons, ↓forK_nx, ↓forK_ct, ↓forK_bk, ↓forK_rt, ↓forK_ex, ↓tryM_ap, ↓tryK_ok, ↓tryK_ex, ↓noExK_ok, ↓raiseM_ap, ↓appM_ap, ↓apps_m, ↓appK_ap, ↓appKK_m, ↓callMM_ap, ↓mmK_m, ↓mmK_h, ↓callM_ap, ↓cmK_m, ↓cmK_h, ↓resM_some, ↓callO_ap, ↓resO_some, ↓slM_ap, ↓intO_ap, ↓intK_int, ↓rd_ap, ↓rdK_d, ↓rdK_m, ↓finP_rt, ↓finP_nx, ↓finP_ex, ↓finO_rtl, ↓finM_rt, ↓finM_nx, ↓eqD_ap, ↓neD_ap, ↓inD_ap, ↓notInD_ap, ↓negD_ap, ↓isNonD_ap, ↓notNonD_ap, ↓isBlD_ap, ↓notBlD_ap, ↓lenS_ap, ↓lenT_ap, ↓lenL_ap, ↓lenC_ap, ↓intI_ap, ↓intB_ap, ↓all_ap, ↓any_ap, ↓reprI_ap, ↓reprS_ap, ↓tupT_ap, ↓tupL_ap, ↓lstT_ap, ↓lstL_ap, ↓ixT_ap, ↓ixL_ap, ↓ixC_ap, ↓ixB_ap, ↓tgetM_ap, ↓tgetK_ap, ↓tixM_ap, ↓tixK_ap, ↓tgtN_ap, ↓tgtT_tup, ↓tgtT_lst, ↓tgsNil_ap, ↓tgsCons_ap, ↓itA_lst, ↓itA_scr, ↓itA_tup, ↓itA_str, ↓hixM_ak, ↓hixK_h, ↓hixK_m, ↓hixL_ap, ↓hixR_h, ↓hixR_m, ↓subD_ap, ↓ltD_ap, ↓leD_ap, ↓gtD_ap, ↓geD_ap, ↓modD_ap, ↓fdivD_ap, ↓addL_ap, ↓addI_ap, ↓addS_ap, ↓slS_ap, ↓mulI_ap, ↓mulR_ap, optK_some, optKD_some, eqP, eqS, inP, inP.flat, inP.eqF, isN, L2.atI, L2.ixN, isiO, isi2O, tyn, L2.kitB, sbeq, toP, toPs, PySem.SeqAt.shaped, PySem.PyData.canLay0, PySem.PyData.canLayAll0, PySem.PyData.depth, PySem.PyData.depthAll, PySem.PyData.eqv, PySem.PyData.eqvAll, strOk_of, ↓r, ↓q1']
def IsN (d : D) : Prop := ∃ s : Str, d = .str s ∧ nm s = true
def Nms (L : List D) : Prop := 0 < L.length ∧ L.length ≤ 3 ∧ ∀ d ∈ L, IsN d
def WG (W : D) : Prop := ∃ A B, W = .lst [.lst A, .lst B] ∧ Nms A ∧ Nms B
theorem nms_of {zs : List Str} (h : ∀ s ∈ zs, nm s = true) {n : Nat} (e : zs.length = n) (h0 : 0 < n) (h3 : n ≤ 3) : Nms (zs.map D.str) := by
  refine ⟨by rw [List.length_map]; omega, by rw [List.length_map]; omega, fun d hd => ?_⟩
  obtain ⟨s, hs, rfl⟩ := List.mem_map.1 hd
  exact ⟨s, rfl, h s hs⟩
theorem world_ok {h : List D} (hh : HG h) : ∃ (W : D) (h' : List D), F__law_world h [] = some (W, h') ∧ HG h' ∧ WG W := by
  obtain ⟨xs, h1, e1, hh1, a1, a2⟩ := names_ok hh 3 3 rfl (by decide)
  obtain ⟨ys, h2, e2, hh2, b1, b2⟩ := names_ok hh1 2 2 rfl (by decide)
  refine ⟨.lst [.lst (xs.map D.str), .lst (ys.map D.str)], h2, ?_, hh2, _, _, rfl, nms_of a1 a2 (by decide) (by decide), nms_of b1 b2 (by decide) (by decide)⟩
  unfold F__law_world mkM g__law_world
  simp [startR, startH, ↓atI_cast, ↓andT_ok, ↓andT_ex, ↓andT_bad, ↓bind_ap, ↓ret_ap, ↓bad_ap, ↓andB_ok, ↓andB_t, ↓andB_f, ↓andB_ex, ↓andB_bad, ↓iteM_ap, ↓iteF_ap, ↓andM_ap, ↓orM_ap, ↓notM_ap, ↓blR_bl, ↓blM_ap, ↓andR_bl, ↓andV_ap, ↓orR_bl, ↓orV_ap, ↓notR_bl, ↓notV_ap, ↓bin_ap, ↓un_ap, ↓chR_bl, ↓chain_ap, ↓consM_ap, ↓tupM_ap, ↓lstM_ap, ↓smallT_ap, ↓smallL_ap, ↓seqM_ap, ↓seqK_nx, ↓seqK_rt, ↓seqK_rtl, ↓seqK_bk, ↓seqK_ct, ↓seqK_ex, ↓seqK_bad, ↓retM_ap, ↓dropM_ap, ↓put_ap, ↓setM_ap, ↓setC_ap, ↓setL_ap, ↓smallS_ap, ↓retL_ap, ↓smallR_ap, ↓unpM_ap, ↓lstD_ap, ↓lcM_ap, ↓smallC_ap, ↓isiM_ak, ↓isiK_ap, ↓isi2M_ak, ↓isi2K_ap, ↓callF_ap, ↓resF_ok, ↓resF_ex, ↓forS_ap, ↓forM_nil, ↓forM_cons, ↓forK_nx, ↓forK_ct, ↓forK_bk, ↓forK_rt, ↓forK_ex, ↓tryM_ap, ↓tryK_ok, ↓tryK_ex, ↓noExK_ok, ↓raiseM_ap, ↓appM_ap, ↓apps_m, ↓appK_ap, ↓appKK_m, ↓callMM_ap, ↓mmK_m, ↓mmK_h, ↓callM_ap, ↓cmK_m, ↓cmK_h, ↓resM_some, ↓callO_ap, ↓resO_some, ↓slM_ap, ↓intO_ap, ↓intK_int, ↓rd_ap, ↓rdK_d, ↓rdK_m, ↓finP_rt, ↓finP_nx, ↓finP_ex, ↓finO_rtl, ↓finM_rt, ↓finM_nx, ↓eqD_ap, ↓neD_ap, ↓inD_ap, ↓notInD_ap, ↓negD_ap, ↓isNonD_ap, ↓notNonD_ap, ↓isBlD_ap, ↓notBlD_ap, ↓lenS_ap, ↓lenT_ap, ↓lenL_ap, ↓lenC_ap, ↓intI_ap, ↓intB_ap, ↓all_ap, ↓any_ap, ↓reprI_ap, ↓reprS_ap, ↓tupT_ap, ↓tupL_ap, ↓lstT_ap, ↓lstL_ap, ↓ixT_ap, ↓ixL_ap, ↓ixC_ap, ↓ixB_ap, ↓tgetM_ap, ↓tgetK_ap, ↓tixM_ap, ↓tixK_ap, ↓tgtN_ap, ↓tgtT_tup, ↓tgtT_lst, ↓tgsNil_ap, ↓tgsCons_ap, ↓itA_lst, ↓itA_scr, ↓itA_tup, ↓itA_str, ↓hixM_ak, ↓hixK_h, ↓hixK_m, ↓hixL_ap, ↓hixR_h, ↓hixR_m, ↓subD_ap, ↓ltD_ap, ↓leD_ap, ↓gtD_ap, ↓geD_ap, ↓modD_ap, ↓fdivD_ap, ↓addL_ap, ↓addI_ap, ↓addS_ap, ↓slS_ap, ↓mulI_ap, ↓mulR_ap, optK_some, optKD_some, eqP, eqS, inP, inP.flat, inP.eqF, isN, L2.atI, L2.ixN, isiO, isi2O, tyn, L2.kitB, sbeq, toP, toPs, PySem.SeqAt.shaped, PySem.PyData.canLay0, PySem.PyData.canLayAll0, PySem.PyData.depth, PySem.PyData.depthAll, PySem.PyData.eqv, PySem.PyData.eqvAll, strOk_of, e1, e2]
theorem takeL {h : List D} (hh : HG h) {L : List D} (hL : Nms L) : ∃ (s : Str) (v : Nat) (h' : List D), F__law_take h [.int (L.length : Int)] = some (.int (v : Int), h') ∧ HG h' ∧ nm s = true ∧ ∀ ρ, De.ixD (.lst L) (.int (v : Int)) ρ = .ok (.str s) ρ := by
  obtain ⟨l0, l3, hP⟩ := hL
  have lg : L.length.log2 < 9000 := by
    have : L.length ≠ 0 := by omega
    have q := (Nat.log2_lt this (k := 20)).2 (by omega)
    omega
  obtain ⟨v, h1, hv, e1, hh1⟩ := take_i hh L.length (L.length : Int) rfl l0 lg
  obtain ⟨d, ⟨s, rfl, hs⟩, hx⟩ := mem_ix hP hv
  exact ⟨s, v, h1, e1, hh1, hs, hx⟩
theorem w0 (A B : D) (ρ : Rho) : De.ixD (.lst [A, B]) (.int 0) ρ = .ok A ρ := nr rfl
theorem w1 (A B : D) (ρ : Rho) : De.ixD (.lst [A, B]) (.int 1) ρ = .ok B ρ := nr rfl
structure Own4 where
  a : Str
  b : Str
  d : Int
  p : Str
def Own4.ok (o : Own4) : Prop := nm o.a = true ∧ nm o.b = true ∧ nm o.p = true
def Own4.t (o : Own4) : D := .tup [.str o.a, .str o.b, .int o.d, .str o.p]
def Own4.s (o : Own4) : D := .ins "Situation" [("teller", .str o.a), ("hearer", .str o.b), ("day", .int o.d), ("place", .str o.p)]
theorem situ_ok {h : List D} (hh : HG h) {W : D} (hW : WG W) : ∃ (o : Own4) (h' : List D), F__law_situation h [W] = some (o.t, h') ∧ HG h' ∧ o.ok := by
  obtain ⟨A, B, rfl, hA, hB⟩ := hW
  obtain ⟨a, va, h1, e1, hh1, ha, xa⟩ := takeL hh hA
  obtain ⟨b, vb, h2, e2, hh2, hb, xb⟩ := takeL hh1 hA
  obtain ⟨n, h3, e3, hh3⟩ := date_ok hh2
  obtain ⟨p, vp, h4, e4, hh4, hp, xp⟩ := takeL hh3 hB
  refine ⟨⟨a, b, n, p⟩, h4, ?_, hh4, ha, hb, hp⟩
  unfold F__law_situation mkM g__law_situation
  simp [startR, startH, ↓atI_cast, ↓andT_ok, ↓andT_ex, ↓andT_bad, ↓bind_ap, ↓ret_ap, ↓bad_ap, ↓andB_ok, ↓andB_t, ↓andB_f, ↓andB_ex, ↓andB_bad, ↓iteM_ap, ↓iteF_ap, ↓andM_ap, ↓orM_ap, ↓notM_ap, ↓blR_bl, ↓blM_ap, ↓andR_bl, ↓andV_ap, ↓orR_bl, ↓orV_ap, ↓notR_bl, ↓notV_ap, ↓bin_ap, ↓un_ap, ↓chR_bl, ↓chain_ap, ↓consM_ap, ↓tupM_ap, ↓lstM_ap, ↓smallT_ap, ↓smallL_ap, ↓seqM_ap, ↓seqK_nx, ↓seqK_rt, ↓seqK_rtl, ↓seqK_bk, ↓seqK_ct, ↓seqK_ex, ↓seqK_bad, ↓retM_ap, ↓dropM_ap, ↓put_ap, ↓setM_ap, ↓setC_ap, ↓setL_ap, ↓smallS_ap, ↓retL_ap, ↓smallR_ap, ↓unpM_ap, ↓lstD_ap, ↓lcM_ap, ↓smallC_ap, ↓isiM_ak, ↓isiK_ap, ↓isi2M_ak, ↓isi2K_ap, ↓callF_ap, ↓resF_ok, ↓resF_ex, ↓forS_ap, ↓forM_nil, ↓forM_cons, ↓forK_nx, ↓forK_ct, ↓forK_bk, ↓forK_rt, ↓forK_ex, ↓tryM_ap, ↓tryK_ok, ↓tryK_ex, ↓noExK_ok, ↓raiseM_ap, ↓appM_ap, ↓apps_m, ↓appK_ap, ↓appKK_m, ↓callMM_ap, ↓mmK_m, ↓mmK_h, ↓callM_ap, ↓cmK_m, ↓cmK_h, ↓resM_some, ↓callO_ap, ↓resO_some, ↓slM_ap, ↓intO_ap, ↓intK_int, ↓rd_ap, ↓rdK_d, ↓rdK_m, ↓finP_rt, ↓finP_nx, ↓finP_ex, ↓finO_rtl, ↓finM_rt, ↓finM_nx, ↓eqD_ap, ↓neD_ap, ↓inD_ap, ↓notInD_ap, ↓negD_ap, ↓isNonD_ap, ↓notNonD_ap, ↓isBlD_ap, ↓notBlD_ap, ↓lenS_ap, ↓lenT_ap, ↓lenL_ap, ↓lenC_ap, ↓intI_ap, ↓intB_ap, ↓all_ap, ↓any_ap, ↓reprI_ap, ↓reprS_ap, ↓tupT_ap, ↓tupL_ap, ↓lstT_ap, ↓lstL_ap, ↓ixT_ap, ↓ixL_ap, ↓ixC_ap, ↓ixB_ap, ↓tgetM_ap, ↓tgetK_ap, ↓tixM_ap, ↓tixK_ap, ↓tgtN_ap, ↓tgtT_tup, ↓tgtT_lst, ↓tgsNil_ap, ↓tgsCons_ap, ↓itA_lst, ↓itA_scr, ↓itA_tup, ↓itA_str, ↓hixM_ak, ↓hixK_h, ↓hixK_m, ↓hixL_ap, ↓hixR_h, ↓hixR_m, ↓subD_ap, ↓ltD_ap, ↓leD_ap, ↓gtD_ap, ↓geD_ap, ↓modD_ap, ↓fdivD_ap, ↓addL_ap, ↓addI_ap, ↓addS_ap, ↓slS_ap, ↓mulI_ap, ↓mulR_ap, optK_some, optKD_some, eqP, eqS, inP, inP.flat, inP.eqF, isN, L2.atI, L2.ixN, isiO, isi2O, tyn, L2.kitB, sbeq, toP, toPs, PySem.SeqAt.shaped, PySem.PyData.canLay0, PySem.PyData.canLayAll0, PySem.PyData.depth, PySem.PyData.depthAll, PySem.PyData.eqv, PySem.PyData.eqvAll, strOk_of, ↓w0, ↓w1, e1, ↓xa, e2, ↓xb, e3, e4, ↓xp, Own4.t]
theorem mem_rngL (n : Nat) : ∀ y ∈ rngL 0 n, ∃ k : Int, y = .int k ∧ 0 ≤ k ∧ k < (n : Int) := by
  intro y hy
  unfold rngL at hy
  simp only [List.mem_map, List.mem_range] at hy
  obtain ⟨a, ha, rfl⟩ := hy
  exact ⟨_, rfl, by omega, by omega⟩
def Nice (d : D) : Prop := ∃ z, toP d = some z ∧ PySem.PyData.canLay0 z = true ∧ PySem.PyData.depth z ≤ 5 ∧ PySem.PyData.eqv z z = true
theorem nice_all : ∀ L : List D, (∀ d ∈ L, Nice d) → ∃ zs, toPs L = some zs ∧ PySem.PyData.canLayAll0 zs = true ∧ PySem.PyData.depthAll zs ≤ 5 ∧ PySem.PyData.eqvAll zs zs = true
  | [], _ => ⟨[], by simp [toPs], by simp [PySem.PyData.canLayAll0], by simp [PySem.PyData.depthAll], by simp [PySem.PyData.eqvAll]⟩
  | p :: ps, h => by
    obtain ⟨z, a1, a2, a3, a4⟩ := h p (List.mem_cons_self ..)
    obtain ⟨zs, b1, b2, b3, b4⟩ := nice_all ps (fun d hd => h d (List.mem_cons_of_mem _ hd))
    refine ⟨z :: zs, by simp [toPs, a1, b1], by simp [PySem.PyData.canLayAll0, a2, b2], ?_, by simp [PySem.PyData.eqvAll, a4, b4]⟩
    simp [PySem.PyData.depthAll]
    omega
theorem nice_eq {L : List D} (h : ∀ d ∈ L, Nice d) : eqP (.lst L) (.lst L) = some true := by
  obtain ⟨zs, b1, b2, b3, b4⟩ := nice_all L h
  have t : toP (.lst L) = some (.list zs) := by unfold toP; rw [b1]
  have e0 : eqS (.lst L) (.lst L) = none := rfl
  have sh : PySem.SeqAt.shaped (.list zs) = true := by
    unfold PySem.SeqAt.shaped
    simp [PySem.PyData.canLay0, b2, PySem.PyData.depth]
    omega
  unfold eqP
  rw [e0]
  simp only [t, sh, Bool.and_self, if_true, PySem.PyData.eqv, b4]
theorem nice_int (i : Int) : Nice (.int i) := ⟨.int i, by simp [toP], by simp [PySem.PyData.canLay0], by simp [PySem.PyData.depth], by simp [PySem.PyData.eqv]⟩
theorem nice_bl (b : Bool) : Nice (.bl b) := ⟨_, by simp [toP]; rfl, by simp [PySem.PyData.canLay0], by simp [PySem.PyData.depth], by simp [PySem.PyData.eqv]⟩
theorem nice_non : Nice .non := ⟨_, by simp [toP]; rfl, by simp [PySem.PyData.canLay0], by simp [PySem.PyData.depth], by simp [PySem.PyData.eqv]⟩
theorem nice_str {s : Str} (h : PySem.PyData.strOk s = true) : Nice (.str s) := ⟨.str s, by simp [toP], by simp [PySem.PyData.canLay0, h], by simp [PySem.PyData.depth], by simp [PySem.PyData.eqv]⟩
end De

set_option Elab.async false
set_option linter.all false
set_option maxRecDepth 100000
set_option maxHeartbeats 1000000
namespace De
open K05
open PySem (Str sizeLine_eq)
/-! tongues -/
def tng (a b c d : Bool) : D := .ins "Tongue" [("shifts_person", .bl a), ("shifts_you", .bl b), ("shifts_today", .bl c), ("shifts_here", .bl d), ("shifts", .tup [.bl a, .bl b, .bl c, .bl d])]
def tt (a b c d : Bool) : D := .tup [.bl a, .bl b, .bl c, .bl d]
theorem tongue_made (a b c d : Bool) : F_Tongue [.bl a, .bl b, .bl c, .bl d] = .ok [("shifts_person", .bl a), ("shifts_you", .bl b), ("shifts_today", .bl c), ("shifts_here", .bl d), ("shifts", .tup [.bl a, .bl b, .bl c, .bl d])] := by kernel_rfl
theorem tongue_tried (a b c d : Bool) : F__law_tongue_tried [tt a b c d] = .ok (tng a b c d) := by kernel_rfl
def T16 : List D := [tng false false false false, tng false false false true, tng false false true false, tng false false true true, tng false true false false, tng false true false true, tng false true true false, tng false true true true,
  tng true false false false, tng true false false true, tng true false true false, tng true false true true, tng true true false false, tng true true false true, tng true true true false, tng true true true true]
theorem all_ok : F_all_tongues [] = .ok (.tup T16) := by kernel_rfl
def odd6 : List D := [.int 0, .int 1, .non, .str "True", .tup [.bl true], .int (-1)]
theorem tongue_odd (a b c d : Bool) : ∀ o ∈ odd6, ∀ j < 4, F__law_tongue_tried [.lst ([D.bl a, .bl b, .bl c, .bl d].set j o)] = .ok (.str "refused") := by
  intro o ho j hj
  unfold odd6 at ho
  simp only [List.mem_cons, List.not_mem_nil, or_false] at ho
  have cj : j = 0 ∨ j = 1 ∨ j = 2 ∨ j = 3 := by omega
  rcases cj with rfl | rfl | rfl | rfl <;> rcases ho with rfl | rfl | rfl | rfl | rfl | rfl <;> kernel_rfl
end De

set_option Elab.async false
set_option linter.all false
set_option maxRecDepth 100000
set_option maxHeartbeats 1000000
namespace De
open K05
open PySem (Str sizeLine_eq)
theorem seq_nx {s k : M Fl} {ρ ρ1 : Rho} (h : s ρ = .ok .nx ρ1) : seqM s k ρ = k ρ1 := by
  show De.bind s _ ρ = _
  rw [bind_ap, h]
  rfl
abbrev tgB : D → M Unit := tgtT 2 (tgsCons (tgtN 2) (tgsCons (tgtN 3) tgsNil))
def TI (ρ : Rho) : Prop := ∃ (h : List D) (e2 e3 e4 e5 e6 e7 e8 e9 : EV), ρ = [.h h, .d (.tup T16), e2, e3, e4, e5, e6, e7, e8, e9] ∧ HG h
/-- the end of a turn: a spoilt tongue -/
noncomputable def trEnd : M Fl := (seqM (setC 8 (De.bind (rd 4) fun d => listO [d]))
  (seqM (setIx 8 (De.bin ixD (lstM (consM (De.ret (.int 0)) (consM (De.ret (.int 1)) (consM (De.ret .non) (consM (De.ret (.str "True")) (consM (tupM (consM (De.ret (.bl true)) (De.ret []))) (consM (un negD (De.ret (.int 1))) (De.ret [])))))))) (callMM F__law_take 0 (consM (De.ret (.int 6)) (De.ret [])))) (callMM F__law_take 0 (consM (De.ret (.int 4)) (De.ret []))))
  (iteF (blM (De.bin neD (De.bind (consM (rd 8) (De.ret [])) (callF F__law_tongue_tried)) (De.ret (.str "refused")))) (retM (De.ret (.bl false))) (De.ret .nx))))
theorem trEnd_ok {h : List D} (hh : HG h) (a b c d : Bool) (e1 e2 e3 e5 e6 e7 e8 e9 : EV) : ∃ h' e8', trEnd [.h h, e1, e2, e3, .d (tt a b c d), e5, e6, e7, e8, e9] = .ok .nx [.h h', e1, e2, e3, .d (tt a b c d), e5, e6, e7, e8', e9] ∧ HG h' := by
  obtain ⟨u, h1, hu, q1, hh1⟩ := take_i hh 6 6 rfl (by decide) (by decide)
  obtain ⟨v, h2, hv, q2, hh2⟩ := take_i hh1 4 4 rfl (by decide) (by decide)
  obtain ⟨o, ho, xo⟩ := mem_ix (L := odd6) (P := fun d => d ∈ odd6) (fun _ h => h) (v := u) (by simpa [odd6] using hu)
  have tr := tongue_odd a b c d o ho v hv
  have lo : ∀ ρ, listO [tt a b c d] ρ = .ok [.bl a, .bl b, .bl c, .bl d] ρ := fun ρ => nr rfl
  unfold odd6 at xo
  have cv : v = 0 ∨ v = 1 ∨ v = 2 ∨ v = 3 := by omega
  unfold trEnd
  rcases cv with rfl | rfl | rfl | rfl
  · refine ⟨h2, .d (.lst [o, .bl b, .bl c, .bl d]), ?_, hh2⟩
    have tr' : F__law_tongue_tried [.lst [o, .bl b, .bl c, .bl d]] = .ok (.str "refused") := tr
    simp [startR, startH, ↓atI_cast, ↓andT_ok, ↓andT_ex, ↓andT_bad, ↓bind_ap, ↓ret_ap, ↓bad_ap, ↓andB_ok, ↓andB_t, ↓andB_f, ↓andB_ex, ↓andB_bad, ↓iteM_ap, ↓iteF_ap, ↓andM_ap, ↓orM_ap, ↓notM_ap, ↓blR_bl, ↓blM_ap, ↓andR_bl, ↓andV_ap, ↓orR_bl, ↓orV_ap, ↓notR_bl, ↓notV_ap, ↓bin_ap, ↓un_ap, ↓chR_bl, ↓chain_ap, ↓consM_ap, ↓tupM_ap, ↓lstM_ap, ↓smallT_ap, ↓smallL_ap, ↓seqM_ap, ↓seqK_nx, ↓seqK_rt, ↓seqK_rtl, ↓seqK_bk, ↓seqK_ct, ↓seqK_ex, ↓seqK_bad, ↓retM_ap, ↓dropM_ap, ↓put_ap, ↓setM_ap, ↓setC_ap, ↓setL_ap, ↓smallS_ap, ↓retL_ap, ↓smallR_ap, ↓unpM_ap, ↓lstD_ap, ↓lcM_ap, ↓smallC_ap, ↓isiM_ak, ↓isiK_ap, ↓isi2M_ak, ↓isi2K_ap, ↓callF_ap, ↓resF_ok, ↓resF_ex, ↓forS_ap, ↓forM_nil, ↓forM_cons, ↓forK_nx, ↓forK_ct, ↓forK_bk, ↓forK_rt, ↓forK_ex, ↓tryM_ap, ↓tryK_ok, ↓tryK_ex, ↓noExK_ok, ↓raiseM_ap, ↓appM_ap, ↓apps_m, ↓appK_ap, ↓appKK_m, ↓callMM_ap, ↓mmK_m, ↓mmK_h, ↓callM_ap, ↓cmK_m, ↓cmK_h, ↓resM_some, ↓callO_ap, ↓resO_some, ↓slM_ap, ↓intO_ap, ↓intK_int, ↓rd_ap, ↓rdK_d, ↓rdK_m, ↓finP_rt, ↓finP_nx, ↓finP_ex, ↓finO_rtl, ↓finM_rt, ↓finM_nx, ↓eqD_ap, ↓neD_ap, ↓inD_ap, ↓notInD_ap, ↓negD_ap, ↓isNonD_ap, ↓notNonD_ap, ↓isBlD_ap, ↓notBlD_ap, ↓lenS_ap, ↓lenT_ap, ↓lenL_ap, ↓lenC_ap, ↓intI_ap, ↓intB_ap, ↓all_ap, ↓any_ap, ↓reprI_ap, ↓reprS_ap, ↓tupT_ap, ↓tupL_ap, ↓lstT_ap, ↓lstL_ap, ↓ixT_ap, ↓ixL_ap, ↓ixC_ap, ↓ixB_ap, ↓tgetM_ap, ↓tgetK_ap, ↓tixM_ap, ↓tixK_ap, ↓tgtN_ap, ↓tgtT_tup, ↓tgtT_lst, ↓tgsNil_ap, ↓tgsCons_ap, ↓itA_lst, ↓itA_scr, ↓itA_tup, ↓itA_str, ↓hixM_ak, ↓hixK_h, ↓hixK_m, ↓hixL_ap, ↓hixR_h, ↓hixR_m, ↓subD_ap, ↓ltD_ap, ↓leD_ap, ↓gtD_ap, ↓geD_ap, ↓modD_ap, ↓fdivD_ap, ↓addL_ap, ↓addI_ap, ↓addS_ap, ↓slS_ap, ↓mulI_ap, ↓mulR_ap, optK_some, optKD_some, eqP, eqS, inP, inP.flat, inP.eqF, isN, L2.atI, L2.ixN, isiO, isi2O, tyn, L2.kitB, sbeq, toP, toPs, PySem.SeqAt.shaped, PySem.PyData.canLay0, PySem.PyData.canLayAll0, PySem.PyData.depth, PySem.PyData.depthAll, PySem.PyData.eqv, PySem.PyData.eqvAll, strOk_of, ↓lo, q1, q2, ↓xo, tr', setC, setIx, lstOf, lstTo, put]
  · refine ⟨h2, .d (.lst [.bl a, o, .bl c, .bl d]), ?_, hh2⟩
    have tr' : F__law_tongue_tried [.lst [.bl a, o, .bl c, .bl d]] = .ok (.str "refused") := tr
    simp [startR, startH, ↓atI_cast, ↓andT_ok, ↓andT_ex, ↓andT_bad, ↓bind_ap, ↓ret_ap, ↓bad_ap, ↓andB_ok, ↓andB_t, ↓andB_f, ↓andB_ex, ↓andB_bad, ↓iteM_ap, ↓iteF_ap, ↓andM_ap, ↓orM_ap, ↓notM_ap, ↓blR_bl, ↓blM_ap, ↓andR_bl, ↓andV_ap, ↓orR_bl, ↓orV_ap, ↓notR_bl, ↓notV_ap, ↓bin_ap, ↓un_ap, ↓chR_bl, ↓chain_ap, ↓consM_ap, ↓tupM_ap, ↓lstM_ap, ↓smallT_ap, ↓smallL_ap, ↓seqM_ap, ↓seqK_nx, ↓seqK_rt, ↓seqK_rtl, ↓seqK_bk, ↓seqK_ct, ↓seqK_ex, ↓seqK_bad, ↓retM_ap, ↓dropM_ap, ↓put_ap, ↓setM_ap, ↓setC_ap, ↓setL_ap, ↓smallS_ap, ↓retL_ap, ↓smallR_ap, ↓unpM_ap, ↓lstD_ap, ↓lcM_ap, ↓smallC_ap, ↓isiM_ak, ↓isiK_ap, ↓isi2M_ak, ↓isi2K_ap, ↓callF_ap, ↓resF_ok, ↓resF_ex, ↓forS_ap, ↓forM_nil, ↓forM_cons, ↓forK_nx, ↓forK_ct, ↓forK_bk, ↓forK_rt, ↓forK_ex, ↓tryM_ap, ↓tryK_ok, ↓tryK_ex, ↓noExK_ok, ↓raiseM_ap, ↓appM_ap, ↓apps_m, ↓appK_ap, ↓appKK_m, ↓callMM_ap, ↓mmK_m, ↓mmK_h, ↓callM_ap, ↓cmK_m, ↓cmK_h, ↓resM_some, ↓callO_ap, ↓resO_some, ↓slM_ap, ↓intO_ap, ↓intK_int, ↓rd_ap, ↓rdK_d, ↓rdK_m, ↓finP_rt, ↓finP_nx, ↓finP_ex, ↓finO_rtl, ↓finM_rt, ↓finM_nx, ↓eqD_ap, ↓neD_ap, ↓inD_ap, ↓notInD_ap, ↓negD_ap, ↓isNonD_ap, ↓notNonD_ap, ↓isBlD_ap, ↓notBlD_ap, ↓lenS_ap, ↓lenT_ap, ↓lenL_ap, ↓lenC_ap, ↓intI_ap, ↓intB_ap, ↓all_ap, ↓any_ap, ↓reprI_ap, ↓reprS_ap, ↓tupT_ap, ↓tupL_ap, ↓lstT_ap, ↓lstL_ap, ↓ixT_ap, ↓ixL_ap, ↓ixC_ap, ↓ixB_ap, ↓tgetM_ap, ↓tgetK_ap, ↓tixM_ap, ↓tixK_ap, ↓tgtN_ap, ↓tgtT_tup, ↓tgtT_lst, ↓tgsNil_ap, ↓tgsCons_ap, ↓itA_lst, ↓itA_scr, ↓itA_tup, ↓itA_str, ↓hixM_ak, ↓hixK_h, ↓hixK_m, ↓hixL_ap, ↓hixR_h, ↓hixR_m, ↓subD_ap, ↓ltD_ap, ↓leD_ap, ↓gtD_ap, ↓geD_ap, ↓modD_ap, ↓fdivD_ap, ↓addL_ap, ↓addI_ap, ↓addS_ap, ↓slS_ap, ↓mulI_ap, ↓mulR_ap, optK_some, optKD_some, eqP, eqS, inP, inP.flat, inP.eqF, isN, L2.atI, L2.ixN, isiO, isi2O, tyn, L2.kitB, sbeq, toP, toPs, PySem.SeqAt.shaped, PySem.PyData.canLay0, PySem.PyData.canLayAll0, PySem.PyData.depth, PySem.PyData.depthAll, PySem.PyData.eqv, PySem.PyData.eqvAll, strOk_of, ↓lo, q1, q2, ↓xo, tr', setC, setIx, lstOf, lstTo, put]
  · refine ⟨h2, .d (.lst [.bl a, .bl b, o, .bl d]), ?_, hh2⟩
    have tr' : F__law_tongue_tried [.lst [.bl a, .bl b, o, .bl d]] = .ok (.str "refused") := tr
    simp [startR, startH, ↓atI_cast, ↓andT_ok, ↓andT_ex, ↓andT_bad, ↓bind_ap, ↓ret_ap, ↓bad_ap, ↓andB_ok, ↓andB_t, ↓andB_f, ↓andB_ex, ↓andB_bad, ↓iteM_ap, ↓iteF_ap, ↓andM_ap, ↓orM_ap, ↓notM_ap, ↓blR_bl, ↓blM_ap, ↓andR_bl, ↓andV_ap, ↓orR_bl, ↓orV_ap, ↓notR_bl, ↓notV_ap, ↓bin_ap, ↓un_ap, ↓chR_bl, ↓chain_ap, ↓consM_ap, ↓tupM_ap, ↓lstM_ap, ↓smallT_ap, ↓smallL_ap, ↓seqM_ap, ↓seqK_nx, ↓seqK_rt, ↓seqK_rtl, ↓seqK_bk, ↓seqK_ct, ↓seqK_ex, ↓seqK_bad, ↓retM_ap, ↓dropM_ap, ↓put_ap, ↓setM_ap, ↓setC_ap, ↓setL_ap, ↓smallS_ap, ↓retL_ap, ↓smallR_ap, ↓unpM_ap, ↓lstD_ap, ↓lcM_ap, ↓smallC_ap, ↓isiM_ak, ↓isiK_ap, ↓isi2M_ak, ↓isi2K_ap, ↓callF_ap, ↓resF_ok, ↓resF_ex, ↓forS_ap, ↓forM_nil, ↓forM_cons, ↓forK_nx, ↓forK_ct, ↓forK_bk, ↓forK_rt, ↓forK_ex, ↓tryM_ap, ↓tryK_ok, ↓tryK_ex, ↓noExK_ok, ↓raiseM_ap, ↓appM_ap, ↓apps_m, ↓appK_ap, ↓appKK_m, ↓callMM_ap, ↓mmK_m, ↓mmK_h, ↓callM_ap, ↓cmK_m, ↓cmK_h, ↓resM_some, ↓callO_ap, ↓resO_some, ↓slM_ap, ↓intO_ap, ↓intK_int, ↓rd_ap, ↓rdK_d, ↓rdK_m, ↓finP_rt, ↓finP_nx, ↓finP_ex, ↓finO_rtl, ↓finM_rt, ↓finM_nx, ↓eqD_ap, ↓neD_ap, ↓inD_ap, ↓notInD_ap, ↓negD_ap, ↓isNonD_ap, ↓notNonD_ap, ↓isBlD_ap, ↓notBlD_ap, ↓lenS_ap, ↓lenT_ap, ↓lenL_ap, ↓lenC_ap, ↓intI_ap, ↓intB_ap, ↓all_ap, ↓any_ap, ↓reprI_ap, ↓reprS_ap, ↓tupT_ap, ↓tupL_ap, ↓lstT_ap, ↓lstL_ap, ↓ixT_ap, ↓ixL_ap, ↓ixC_ap, ↓ixB_ap, ↓tgetM_ap, ↓tgetK_ap, ↓tixM_ap, ↓tixK_ap, ↓tgtN_ap, ↓tgtT_tup, ↓tgtT_lst, ↓tgsNil_ap, ↓tgsCons_ap, ↓itA_lst, ↓itA_scr, ↓itA_tup, ↓itA_str, ↓hixM_ak, ↓hixK_h, ↓hixK_m, ↓hixL_ap, ↓hixR_h, ↓hixR_m, ↓subD_ap, ↓ltD_ap, ↓leD_ap, ↓gtD_ap, ↓geD_ap, ↓modD_ap, ↓fdivD_ap, ↓addL_ap, ↓addI_ap, ↓addS_ap, ↓slS_ap, ↓mulI_ap, ↓mulR_ap, optK_some, optKD_some, eqP, eqS, inP, inP.flat, inP.eqF, isN, L2.atI, L2.ixN, isiO, isi2O, tyn, L2.kitB, sbeq, toP, toPs, PySem.SeqAt.shaped, PySem.PyData.canLay0, PySem.PyData.canLayAll0, PySem.PyData.depth, PySem.PyData.depthAll, PySem.PyData.eqv, PySem.PyData.eqvAll, strOk_of, ↓lo, q1, q2, ↓xo, tr', setC, setIx, lstOf, lstTo, put]
  · refine ⟨h2, .d (.lst [.bl a, .bl b, .bl c, o]), ?_, hh2⟩
    have tr' : F__law_tongue_tried [.lst [.bl a, .bl b, .bl c, o]] = .ok (.str "refused") := tr
    simp [startR, startH, ↓atI_cast, ↓andT_ok, ↓andT_ex, ↓andT_bad, ↓bind_ap, ↓ret_ap, ↓bad_ap, ↓andB_ok, ↓andB_t, ↓andB_f, ↓andB_ex, ↓andB_bad, ↓iteM_ap, ↓iteF_ap, ↓andM_ap, ↓orM_ap, ↓notM_ap, ↓blR_bl, ↓blM_ap, ↓andR_bl, ↓andV_ap, ↓orR_bl, ↓orV_ap, ↓notR_bl, ↓notV_ap, ↓bin_ap, ↓un_ap, ↓chR_bl, ↓chain_ap, ↓consM_ap, ↓tupM_ap, ↓lstM_ap, ↓smallT_ap, ↓smallL_ap, ↓seqM_ap, ↓seqK_nx, ↓seqK_rt, ↓seqK_rtl, ↓seqK_bk, ↓seqK_ct, ↓seqK_ex, ↓seqK_bad, ↓retM_ap, ↓dropM_ap, ↓put_ap, ↓setM_ap, ↓setC_ap, ↓setL_ap, ↓smallS_ap, ↓retL_ap, ↓smallR_ap, ↓unpM_ap, ↓lstD_ap, ↓lcM_ap, ↓smallC_ap, ↓isiM_ak, ↓isiK_ap, ↓isi2M_ak, ↓isi2K_ap, ↓callF_ap, ↓resF_ok, ↓resF_ex, ↓forS_ap, ↓forM_nil, ↓forM_cons, ↓forK_nx, ↓forK_ct, ↓forK_bk, ↓forK_rt, ↓forK_ex, ↓tryM_ap, ↓tryK_ok, ↓tryK_ex, ↓noExK_ok, ↓raiseM_ap, ↓appM_ap, ↓apps_m, ↓appK_ap, ↓appKK_m, ↓callMM_ap, ↓mmK_m, ↓mmK_h, ↓callM_ap, ↓cmK_m, ↓cmK_h, ↓resM_some, ↓callO_ap, ↓resO_some, ↓slM_ap, ↓intO_ap, ↓intK_int, ↓rd_ap, ↓rdK_d, ↓rdK_m, ↓finP_rt, ↓finP_nx, ↓finP_ex, ↓finO_rtl, ↓finM_rt, ↓finM_nx, ↓eqD_ap, ↓neD_ap, ↓inD_ap, ↓notInD_ap, ↓negD_ap, ↓isNonD_ap, ↓notNonD_ap, ↓isBlD_ap, ↓notBlD_ap, ↓lenS_ap, ↓lenT_ap, ↓lenL_ap, ↓lenC_ap, ↓intI_ap, ↓intB_ap, ↓all_ap, ↓any_ap, ↓reprI_ap, ↓reprS_ap, ↓tupT_ap, ↓tupL_ap, ↓lstT_ap, ↓lstL_ap, ↓ixT_ap, ↓ixL_ap, ↓ixC_ap, ↓ixB_ap, ↓tgetM_ap, ↓tgetK_ap, ↓tixM_ap, ↓tixK_ap, ↓tgtN_ap, ↓tgtT_tup, ↓tgtT_lst, ↓tgsNil_ap, ↓tgsCons_ap, ↓itA_lst, ↓itA_scr, ↓itA_tup, ↓itA_str, ↓hixM_ak, ↓hixK_h, ↓hixK_m, ↓hixL_ap, ↓hixR_h, ↓hixR_m, ↓subD_ap, ↓ltD_ap, ↓leD_ap, ↓gtD_ap, ↓geD_ap, ↓modD_ap, ↓fdivD_ap, ↓addL_ap, ↓addI_ap, ↓addS_ap, ↓slS_ap, ↓mulI_ap, ↓mulR_ap, optK_some, optKD_some, eqP, eqS, inP, inP.flat, inP.eqF, isN, L2.atI, L2.ixN, isiO, isi2O, tyn, L2.kitB, sbeq, toP, toPs, PySem.SeqAt.shaped, PySem.PyData.canLay0, PySem.PyData.canLayAll0, PySem.PyData.depth, PySem.PyData.depthAll, PySem.PyData.eqv, PySem.PyData.eqvAll, strOk_of, ↓lo, q1, q2, ↓xo, tr', setC, setIx, lstOf, lstTo, put]
end De

set_option Elab.async false
set_option linter.all false
set_option maxRecDepth 100000
set_option maxHeartbeats 1000000
namespace De
open K05
open PySem (Str sizeLine_eq)
theorem tr_0 {h : List D} (hh : HG h) (e2 e3 e4 e5 e6 e7 e8 e9 : EV) : ∃ ρ', De.bind (tgB (.tup [.int 0, (tng false false false false)])) (fun _ => b__law_tongues_right_2) [.h h, .d (.tup T16), e2, e3, e4, e5, e6, e7, e8, e9] = .ok .nx ρ' ∧ TI ρ' := by
  obtain ⟨h', e8', q, hh'⟩ := trEnd_ok hh false false false false (.d (.tup T16)) (.d (.int 0)) (.d (tng false false false false)) (.d (tt false false false false)) (.d (.int 15)) (.d (tng true true true true)) e8 .u
  refine ⟨_, ?_, h', .d (.int 0), .d (tng false false false false), .d (tt false false false false), .d (tt false false false false), .d (.int 15), .d (tng true true true true), e8', .u, rfl, hh'⟩
  have tb : tgB (.tup [.int 0, (tng false false false false)]) [.h h, .d (.tup T16), e2, e3, e4, e5, e6, e7, e8, e9] = .ok () [.h h, .d (.tup T16), .d (.int 0), .d (tng false false false false), e4, e5, e6, e7, e8, e9] := rfl
  rw [bind_ap, tb, andT_ok]
  unfold b__law_tongues_right_2
  refine (seq_nx (ρ1 := [.h h, .d (.tup T16), .d (.int 0), .d (tng false false false false), .d (tt false false false false), e5, e6, e7, e8, e9]) (by kernel_rfl)).trans ?_
  refine (seq_nx (ρ1 := [.h h, .d (.tup T16), .d (.int 0), .d (tng false false false false), .d (tt false false false false), .d (tt false false false false), e6, e7, e8, e9]) (by kernel_rfl)).trans ?_
  refine (seq_nx (ρ1 := [.h h, .d (.tup T16), .d (.int 0), .d (tng false false false false), .d (tt false false false false), .d (tt false false false false), e6, e7, e8, .u]) (by kernel_rfl)).trans ?_
  refine (seq_nx (ρ1 := [.h h, .d (.tup T16), .d (.int 0), .d (tng false false false false), .d (tt false false false false), .d (tt false false false false), .d (.int 15), .d (tng true true true true), e8, .u]) (by kernel_rfl)).trans ?_
  refine (seq_nx (ρ1 := [.h h, .d (.tup T16), .d (.int 0), .d (tng false false false false), .d (tt false false false false), .d (tt false false false false), .d (.int 15), .d (tng true true true true), e8, .u]) (by kernel_rfl)).trans ?_
  unfold trEnd at q
  exact q
theorem tr_1 {h : List D} (hh : HG h) (e2 e3 e4 e5 e6 e7 e8 e9 : EV) : ∃ ρ', De.bind (tgB (.tup [.int 1, (tng false false false true)])) (fun _ => b__law_tongues_right_2) [.h h, .d (.tup T16), e2, e3, e4, e5, e6, e7, e8, e9] = .ok .nx ρ' ∧ TI ρ' := by
  obtain ⟨h', e8', q, hh'⟩ := trEnd_ok hh false false false true (.d (.tup T16)) (.d (.int 1)) (.d (tng false false false true)) (.d (tt false false false true)) (.d (.int 15)) (.d (tng true true true true)) e8 .u
  refine ⟨_, ?_, h', .d (.int 1), .d (tng false false false true), .d (tt false false false true), .d (tt false false false true), .d (.int 15), .d (tng true true true true), e8', .u, rfl, hh'⟩
  have tb : tgB (.tup [.int 1, (tng false false false true)]) [.h h, .d (.tup T16), e2, e3, e4, e5, e6, e7, e8, e9] = .ok () [.h h, .d (.tup T16), .d (.int 1), .d (tng false false false true), e4, e5, e6, e7, e8, e9] := rfl
  rw [bind_ap, tb, andT_ok]
  unfold b__law_tongues_right_2
  refine (seq_nx (ρ1 := [.h h, .d (.tup T16), .d (.int 1), .d (tng false false false true), .d (tt false false false true), e5, e6, e7, e8, e9]) (by kernel_rfl)).trans ?_
  refine (seq_nx (ρ1 := [.h h, .d (.tup T16), .d (.int 1), .d (tng false false false true), .d (tt false false false true), .d (tt false false false true), e6, e7, e8, e9]) (by kernel_rfl)).trans ?_
  refine (seq_nx (ρ1 := [.h h, .d (.tup T16), .d (.int 1), .d (tng false false false true), .d (tt false false false true), .d (tt false false false true), e6, e7, e8, .u]) (by kernel_rfl)).trans ?_
  refine (seq_nx (ρ1 := [.h h, .d (.tup T16), .d (.int 1), .d (tng false false false true), .d (tt false false false true), .d (tt false false false true), .d (.int 15), .d (tng true true true true), e8, .u]) (by kernel_rfl)).trans ?_
  refine (seq_nx (ρ1 := [.h h, .d (.tup T16), .d (.int 1), .d (tng false false false true), .d (tt false false false true), .d (tt false false false true), .d (.int 15), .d (tng true true true true), e8, .u]) (by kernel_rfl)).trans ?_
  unfold trEnd at q
  exact q
theorem tr_2 {h : List D} (hh : HG h) (e2 e3 e4 e5 e6 e7 e8 e9 : EV) : ∃ ρ', De.bind (tgB (.tup [.int 2, (tng false false true false)])) (fun _ => b__law_tongues_right_2) [.h h, .d (.tup T16), e2, e3, e4, e5, e6, e7, e8, e9] = .ok .nx ρ' ∧ TI ρ' := by
  obtain ⟨h', e8', q, hh'⟩ := trEnd_ok hh false false true false (.d (.tup T16)) (.d (.int 2)) (.d (tng false false true false)) (.d (tt false false true false)) (.d (.int 15)) (.d (tng true true true true)) e8 .u
  refine ⟨_, ?_, h', .d (.int 2), .d (tng false false true false), .d (tt false false true false), .d (tt false false true false), .d (.int 15), .d (tng true true true true), e8', .u, rfl, hh'⟩
  have tb : tgB (.tup [.int 2, (tng false false true false)]) [.h h, .d (.tup T16), e2, e3, e4, e5, e6, e7, e8, e9] = .ok () [.h h, .d (.tup T16), .d (.int 2), .d (tng false false true false), e4, e5, e6, e7, e8, e9] := rfl
  rw [bind_ap, tb, andT_ok]
  unfold b__law_tongues_right_2
  refine (seq_nx (ρ1 := [.h h, .d (.tup T16), .d (.int 2), .d (tng false false true false), .d (tt false false true false), e5, e6, e7, e8, e9]) (by kernel_rfl)).trans ?_
  refine (seq_nx (ρ1 := [.h h, .d (.tup T16), .d (.int 2), .d (tng false false true false), .d (tt false false true false), .d (tt false false true false), e6, e7, e8, e9]) (by kernel_rfl)).trans ?_
  refine (seq_nx (ρ1 := [.h h, .d (.tup T16), .d (.int 2), .d (tng false false true false), .d (tt false false true false), .d (tt false false true false), e6, e7, e8, .u]) (by kernel_rfl)).trans ?_
  refine (seq_nx (ρ1 := [.h h, .d (.tup T16), .d (.int 2), .d (tng false false true false), .d (tt false false true false), .d (tt false false true false), .d (.int 15), .d (tng true true true true), e8, .u]) (by kernel_rfl)).trans ?_
  refine (seq_nx (ρ1 := [.h h, .d (.tup T16), .d (.int 2), .d (tng false false true false), .d (tt false false true false), .d (tt false false true false), .d (.int 15), .d (tng true true true true), e8, .u]) (by kernel_rfl)).trans ?_
  unfold trEnd at q
  exact q
theorem tr_3 {h : List D} (hh : HG h) (e2 e3 e4 e5 e6 e7 e8 e9 : EV) : ∃ ρ', De.bind (tgB (.tup [.int 3, (tng false false true true)])) (fun _ => b__law_tongues_right_2) [.h h, .d (.tup T16), e2, e3, e4, e5, e6, e7, e8, e9] = .ok .nx ρ' ∧ TI ρ' := by
  obtain ⟨h', e8', q, hh'⟩ := trEnd_ok hh false false true true (.d (.tup T16)) (.d (.int 3)) (.d (tng false false true true)) (.d (tt false false true true)) (.d (.int 15)) (.d (tng true true true true)) e8 .u
  refine ⟨_, ?_, h', .d (.int 3), .d (tng false false true true), .d (tt false false true true), .d (tt false false true true), .d (.int 15), .d (tng true true true true), e8', .u, rfl, hh'⟩
  have tb : tgB (.tup [.int 3, (tng false false true true)]) [.h h, .d (.tup T16), e2, e3, e4, e5, e6, e7, e8, e9] = .ok () [.h h, .d (.tup T16), .d (.int 3), .d (tng false false true true), e4, e5, e6, e7, e8, e9] := rfl
  rw [bind_ap, tb, andT_ok]
  unfold b__law_tongues_right_2
  refine (seq_nx (ρ1 := [.h h, .d (.tup T16), .d (.int 3), .d (tng false false true true), .d (tt false false true true), e5, e6, e7, e8, e9]) (by kernel_rfl)).trans ?_
  refine (seq_nx (ρ1 := [.h h, .d (.tup T16), .d (.int 3), .d (tng false false true true), .d (tt false false true true), .d (tt false false true true), e6, e7, e8, e9]) (by kernel_rfl)).trans ?_
  refine (seq_nx (ρ1 := [.h h, .d (.tup T16), .d (.int 3), .d (tng false false true true), .d (tt false false true true), .d (tt false false true true), e6, e7, e8, .u]) (by kernel_rfl)).trans ?_
  refine (seq_nx (ρ1 := [.h h, .d (.tup T16), .d (.int 3), .d (tng false false true true), .d (tt false false true true), .d (tt false false true true), .d (.int 15), .d (tng true true true true), e8, .u]) (by kernel_rfl)).trans ?_
  refine (seq_nx (ρ1 := [.h h, .d (.tup T16), .d (.int 3), .d (tng false false true true), .d (tt false false true true), .d (tt false false true true), .d (.int 15), .d (tng true true true true), e8, .u]) (by kernel_rfl)).trans ?_
  unfold trEnd at q
  exact q
theorem tr_4 {h : List D} (hh : HG h) (e2 e3 e4 e5 e6 e7 e8 e9 : EV) : ∃ ρ', De.bind (tgB (.tup [.int 4, (tng false true false false)])) (fun _ => b__law_tongues_right_2) [.h h, .d (.tup T16), e2, e3, e4, e5, e6, e7, e8, e9] = .ok .nx ρ' ∧ TI ρ' := by
  obtain ⟨h', e8', q, hh'⟩ := trEnd_ok hh false true false false (.d (.tup T16)) (.d (.int 4)) (.d (tng false true false false)) (.d (tt false true false false)) (.d (.int 15)) (.d (tng true true true true)) e8 .u
  refine ⟨_, ?_, h', .d (.int 4), .d (tng false true false false), .d (tt false true false false), .d (tt false true false false), .d (.int 15), .d (tng true true true true), e8', .u, rfl, hh'⟩
  have tb : tgB (.tup [.int 4, (tng false true false false)]) [.h h, .d (.tup T16), e2, e3, e4, e5, e6, e7, e8, e9] = .ok () [.h h, .d (.tup T16), .d (.int 4), .d (tng false true false false), e4, e5, e6, e7, e8, e9] := rfl
  rw [bind_ap, tb, andT_ok]
  unfold b__law_tongues_right_2
  refine (seq_nx (ρ1 := [.h h, .d (.tup T16), .d (.int 4), .d (tng false true false false), .d (tt false true false false), e5, e6, e7, e8, e9]) (by kernel_rfl)).trans ?_
  refine (seq_nx (ρ1 := [.h h, .d (.tup T16), .d (.int 4), .d (tng false true false false), .d (tt false true false false), .d (tt false true false false), e6, e7, e8, e9]) (by kernel_rfl)).trans ?_
  refine (seq_nx (ρ1 := [.h h, .d (.tup T16), .d (.int 4), .d (tng false true false false), .d (tt false true false false), .d (tt false true false false), e6, e7, e8, .u]) (by kernel_rfl)).trans ?_
  refine (seq_nx (ρ1 := [.h h, .d (.tup T16), .d (.int 4), .d (tng false true false false), .d (tt false true false false), .d (tt false true false false), .d (.int 15), .d (tng true true true true), e8, .u]) (by kernel_rfl)).trans ?_
  refine (seq_nx (ρ1 := [.h h, .d (.tup T16), .d (.int 4), .d (tng false true false false), .d (tt false true false false), .d (tt false true false false), .d (.int 15), .d (tng true true true true), e8, .u]) (by kernel_rfl)).trans ?_
  unfold trEnd at q
  exact q
theorem tr_5 {h : List D} (hh : HG h) (e2 e3 e4 e5 e6 e7 e8 e9 : EV) : ∃ ρ', De.bind (tgB (.tup [.int 5, (tng false true false true)])) (fun _ => b__law_tongues_right_2) [.h h, .d (.tup T16), e2, e3, e4, e5, e6, e7, e8, e9] = .ok .nx ρ' ∧ TI ρ' := by
  obtain ⟨h', e8', q, hh'⟩ := trEnd_ok hh false true false true (.d (.tup T16)) (.d (.int 5)) (.d (tng false true false true)) (.d (tt false true false true)) (.d (.int 15)) (.d (tng true true true true)) e8 .u
  refine ⟨_, ?_, h', .d (.int 5), .d (tng false true false true), .d (tt false true false true), .d (tt false true false true), .d (.int 15), .d (tng true true true true), e8', .u, rfl, hh'⟩
  have tb : tgB (.tup [.int 5, (tng false true false true)]) [.h h, .d (.tup T16), e2, e3, e4, e5, e6, e7, e8, e9] = .ok () [.h h, .d (.tup T16), .d (.int 5), .d (tng false true false true), e4, e5, e6, e7, e8, e9] := rfl
  rw [bind_ap, tb, andT_ok]
  unfold b__law_tongues_right_2
  refine (seq_nx (ρ1 := [.h h, .d (.tup T16), .d (.int 5), .d (tng false true false true), .d (tt false true false true), e5, e6, e7, e8, e9]) (by kernel_rfl)).trans ?_
  refine (seq_nx (ρ1 := [.h h, .d (.tup T16), .d (.int 5), .d (tng false true false true), .d (tt false true false true), .d (tt false true false true), e6, e7, e8, e9]) (by kernel_rfl)).trans ?_
  refine (seq_nx (ρ1 := [.h h, .d (.tup T16), .d (.int 5), .d (tng false true false true), .d (tt false true false true), .d (tt false true false true), e6, e7, e8, .u]) (by kernel_rfl)).trans ?_
  refine (seq_nx (ρ1 := [.h h, .d (.tup T16), .d (.int 5), .d (tng false true false true), .d (tt false true false true), .d (tt false true false true), .d (.int 15), .d (tng true true true true), e8, .u]) (by kernel_rfl)).trans ?_
  refine (seq_nx (ρ1 := [.h h, .d (.tup T16), .d (.int 5), .d (tng false true false true), .d (tt false true false true), .d (tt false true false true), .d (.int 15), .d (tng true true true true), e8, .u]) (by kernel_rfl)).trans ?_
  unfold trEnd at q
  exact q
theorem tr_6 {h : List D} (hh : HG h) (e2 e3 e4 e5 e6 e7 e8 e9 : EV) : ∃ ρ', De.bind (tgB (.tup [.int 6, (tng false true true false)])) (fun _ => b__law_tongues_right_2) [.h h, .d (.tup T16), e2, e3, e4, e5, e6, e7, e8, e9] = .ok .nx ρ' ∧ TI ρ' := by
  obtain ⟨h', e8', q, hh'⟩ := trEnd_ok hh false true true false (.d (.tup T16)) (.d (.int 6)) (.d (tng false true true false)) (.d (tt false true true false)) (.d (.int 15)) (.d (tng true true true true)) e8 .u
  refine ⟨_, ?_, h', .d (.int 6), .d (tng false true true false), .d (tt false true true false), .d (tt false true true false), .d (.int 15), .d (tng true true true true), e8', .u, rfl, hh'⟩
  have tb : tgB (.tup [.int 6, (tng false true true false)]) [.h h, .d (.tup T16), e2, e3, e4, e5, e6, e7, e8, e9] = .ok () [.h h, .d (.tup T16), .d (.int 6), .d (tng false true true false), e4, e5, e6, e7, e8, e9] := rfl
  rw [bind_ap, tb, andT_ok]
  unfold b__law_tongues_right_2
  refine (seq_nx (ρ1 := [.h h, .d (.tup T16), .d (.int 6), .d (tng false true true false), .d (tt false true true false), e5, e6, e7, e8, e9]) (by kernel_rfl)).trans ?_
  refine (seq_nx (ρ1 := [.h h, .d (.tup T16), .d (.int 6), .d (tng false true true false), .d (tt false true true false), .d (tt false true true false), e6, e7, e8, e9]) (by kernel_rfl)).trans ?_
  refine (seq_nx (ρ1 := [.h h, .d (.tup T16), .d (.int 6), .d (tng false true true false), .d (tt false true true false), .d (tt false true true false), e6, e7, e8, .u]) (by kernel_rfl)).trans ?_
  refine (seq_nx (ρ1 := [.h h, .d (.tup T16), .d (.int 6), .d (tng false true true false), .d (tt false true true false), .d (tt false true true false), .d (.int 15), .d (tng true true true true), e8, .u]) (by kernel_rfl)).trans ?_
  refine (seq_nx (ρ1 := [.h h, .d (.tup T16), .d (.int 6), .d (tng false true true false), .d (tt false true true false), .d (tt false true true false), .d (.int 15), .d (tng true true true true), e8, .u]) (by kernel_rfl)).trans ?_
  unfold trEnd at q
  exact q
theorem tr_7 {h : List D} (hh : HG h) (e2 e3 e4 e5 e6 e7 e8 e9 : EV) : ∃ ρ', De.bind (tgB (.tup [.int 7, (tng false true true true)])) (fun _ => b__law_tongues_right_2) [.h h, .d (.tup T16), e2, e3, e4, e5, e6, e7, e8, e9] = .ok .nx ρ' ∧ TI ρ' := by
  obtain ⟨h', e8', q, hh'⟩ := trEnd_ok hh false true true true (.d (.tup T16)) (.d (.int 7)) (.d (tng false true true true)) (.d (tt false true true true)) (.d (.int 15)) (.d (tng true true true true)) e8 .u
  refine ⟨_, ?_, h', .d (.int 7), .d (tng false true true true), .d (tt false true true true), .d (tt false true true true), .d (.int 15), .d (tng true true true true), e8', .u, rfl, hh'⟩
  have tb : tgB (.tup [.int 7, (tng false true true true)]) [.h h, .d (.tup T16), e2, e3, e4, e5, e6, e7, e8, e9] = .ok () [.h h, .d (.tup T16), .d (.int 7), .d (tng false true true true), e4, e5, e6, e7, e8, e9] := rfl
  rw [bind_ap, tb, andT_ok]
  unfold b__law_tongues_right_2
  refine (seq_nx (ρ1 := [.h h, .d (.tup T16), .d (.int 7), .d (tng false true true true), .d (tt false true true true), e5, e6, e7, e8, e9]) (by kernel_rfl)).trans ?_
  refine (seq_nx (ρ1 := [.h h, .d (.tup T16), .d (.int 7), .d (tng false true true true), .d (tt false true true true), .d (tt false true true true), e6, e7, e8, e9]) (by kernel_rfl)).trans ?_
  refine (seq_nx (ρ1 := [.h h, .d (.tup T16), .d (.int 7), .d (tng false true true true), .d (tt false true true true), .d (tt false true true true), e6, e7, e8, .u]) (by kernel_rfl)).trans ?_
  refine (seq_nx (ρ1 := [.h h, .d (.tup T16), .d (.int 7), .d (tng false true true true), .d (tt false true true true), .d (tt false true true true), .d (.int 15), .d (tng true true true true), e8, .u]) (by kernel_rfl)).trans ?_
  refine (seq_nx (ρ1 := [.h h, .d (.tup T16), .d (.int 7), .d (tng false true true true), .d (tt false true true true), .d (tt false true true true), .d (.int 15), .d (tng true true true true), e8, .u]) (by kernel_rfl)).trans ?_
  unfold trEnd at q
  exact q
theorem tr_8 {h : List D} (hh : HG h) (e2 e3 e4 e5 e6 e7 e8 e9 : EV) : ∃ ρ', De.bind (tgB (.tup [.int 8, (tng true false false false)])) (fun _ => b__law_tongues_right_2) [.h h, .d (.tup T16), e2, e3, e4, e5, e6, e7, e8, e9] = .ok .nx ρ' ∧ TI ρ' := by
  obtain ⟨h', e8', q, hh'⟩ := trEnd_ok hh true false false false (.d (.tup T16)) (.d (.int 8)) (.d (tng true false false false)) (.d (tt true false false false)) (.d (.int 15)) (.d (tng true true true true)) e8 .u
  refine ⟨_, ?_, h', .d (.int 8), .d (tng true false false false), .d (tt true false false false), .d (tt true false false false), .d (.int 15), .d (tng true true true true), e8', .u, rfl, hh'⟩
  have tb : tgB (.tup [.int 8, (tng true false false false)]) [.h h, .d (.tup T16), e2, e3, e4, e5, e6, e7, e8, e9] = .ok () [.h h, .d (.tup T16), .d (.int 8), .d (tng true false false false), e4, e5, e6, e7, e8, e9] := rfl
  rw [bind_ap, tb, andT_ok]
  unfold b__law_tongues_right_2
  refine (seq_nx (ρ1 := [.h h, .d (.tup T16), .d (.int 8), .d (tng true false false false), .d (tt true false false false), e5, e6, e7, e8, e9]) (by kernel_rfl)).trans ?_
  refine (seq_nx (ρ1 := [.h h, .d (.tup T16), .d (.int 8), .d (tng true false false false), .d (tt true false false false), .d (tt true false false false), e6, e7, e8, e9]) (by kernel_rfl)).trans ?_
  refine (seq_nx (ρ1 := [.h h, .d (.tup T16), .d (.int 8), .d (tng true false false false), .d (tt true false false false), .d (tt true false false false), e6, e7, e8, .u]) (by kernel_rfl)).trans ?_
  refine (seq_nx (ρ1 := [.h h, .d (.tup T16), .d (.int 8), .d (tng true false false false), .d (tt true false false false), .d (tt true false false false), .d (.int 15), .d (tng true true true true), e8, .u]) (by kernel_rfl)).trans ?_
  refine (seq_nx (ρ1 := [.h h, .d (.tup T16), .d (.int 8), .d (tng true false false false), .d (tt true false false false), .d (tt true false false false), .d (.int 15), .d (tng true true true true), e8, .u]) (by kernel_rfl)).trans ?_
  unfold trEnd at q
  exact q
theorem tr_9 {h : List D} (hh : HG h) (e2 e3 e4 e5 e6 e7 e8 e9 : EV) : ∃ ρ', De.bind (tgB (.tup [.int 9, (tng true false false true)])) (fun _ => b__law_tongues_right_2) [.h h, .d (.tup T16), e2, e3, e4, e5, e6, e7, e8, e9] = .ok .nx ρ' ∧ TI ρ' := by
  obtain ⟨h', e8', q, hh'⟩ := trEnd_ok hh true false false true (.d (.tup T16)) (.d (.int 9)) (.d (tng true false false true)) (.d (tt true false false true)) (.d (.int 15)) (.d (tng true true true true)) e8 .u
  refine ⟨_, ?_, h', .d (.int 9), .d (tng true false false true), .d (tt true false false true), .d (tt true false false true), .d (.int 15), .d (tng true true true true), e8', .u, rfl, hh'⟩
  have tb : tgB (.tup [.int 9, (tng true false false true)]) [.h h, .d (.tup T16), e2, e3, e4, e5, e6, e7, e8, e9] = .ok () [.h h, .d (.tup T16), .d (.int 9), .d (tng true false false true), e4, e5, e6, e7, e8, e9] := rfl
  rw [bind_ap, tb, andT_ok]
  unfold b__law_tongues_right_2
  refine (seq_nx (ρ1 := [.h h, .d (.tup T16), .d (.int 9), .d (tng true false false true), .d (tt true false false true), e5, e6, e7, e8, e9]) (by kernel_rfl)).trans ?_
  refine (seq_nx (ρ1 := [.h h, .d (.tup T16), .d (.int 9), .d (tng true false false true), .d (tt true false false true), .d (tt true false false true), e6, e7, e8, e9]) (by kernel_rfl)).trans ?_
  refine (seq_nx (ρ1 := [.h h, .d (.tup T16), .d (.int 9), .d (tng true false false true), .d (tt true false false true), .d (tt true false false true), e6, e7, e8, .u]) (by kernel_rfl)).trans ?_
  refine (seq_nx (ρ1 := [.h h, .d (.tup T16), .d (.int 9), .d (tng true false false true), .d (tt true false false true), .d (tt true false false true), .d (.int 15), .d (tng true true true true), e8, .u]) (by kernel_rfl)).trans ?_
  refine (seq_nx (ρ1 := [.h h, .d (.tup T16), .d (.int 9), .d (tng true false false true), .d (tt true false false true), .d (tt true false false true), .d (.int 15), .d (tng true true true true), e8, .u]) (by kernel_rfl)).trans ?_
  unfold trEnd at q
  exact q
theorem tr_10 {h : List D} (hh : HG h) (e2 e3 e4 e5 e6 e7 e8 e9 : EV) : ∃ ρ', De.bind (tgB (.tup [.int 10, (tng true false true false)])) (fun _ => b__law_tongues_right_2) [.h h, .d (.tup T16), e2, e3, e4, e5, e6, e7, e8, e9] = .ok .nx ρ' ∧ TI ρ' := by
  obtain ⟨h', e8', q, hh'⟩ := trEnd_ok hh true false true false (.d (.tup T16)) (.d (.int 10)) (.d (tng true false true false)) (.d (tt true false true false)) (.d (.int 15)) (.d (tng true true true true)) e8 .u
  refine ⟨_, ?_, h', .d (.int 10), .d (tng true false true false), .d (tt true false true false), .d (tt true false true false), .d (.int 15), .d (tng true true true true), e8', .u, rfl, hh'⟩
  have tb : tgB (.tup [.int 10, (tng true false true false)]) [.h h, .d (.tup T16), e2, e3, e4, e5, e6, e7, e8, e9] = .ok () [.h h, .d (.tup T16), .d (.int 10), .d (tng true false true false), e4, e5, e6, e7, e8, e9] := rfl
  rw [bind_ap, tb, andT_ok]
  unfold b__law_tongues_right_2
  refine (seq_nx (ρ1 := [.h h, .d (.tup T16), .d (.int 10), .d (tng true false true false), .d (tt true false true false), e5, e6, e7, e8, e9]) (by kernel_rfl)).trans ?_
  refine (seq_nx (ρ1 := [.h h, .d (.tup T16), .d (.int 10), .d (tng true false true false), .d (tt true false true false), .d (tt true false true false), e6, e7, e8, e9]) (by kernel_rfl)).trans ?_
  refine (seq_nx (ρ1 := [.h h, .d (.tup T16), .d (.int 10), .d (tng true false true false), .d (tt true false true false), .d (tt true false true false), e6, e7, e8, .u]) (by kernel_rfl)).trans ?_
  refine (seq_nx (ρ1 := [.h h, .d (.tup T16), .d (.int 10), .d (tng true false true false), .d (tt true false true false), .d (tt true false true false), .d (.int 15), .d (tng true true true true), e8, .u]) (by kernel_rfl)).trans ?_
  refine (seq_nx (ρ1 := [.h h, .d (.tup T16), .d (.int 10), .d (tng true false true false), .d (tt true false true false), .d (tt true false true false), .d (.int 15), .d (tng true true true true), e8, .u]) (by kernel_rfl)).trans ?_
  unfold trEnd at q
  exact q
theorem tr_11 {h : List D} (hh : HG h) (e2 e3 e4 e5 e6 e7 e8 e9 : EV) : ∃ ρ', De.bind (tgB (.tup [.int 11, (tng true false true true)])) (fun _ => b__law_tongues_right_2) [.h h, .d (.tup T16), e2, e3, e4, e5, e6, e7, e8, e9] = .ok .nx ρ' ∧ TI ρ' := by
  obtain ⟨h', e8', q, hh'⟩ := trEnd_ok hh true false true true (.d (.tup T16)) (.d (.int 11)) (.d (tng true false true true)) (.d (tt true false true true)) (.d (.int 15)) (.d (tng true true true true)) e8 .u
  refine ⟨_, ?_, h', .d (.int 11), .d (tng true false true true), .d (tt true false true true), .d (tt true false true true), .d (.int 15), .d (tng true true true true), e8', .u, rfl, hh'⟩
  have tb : tgB (.tup [.int 11, (tng true false true true)]) [.h h, .d (.tup T16), e2, e3, e4, e5, e6, e7, e8, e9] = .ok () [.h h, .d (.tup T16), .d (.int 11), .d (tng true false true true), e4, e5, e6, e7, e8, e9] := rfl
  rw [bind_ap, tb, andT_ok]
  unfold b__law_tongues_right_2
  refine (seq_nx (ρ1 := [.h h, .d (.tup T16), .d (.int 11), .d (tng true false true true), .d (tt true false true true), e5, e6, e7, e8, e9]) (by kernel_rfl)).trans ?_
  refine (seq_nx (ρ1 := [.h h, .d (.tup T16), .d (.int 11), .d (tng true false true true), .d (tt true false true true), .d (tt true false true true), e6, e7, e8, e9]) (by kernel_rfl)).trans ?_
  refine (seq_nx (ρ1 := [.h h, .d (.tup T16), .d (.int 11), .d (tng true false true true), .d (tt true false true true), .d (tt true false true true), e6, e7, e8, .u]) (by kernel_rfl)).trans ?_
  refine (seq_nx (ρ1 := [.h h, .d (.tup T16), .d (.int 11), .d (tng true false true true), .d (tt true false true true), .d (tt true false true true), .d (.int 15), .d (tng true true true true), e8, .u]) (by kernel_rfl)).trans ?_
  refine (seq_nx (ρ1 := [.h h, .d (.tup T16), .d (.int 11), .d (tng true false true true), .d (tt true false true true), .d (tt true false true true), .d (.int 15), .d (tng true true true true), e8, .u]) (by kernel_rfl)).trans ?_
  unfold trEnd at q
  exact q
theorem tr_12 {h : List D} (hh : HG h) (e2 e3 e4 e5 e6 e7 e8 e9 : EV) : ∃ ρ', De.bind (tgB (.tup [.int 12, (tng true true false false)])) (fun _ => b__law_tongues_right_2) [.h h, .d (.tup T16), e2, e3, e4, e5, e6, e7, e8, e9] = .ok .nx ρ' ∧ TI ρ' := by
  obtain ⟨h', e8', q, hh'⟩ := trEnd_ok hh true true false false (.d (.tup T16)) (.d (.int 12)) (.d (tng true true false false)) (.d (tt true true false false)) (.d (.int 15)) (.d (tng true true true true)) e8 .u
  refine ⟨_, ?_, h', .d (.int 12), .d (tng true true false false), .d (tt true true false false), .d (tt true true false false), .d (.int 15), .d (tng true true true true), e8', .u, rfl, hh'⟩
  have tb : tgB (.tup [.int 12, (tng true true false false)]) [.h h, .d (.tup T16), e2, e3, e4, e5, e6, e7, e8, e9] = .ok () [.h h, .d (.tup T16), .d (.int 12), .d (tng true true false false), e4, e5, e6, e7, e8, e9] := rfl
  rw [bind_ap, tb, andT_ok]
  unfold b__law_tongues_right_2
  refine (seq_nx (ρ1 := [.h h, .d (.tup T16), .d (.int 12), .d (tng true true false false), .d (tt true true false false), e5, e6, e7, e8, e9]) (by kernel_rfl)).trans ?_
  refine (seq_nx (ρ1 := [.h h, .d (.tup T16), .d (.int 12), .d (tng true true false false), .d (tt true true false false), .d (tt true true false false), e6, e7, e8, e9]) (by kernel_rfl)).trans ?_
  refine (seq_nx (ρ1 := [.h h, .d (.tup T16), .d (.int 12), .d (tng true true false false), .d (tt true true false false), .d (tt true true false false), e6, e7, e8, .u]) (by kernel_rfl)).trans ?_
  refine (seq_nx (ρ1 := [.h h, .d (.tup T16), .d (.int 12), .d (tng true true false false), .d (tt true true false false), .d (tt true true false false), .d (.int 15), .d (tng true true true true), e8, .u]) (by kernel_rfl)).trans ?_
  refine (seq_nx (ρ1 := [.h h, .d (.tup T16), .d (.int 12), .d (tng true true false false), .d (tt true true false false), .d (tt true true false false), .d (.int 15), .d (tng true true true true), e8, .u]) (by kernel_rfl)).trans ?_
  unfold trEnd at q
  exact q
theorem tr_13 {h : List D} (hh : HG h) (e2 e3 e4 e5 e6 e7 e8 e9 : EV) : ∃ ρ', De.bind (tgB (.tup [.int 13, (tng true true false true)])) (fun _ => b__law_tongues_right_2) [.h h, .d (.tup T16), e2, e3, e4, e5, e6, e7, e8, e9] = .ok .nx ρ' ∧ TI ρ' := by
  obtain ⟨h', e8', q, hh'⟩ := trEnd_ok hh true true false true (.d (.tup T16)) (.d (.int 13)) (.d (tng true true false true)) (.d (tt true true false true)) (.d (.int 15)) (.d (tng true true true true)) e8 .u
  refine ⟨_, ?_, h', .d (.int 13), .d (tng true true false true), .d (tt true true false true), .d (tt true true false true), .d (.int 15), .d (tng true true true true), e8', .u, rfl, hh'⟩
  have tb : tgB (.tup [.int 13, (tng true true false true)]) [.h h, .d (.tup T16), e2, e3, e4, e5, e6, e7, e8, e9] = .ok () [.h h, .d (.tup T16), .d (.int 13), .d (tng true true false true), e4, e5, e6, e7, e8, e9] := rfl
  rw [bind_ap, tb, andT_ok]
  unfold b__law_tongues_right_2
  refine (seq_nx (ρ1 := [.h h, .d (.tup T16), .d (.int 13), .d (tng true true false true), .d (tt true true false true), e5, e6, e7, e8, e9]) (by kernel_rfl)).trans ?_
  refine (seq_nx (ρ1 := [.h h, .d (.tup T16), .d (.int 13), .d (tng true true false true), .d (tt true true false true), .d (tt true true false true), e6, e7, e8, e9]) (by kernel_rfl)).trans ?_
  refine (seq_nx (ρ1 := [.h h, .d (.tup T16), .d (.int 13), .d (tng true true false true), .d (tt true true false true), .d (tt true true false true), e6, e7, e8, .u]) (by kernel_rfl)).trans ?_
  refine (seq_nx (ρ1 := [.h h, .d (.tup T16), .d (.int 13), .d (tng true true false true), .d (tt true true false true), .d (tt true true false true), .d (.int 15), .d (tng true true true true), e8, .u]) (by kernel_rfl)).trans ?_
  refine (seq_nx (ρ1 := [.h h, .d (.tup T16), .d (.int 13), .d (tng true true false true), .d (tt true true false true), .d (tt true true false true), .d (.int 15), .d (tng true true true true), e8, .u]) (by kernel_rfl)).trans ?_
  unfold trEnd at q
  exact q
theorem tr_14 {h : List D} (hh : HG h) (e2 e3 e4 e5 e6 e7 e8 e9 : EV) : ∃ ρ', De.bind (tgB (.tup [.int 14, (tng true true true false)])) (fun _ => b__law_tongues_right_2) [.h h, .d (.tup T16), e2, e3, e4, e5, e6, e7, e8, e9] = .ok .nx ρ' ∧ TI ρ' := by
  obtain ⟨h', e8', q, hh'⟩ := trEnd_ok hh true true true false (.d (.tup T16)) (.d (.int 14)) (.d (tng true true true false)) (.d (tt true true true false)) (.d (.int 15)) (.d (tng true true true true)) e8 .u
  refine ⟨_, ?_, h', .d (.int 14), .d (tng true true true false), .d (tt true true true false), .d (tt true true true false), .d (.int 15), .d (tng true true true true), e8', .u, rfl, hh'⟩
  have tb : tgB (.tup [.int 14, (tng true true true false)]) [.h h, .d (.tup T16), e2, e3, e4, e5, e6, e7, e8, e9] = .ok () [.h h, .d (.tup T16), .d (.int 14), .d (tng true true true false), e4, e5, e6, e7, e8, e9] := rfl
  rw [bind_ap, tb, andT_ok]
  unfold b__law_tongues_right_2
  refine (seq_nx (ρ1 := [.h h, .d (.tup T16), .d (.int 14), .d (tng true true true false), .d (tt true true true false), e5, e6, e7, e8, e9]) (by kernel_rfl)).trans ?_
  refine (seq_nx (ρ1 := [.h h, .d (.tup T16), .d (.int 14), .d (tng true true true false), .d (tt true true true false), .d (tt true true true false), e6, e7, e8, e9]) (by kernel_rfl)).trans ?_
  refine (seq_nx (ρ1 := [.h h, .d (.tup T16), .d (.int 14), .d (tng true true true false), .d (tt true true true false), .d (tt true true true false), e6, e7, e8, .u]) (by kernel_rfl)).trans ?_
  refine (seq_nx (ρ1 := [.h h, .d (.tup T16), .d (.int 14), .d (tng true true true false), .d (tt true true true false), .d (tt true true true false), .d (.int 15), .d (tng true true true true), e8, .u]) (by kernel_rfl)).trans ?_
  refine (seq_nx (ρ1 := [.h h, .d (.tup T16), .d (.int 14), .d (tng true true true false), .d (tt true true true false), .d (tt true true true false), .d (.int 15), .d (tng true true true true), e8, .u]) (by kernel_rfl)).trans ?_
  unfold trEnd at q
  exact q
theorem tr_15 {h : List D} (hh : HG h) (e2 e3 e4 e5 e6 e7 e8 e9 : EV) : ∃ ρ', De.bind (tgB (.tup [.int 15, (tng true true true true)])) (fun _ => b__law_tongues_right_2) [.h h, .d (.tup T16), e2, e3, e4, e5, e6, e7, e8, e9] = .ok .nx ρ' ∧ TI ρ' := by
  obtain ⟨h', e8', q, hh'⟩ := trEnd_ok hh true true true true (.d (.tup T16)) (.d (.int 15)) (.d (tng true true true true)) (.d (tt true true true true)) (.d (.int 15)) (.d (tng true true true true)) e8 .u
  refine ⟨_, ?_, h', .d (.int 15), .d (tng true true true true), .d (tt true true true true), .d (tt true true true true), .d (.int 15), .d (tng true true true true), e8', .u, rfl, hh'⟩
  have tb : tgB (.tup [.int 15, (tng true true true true)]) [.h h, .d (.tup T16), e2, e3, e4, e5, e6, e7, e8, e9] = .ok () [.h h, .d (.tup T16), .d (.int 15), .d (tng true true true true), e4, e5, e6, e7, e8, e9] := rfl
  rw [bind_ap, tb, andT_ok]
  unfold b__law_tongues_right_2
  refine (seq_nx (ρ1 := [.h h, .d (.tup T16), .d (.int 15), .d (tng true true true true), .d (tt true true true true), e5, e6, e7, e8, e9]) (by kernel_rfl)).trans ?_
  refine (seq_nx (ρ1 := [.h h, .d (.tup T16), .d (.int 15), .d (tng true true true true), .d (tt true true true true), .d (tt true true true true), e6, e7, e8, e9]) (by kernel_rfl)).trans ?_
  refine (seq_nx (ρ1 := [.h h, .d (.tup T16), .d (.int 15), .d (tng true true true true), .d (tt true true true true), .d (tt true true true true), e6, e7, e8, .u]) (by kernel_rfl)).trans ?_
  refine (seq_nx (ρ1 := [.h h, .d (.tup T16), .d (.int 15), .d (tng true true true true), .d (tt true true true true), .d (tt true true true true), .d (.int 15), .d (tng true true true true), e8, .u]) (by kernel_rfl)).trans ?_
  refine (seq_nx (ρ1 := [.h h, .d (.tup T16), .d (.int 15), .d (tng true true true true), .d (tt true true true true), .d (tt true true true true), .d (.int 15), .d (tng true true true true), e8, .u]) (by kernel_rfl)).trans ?_
  unfold trEnd at q
  exact q
theorem tr_all (d : D) (ρ : Rho) (hd : d ∈ enumL 0 T16) (hI : TI ρ) : ∃ ρ', De.bind (tgB d) (fun _ => b__law_tongues_right_2) ρ = .ok .nx ρ' ∧ TI ρ' := by
  obtain ⟨h, e2, e3, e4, e5, e6, e7, e8, e9, rfl, hh⟩ := hI
  unfold T16 at hd
  simp only [enumL, List.mem_cons, List.not_mem_nil, or_false] at hd
  rcases hd with rfl | rfl | rfl | rfl | rfl | rfl | rfl | rfl | rfl | rfl | rfl | rfl | rfl | rfl | rfl | rfl
  · exact tr_0 hh e2 e3 e4 e5 e6 e7 e8 e9
  · exact tr_1 hh e2 e3 e4 e5 e6 e7 e8 e9
  · exact tr_2 hh e2 e3 e4 e5 e6 e7 e8 e9
  · exact tr_3 hh e2 e3 e4 e5 e6 e7 e8 e9
  · exact tr_4 hh e2 e3 e4 e5 e6 e7 e8 e9
  · exact tr_5 hh e2 e3 e4 e5 e6 e7 e8 e9
  · exact tr_6 hh e2 e3 e4 e5 e6 e7 e8 e9
  · exact tr_7 hh e2 e3 e4 e5 e6 e7 e8 e9
  · exact tr_8 hh e2 e3 e4 e5 e6 e7 e8 e9
  · exact tr_9 hh e2 e3 e4 e5 e6 e7 e8 e9
  · exact tr_10 hh e2 e3 e4 e5 e6 e7 e8 e9
  · exact tr_11 hh e2 e3 e4 e5 e6 e7 e8 e9
  · exact tr_12 hh e2 e3 e4 e5 e6 e7 e8 e9
  · exact tr_13 hh e2 e3 e4 e5 e6 e7 e8 e9
  · exact tr_14 hh e2 e3 e4 e5 e6 e7 e8 e9
  · exact tr_15 hh e2 e3 e4 e5 e6 e7 e8 e9
theorem tongues_ok {h : List D} (hh : HG h) : ∃ h', F__law_tongues_right h [] = some (.bl true, h') ∧ HG h' := by
  obtain ⟨ρ1, q1, h1, e2, e3, e4, e5, e6, e7, e8, e9, rfl, hh1⟩ := forM_inv TI (fun d => d ∈ enumL 0 T16) tr_all (enumL 0 T16) [.h h, .d (.tup T16), .u, .u, .u, .u, .u, .u, .u, .u] (fun _ h => h) ⟨h, .u, .u, .u, .u, .u, .u, .u, .u, rfl, hh⟩
  have al := all_ok
  have ln : ∀ ρ, lenD [.tup T16] ρ = .ok (.int 16) ρ := fun ρ => nr rfl
  have iE : ∀ ρ, itE (.tup T16) ρ = .ok (enumL 0 T16) ρ := fun ρ => nr rfl
  refine ⟨h1, ?_, hh1⟩
  generalize enumL 0 T16 = R at q1 iE
  generalize T16 = L at *
  unfold F__law_tongues_right mkM g__law_tongues_right
  simp [startR, startH, ↓atI_cast, ↓andT_ok, ↓andT_ex, ↓andT_bad, ↓bind_ap, ↓ret_ap, ↓bad_ap, ↓andB_ok, ↓andB_t, ↓andB_f, ↓andB_ex, ↓andB_bad, ↓iteM_ap, ↓iteF_ap, ↓andM_ap, ↓orM_ap, ↓notM_ap, ↓blR_bl, ↓blM_ap, ↓andR_bl, ↓andV_ap, ↓orR_bl, ↓orV_ap, ↓notR_bl, ↓notV_ap, ↓bin_ap, ↓un_ap, ↓chR_bl, ↓chain_ap, ↓consM_ap, ↓tupM_ap, ↓lstM_ap, ↓smallT_ap, ↓smallL_ap, ↓seqM_ap, ↓seqK_nx, ↓seqK_rt, ↓seqK_rtl, ↓seqK_bk, ↓seqK_ct, ↓seqK_ex, ↓seqK_bad, ↓retM_ap, ↓dropM_ap, ↓put_ap, ↓setM_ap, ↓setC_ap, ↓setL_ap, ↓smallS_ap, ↓retL_ap, ↓smallR_ap, ↓unpM_ap, ↓lstD_ap, ↓lcM_ap, ↓smallC_ap, ↓isiM_ak, ↓isiK_ap, ↓isi2M_ak, ↓isi2K_ap, ↓callF_ap, ↓resF_ok, ↓resF_ex, ↓forS_ap, ↓forM_nil, ↓forM_cons, ↓forK_nx, ↓forK_ct, ↓forK_bk, ↓forK_rt, ↓forK_ex, ↓tryM_ap, ↓tryK_ok, ↓tryK_ex, ↓noExK_ok, ↓raiseM_ap, ↓appM_ap, ↓apps_m, ↓appK_ap, ↓appKK_m, ↓callMM_ap, ↓mmK_m, ↓mmK_h, ↓callM_ap, ↓cmK_m, ↓cmK_h, ↓resM_some, ↓callO_ap, ↓resO_some, ↓slM_ap, ↓intO_ap, ↓intK_int, ↓rd_ap, ↓rdK_d, ↓rdK_m, ↓finP_rt, ↓finP_nx, ↓finP_ex, ↓finO_rtl, ↓finM_rt, ↓finM_nx, ↓eqD_ap, ↓neD_ap, ↓inD_ap, ↓notInD_ap, ↓negD_ap, ↓isNonD_ap, ↓notNonD_ap, ↓isBlD_ap, ↓notBlD_ap, ↓lenS_ap, ↓lenT_ap, ↓lenL_ap, ↓lenC_ap, ↓intI_ap, ↓intB_ap, ↓all_ap, ↓any_ap, ↓reprI_ap, ↓reprS_ap, ↓tupT_ap, ↓tupL_ap, ↓lstT_ap, ↓lstL_ap, ↓ixT_ap, ↓ixL_ap, ↓ixC_ap, ↓ixB_ap, ↓tgetM_ap, ↓tgetK_ap, ↓tixM_ap, ↓tixK_ap, ↓tgtN_ap, ↓tgtT_tup, ↓tgtT_lst, ↓tgsNil_ap, ↓tgsCons_ap, ↓itA_lst, ↓itA_scr, ↓itA_tup, ↓itA_str, ↓hixM_ak, ↓hixK_h, ↓hixK_m, ↓hixL_ap, ↓hixR_h, ↓hixR_m, ↓subD_ap, ↓ltD_ap, ↓leD_ap, ↓gtD_ap, ↓geD_ap, ↓modD_ap, ↓fdivD_ap, ↓addL_ap, ↓addI_ap, ↓addS_ap, ↓slS_ap, ↓mulI_ap, ↓mulR_ap, optK_some, optKD_some, eqP, eqS, inP, inP.flat, inP.eqF, isN, L2.atI, L2.ixN, isiO, isi2O, tyn, L2.kitB, sbeq, toP, toPs, PySem.SeqAt.shaped, PySem.PyData.canLay0, PySem.PyData.canLayAll0, PySem.PyData.depth, PySem.PyData.depthAll, PySem.PyData.eqv, PySem.PyData.eqvAll, strOk_of, al, ↓ln, ↓truM_ap, ↓truR_bl, ↓iE, ↓q1]
end De

set_option Elab.async false
set_option linter.all false
set_option maxRecDepth 100000
set_option maxHeartbeats 1000000
namespace De
open K05
open PySem (Str sizeLine_eq)
/-! entries of a situation -/
theorem letters_str (s : Str) (hs : s.length ≤ 1000) : F__law_letters [.str s] = .ok (.bl (nm s)) := by
  have h1 : s.length ≤ 16777216 := by omega
  have h2 : (s.cps.toList.map fun c => D.str ⟨#[c]⟩).length ≤ 16777216 := by
    rw [List.length_map]
    exact h1
  unfold F__law_letters mkP g__law_letters
  by_cases a : (0 : Int) < s.length
  · have a' : (1 : Int) ≤ s.length := by omega
    by_cases b : (s.length : Int) < 9
    · have b' : (s.length : Int) ≤ 8 := by omega
      have h3 : s.cps.size ≤ 16777216 := h1
      have an : 0 < s.length := by omega
      have bn : s.length < 9 := by omega
      have bn' : s.length ≤ 8 := by omega
      have an' : 1 ≤ s.length := by omega
      simp [startR, startH, ↓atI_cast, ↓andT_ok, ↓andT_ex, ↓andT_bad, ↓bind_ap, ↓ret_ap, ↓bad_ap, ↓andB_ok, ↓andB_t, ↓andB_f, ↓andB_ex, ↓andB_bad, ↓iteM_ap, ↓iteF_ap, ↓andM_ap, ↓orM_ap, ↓notM_ap, ↓blR_bl, ↓blM_ap, ↓andR_bl, ↓andV_ap, ↓orR_bl, ↓orV_ap, ↓notR_bl, ↓notV_ap, ↓bin_ap, ↓un_ap, ↓chR_bl, ↓chain_ap, ↓consM_ap, ↓tupM_ap, ↓lstM_ap, ↓smallT_ap, ↓smallL_ap, ↓seqM_ap, ↓seqK_nx, ↓seqK_rt, ↓seqK_rtl, ↓seqK_bk, ↓seqK_ct, ↓seqK_ex, ↓seqK_bad, ↓retM_ap, ↓dropM_ap, ↓put_ap, ↓setM_ap, ↓setC_ap, ↓setL_ap, ↓smallS_ap, ↓retL_ap, ↓smallR_ap, ↓unpM_ap, ↓lstD_ap, ↓lcM_ap, ↓smallC_ap, ↓isiM_ak, ↓isiK_ap, ↓isi2M_ak, ↓isi2K_ap, ↓callF_ap, ↓resF_ok, ↓resF_ex, ↓forS_ap, ↓forM_nil, ↓forM_cons, ↓forK_nx, ↓forK_ct, ↓forK_bk, ↓forK_rt, ↓forK_ex, ↓tryM_ap, ↓tryK_ok, ↓tryK_ex, ↓noExK_ok, ↓raiseM_ap, ↓appM_ap, ↓apps_m, ↓appK_ap, ↓appKK_m, ↓callMM_ap, ↓mmK_m, ↓mmK_h, ↓callM_ap, ↓cmK_m, ↓cmK_h, ↓resM_some, ↓callO_ap, ↓resO_some, ↓slM_ap, ↓intO_ap, ↓intK_int, ↓rd_ap, ↓rdK_d, ↓rdK_m, ↓finP_rt, ↓finP_nx, ↓finP_ex, ↓finO_rtl, ↓finM_rt, ↓finM_nx, ↓eqD_ap, ↓neD_ap, ↓inD_ap, ↓notInD_ap, ↓negD_ap, ↓isNonD_ap, ↓notNonD_ap, ↓isBlD_ap, ↓notBlD_ap, ↓lenS_ap, ↓lenT_ap, ↓lenL_ap, ↓lenC_ap, ↓intI_ap, ↓intB_ap, ↓all_ap, ↓any_ap, ↓reprI_ap, ↓reprS_ap, ↓tupT_ap, ↓tupL_ap, ↓lstT_ap, ↓lstL_ap, ↓ixT_ap, ↓ixL_ap, ↓ixC_ap, ↓ixB_ap, ↓tgetM_ap, ↓tgetK_ap, ↓tixM_ap, ↓tixK_ap, ↓tgtN_ap, ↓tgtT_tup, ↓tgtT_lst, ↓tgsNil_ap, ↓tgsCons_ap, ↓itA_lst, ↓itA_scr, ↓itA_tup, ↓itA_str, ↓hixM_ak, ↓hixK_h, ↓hixK_m, ↓hixL_ap, ↓hixR_h, ↓hixR_m, ↓subD_ap, ↓ltD_ap, ↓leD_ap, ↓gtD_ap, ↓geD_ap, ↓modD_ap, ↓fdivD_ap, ↓addL_ap, ↓addI_ap, ↓addS_ap, ↓slS_ap, ↓mulI_ap, ↓mulR_ap, optK_some, optKD_some, eqP, eqS, inP, inP.flat, inP.eqF, isN, L2.atI, L2.ixN, isiO, isi2O, tyn, L2.kitB, sbeq, toP, toPs, PySem.SeqAt.shaped, PySem.PyData.canLay0, PySem.PyData.canLayAll0, PySem.PyData.depth, PySem.PyData.depthAll, PySem.PyData.eqv, PySem.PyData.eqvAll, strOk_of, ↓truM_ap, ↓truR_bl, h1, h2, h3, a, b, a', b', an, bn, an', bn', itA, lcname, blsOf_map, nm]
    · have b' : ¬ (s.length : Int) ≤ 8 := by omega
      have an : 0 < s.length := by omega
      have bn : ¬ s.length < 9 := by omega
      have bn' : ¬ s.length ≤ 8 := by omega
      simp [startR, startH, ↓atI_cast, ↓andT_ok, ↓andT_ex, ↓andT_bad, ↓bind_ap, ↓ret_ap, ↓bad_ap, ↓andB_ok, ↓andB_t, ↓andB_f, ↓andB_ex, ↓andB_bad, ↓iteM_ap, ↓iteF_ap, ↓andM_ap, ↓orM_ap, ↓notM_ap, ↓blR_bl, ↓blM_ap, ↓andR_bl, ↓andV_ap, ↓orR_bl, ↓orV_ap, ↓notR_bl, ↓notV_ap, ↓bin_ap, ↓un_ap, ↓chR_bl, ↓chain_ap, ↓consM_ap, ↓tupM_ap, ↓lstM_ap, ↓smallT_ap, ↓smallL_ap, ↓seqM_ap, ↓seqK_nx, ↓seqK_rt, ↓seqK_rtl, ↓seqK_bk, ↓seqK_ct, ↓seqK_ex, ↓seqK_bad, ↓retM_ap, ↓dropM_ap, ↓put_ap, ↓setM_ap, ↓setC_ap, ↓setL_ap, ↓smallS_ap, ↓retL_ap, ↓smallR_ap, ↓unpM_ap, ↓lstD_ap, ↓lcM_ap, ↓smallC_ap, ↓isiM_ak, ↓isiK_ap, ↓isi2M_ak, ↓isi2K_ap, ↓callF_ap, ↓resF_ok, ↓resF_ex, ↓forS_ap, ↓forM_nil, ↓forM_cons, ↓forK_nx, ↓forK_ct, ↓forK_bk, ↓forK_rt, ↓forK_ex, ↓tryM_ap, ↓tryK_ok, ↓tryK_ex, ↓noExK_ok, ↓raiseM_ap, ↓appM_ap, ↓apps_m, ↓appK_ap, ↓appKK_m, ↓callMM_ap, ↓mmK_m, ↓mmK_h, ↓callM_ap, ↓cmK_m, ↓cmK_h, ↓resM_some, ↓callO_ap, ↓resO_some, ↓slM_ap, ↓intO_ap, ↓intK_int, ↓rd_ap, ↓rdK_d, ↓rdK_m, ↓finP_rt, ↓finP_nx, ↓finP_ex, ↓finO_rtl, ↓finM_rt, ↓finM_nx, ↓eqD_ap, ↓neD_ap, ↓inD_ap, ↓notInD_ap, ↓negD_ap, ↓isNonD_ap, ↓notNonD_ap, ↓isBlD_ap, ↓notBlD_ap, ↓lenS_ap, ↓lenT_ap, ↓lenL_ap, ↓lenC_ap, ↓intI_ap, ↓intB_ap, ↓all_ap, ↓any_ap, ↓reprI_ap, ↓reprS_ap, ↓tupT_ap, ↓tupL_ap, ↓lstT_ap, ↓lstL_ap, ↓ixT_ap, ↓ixL_ap, ↓ixC_ap, ↓ixB_ap, ↓tgetM_ap, ↓tgetK_ap, ↓tixM_ap, ↓tixK_ap, ↓tgtN_ap, ↓tgtT_tup, ↓tgtT_lst, ↓tgsNil_ap, ↓tgsCons_ap, ↓itA_lst, ↓itA_scr, ↓itA_tup, ↓itA_str, ↓hixM_ak, ↓hixK_h, ↓hixK_m, ↓hixL_ap, ↓hixR_h, ↓hixR_m, ↓subD_ap, ↓ltD_ap, ↓leD_ap, ↓gtD_ap, ↓geD_ap, ↓modD_ap, ↓fdivD_ap, ↓addL_ap, ↓addI_ap, ↓addS_ap, ↓slS_ap, ↓mulI_ap, ↓mulR_ap, optK_some, optKD_some, eqP, eqS, inP, inP.flat, inP.eqF, isN, L2.atI, L2.ixN, isiO, isi2O, tyn, L2.kitB, sbeq, toP, toPs, PySem.SeqAt.shaped, PySem.PyData.canLay0, PySem.PyData.canLayAll0, PySem.PyData.depth, PySem.PyData.depthAll, PySem.PyData.eqv, PySem.PyData.eqvAll, strOk_of, ↓truM_ap, ↓truR_bl, h1, h2, a, b, b', an, bn, bn', nm]
  · have a' : ¬ (1 : Int) ≤ s.length := by omega
    have an : ¬ 0 < s.length := by omega
    have an' : ¬ 1 ≤ s.length := by omega
    simp [startR, startH, ↓atI_cast, ↓andT_ok, ↓andT_ex, ↓andT_bad, ↓bind_ap, ↓ret_ap, ↓bad_ap, ↓andB_ok, ↓andB_t, ↓andB_f, ↓andB_ex, ↓andB_bad, ↓iteM_ap, ↓iteF_ap, ↓andM_ap, ↓orM_ap, ↓notM_ap, ↓blR_bl, ↓blM_ap, ↓andR_bl, ↓andV_ap, ↓orR_bl, ↓orV_ap, ↓notR_bl, ↓notV_ap, ↓bin_ap, ↓un_ap, ↓chR_bl, ↓chain_ap, ↓consM_ap, ↓tupM_ap, ↓lstM_ap, ↓smallT_ap, ↓smallL_ap, ↓seqM_ap, ↓seqK_nx, ↓seqK_rt, ↓seqK_rtl, ↓seqK_bk, ↓seqK_ct, ↓seqK_ex, ↓seqK_bad, ↓retM_ap, ↓dropM_ap, ↓put_ap, ↓setM_ap, ↓setC_ap, ↓setL_ap, ↓smallS_ap, ↓retL_ap, ↓smallR_ap, ↓unpM_ap, ↓lstD_ap, ↓lcM_ap, ↓smallC_ap, ↓isiM_ak, ↓isiK_ap, ↓isi2M_ak, ↓isi2K_ap, ↓callF_ap, ↓resF_ok, ↓resF_ex, ↓forS_ap, ↓forM_nil, ↓forM_cons, ↓forK_nx, ↓forK_ct, ↓forK_bk, ↓forK_rt, ↓forK_ex, ↓tryM_ap, ↓tryK_ok, ↓tryK_ex, ↓noExK_ok, ↓raiseM_ap, ↓appM_ap, ↓apps_m, ↓appK_ap, ↓appKK_m, ↓callMM_ap, ↓mmK_m, ↓mmK_h, ↓callM_ap, ↓cmK_m, ↓cmK_h, ↓resM_some, ↓callO_ap, ↓resO_some, ↓slM_ap, ↓intO_ap, ↓intK_int, ↓rd_ap, ↓rdK_d, ↓rdK_m, ↓finP_rt, ↓finP_nx, ↓finP_ex, ↓finO_rtl, ↓finM_rt, ↓finM_nx, ↓eqD_ap, ↓neD_ap, ↓inD_ap, ↓notInD_ap, ↓negD_ap, ↓isNonD_ap, ↓notNonD_ap, ↓isBlD_ap, ↓notBlD_ap, ↓lenS_ap, ↓lenT_ap, ↓lenL_ap, ↓lenC_ap, ↓intI_ap, ↓intB_ap, ↓all_ap, ↓any_ap, ↓reprI_ap, ↓reprS_ap, ↓tupT_ap, ↓tupL_ap, ↓lstT_ap, ↓lstL_ap, ↓ixT_ap, ↓ixL_ap, ↓ixC_ap, ↓ixB_ap, ↓tgetM_ap, ↓tgetK_ap, ↓tixM_ap, ↓tixK_ap, ↓tgtN_ap, ↓tgtT_tup, ↓tgtT_lst, ↓tgsNil_ap, ↓tgsCons_ap, ↓itA_lst, ↓itA_scr, ↓itA_tup, ↓itA_str, ↓hixM_ak, ↓hixK_h, ↓hixK_m, ↓hixL_ap, ↓hixR_h, ↓hixR_m, ↓subD_ap, ↓ltD_ap, ↓leD_ap, ↓gtD_ap, ↓geD_ap, ↓modD_ap, ↓fdivD_ap, ↓addL_ap, ↓addI_ap, ↓addS_ap, ↓slS_ap, ↓mulI_ap, ↓mulR_ap, optK_some, optKD_some, eqP, eqS, inP, inP.flat, inP.eqF, isN, L2.atI, L2.ixN, isiO, isi2O, tyn, L2.kitB, sbeq, toP, toPs, PySem.SeqAt.shaped, PySem.PyData.canLay0, PySem.PyData.canLayAll0, PySem.PyData.depth, PySem.PyData.depthAll, PySem.PyData.eqv, PySem.PyData.eqvAll, strOk_of, ↓truM_ap, ↓truR_bl, h1, h2, a, a', an, an', nm]
structure Ent2 (d : D) (n w : Bool) : Prop where
  n1 : F_is_name [d] = .ok (.bl n)
  n2 : F__law_letters [d] = .ok (.bl n)
  w1 : F_is_whole [d] = .ok (.bl w)
  w2 : F__law_whole [d] = .ok (.bl w)
theorem nm_le {s : Str} (h : nm s = true) : s.length ≤ 8 := (nm_len h).1
theorem ent_nm {s : Str} (h : nm s = true) : Ent2 (.str s) true false := by
  have l := nm_le h
  exact ⟨is_name_ok h, by rw [letters_str s (by omega), h], by kernel_rfl, by kernel_rfl⟩
theorem ent_int (n : Int) : Ent2 (.int n) false true := ⟨by kernel_rfl, by kernel_rfl, by kernel_rfl, by kernel_rfl⟩
theorem ent_str {s : Str} (l : s.length ≤ 1000) (h : nm s = false) : Ent2 (.str s) false false :=
  ⟨by rw [is_name_str s l, h], by rw [letters_str s l, h], by kernel_rfl, by kernel_rfl⟩
theorem ent_non : Ent2 .non false false := ⟨by kernel_rfl, by kernel_rfl, by kernel_rfl, by kernel_rfl⟩
theorem ent_bl (b : Bool) : Ent2 (.bl b) false false := ⟨by kernel_rfl, by kernel_rfl, by kernel_rfl, by kernel_rfl⟩
theorem ent_lst (L : List D) : Ent2 (.lst L) false false := ⟨by kernel_rfl, by kernel_rfl, by kernel_rfl, by kernel_rfl⟩
theorem ent_tup (L : List D) : Ent2 (.tup L) false false := ⟨by kernel_rfl, by kernel_rfl, by kernel_rfl, by kernel_rfl⟩
theorem nm_long (s : Str) : nm (s ++ "abcdefgh") = false ∨ s.length = 0 := by
  by_cases h : s.length = 0
  · exact .inr h
  · left
    unfold nm
    have e : (s ++ ("abcdefgh" : Str)).length = s.length + 8 := str_app s "abcdefgh"
    have : ¬ ((s ++ ("abcdefgh" : Str)).length : Int) ≤ 8 := by rw [e]; omega
    rw [decide_eq_false this, Bool.false_and, Bool.and_false]
theorem nm_pos {s : Str} (h : nm s = true) : 1 ≤ s.length := by
  unfold nm at h
  rw [Bool.and_eq_true] at h
  have := of_decide_eq_true h.1
  omega
theorem ent_long {s : Str} (h : nm s = true) : Ent2 (.str (s ++ "abcdefgh")) false false := by
  have l := nm_le h
  have p := nm_pos h
  have e : (s ++ ("abcdefgh" : Str)).length = s.length + 8 := str_app s "abcdefgh"
  refine ent_str (by omega) ((nm_long s).resolve_right (by omega))
theorem ent_A {s : Str} (h : nm s = true) : Ent2 (.str (s ++ "A")) false false := by
  have l := nm_le h
  have e : (s ++ ("A" : Str)).length = s.length + 1 := str_app s "A"
  refine ent_str (by omega) ?_
  have m : ∃ c ∈ (s ++ ("A" : Str)).cps.toList, c ∉ abc := by
    refine ⟨65, ?_, by decide +kernel⟩
    have q : (s ++ ("A" : Str)).cps.toList = s.cps.toList ++ [65] := by
      show (s.cps ++ ("A" : Str).cps).toList = _
      rw [Array.toList_append]
      rfl
    rw [q]
    simp
  obtain ⟨c, hc, hn⟩ := m
  cases z : nm (s ++ "A") with
  | false => rfl
  | true => exact (hn ((nm_len z).2 c hc)).elim
inductive Pc : D → Prop where
  | nm {s : Str} (h : De.nm s = true) : Pc (.str s)
  | int (n : Int) : Pc (.int n)
  | bad {d : D} (h : Ent2 d false false) : Pc d
theorem Pc.ent {d : D} (h : Pc d) : ∃ n w, Ent2 d n w ∧ (n = true → ∃ s, d = .str s ∧ De.nm s = true) ∧ (w = true → ∃ i, d = .int i) := by
  cases h with
  | nm h => exact ⟨true, false, ent_nm h, ⟨fun _ => ⟨_, rfl, h⟩, nofun⟩⟩
  | int n => exact ⟨false, true, ent_int n, ⟨nofun, fun _ => ⟨n, rfl⟩⟩⟩
  | bad h => exact ⟨false, false, h, ⟨nofun, nofun⟩⟩
end De

set_option Elab.async false
set_option linter.all false
set_option maxRecDepth 100000
set_option maxHeartbeats 1000000
namespace De
open K05
open PySem (Str sizeLine_eq)
/-! situations made, or refused -/
theorem xf_ap (i : Nat) (a : PySem.Addr) (dd : Option PySem.Addr) (c f : Str) (fs : List (Str × D)) (v : D) (ρ : Rho) (h : ρ[i]? = some (.d (.xn a dd c fs))) (hf : fs.lookup f = some v) : xfM i a dd c f ρ = .ok v ρ := by
  unfold xfM
  rw [h]
  show (if a = a ∧ dd = dd ∧ c = c then optD (fs.lookup f) ρ else .bad) = _
  rw [if_pos ⟨rfl, rfl, rfl⟩, hf]
  rfl
theorem raise1_ap (c f : Str) (fa : M D) (ρ : Rho) : raise1M c f fa ρ = andT (fa ρ) (raise1K c f) := bind_ap _ _ _
theorem raise1K_str (c f : Str) (s : Str) (h : fmtD (.str s) = true) (ρ : Rho) : raise1K c f (.str s) ρ = .ex c [(f, .str s)] ρ := by
  unfold raise1K
  rw [h]
  rfl
def sitF (x0 x1 x2 x3 : D) : List (Str × D) := [("teller", x0), ("hearer", x1), ("day", x2), ("place", x3)]
section
variable {x0 x1 x2 x3 : D} {n1 n2 n3 w0 w1 w2 w3 : Bool}
theorem sit_0 (h0 : Ent2 x0 false w0) : F_Situation [x0, x1, x2, x3] = .ex "BadSituation" [("what", .str "teller")] := by
  have q0 := h0.n1
  have rs := raise1_ap "BadSituation" "what"
  have rk := raise1K_str "BadSituation" "what" "teller" (by decide +kernel)
  have e : F_Situation [x0, x1, x2, x3] = finI "Situation" (g_Situation [.mi "Situation" [], .d x0, .d x1, .d x2, .d x3]) := by kernel_rfl
  rw [e]
  unfold g_Situation
  simp [startR, startH, ↓atI_cast, ↓andT_ok, ↓andT_ex, ↓andT_bad, ↓bind_ap, ↓ret_ap, ↓bad_ap, ↓andB_ok, ↓andB_t, ↓andB_f, ↓andB_ex, ↓andB_bad, ↓iteM_ap, ↓iteF_ap, ↓andM_ap, ↓orM_ap, ↓notM_ap, ↓blR_bl, ↓blM_ap, ↓andR_bl, ↓andV_ap, ↓orR_bl, ↓orV_ap, ↓notR_bl, ↓notV_ap, ↓bin_ap, ↓un_ap, ↓chR_bl, ↓chain_ap, ↓consM_ap, ↓tupM_ap, ↓lstM_ap, ↓smallT_ap, ↓smallL_ap, ↓seqM_ap, ↓seqK_nx, ↓seqK_rt, ↓seqK_rtl, ↓seqK_bk, ↓seqK_ct, ↓seqK_ex, ↓seqK_bad, ↓retM_ap, ↓dropM_ap, ↓put_ap, ↓setM_ap, ↓setC_ap, ↓setL_ap, ↓smallS_ap, ↓retL_ap, ↓smallR_ap, ↓unpM_ap, ↓lstD_ap, ↓lcM_ap, ↓smallC_ap, ↓isiM_ak, ↓isiK_ap, ↓isi2M_ak, ↓isi2K_ap, ↓callF_ap, ↓resF_ok, ↓resF_ex, ↓forS_ap, ↓forM_nil, ↓forM_cons, ↓forK_nx, ↓forK_ct, ↓forK_bk, ↓forK_rt, ↓forK_ex, ↓tryM_ap, ↓tryK_ok, ↓tryK_ex, ↓noExK_ok, ↓raiseM_ap, ↓appM_ap, ↓apps_m, ↓appK_ap, ↓appKK_m, ↓callMM_ap, ↓mmK_m, ↓mmK_h, ↓callM_ap, ↓cmK_m, ↓cmK_h, ↓resM_some, ↓callO_ap, ↓resO_some, ↓slM_ap, ↓intO_ap, ↓intK_int, ↓rd_ap, ↓rdK_d, ↓rdK_m, ↓finP_rt, ↓finP_nx, ↓finP_ex, ↓finO_rtl, ↓finM_rt, ↓finM_nx, ↓eqD_ap, ↓neD_ap, ↓inD_ap, ↓notInD_ap, ↓negD_ap, ↓isNonD_ap, ↓notNonD_ap, ↓isBlD_ap, ↓notBlD_ap, ↓lenS_ap, ↓lenT_ap, ↓lenL_ap, ↓lenC_ap, ↓intI_ap, ↓intB_ap, ↓all_ap, ↓any_ap, ↓reprI_ap, ↓reprS_ap, ↓tupT_ap, ↓tupL_ap, ↓lstT_ap, ↓lstL_ap, ↓ixT_ap, ↓ixL_ap, ↓ixC_ap, ↓ixB_ap, ↓tgetM_ap, ↓tgetK_ap, ↓tixM_ap, ↓tixK_ap, ↓tgtN_ap, ↓tgtT_tup, ↓tgtT_lst, ↓tgsNil_ap, ↓tgsCons_ap, ↓itA_lst, ↓itA_scr, ↓itA_tup, ↓itA_str, ↓hixM_ak, ↓hixK_h, ↓hixK_m, ↓hixL_ap, ↓hixR_h, ↓hixR_m, ↓subD_ap, ↓ltD_ap, ↓leD_ap, ↓gtD_ap, ↓geD_ap, ↓modD_ap, ↓fdivD_ap, ↓addL_ap, ↓addI_ap, ↓addS_ap, ↓slS_ap, ↓mulI_ap, ↓mulR_ap, optK_some, optKD_some, eqP, eqS, inP, inP.flat, inP.eqF, isN, L2.atI, L2.ixN, isiO, isi2O, tyn, L2.kitB, sbeq, toP, toPs, PySem.SeqAt.shaped, PySem.PyData.canLay0, PySem.PyData.canLayAll0, PySem.PyData.depth, PySem.PyData.depthAll, PySem.PyData.eqv, PySem.PyData.eqvAll, strOk_of, ↓truM_ap, ↓truR_bl, q0, ↓rs, ↓rk, finI]
theorem sit_1 (h0 : Ent2 x0 true w0) (h1 : Ent2 x1 false w1) : F_Situation [x0, x1, x2, x3] = .ex "BadSituation" [("what", .str "hearer")] := by
  have q0 := h0.n1
  have q1 := h1.n1
  have rs := raise1_ap "BadSituation" "what"
  have rk := raise1K_str "BadSituation" "what" "hearer" (by decide +kernel)
  have e : F_Situation [x0, x1, x2, x3] = finI "Situation" (g_Situation [.mi "Situation" [], .d x0, .d x1, .d x2, .d x3]) := by kernel_rfl
  rw [e]
  unfold g_Situation
  simp [startR, startH, ↓atI_cast, ↓andT_ok, ↓andT_ex, ↓andT_bad, ↓bind_ap, ↓ret_ap, ↓bad_ap, ↓andB_ok, ↓andB_t, ↓andB_f, ↓andB_ex, ↓andB_bad, ↓iteM_ap, ↓iteF_ap, ↓andM_ap, ↓orM_ap, ↓notM_ap, ↓blR_bl, ↓blM_ap, ↓andR_bl, ↓andV_ap, ↓orR_bl, ↓orV_ap, ↓notR_bl, ↓notV_ap, ↓bin_ap, ↓un_ap, ↓chR_bl, ↓chain_ap, ↓consM_ap, ↓tupM_ap, ↓lstM_ap, ↓smallT_ap, ↓smallL_ap, ↓seqM_ap, ↓seqK_nx, ↓seqK_rt, ↓seqK_rtl, ↓seqK_bk, ↓seqK_ct, ↓seqK_ex, ↓seqK_bad, ↓retM_ap, ↓dropM_ap, ↓put_ap, ↓setM_ap, ↓setC_ap, ↓setL_ap, ↓smallS_ap, ↓retL_ap, ↓smallR_ap, ↓unpM_ap, ↓lstD_ap, ↓lcM_ap, ↓smallC_ap, ↓isiM_ak, ↓isiK_ap, ↓isi2M_ak, ↓isi2K_ap, ↓callF_ap, ↓resF_ok, ↓resF_ex, ↓forS_ap, ↓forM_nil, ↓forM_cons, ↓forK_nx, ↓forK_ct, ↓forK_bk, ↓forK_rt, ↓forK_ex, ↓tryM_ap, ↓tryK_ok, ↓tryK_ex, ↓noExK_ok, ↓raiseM_ap, ↓appM_ap, ↓apps_m, ↓appK_ap, ↓appKK_m, ↓callMM_ap, ↓mmK_m, ↓mmK_h, ↓callM_ap, ↓cmK_m, ↓cmK_h, ↓resM_some, ↓callO_ap, ↓resO_some, ↓slM_ap, ↓intO_ap, ↓intK_int, ↓rd_ap, ↓rdK_d, ↓rdK_m, ↓finP_rt, ↓finP_nx, ↓finP_ex, ↓finO_rtl, ↓finM_rt, ↓finM_nx, ↓eqD_ap, ↓neD_ap, ↓inD_ap, ↓notInD_ap, ↓negD_ap, ↓isNonD_ap, ↓notNonD_ap, ↓isBlD_ap, ↓notBlD_ap, ↓lenS_ap, ↓lenT_ap, ↓lenL_ap, ↓lenC_ap, ↓intI_ap, ↓intB_ap, ↓all_ap, ↓any_ap, ↓reprI_ap, ↓reprS_ap, ↓tupT_ap, ↓tupL_ap, ↓lstT_ap, ↓lstL_ap, ↓ixT_ap, ↓ixL_ap, ↓ixC_ap, ↓ixB_ap, ↓tgetM_ap, ↓tgetK_ap, ↓tixM_ap, ↓tixK_ap, ↓tgtN_ap, ↓tgtT_tup, ↓tgtT_lst, ↓tgsNil_ap, ↓tgsCons_ap, ↓itA_lst, ↓itA_scr, ↓itA_tup, ↓itA_str, ↓hixM_ak, ↓hixK_h, ↓hixK_m, ↓hixL_ap, ↓hixR_h, ↓hixR_m, ↓subD_ap, ↓ltD_ap, ↓leD_ap, ↓gtD_ap, ↓geD_ap, ↓modD_ap, ↓fdivD_ap, ↓addL_ap, ↓addI_ap, ↓addS_ap, ↓slS_ap, ↓mulI_ap, ↓mulR_ap, optK_some, optKD_some, eqP, eqS, inP, inP.flat, inP.eqF, isN, L2.atI, L2.ixN, isiO, isi2O, tyn, L2.kitB, sbeq, toP, toPs, PySem.SeqAt.shaped, PySem.PyData.canLay0, PySem.PyData.canLayAll0, PySem.PyData.depth, PySem.PyData.depthAll, PySem.PyData.eqv, PySem.PyData.eqvAll, strOk_of, ↓truM_ap, ↓truR_bl, q0, q1, ↓rs, ↓rk, finI]
theorem sit_2 (h0 : Ent2 x0 true w0) (h1 : Ent2 x1 true w1) (h2 : Ent2 x2 n2 false) : F_Situation [x0, x1, x2, x3] = .ex "BadSituation" [("what", .str "day")] := by
  have q0 := h0.n1
  have q1 := h1.n1
  have q2 := h2.w1
  have rs := raise1_ap "BadSituation" "what"
  have rk := raise1K_str "BadSituation" "what" "day" (by decide +kernel)
  have e : F_Situation [x0, x1, x2, x3] = finI "Situation" (g_Situation [.mi "Situation" [], .d x0, .d x1, .d x2, .d x3]) := by kernel_rfl
  rw [e]
  unfold g_Situation
  simp [startR, startH, ↓atI_cast, ↓andT_ok, ↓andT_ex, ↓andT_bad, ↓bind_ap, ↓ret_ap, ↓bad_ap, ↓andB_ok, ↓andB_t, ↓andB_f, ↓andB_ex, ↓andB_bad, ↓iteM_ap, ↓iteF_ap, ↓andM_ap, ↓orM_ap, ↓notM_ap, ↓blR_bl, ↓blM_ap, ↓andR_bl, ↓andV_ap, ↓orR_bl, ↓orV_ap, ↓notR_bl, ↓notV_ap, ↓bin_ap, ↓un_ap, ↓chR_bl, ↓chain_ap, ↓consM_ap, ↓tupM_ap, ↓lstM_ap, ↓smallT_ap, ↓smallL_ap, ↓seqM_ap, ↓seqK_nx, ↓seqK_rt, ↓seqK_rtl, ↓seqK_bk, ↓seqK_ct, ↓seqK_ex, ↓seqK_bad, ↓retM_ap, ↓dropM_ap, ↓put_ap, ↓setM_ap, ↓setC_ap, ↓setL_ap, ↓smallS_ap, ↓retL_ap, ↓smallR_ap, ↓unpM_ap, ↓lstD_ap, ↓lcM_ap, ↓smallC_ap, ↓isiM_ak, ↓isiK_ap, ↓isi2M_ak, ↓isi2K_ap, ↓callF_ap, ↓resF_ok, ↓resF_ex, ↓forS_ap, ↓forM_nil, ↓forM_cons, ↓forK_nx, ↓forK_ct, ↓forK_bk, ↓forK_rt, ↓forK_ex, ↓tryM_ap, ↓tryK_ok, ↓tryK_ex, ↓noExK_ok, ↓raiseM_ap, ↓appM_ap, ↓apps_m, ↓appK_ap, ↓appKK_m, ↓callMM_ap, ↓mmK_m, ↓mmK_h, ↓callM_ap, ↓cmK_m, ↓cmK_h, ↓resM_some, ↓callO_ap, ↓resO_some, ↓slM_ap, ↓intO_ap, ↓intK_int, ↓rd_ap, ↓rdK_d, ↓rdK_m, ↓finP_rt, ↓finP_nx, ↓finP_ex, ↓finO_rtl, ↓finM_rt, ↓finM_nx, ↓eqD_ap, ↓neD_ap, ↓inD_ap, ↓notInD_ap, ↓negD_ap, ↓isNonD_ap, ↓notNonD_ap, ↓isBlD_ap, ↓notBlD_ap, ↓lenS_ap, ↓lenT_ap, ↓lenL_ap, ↓lenC_ap, ↓intI_ap, ↓intB_ap, ↓all_ap, ↓any_ap, ↓reprI_ap, ↓reprS_ap, ↓tupT_ap, ↓tupL_ap, ↓lstT_ap, ↓lstL_ap, ↓ixT_ap, ↓ixL_ap, ↓ixC_ap, ↓ixB_ap, ↓tgetM_ap, ↓tgetK_ap, ↓tixM_ap, ↓tixK_ap, ↓tgtN_ap, ↓tgtT_tup, ↓tgtT_lst, ↓tgsNil_ap, ↓tgsCons_ap, ↓itA_lst, ↓itA_scr, ↓itA_tup, ↓itA_str, ↓hixM_ak, ↓hixK_h, ↓hixK_m, ↓hixL_ap, ↓hixR_h, ↓hixR_m, ↓subD_ap, ↓ltD_ap, ↓leD_ap, ↓gtD_ap, ↓geD_ap, ↓modD_ap, ↓fdivD_ap, ↓addL_ap, ↓addI_ap, ↓addS_ap, ↓slS_ap, ↓mulI_ap, ↓mulR_ap, optK_some, optKD_some, eqP, eqS, inP, inP.flat, inP.eqF, isN, L2.atI, L2.ixN, isiO, isi2O, tyn, L2.kitB, sbeq, toP, toPs, PySem.SeqAt.shaped, PySem.PyData.canLay0, PySem.PyData.canLayAll0, PySem.PyData.depth, PySem.PyData.depthAll, PySem.PyData.eqv, PySem.PyData.eqvAll, strOk_of, ↓truM_ap, ↓truR_bl, q0, q1, q2, ↓rs, ↓rk, finI]
theorem sit_3 (h0 : Ent2 x0 true w0) (h1 : Ent2 x1 true w1) (h2 : Ent2 x2 n2 true) (h3 : Ent2 x3 false w3) : F_Situation [x0, x1, x2, x3] = .ex "BadSituation" [("what", .str "place")] := by
  have q0 := h0.n1
  have q1 := h1.n1
  have q2 := h2.w1
  have q3 := h3.n1
  have rs := raise1_ap "BadSituation" "what"
  have rk := raise1K_str "BadSituation" "what" "place" (by decide +kernel)
  have e : F_Situation [x0, x1, x2, x3] = finI "Situation" (g_Situation [.mi "Situation" [], .d x0, .d x1, .d x2, .d x3]) := by kernel_rfl
  rw [e]
  unfold g_Situation
  simp [startR, startH, ↓atI_cast, ↓andT_ok, ↓andT_ex, ↓andT_bad, ↓bind_ap, ↓ret_ap, ↓bad_ap, ↓andB_ok, ↓andB_t, ↓andB_f, ↓andB_ex, ↓andB_bad, ↓iteM_ap, ↓iteF_ap, ↓andM_ap, ↓orM_ap, ↓notM_ap, ↓blR_bl, ↓blM_ap, ↓andR_bl, ↓andV_ap, ↓orR_bl, ↓orV_ap, ↓notR_bl, ↓notV_ap, ↓bin_ap, ↓un_ap, ↓chR_bl, ↓chain_ap, ↓consM_ap, ↓tupM_ap, ↓lstM_ap, ↓smallT_ap, ↓smallL_ap, ↓seqM_ap, ↓seqK_nx, ↓seqK_rt, ↓seqK_rtl, ↓seqK_bk, ↓seqK_ct, ↓seqK_ex, ↓seqK_bad, ↓retM_ap, ↓dropM_ap, ↓put_ap, ↓setM_ap, ↓setC_ap, ↓setL_ap, ↓smallS_ap, ↓retL_ap, ↓smallR_ap, ↓unpM_ap, ↓lstD_ap, ↓lcM_ap, ↓smallC_ap, ↓isiM_ak, ↓isiK_ap, ↓isi2M_ak, ↓isi2K_ap, ↓callF_ap, ↓resF_ok, ↓resF_ex, ↓forS_ap, ↓forM_nil, ↓forM_cons, ↓forK_nx, ↓forK_ct, ↓forK_bk, ↓forK_rt, ↓forK_ex, ↓tryM_ap, ↓tryK_ok, ↓tryK_ex, ↓noExK_ok, ↓raiseM_ap, ↓appM_ap, ↓apps_m, ↓appK_ap, ↓appKK_m, ↓callMM_ap, ↓mmK_m, ↓mmK_h, ↓callM_ap, ↓cmK_m, ↓cmK_h, ↓resM_some, ↓callO_ap, ↓resO_some, ↓slM_ap, ↓intO_ap, ↓intK_int, ↓rd_ap, ↓rdK_d, ↓rdK_m, ↓finP_rt, ↓finP_nx, ↓finP_ex, ↓finO_rtl, ↓finM_rt, ↓finM_nx, ↓eqD_ap, ↓neD_ap, ↓inD_ap, ↓notInD_ap, ↓negD_ap, ↓isNonD_ap, ↓notNonD_ap, ↓isBlD_ap, ↓notBlD_ap, ↓lenS_ap, ↓lenT_ap, ↓lenL_ap, ↓lenC_ap, ↓intI_ap, ↓intB_ap, ↓all_ap, ↓any_ap, ↓reprI_ap, ↓reprS_ap, ↓tupT_ap, ↓tupL_ap, ↓lstT_ap, ↓lstL_ap, ↓ixT_ap, ↓ixL_ap, ↓ixC_ap, ↓ixB_ap, ↓tgetM_ap, ↓tgetK_ap, ↓tixM_ap, ↓tixK_ap, ↓tgtN_ap, ↓tgtT_tup, ↓tgtT_lst, ↓tgsNil_ap, ↓tgsCons_ap, ↓itA_lst, ↓itA_scr, ↓itA_tup, ↓itA_str, ↓hixM_ak, ↓hixK_h, ↓hixK_m, ↓hixL_ap, ↓hixR_h, ↓hixR_m, ↓subD_ap, ↓ltD_ap, ↓leD_ap, ↓gtD_ap, ↓geD_ap, ↓modD_ap, ↓fdivD_ap, ↓addL_ap, ↓addI_ap, ↓addS_ap, ↓slS_ap, ↓mulI_ap, ↓mulR_ap, optK_some, optKD_some, eqP, eqS, inP, inP.flat, inP.eqF, isN, L2.atI, L2.ixN, isiO, isi2O, tyn, L2.kitB, sbeq, toP, toPs, PySem.SeqAt.shaped, PySem.PyData.canLay0, PySem.PyData.canLayAll0, PySem.PyData.depth, PySem.PyData.depthAll, PySem.PyData.eqv, PySem.PyData.eqvAll, strOk_of, ↓truM_ap, ↓truR_bl, q0, q1, q2, q3, ↓rs, ↓rk, finI]
theorem sit_ok (h0 : Ent2 x0 true w0) (h1 : Ent2 x1 true w1) (h2 : Ent2 x2 n2 true) (h3 : Ent2 x3 true w3) : F_Situation [x0, x1, x2, x3] = .ok (sitF x0 x1 x2 x3) := by
  have q0 := h0.n1
  have q1 := h1.n1
  have q2 := h2.w1
  have q3 := h3.n1
  have e : F_Situation [x0, x1, x2, x3] = finI "Situation" (g_Situation [.mi "Situation" [], .d x0, .d x1, .d x2, .d x3]) := by kernel_rfl
  rw [e]
  unfold g_Situation
  simp [startR, startH, ↓atI_cast, ↓andT_ok, ↓andT_ex, ↓andT_bad, ↓bind_ap, ↓ret_ap, ↓bad_ap, ↓andB_ok, ↓andB_t, ↓andB_f, ↓andB_ex, ↓andB_bad, ↓iteM_ap, ↓iteF_ap, ↓andM_ap, ↓orM_ap, ↓notM_ap, ↓blR_bl, ↓blM_ap, ↓andR_bl, ↓andV_ap, ↓orR_bl, ↓orV_ap, ↓notR_bl, ↓notV_ap, ↓bin_ap, ↓un_ap, ↓chR_bl, ↓chain_ap, ↓consM_ap, ↓tupM_ap, ↓lstM_ap, ↓smallT_ap, ↓smallL_ap, ↓seqM_ap, ↓seqK_nx, ↓seqK_rt, ↓seqK_rtl, ↓seqK_bk, ↓seqK_ct, ↓seqK_ex, ↓seqK_bad, ↓retM_ap, ↓dropM_ap, ↓put_ap, ↓setM_ap, ↓setC_ap, ↓setL_ap, ↓smallS_ap, ↓retL_ap, ↓smallR_ap, ↓unpM_ap, ↓lstD_ap, ↓lcM_ap, ↓smallC_ap, ↓isiM_ak, ↓isiK_ap, ↓isi2M_ak, ↓isi2K_ap, ↓callF_ap, ↓resF_ok, ↓resF_ex, ↓forS_ap, ↓forM_nil, ↓forM_cons, ↓forK_nx, ↓forK_ct, ↓forK_bk, ↓forK_rt, ↓forK_ex, ↓tryM_ap, ↓tryK_ok, ↓tryK_ex, ↓noExK_ok, ↓raiseM_ap, ↓appM_ap, ↓apps_m, ↓appK_ap, ↓appKK_m, ↓callMM_ap, ↓mmK_m, ↓mmK_h, ↓callM_ap, ↓cmK_m, ↓cmK_h, ↓resM_some, ↓callO_ap, ↓resO_some, ↓slM_ap, ↓intO_ap, ↓intK_int, ↓rd_ap, ↓rdK_d, ↓rdK_m, ↓finP_rt, ↓finP_nx, ↓finP_ex, ↓finO_rtl, ↓finM_rt, ↓finM_nx, ↓eqD_ap, ↓neD_ap, ↓inD_ap, ↓notInD_ap, ↓negD_ap, ↓isNonD_ap, ↓notNonD_ap, ↓isBlD_ap, ↓notBlD_ap, ↓lenS_ap, ↓lenT_ap, ↓lenL_ap, ↓lenC_ap, ↓intI_ap, ↓intB_ap, ↓all_ap, ↓any_ap, ↓reprI_ap, ↓reprS_ap, ↓tupT_ap, ↓tupL_ap, ↓lstT_ap, ↓lstL_ap, ↓ixT_ap, ↓ixL_ap, ↓ixC_ap, ↓ixB_ap, ↓tgetM_ap, ↓tgetK_ap, ↓tixM_ap, ↓tixK_ap, ↓tgtN_ap, ↓tgtT_tup, ↓tgtT_lst, ↓tgsNil_ap, ↓tgsCons_ap, ↓itA_lst, ↓itA_scr, ↓itA_tup, ↓itA_str, ↓hixM_ak, ↓hixK_h, ↓hixK_m, ↓hixL_ap, ↓hixR_h, ↓hixR_m, ↓subD_ap, ↓ltD_ap, ↓leD_ap, ↓gtD_ap, ↓geD_ap, ↓modD_ap, ↓fdivD_ap, ↓addL_ap, ↓addI_ap, ↓addS_ap, ↓slS_ap, ↓mulI_ap, ↓mulR_ap, optK_some, optKD_some, eqP, eqS, inP, inP.flat, inP.eqF, isN, L2.atI, L2.ixN, isiO, isi2O, tyn, L2.kitB, sbeq, toP, toPs, PySem.SeqAt.shaped, PySem.PyData.canLay0, PySem.PyData.canLayAll0, PySem.PyData.depth, PySem.PyData.depthAll, PySem.PyData.eqv, PySem.PyData.eqvAll, strOk_of, ↓truM_ap, ↓truR_bl, q0, q1, q2, q3]
  kernel_rfl
end
def Sq (V : D) (L : List D) : Prop := V = .lst L ∨ V = .tup L
section
variable {V x0 x1 x2 x3 : D}
theorem unp4 (h : Sq V [x0, x1, x2, x3]) : unpM (tgtT 4 (tgsCons (tgtN 1) (tgsCons (tgtN 2) (tgsCons (tgtN 3) (tgsCons (tgtN 4) tgsNil))))) (rd 0) [.d V, .u, .u, .u, .u, .u, .u] = .ok .nx [.d V, .d x0, .d x1, .d x2, .d x3, .u, .u] := by
  rcases h with rfl | rfl <;> kernel_rfl
theorem tried_ok (h : Sq V [x0, x1, x2, x3]) {fs : List (Str × D)} (q : F_Situation [x0, x1, x2, x3] = .ok fs) : F__law_tried [V] = .ok (.ins "Situation" fs) := by
  have u := unp4 h
  have k : g__law_tried [.d V, .u, .u, .u, .u, .u, .u] = .ok (.rt (.ins "Situation" fs)) [.d V, .d x0, .d x1, .d x2, .d x3, .d (.ins "Situation" fs), .u] := by
    unfold g__law_tried
    refine (seq_nx u).trans ((seq_nx (tryAs_ok (ρ' := [.d V, .d x0, .d x1, .d x2, .d x3, .d (.ins "Situation" fs), .u]) ?_)).trans ?_)
    · simp [startR, startH, ↓atI_cast, ↓andT_ok, ↓andT_ex, ↓andT_bad, ↓bind_ap, ↓ret_ap, ↓bad_ap, ↓andB_ok, ↓andB_t, ↓andB_f, ↓andB_ex, ↓andB_bad, ↓iteM_ap, ↓iteF_ap, ↓andM_ap, ↓orM_ap, ↓notM_ap, ↓blR_bl, ↓blM_ap, ↓andR_bl, ↓andV_ap, ↓orR_bl, ↓orV_ap, ↓notR_bl, ↓notV_ap, ↓bin_ap, ↓un_ap, ↓chR_bl, ↓chain_ap, ↓consM_ap, ↓tupM_ap, ↓lstM_ap, ↓smallT_ap, ↓smallL_ap, ↓seqM_ap, ↓seqK_nx, ↓seqK_rt, ↓seqK_rtl, ↓seqK_bk, ↓seqK_ct, ↓seqK_ex, ↓seqK_bad, ↓retM_ap, ↓dropM_ap, ↓put_ap, ↓setM_ap, ↓setC_ap, ↓setL_ap, ↓smallS_ap, ↓retL_ap, ↓smallR_ap, ↓unpM_ap, ↓lstD_ap, ↓lcM_ap, ↓smallC_ap, ↓isiM_ak, ↓isiK_ap, ↓isi2M_ak, ↓isi2K_ap, ↓callF_ap, ↓resF_ok, ↓resF_ex, ↓forS_ap, ↓forM_nil, ↓forM_cons, ↓forK_nx, ↓forK_ct, ↓forK_bk, ↓forK_rt, ↓forK_ex, ↓tryM_ap, ↓tryK_ok, ↓tryK_ex, ↓noExK_ok, ↓raiseM_ap, ↓appM_ap, ↓apps_m, ↓appK_ap, ↓appKK_m, ↓callMM_ap, ↓mmK_m, ↓mmK_h, ↓callM_ap, ↓cmK_m, ↓cmK_h, ↓resM_some, ↓callO_ap, ↓resO_some, ↓slM_ap, ↓intO_ap, ↓intK_int, ↓rd_ap, ↓rdK_d, ↓rdK_m, ↓finP_rt, ↓finP_nx, ↓finP_ex, ↓finO_rtl, ↓finM_rt, ↓finM_nx, ↓eqD_ap, ↓neD_ap, ↓inD_ap, ↓notInD_ap, ↓negD_ap, ↓isNonD_ap, ↓notNonD_ap, ↓isBlD_ap, ↓notBlD_ap, ↓lenS_ap, ↓lenT_ap, ↓lenL_ap, ↓lenC_ap, ↓intI_ap, ↓intB_ap, ↓all_ap, ↓any_ap, ↓reprI_ap, ↓reprS_ap, ↓tupT_ap, ↓tupL_ap, ↓lstT_ap, ↓lstL_ap, ↓ixT_ap, ↓ixL_ap, ↓ixC_ap, ↓ixB_ap, ↓tgetM_ap, ↓tgetK_ap, ↓tixM_ap, ↓tixK_ap, ↓tgtN_ap, ↓tgtT_tup, ↓tgtT_lst, ↓tgsNil_ap, ↓tgsCons_ap, ↓itA_lst, ↓itA_scr, ↓itA_tup, ↓itA_str, ↓hixM_ak, ↓hixK_h, ↓hixK_m, ↓hixL_ap, ↓hixR_h, ↓hixR_m, ↓subD_ap, ↓ltD_ap, ↓leD_ap, ↓gtD_ap, ↓geD_ap, ↓modD_ap, ↓fdivD_ap, ↓addL_ap, ↓addI_ap, ↓addS_ap, ↓slS_ap, ↓mulI_ap, ↓mulR_ap, optK_some, optKD_some, eqP, eqS, inP, inP.flat, inP.eqF, isN, L2.atI, L2.ixN, isiO, isi2O, tyn, L2.kitB, sbeq, toP, toPs, PySem.SeqAt.shaped, PySem.PyData.canLay0, PySem.PyData.canLayAll0, PySem.PyData.depth, PySem.PyData.depthAll, PySem.PyData.eqv, PySem.PyData.eqvAll, strOk_of, callI, q]
    · simp [startR, startH, ↓atI_cast, ↓andT_ok, ↓andT_ex, ↓andT_bad, ↓bind_ap, ↓ret_ap, ↓bad_ap, ↓andB_ok, ↓andB_t, ↓andB_f, ↓andB_ex, ↓andB_bad, ↓iteM_ap, ↓iteF_ap, ↓andM_ap, ↓orM_ap, ↓notM_ap, ↓blR_bl, ↓blM_ap, ↓andR_bl, ↓andV_ap, ↓orR_bl, ↓orV_ap, ↓notR_bl, ↓notV_ap, ↓bin_ap, ↓un_ap, ↓chR_bl, ↓chain_ap, ↓consM_ap, ↓tupM_ap, ↓lstM_ap, ↓smallT_ap, ↓smallL_ap, ↓seqM_ap, ↓seqK_nx, ↓seqK_rt, ↓seqK_rtl, ↓seqK_bk, ↓seqK_ct, ↓seqK_ex, ↓seqK_bad, ↓retM_ap, ↓dropM_ap, ↓put_ap, ↓setM_ap, ↓setC_ap, ↓setL_ap, ↓smallS_ap, ↓retL_ap, ↓smallR_ap, ↓unpM_ap, ↓lstD_ap, ↓lcM_ap, ↓smallC_ap, ↓isiM_ak, ↓isiK_ap, ↓isi2M_ak, ↓isi2K_ap, ↓callF_ap, ↓resF_ok, ↓resF_ex, ↓forS_ap, ↓forM_nil, ↓forM_cons, ↓forK_nx, ↓forK_ct, ↓forK_bk, ↓forK_rt, ↓forK_ex, ↓tryM_ap, ↓tryK_ok, ↓tryK_ex, ↓noExK_ok, ↓raiseM_ap, ↓appM_ap, ↓apps_m, ↓appK_ap, ↓appKK_m, ↓callMM_ap, ↓mmK_m, ↓mmK_h, ↓callM_ap, ↓cmK_m, ↓cmK_h, ↓resM_some, ↓callO_ap, ↓resO_some, ↓slM_ap, ↓intO_ap, ↓intK_int, ↓rd_ap, ↓rdK_d, ↓rdK_m, ↓finP_rt, ↓finP_nx, ↓finP_ex, ↓finO_rtl, ↓finM_rt, ↓finM_nx, ↓eqD_ap, ↓neD_ap, ↓inD_ap, ↓notInD_ap, ↓negD_ap, ↓isNonD_ap, ↓notNonD_ap, ↓isBlD_ap, ↓notBlD_ap, ↓lenS_ap, ↓lenT_ap, ↓lenL_ap, ↓lenC_ap, ↓intI_ap, ↓intB_ap, ↓all_ap, ↓any_ap, ↓reprI_ap, ↓reprS_ap, ↓tupT_ap, ↓tupL_ap, ↓lstT_ap, ↓lstL_ap, ↓ixT_ap, ↓ixL_ap, ↓ixC_ap, ↓ixB_ap, ↓tgetM_ap, ↓tgetK_ap, ↓tixM_ap, ↓tixK_ap, ↓tgtN_ap, ↓tgtT_tup, ↓tgtT_lst, ↓tgsNil_ap, ↓tgsCons_ap, ↓itA_lst, ↓itA_scr, ↓itA_tup, ↓itA_str, ↓hixM_ak, ↓hixK_h, ↓hixK_m, ↓hixL_ap, ↓hixR_h, ↓hixR_m, ↓subD_ap, ↓ltD_ap, ↓leD_ap, ↓gtD_ap, ↓geD_ap, ↓modD_ap, ↓fdivD_ap, ↓addL_ap, ↓addI_ap, ↓addS_ap, ↓slS_ap, ↓mulI_ap, ↓mulR_ap, optK_some, optKD_some, eqP, eqS, inP, inP.flat, inP.eqF, isN, L2.atI, L2.ixN, isiO, isi2O, tyn, L2.kitB, sbeq, toP, toPs, PySem.SeqAt.shaped, PySem.PyData.canLay0, PySem.PyData.canLayAll0, PySem.PyData.depth, PySem.PyData.depthAll, PySem.PyData.eqv, PySem.PyData.eqvAll, strOk_of, q]
  unfold F__law_tried mkP
  show finP (g__law_tried [.d V, .u, .u, .u, .u, .u, .u]) = _
  rw [k]
  rfl
theorem tried_no (h : Sq V [x0, x1, x2, x3]) {s : Str} (q : F_Situation [x0, x1, x2, x3] = .ex "BadSituation" [("what", .str s)]) : F__law_tried [V] = .ok (.str s) := by
  have u := unp4 h
  have k : g__law_tried [.d V, .u, .u, .u, .u, .u, .u] = .ok (.rt (.str s)) [.d V, .d x0, .d x1, .d x2, .d x3, .u, .u] := by
    unfold g__law_tried
    refine (seq_nx u).trans ?_
    have t := tryAs_caught (i := 6) (catches := fun c => c == "BadSituation") (gb := setM 5 (De.bind (consM (rd 1) (consM (rd 2) (consM (rd 3) (consM (rd 4) (De.ret []))))) (callI "Situation" F_Situation))) (gs := fun a dd c => (retM (xfM 6 a dd c "what"))) (ρ := [.d V, .d x0, .d x1, .d x2, .d x3, .u, .u]) (ρ' := [.d V, .d x0, .d x1, .d x2, .d x3, .u, .u]) (c := "BadSituation") (fs := [("what", .str s)]) (R := .ok (.rt (.str s)) [.d V, .d x0, .d x1, .d x2, .d x3, .u, .u]) (by simp [startR, startH, ↓atI_cast, ↓andT_ok, ↓andT_ex, ↓andT_bad, ↓bind_ap, ↓ret_ap, ↓bad_ap, ↓andB_ok, ↓andB_t, ↓andB_f, ↓andB_ex, ↓andB_bad, ↓iteM_ap, ↓iteF_ap, ↓andM_ap, ↓orM_ap, ↓notM_ap, ↓blR_bl, ↓blM_ap, ↓andR_bl, ↓andV_ap, ↓orR_bl, ↓orV_ap, ↓notR_bl, ↓notV_ap, ↓bin_ap, ↓un_ap, ↓chR_bl, ↓chain_ap, ↓consM_ap, ↓tupM_ap, ↓lstM_ap, ↓smallT_ap, ↓smallL_ap, ↓seqM_ap, ↓seqK_nx, ↓seqK_rt, ↓seqK_rtl, ↓seqK_bk, ↓seqK_ct, ↓seqK_ex, ↓seqK_bad, ↓retM_ap, ↓dropM_ap, ↓put_ap, ↓setM_ap, ↓setC_ap, ↓setL_ap, ↓smallS_ap, ↓retL_ap, ↓smallR_ap, ↓unpM_ap, ↓lstD_ap, ↓lcM_ap, ↓smallC_ap, ↓isiM_ak, ↓isiK_ap, ↓isi2M_ak, ↓isi2K_ap, ↓callF_ap, ↓resF_ok, ↓resF_ex, ↓forS_ap, ↓forM_nil, ↓forM_cons, ↓forK_nx, ↓forK_ct, ↓forK_bk, ↓forK_rt, ↓forK_ex, ↓tryM_ap, ↓tryK_ok, ↓tryK_ex, ↓noExK_ok, ↓raiseM_ap, ↓appM_ap, ↓apps_m, ↓appK_ap, ↓appKK_m, ↓callMM_ap, ↓mmK_m, ↓mmK_h, ↓callM_ap, ↓cmK_m, ↓cmK_h, ↓resM_some, ↓callO_ap, ↓resO_some, ↓slM_ap, ↓intO_ap, ↓intK_int, ↓rd_ap, ↓rdK_d, ↓rdK_m, ↓finP_rt, ↓finP_nx, ↓finP_ex, ↓finO_rtl, ↓finM_rt, ↓finM_nx, ↓eqD_ap, ↓neD_ap, ↓inD_ap, ↓notInD_ap, ↓negD_ap, ↓isNonD_ap, ↓notNonD_ap, ↓isBlD_ap, ↓notBlD_ap, ↓lenS_ap, ↓lenT_ap, ↓lenL_ap, ↓lenC_ap, ↓intI_ap, ↓intB_ap, ↓all_ap, ↓any_ap, ↓reprI_ap, ↓reprS_ap, ↓tupT_ap, ↓tupL_ap, ↓lstT_ap, ↓lstL_ap, ↓ixT_ap, ↓ixL_ap, ↓ixC_ap, ↓ixB_ap, ↓tgetM_ap, ↓tgetK_ap, ↓tixM_ap, ↓tixK_ap, ↓tgtN_ap, ↓tgtT_tup, ↓tgtT_lst, ↓tgsNil_ap, ↓tgsCons_ap, ↓itA_lst, ↓itA_scr, ↓itA_tup, ↓itA_str, ↓hixM_ak, ↓hixK_h, ↓hixK_m, ↓hixL_ap, ↓hixR_h, ↓hixR_m, ↓subD_ap, ↓ltD_ap, ↓leD_ap, ↓gtD_ap, ↓geD_ap, ↓modD_ap, ↓fdivD_ap, ↓addL_ap, ↓addI_ap, ↓addS_ap, ↓slS_ap, ↓mulI_ap, ↓mulR_ap, optK_some, optKD_some, eqP, eqS, inP, inP.flat, inP.eqF, isN, L2.atI, L2.ixN, isiO, isi2O, tyn, L2.kitB, sbeq, toP, toPs, PySem.SeqAt.shaped, PySem.PyData.canLay0, PySem.PyData.canLayAll0, PySem.PyData.depth, PySem.PyData.depthAll, PySem.PyData.eqv, PySem.PyData.eqvAll, strOk_of, callI, q]) rfl fun a dd hd => by
      have e1 := xf_ap 6 a dd "BadSituation" "what" [("what", .str s)] (.str s) [.d V, .d x0, .d x1, .d x2, .d x3, .u, .d (.xn a dd "BadSituation" [("what", .str s)])] rfl rfl
      show normR 6 ((retM (xfM 6 a dd "BadSituation" "what")) [.d V, .d x0, .d x1, .d x2, .d x3, .u, .d (.xn a dd "BadSituation" [("what", .str s)])]) = _
      simp [startR, startH, ↓atI_cast, ↓andT_ok, ↓andT_ex, ↓andT_bad, ↓bind_ap, ↓ret_ap, ↓bad_ap, ↓andB_ok, ↓andB_t, ↓andB_f, ↓andB_ex, ↓andB_bad, ↓iteM_ap, ↓iteF_ap, ↓andM_ap, ↓orM_ap, ↓notM_ap, ↓blR_bl, ↓blM_ap, ↓andR_bl, ↓andV_ap, ↓orR_bl, ↓orV_ap, ↓notR_bl, ↓notV_ap, ↓bin_ap, ↓un_ap, ↓chR_bl, ↓chain_ap, ↓consM_ap, ↓tupM_ap, ↓lstM_ap, ↓smallT_ap, ↓smallL_ap, ↓seqM_ap, ↓seqK_nx, ↓seqK_rt, ↓seqK_rtl, ↓seqK_bk, ↓seqK_ct, ↓seqK_ex, ↓seqK_bad, ↓retM_ap, ↓dropM_ap, ↓put_ap, ↓setM_ap, ↓setC_ap, ↓setL_ap, ↓smallS_ap, ↓retL_ap, ↓smallR_ap, ↓unpM_ap, ↓lstD_ap, ↓lcM_ap, ↓smallC_ap, ↓isiM_ak, ↓isiK_ap, ↓isi2M_ak, ↓isi2K_ap, ↓callF_ap, ↓resF_ok, ↓resF_ex, ↓forS_ap, ↓forM_nil, ↓forM_cons, ↓forK_nx, ↓forK_ct, ↓forK_bk, ↓forK_rt, ↓forK_ex, ↓tryM_ap, ↓tryK_ok, ↓tryK_ex, ↓noExK_ok, ↓raiseM_ap, ↓appM_ap, ↓apps_m, ↓appK_ap, ↓appKK_m, ↓callMM_ap, ↓mmK_m, ↓mmK_h, ↓callM_ap, ↓cmK_m, ↓cmK_h, ↓resM_some, ↓callO_ap, ↓resO_some, ↓slM_ap, ↓intO_ap, ↓intK_int, ↓rd_ap, ↓rdK_d, ↓rdK_m, ↓finP_rt, ↓finP_nx, ↓finP_ex, ↓finO_rtl, ↓finM_rt, ↓finM_nx, ↓eqD_ap, ↓neD_ap, ↓inD_ap, ↓notInD_ap, ↓negD_ap, ↓isNonD_ap, ↓notNonD_ap, ↓isBlD_ap, ↓notBlD_ap, ↓lenS_ap, ↓lenT_ap, ↓lenL_ap, ↓lenC_ap, ↓intI_ap, ↓intB_ap, ↓all_ap, ↓any_ap, ↓reprI_ap, ↓reprS_ap, ↓tupT_ap, ↓tupL_ap, ↓lstT_ap, ↓lstL_ap, ↓ixT_ap, ↓ixL_ap, ↓ixC_ap, ↓ixB_ap, ↓tgetM_ap, ↓tgetK_ap, ↓tixM_ap, ↓tixK_ap, ↓tgtN_ap, ↓tgtT_tup, ↓tgtT_lst, ↓tgsNil_ap, ↓tgsCons_ap, ↓itA_lst, ↓itA_scr, ↓itA_tup, ↓itA_str, ↓hixM_ak, ↓hixK_h, ↓hixK_m, ↓hixL_ap, ↓hixR_h, ↓hixR_m, ↓subD_ap, ↓ltD_ap, ↓leD_ap, ↓gtD_ap, ↓geD_ap, ↓modD_ap, ↓fdivD_ap, ↓addL_ap, ↓addI_ap, ↓addS_ap, ↓slS_ap, ↓mulI_ap, ↓mulR_ap, optK_some, optKD_some, eqP, eqS, inP, inP.flat, inP.eqF, isN, L2.atI, L2.ixN, isiO, isi2O, tyn, L2.kitB, sbeq, toP, toPs, PySem.SeqAt.shaped, PySem.PyData.canLay0, PySem.PyData.canLayAll0, PySem.PyData.depth, PySem.PyData.depthAll, PySem.PyData.eqv, PySem.PyData.eqvAll, strOk_of, ↓e1, normR]
    rw [seqM_ap, t]
    rfl
  unfold F__law_tried mkP
  show finP (g__law_tried [.d V, .u, .u, .u, .u, .u, .u]) = _
  rw [k]
  rfl
end
end De

set_option Elab.async false
set_option linter.all false
set_option maxRecDepth 100000
set_option maxHeartbeats 1000000
namespace De
open K05
open PySem (Str sizeLine_eq)
/-! what the law says of spoilt arguments -/
abbrev tgD : D → M Unit := tgtT 2 (tgsCons (tgtN 1) (tgsCons (tgtN 2) tgsNil))
theorem tgD_ap (k : Int) (w : D) (V e1 e2 : EV) : tgD (.tup [.int k, w]) [V, e1, e2] = .ok () [V, .d (.int k), .d w] := nr rfl
section
variable {V x x0 x1 x2 x3 : D} {e1 e2 : EV} {n w n0 n1 n2 n3 w0 w1 w2 w3 : Bool}
theorem due_pass0 (hx : ∀ ρ, De.ixD V (.int 0) ρ = .ok x ρ) (h : Ent2 x true w) : De.bind (tgD (.tup [.int ((0 : Nat) : Int), .str "teller"])) (fun _ => b__law_due_1) [.d V, e1, e2] = .ok .nx [.d V, .d (.int 0), .d (.str "teller")] := by
  have q := h.n2
  rw [bind_ap, tgD_ap, andT_ok]
  unfold b__law_due_1
  simp [startR, startH, ↓atI_cast, ↓andT_ok, ↓andT_ex, ↓andT_bad, ↓bind_ap, ↓ret_ap, ↓bad_ap, ↓andB_ok, ↓andB_t, ↓andB_f, ↓andB_ex, ↓andB_bad, ↓iteM_ap, ↓iteF_ap, ↓andM_ap, ↓orM_ap, ↓notM_ap, ↓blR_bl, ↓blM_ap, ↓andR_bl, ↓andV_ap, ↓orR_bl, ↓orV_ap, ↓notR_bl, ↓notV_ap, ↓bin_ap, ↓un_ap, ↓chR_bl, ↓chain_ap, ↓consM_ap, ↓tupM_ap, ↓lstM_ap, ↓smallT_ap, ↓smallL_ap, ↓seqM_ap, ↓seqK_nx, ↓seqK_rt, ↓seqK_rtl, ↓seqK_bk, ↓seqK_ct, ↓seqK_ex, ↓seqK_bad, ↓retM_ap, ↓dropM_ap, ↓put_ap, ↓setM_ap, ↓setC_ap, ↓setL_ap, ↓smallS_ap, ↓retL_ap, ↓smallR_ap, ↓unpM_ap, ↓lstD_ap, ↓lcM_ap, ↓smallC_ap, ↓isiM_ak, ↓isiK_ap, ↓isi2M_ak, ↓isi2K_ap, ↓callF_ap, ↓resF_ok, ↓resF_ex, ↓forS_ap, ↓forM_nil, ↓forM_cons, ↓forK_nx, ↓forK_ct, ↓forK_bk, ↓forK_rt, ↓forK_ex, ↓tryM_ap, ↓tryK_ok, ↓tryK_ex, ↓noExK_ok, ↓raiseM_ap, ↓appM_ap, ↓apps_m, ↓appK_ap, ↓appKK_m, ↓callMM_ap, ↓mmK_m, ↓mmK_h, ↓callM_ap, ↓cmK_m, ↓cmK_h, ↓resM_some, ↓callO_ap, ↓resO_some, ↓slM_ap, ↓intO_ap, ↓intK_int, ↓rd_ap, ↓rdK_d, ↓rdK_m, ↓finP_rt, ↓finP_nx, ↓finP_ex, ↓finO_rtl, ↓finM_rt, ↓finM_nx, ↓eqD_ap, ↓neD_ap, ↓inD_ap, ↓notInD_ap, ↓negD_ap, ↓isNonD_ap, ↓notNonD_ap, ↓isBlD_ap, ↓notBlD_ap, ↓lenS_ap, ↓lenT_ap, ↓lenL_ap, ↓lenC_ap, ↓intI_ap, ↓intB_ap, ↓all_ap, ↓any_ap, ↓reprI_ap, ↓reprS_ap, ↓tupT_ap, ↓tupL_ap, ↓lstT_ap, ↓lstL_ap, ↓ixT_ap, ↓ixL_ap, ↓ixC_ap, ↓ixB_ap, ↓tgetM_ap, ↓tgetK_ap, ↓tixM_ap, ↓tixK_ap, ↓tgtN_ap, ↓tgtT_tup, ↓tgtT_lst, ↓tgsNil_ap, ↓tgsCons_ap, ↓itA_lst, ↓itA_scr, ↓itA_tup, ↓itA_str, ↓hixM_ak, ↓hixK_h, ↓hixK_m, ↓hixL_ap, ↓hixR_h, ↓hixR_m, ↓subD_ap, ↓ltD_ap, ↓leD_ap, ↓gtD_ap, ↓geD_ap, ↓modD_ap, ↓fdivD_ap, ↓addL_ap, ↓addI_ap, ↓addS_ap, ↓slS_ap, ↓mulI_ap, ↓mulR_ap, optK_some, optKD_some, eqP, eqS, inP, inP.flat, inP.eqF, isN, L2.atI, L2.ixN, isiO, isi2O, tyn, L2.kitB, sbeq, toP, toPs, PySem.SeqAt.shaped, PySem.PyData.canLay0, PySem.PyData.canLayAll0, PySem.PyData.depth, PySem.PyData.depthAll, PySem.PyData.eqv, PySem.PyData.eqvAll, strOk_of, ↓truM_ap, ↓truR_bl, ↓hx, q]
theorem due_stop0 (hx : ∀ ρ, De.ixD V (.int 0) ρ = .ok x ρ) (h : Ent2 x false w) : De.bind (tgD (.tup [.int ((0 : Nat) : Int), .str "teller"])) (fun _ => b__law_due_1) [.d V, e1, e2] = .ok (.rt (.str "teller")) [.d V, .d (.int 0), .d (.str "teller")] := by
  have q := h.n2
  rw [bind_ap, tgD_ap, andT_ok]
  unfold b__law_due_1
  simp [startR, startH, ↓atI_cast, ↓andT_ok, ↓andT_ex, ↓andT_bad, ↓bind_ap, ↓ret_ap, ↓bad_ap, ↓andB_ok, ↓andB_t, ↓andB_f, ↓andB_ex, ↓andB_bad, ↓iteM_ap, ↓iteF_ap, ↓andM_ap, ↓orM_ap, ↓notM_ap, ↓blR_bl, ↓blM_ap, ↓andR_bl, ↓andV_ap, ↓orR_bl, ↓orV_ap, ↓notR_bl, ↓notV_ap, ↓bin_ap, ↓un_ap, ↓chR_bl, ↓chain_ap, ↓consM_ap, ↓tupM_ap, ↓lstM_ap, ↓smallT_ap, ↓smallL_ap, ↓seqM_ap, ↓seqK_nx, ↓seqK_rt, ↓seqK_rtl, ↓seqK_bk, ↓seqK_ct, ↓seqK_ex, ↓seqK_bad, ↓retM_ap, ↓dropM_ap, ↓put_ap, ↓setM_ap, ↓setC_ap, ↓setL_ap, ↓smallS_ap, ↓retL_ap, ↓smallR_ap, ↓unpM_ap, ↓lstD_ap, ↓lcM_ap, ↓smallC_ap, ↓isiM_ak, ↓isiK_ap, ↓isi2M_ak, ↓isi2K_ap, ↓callF_ap, ↓resF_ok, ↓resF_ex, ↓forS_ap, ↓forM_nil, ↓forM_cons, ↓forK_nx, ↓forK_ct, ↓forK_bk, ↓forK_rt, ↓forK_ex, ↓tryM_ap, ↓tryK_ok, ↓tryK_ex, ↓noExK_ok, ↓raiseM_ap, ↓appM_ap, ↓apps_m, ↓appK_ap, ↓appKK_m, ↓callMM_ap, ↓mmK_m, ↓mmK_h, ↓callM_ap, ↓cmK_m, ↓cmK_h, ↓resM_some, ↓callO_ap, ↓resO_some, ↓slM_ap, ↓intO_ap, ↓intK_int, ↓rd_ap, ↓rdK_d, ↓rdK_m, ↓finP_rt, ↓finP_nx, ↓finP_ex, ↓finO_rtl, ↓finM_rt, ↓finM_nx, ↓eqD_ap, ↓neD_ap, ↓inD_ap, ↓notInD_ap, ↓negD_ap, ↓isNonD_ap, ↓notNonD_ap, ↓isBlD_ap, ↓notBlD_ap, ↓lenS_ap, ↓lenT_ap, ↓lenL_ap, ↓lenC_ap, ↓intI_ap, ↓intB_ap, ↓all_ap, ↓any_ap, ↓reprI_ap, ↓reprS_ap, ↓tupT_ap, ↓tupL_ap, ↓lstT_ap, ↓lstL_ap, ↓ixT_ap, ↓ixL_ap, ↓ixC_ap, ↓ixB_ap, ↓tgetM_ap, ↓tgetK_ap, ↓tixM_ap, ↓tixK_ap, ↓tgtN_ap, ↓tgtT_tup, ↓tgtT_lst, ↓tgsNil_ap, ↓tgsCons_ap, ↓itA_lst, ↓itA_scr, ↓itA_tup, ↓itA_str, ↓hixM_ak, ↓hixK_h, ↓hixK_m, ↓hixL_ap, ↓hixR_h, ↓hixR_m, ↓subD_ap, ↓ltD_ap, ↓leD_ap, ↓gtD_ap, ↓geD_ap, ↓modD_ap, ↓fdivD_ap, ↓addL_ap, ↓addI_ap, ↓addS_ap, ↓slS_ap, ↓mulI_ap, ↓mulR_ap, optK_some, optKD_some, eqP, eqS, inP, inP.flat, inP.eqF, isN, L2.atI, L2.ixN, isiO, isi2O, tyn, L2.kitB, sbeq, toP, toPs, PySem.SeqAt.shaped, PySem.PyData.canLay0, PySem.PyData.canLayAll0, PySem.PyData.depth, PySem.PyData.depthAll, PySem.PyData.eqv, PySem.PyData.eqvAll, strOk_of, ↓truM_ap, ↓truR_bl, ↓hx, q]
theorem due_pass1 (hx : ∀ ρ, De.ixD V (.int 1) ρ = .ok x ρ) (h : Ent2 x true w) : De.bind (tgD (.tup [.int ((1 : Nat) : Int), .str "hearer"])) (fun _ => b__law_due_1) [.d V, e1, e2] = .ok .nx [.d V, .d (.int 1), .d (.str "hearer")] := by
  have q := h.n2
  rw [bind_ap, tgD_ap, andT_ok]
  unfold b__law_due_1
  simp [startR, startH, ↓atI_cast, ↓andT_ok, ↓andT_ex, ↓andT_bad, ↓bind_ap, ↓ret_ap, ↓bad_ap, ↓andB_ok, ↓andB_t, ↓andB_f, ↓andB_ex, ↓andB_bad, ↓iteM_ap, ↓iteF_ap, ↓andM_ap, ↓orM_ap, ↓notM_ap, ↓blR_bl, ↓blM_ap, ↓andR_bl, ↓andV_ap, ↓orR_bl, ↓orV_ap, ↓notR_bl, ↓notV_ap, ↓bin_ap, ↓un_ap, ↓chR_bl, ↓chain_ap, ↓consM_ap, ↓tupM_ap, ↓lstM_ap, ↓smallT_ap, ↓smallL_ap, ↓seqM_ap, ↓seqK_nx, ↓seqK_rt, ↓seqK_rtl, ↓seqK_bk, ↓seqK_ct, ↓seqK_ex, ↓seqK_bad, ↓retM_ap, ↓dropM_ap, ↓put_ap, ↓setM_ap, ↓setC_ap, ↓setL_ap, ↓smallS_ap, ↓retL_ap, ↓smallR_ap, ↓unpM_ap, ↓lstD_ap, ↓lcM_ap, ↓smallC_ap, ↓isiM_ak, ↓isiK_ap, ↓isi2M_ak, ↓isi2K_ap, ↓callF_ap, ↓resF_ok, ↓resF_ex, ↓forS_ap, ↓forM_nil, ↓forM_cons, ↓forK_nx, ↓forK_ct, ↓forK_bk, ↓forK_rt, ↓forK_ex, ↓tryM_ap, ↓tryK_ok, ↓tryK_ex, ↓noExK_ok, ↓raiseM_ap, ↓appM_ap, ↓apps_m, ↓appK_ap, ↓appKK_m, ↓callMM_ap, ↓mmK_m, ↓mmK_h, ↓callM_ap, ↓cmK_m, ↓cmK_h, ↓resM_some, ↓callO_ap, ↓resO_some, ↓slM_ap, ↓intO_ap, ↓intK_int, ↓rd_ap, ↓rdK_d, ↓rdK_m, ↓finP_rt, ↓finP_nx, ↓finP_ex, ↓finO_rtl, ↓finM_rt, ↓finM_nx, ↓eqD_ap, ↓neD_ap, ↓inD_ap, ↓notInD_ap, ↓negD_ap, ↓isNonD_ap, ↓notNonD_ap, ↓isBlD_ap, ↓notBlD_ap, ↓lenS_ap, ↓lenT_ap, ↓lenL_ap, ↓lenC_ap, ↓intI_ap, ↓intB_ap, ↓all_ap, ↓any_ap, ↓reprI_ap, ↓reprS_ap, ↓tupT_ap, ↓tupL_ap, ↓lstT_ap, ↓lstL_ap, ↓ixT_ap, ↓ixL_ap, ↓ixC_ap, ↓ixB_ap, ↓tgetM_ap, ↓tgetK_ap, ↓tixM_ap, ↓tixK_ap, ↓tgtN_ap, ↓tgtT_tup, ↓tgtT_lst, ↓tgsNil_ap, ↓tgsCons_ap, ↓itA_lst, ↓itA_scr, ↓itA_tup, ↓itA_str, ↓hixM_ak, ↓hixK_h, ↓hixK_m, ↓hixL_ap, ↓hixR_h, ↓hixR_m, ↓subD_ap, ↓ltD_ap, ↓leD_ap, ↓gtD_ap, ↓geD_ap, ↓modD_ap, ↓fdivD_ap, ↓addL_ap, ↓addI_ap, ↓addS_ap, ↓slS_ap, ↓mulI_ap, ↓mulR_ap, optK_some, optKD_some, eqP, eqS, inP, inP.flat, inP.eqF, isN, L2.atI, L2.ixN, isiO, isi2O, tyn, L2.kitB, sbeq, toP, toPs, PySem.SeqAt.shaped, PySem.PyData.canLay0, PySem.PyData.canLayAll0, PySem.PyData.depth, PySem.PyData.depthAll, PySem.PyData.eqv, PySem.PyData.eqvAll, strOk_of, ↓truM_ap, ↓truR_bl, ↓hx, q]
theorem due_stop1 (hx : ∀ ρ, De.ixD V (.int 1) ρ = .ok x ρ) (h : Ent2 x false w) : De.bind (tgD (.tup [.int ((1 : Nat) : Int), .str "hearer"])) (fun _ => b__law_due_1) [.d V, e1, e2] = .ok (.rt (.str "hearer")) [.d V, .d (.int 1), .d (.str "hearer")] := by
  have q := h.n2
  rw [bind_ap, tgD_ap, andT_ok]
  unfold b__law_due_1
  simp [startR, startH, ↓atI_cast, ↓andT_ok, ↓andT_ex, ↓andT_bad, ↓bind_ap, ↓ret_ap, ↓bad_ap, ↓andB_ok, ↓andB_t, ↓andB_f, ↓andB_ex, ↓andB_bad, ↓iteM_ap, ↓iteF_ap, ↓andM_ap, ↓orM_ap, ↓notM_ap, ↓blR_bl, ↓blM_ap, ↓andR_bl, ↓andV_ap, ↓orR_bl, ↓orV_ap, ↓notR_bl, ↓notV_ap, ↓bin_ap, ↓un_ap, ↓chR_bl, ↓chain_ap, ↓consM_ap, ↓tupM_ap, ↓lstM_ap, ↓smallT_ap, ↓smallL_ap, ↓seqM_ap, ↓seqK_nx, ↓seqK_rt, ↓seqK_rtl, ↓seqK_bk, ↓seqK_ct, ↓seqK_ex, ↓seqK_bad, ↓retM_ap, ↓dropM_ap, ↓put_ap, ↓setM_ap, ↓setC_ap, ↓setL_ap, ↓smallS_ap, ↓retL_ap, ↓smallR_ap, ↓unpM_ap, ↓lstD_ap, ↓lcM_ap, ↓smallC_ap, ↓isiM_ak, ↓isiK_ap, ↓isi2M_ak, ↓isi2K_ap, ↓callF_ap, ↓resF_ok, ↓resF_ex, ↓forS_ap, ↓forM_nil, ↓forM_cons, ↓forK_nx, ↓forK_ct, ↓forK_bk, ↓forK_rt, ↓forK_ex, ↓tryM_ap, ↓tryK_ok, ↓tryK_ex, ↓noExK_ok, ↓raiseM_ap, ↓appM_ap, ↓apps_m, ↓appK_ap, ↓appKK_m, ↓callMM_ap, ↓mmK_m, ↓mmK_h, ↓callM_ap, ↓cmK_m, ↓cmK_h, ↓resM_some, ↓callO_ap, ↓resO_some, ↓slM_ap, ↓intO_ap, ↓intK_int, ↓rd_ap, ↓rdK_d, ↓rdK_m, ↓finP_rt, ↓finP_nx, ↓finP_ex, ↓finO_rtl, ↓finM_rt, ↓finM_nx, ↓eqD_ap, ↓neD_ap, ↓inD_ap, ↓notInD_ap, ↓negD_ap, ↓isNonD_ap, ↓notNonD_ap, ↓isBlD_ap, ↓notBlD_ap, ↓lenS_ap, ↓lenT_ap, ↓lenL_ap, ↓lenC_ap, ↓intI_ap, ↓intB_ap, ↓all_ap, ↓any_ap, ↓reprI_ap, ↓reprS_ap, ↓tupT_ap, ↓tupL_ap, ↓lstT_ap, ↓lstL_ap, ↓ixT_ap, ↓ixL_ap, ↓ixC_ap, ↓ixB_ap, ↓tgetM_ap, ↓tgetK_ap, ↓tixM_ap, ↓tixK_ap, ↓tgtN_ap, ↓tgtT_tup, ↓tgtT_lst, ↓tgsNil_ap, ↓tgsCons_ap, ↓itA_lst, ↓itA_scr, ↓itA_tup, ↓itA_str, ↓hixM_ak, ↓hixK_h, ↓hixK_m, ↓hixL_ap, ↓hixR_h, ↓hixR_m, ↓subD_ap, ↓ltD_ap, ↓leD_ap, ↓gtD_ap, ↓geD_ap, ↓modD_ap, ↓fdivD_ap, ↓addL_ap, ↓addI_ap, ↓addS_ap, ↓slS_ap, ↓mulI_ap, ↓mulR_ap, optK_some, optKD_some, eqP, eqS, inP, inP.flat, inP.eqF, isN, L2.atI, L2.ixN, isiO, isi2O, tyn, L2.kitB, sbeq, toP, toPs, PySem.SeqAt.shaped, PySem.PyData.canLay0, PySem.PyData.canLayAll0, PySem.PyData.depth, PySem.PyData.depthAll, PySem.PyData.eqv, PySem.PyData.eqvAll, strOk_of, ↓truM_ap, ↓truR_bl, ↓hx, q]
theorem due_pass2 (hx : ∀ ρ, De.ixD V (.int 2) ρ = .ok x ρ) (h : Ent2 x n true) : De.bind (tgD (.tup [.int ((2 : Nat) : Int), .str "day"])) (fun _ => b__law_due_1) [.d V, e1, e2] = .ok .nx [.d V, .d (.int 2), .d (.str "day")] := by
  have q := h.w2
  rw [bind_ap, tgD_ap, andT_ok]
  unfold b__law_due_1
  simp [startR, startH, ↓atI_cast, ↓andT_ok, ↓andT_ex, ↓andT_bad, ↓bind_ap, ↓ret_ap, ↓bad_ap, ↓andB_ok, ↓andB_t, ↓andB_f, ↓andB_ex, ↓andB_bad, ↓iteM_ap, ↓iteF_ap, ↓andM_ap, ↓orM_ap, ↓notM_ap, ↓blR_bl, ↓blM_ap, ↓andR_bl, ↓andV_ap, ↓orR_bl, ↓orV_ap, ↓notR_bl, ↓notV_ap, ↓bin_ap, ↓un_ap, ↓chR_bl, ↓chain_ap, ↓consM_ap, ↓tupM_ap, ↓lstM_ap, ↓smallT_ap, ↓smallL_ap, ↓seqM_ap, ↓seqK_nx, ↓seqK_rt, ↓seqK_rtl, ↓seqK_bk, ↓seqK_ct, ↓seqK_ex, ↓seqK_bad, ↓retM_ap, ↓dropM_ap, ↓put_ap, ↓setM_ap, ↓setC_ap, ↓setL_ap, ↓smallS_ap, ↓retL_ap, ↓smallR_ap, ↓unpM_ap, ↓lstD_ap, ↓lcM_ap, ↓smallC_ap, ↓isiM_ak, ↓isiK_ap, ↓isi2M_ak, ↓isi2K_ap, ↓callF_ap, ↓resF_ok, ↓resF_ex, ↓forS_ap, ↓forM_nil, ↓forM_cons, ↓forK_nx, ↓forK_ct, ↓forK_bk, ↓forK_rt, ↓forK_ex, ↓tryM_ap, ↓tryK_ok, ↓tryK_ex, ↓noExK_ok, ↓raiseM_ap, ↓appM_ap, ↓apps_m, ↓appK_ap, ↓appKK_m, ↓callMM_ap, ↓mmK_m, ↓mmK_h, ↓callM_ap, ↓cmK_m, ↓cmK_h, ↓resM_some, ↓callO_ap, ↓resO_some, ↓slM_ap, ↓intO_ap, ↓intK_int, ↓rd_ap, ↓rdK_d, ↓rdK_m, ↓finP_rt, ↓finP_nx, ↓finP_ex, ↓finO_rtl, ↓finM_rt, ↓finM_nx, ↓eqD_ap, ↓neD_ap, ↓inD_ap, ↓notInD_ap, ↓negD_ap, ↓isNonD_ap, ↓notNonD_ap, ↓isBlD_ap, ↓notBlD_ap, ↓lenS_ap, ↓lenT_ap, ↓lenL_ap, ↓lenC_ap, ↓intI_ap, ↓intB_ap, ↓all_ap, ↓any_ap, ↓reprI_ap, ↓reprS_ap, ↓tupT_ap, ↓tupL_ap, ↓lstT_ap, ↓lstL_ap, ↓ixT_ap, ↓ixL_ap, ↓ixC_ap, ↓ixB_ap, ↓tgetM_ap, ↓tgetK_ap, ↓tixM_ap, ↓tixK_ap, ↓tgtN_ap, ↓tgtT_tup, ↓tgtT_lst, ↓tgsNil_ap, ↓tgsCons_ap, ↓itA_lst, ↓itA_scr, ↓itA_tup, ↓itA_str, ↓hixM_ak, ↓hixK_h, ↓hixK_m, ↓hixL_ap, ↓hixR_h, ↓hixR_m, ↓subD_ap, ↓ltD_ap, ↓leD_ap, ↓gtD_ap, ↓geD_ap, ↓modD_ap, ↓fdivD_ap, ↓addL_ap, ↓addI_ap, ↓addS_ap, ↓slS_ap, ↓mulI_ap, ↓mulR_ap, optK_some, optKD_some, eqP, eqS, inP, inP.flat, inP.eqF, isN, L2.atI, L2.ixN, isiO, isi2O, tyn, L2.kitB, sbeq, toP, toPs, PySem.SeqAt.shaped, PySem.PyData.canLay0, PySem.PyData.canLayAll0, PySem.PyData.depth, PySem.PyData.depthAll, PySem.PyData.eqv, PySem.PyData.eqvAll, strOk_of, ↓truM_ap, ↓truR_bl, ↓hx, q]
theorem due_stop2 (hx : ∀ ρ, De.ixD V (.int 2) ρ = .ok x ρ) (h : Ent2 x n false) : De.bind (tgD (.tup [.int ((2 : Nat) : Int), .str "day"])) (fun _ => b__law_due_1) [.d V, e1, e2] = .ok (.rt (.str "day")) [.d V, .d (.int 2), .d (.str "day")] := by
  have q := h.w2
  rw [bind_ap, tgD_ap, andT_ok]
  unfold b__law_due_1
  simp [startR, startH, ↓atI_cast, ↓andT_ok, ↓andT_ex, ↓andT_bad, ↓bind_ap, ↓ret_ap, ↓bad_ap, ↓andB_ok, ↓andB_t, ↓andB_f, ↓andB_ex, ↓andB_bad, ↓iteM_ap, ↓iteF_ap, ↓andM_ap, ↓orM_ap, ↓notM_ap, ↓blR_bl, ↓blM_ap, ↓andR_bl, ↓andV_ap, ↓orR_bl, ↓orV_ap, ↓notR_bl, ↓notV_ap, ↓bin_ap, ↓un_ap, ↓chR_bl, ↓chain_ap, ↓consM_ap, ↓tupM_ap, ↓lstM_ap, ↓smallT_ap, ↓smallL_ap, ↓seqM_ap, ↓seqK_nx, ↓seqK_rt, ↓seqK_rtl, ↓seqK_bk, ↓seqK_ct, ↓seqK_ex, ↓seqK_bad, ↓retM_ap, ↓dropM_ap, ↓put_ap, ↓setM_ap, ↓setC_ap, ↓setL_ap, ↓smallS_ap, ↓retL_ap, ↓smallR_ap, ↓unpM_ap, ↓lstD_ap, ↓lcM_ap, ↓smallC_ap, ↓isiM_ak, ↓isiK_ap, ↓isi2M_ak, ↓isi2K_ap, ↓callF_ap, ↓resF_ok, ↓resF_ex, ↓forS_ap, ↓forM_nil, ↓forM_cons, ↓forK_nx, ↓forK_ct, ↓forK_bk, ↓forK_rt, ↓forK_ex, ↓tryM_ap, ↓tryK_ok, ↓tryK_ex, ↓noExK_ok, ↓raiseM_ap, ↓appM_ap, ↓apps_m, ↓appK_ap, ↓appKK_m, ↓callMM_ap, ↓mmK_m, ↓mmK_h, ↓callM_ap, ↓cmK_m, ↓cmK_h, ↓resM_some, ↓callO_ap, ↓resO_some, ↓slM_ap, ↓intO_ap, ↓intK_int, ↓rd_ap, ↓rdK_d, ↓rdK_m, ↓finP_rt, ↓finP_nx, ↓finP_ex, ↓finO_rtl, ↓finM_rt, ↓finM_nx, ↓eqD_ap, ↓neD_ap, ↓inD_ap, ↓notInD_ap, ↓negD_ap, ↓isNonD_ap, ↓notNonD_ap, ↓isBlD_ap, ↓notBlD_ap, ↓lenS_ap, ↓lenT_ap, ↓lenL_ap, ↓lenC_ap, ↓intI_ap, ↓intB_ap, ↓all_ap, ↓any_ap, ↓reprI_ap, ↓reprS_ap, ↓tupT_ap, ↓tupL_ap, ↓lstT_ap, ↓lstL_ap, ↓ixT_ap, ↓ixL_ap, ↓ixC_ap, ↓ixB_ap, ↓tgetM_ap, ↓tgetK_ap, ↓tixM_ap, ↓tixK_ap, ↓tgtN_ap, ↓tgtT_tup, ↓tgtT_lst, ↓tgsNil_ap, ↓tgsCons_ap, ↓itA_lst, ↓itA_scr, ↓itA_tup, ↓itA_str, ↓hixM_ak, ↓hixK_h, ↓hixK_m, ↓hixL_ap, ↓hixR_h, ↓hixR_m, ↓subD_ap, ↓ltD_ap, ↓leD_ap, ↓gtD_ap, ↓geD_ap, ↓modD_ap, ↓fdivD_ap, ↓addL_ap, ↓addI_ap, ↓addS_ap, ↓slS_ap, ↓mulI_ap, ↓mulR_ap, optK_some, optKD_some, eqP, eqS, inP, inP.flat, inP.eqF, isN, L2.atI, L2.ixN, isiO, isi2O, tyn, L2.kitB, sbeq, toP, toPs, PySem.SeqAt.shaped, PySem.PyData.canLay0, PySem.PyData.canLayAll0, PySem.PyData.depth, PySem.PyData.depthAll, PySem.PyData.eqv, PySem.PyData.eqvAll, strOk_of, ↓truM_ap, ↓truR_bl, ↓hx, q]
theorem due_pass3 (hx : ∀ ρ, De.ixD V (.int 3) ρ = .ok x ρ) (h : Ent2 x true w) : De.bind (tgD (.tup [.int ((3 : Nat) : Int), .str "place"])) (fun _ => b__law_due_1) [.d V, e1, e2] = .ok .nx [.d V, .d (.int 3), .d (.str "place")] := by
  have q := h.n2
  rw [bind_ap, tgD_ap, andT_ok]
  unfold b__law_due_1
  simp [startR, startH, ↓atI_cast, ↓andT_ok, ↓andT_ex, ↓andT_bad, ↓bind_ap, ↓ret_ap, ↓bad_ap, ↓andB_ok, ↓andB_t, ↓andB_f, ↓andB_ex, ↓andB_bad, ↓iteM_ap, ↓iteF_ap, ↓andM_ap, ↓orM_ap, ↓notM_ap, ↓blR_bl, ↓blM_ap, ↓andR_bl, ↓andV_ap, ↓orR_bl, ↓orV_ap, ↓notR_bl, ↓notV_ap, ↓bin_ap, ↓un_ap, ↓chR_bl, ↓chain_ap, ↓consM_ap, ↓tupM_ap, ↓lstM_ap, ↓smallT_ap, ↓smallL_ap, ↓seqM_ap, ↓seqK_nx, ↓seqK_rt, ↓seqK_rtl, ↓seqK_bk, ↓seqK_ct, ↓seqK_ex, ↓seqK_bad, ↓retM_ap, ↓dropM_ap, ↓put_ap, ↓setM_ap, ↓setC_ap, ↓setL_ap, ↓smallS_ap, ↓retL_ap, ↓smallR_ap, ↓unpM_ap, ↓lstD_ap, ↓lcM_ap, ↓smallC_ap, ↓isiM_ak, ↓isiK_ap, ↓isi2M_ak, ↓isi2K_ap, ↓callF_ap, ↓resF_ok, ↓resF_ex, ↓forS_ap, ↓forM_nil, ↓forM_cons, ↓forK_nx, ↓forK_ct, ↓forK_bk, ↓forK_rt, ↓forK_ex, ↓tryM_ap, ↓tryK_ok, ↓tryK_ex, ↓noExK_ok, ↓raiseM_ap, ↓appM_ap, ↓apps_m, ↓appK_ap, ↓appKK_m, ↓callMM_ap, ↓mmK_m, ↓mmK_h, ↓callM_ap, ↓cmK_m, ↓cmK_h, ↓resM_some, ↓callO_ap, ↓resO_some, ↓slM_ap, ↓intO_ap, ↓intK_int, ↓rd_ap, ↓rdK_d, ↓rdK_m, ↓finP_rt, ↓finP_nx, ↓finP_ex, ↓finO_rtl, ↓finM_rt, ↓finM_nx, ↓eqD_ap, ↓neD_ap, ↓inD_ap, ↓notInD_ap, ↓negD_ap, ↓isNonD_ap, ↓notNonD_ap, ↓isBlD_ap, ↓notBlD_ap, ↓lenS_ap, ↓lenT_ap, ↓lenL_ap, ↓lenC_ap, ↓intI_ap, ↓intB_ap, ↓all_ap, ↓any_ap, ↓reprI_ap, ↓reprS_ap, ↓tupT_ap, ↓tupL_ap, ↓lstT_ap, ↓lstL_ap, ↓ixT_ap, ↓ixL_ap, ↓ixC_ap, ↓ixB_ap, ↓tgetM_ap, ↓tgetK_ap, ↓tixM_ap, ↓tixK_ap, ↓tgtN_ap, ↓tgtT_tup, ↓tgtT_lst, ↓tgsNil_ap, ↓tgsCons_ap, ↓itA_lst, ↓itA_scr, ↓itA_tup, ↓itA_str, ↓hixM_ak, ↓hixK_h, ↓hixK_m, ↓hixL_ap, ↓hixR_h, ↓hixR_m, ↓subD_ap, ↓ltD_ap, ↓leD_ap, ↓gtD_ap, ↓geD_ap, ↓modD_ap, ↓fdivD_ap, ↓addL_ap, ↓addI_ap, ↓addS_ap, ↓slS_ap, ↓mulI_ap, ↓mulR_ap, optK_some, optKD_some, eqP, eqS, inP, inP.flat, inP.eqF, isN, L2.atI, L2.ixN, isiO, isi2O, tyn, L2.kitB, sbeq, toP, toPs, PySem.SeqAt.shaped, PySem.PyData.canLay0, PySem.PyData.canLayAll0, PySem.PyData.depth, PySem.PyData.depthAll, PySem.PyData.eqv, PySem.PyData.eqvAll, strOk_of, ↓truM_ap, ↓truR_bl, ↓hx, q]
theorem due_stop3 (hx : ∀ ρ, De.ixD V (.int 3) ρ = .ok x ρ) (h : Ent2 x false w) : De.bind (tgD (.tup [.int ((3 : Nat) : Int), .str "place"])) (fun _ => b__law_due_1) [.d V, e1, e2] = .ok (.rt (.str "place")) [.d V, .d (.int 3), .d (.str "place")] := by
  have q := h.n2
  rw [bind_ap, tgD_ap, andT_ok]
  unfold b__law_due_1
  simp [startR, startH, ↓atI_cast, ↓andT_ok, ↓andT_ex, ↓andT_bad, ↓bind_ap, ↓ret_ap, ↓bad_ap, ↓andB_ok, ↓andB_t, ↓andB_f, ↓andB_ex, ↓andB_bad, ↓iteM_ap, ↓iteF_ap, ↓andM_ap, ↓orM_ap, ↓notM_ap, ↓blR_bl, ↓blM_ap, ↓andR_bl, ↓andV_ap, ↓orR_bl, ↓orV_ap, ↓notR_bl, ↓notV_ap, ↓bin_ap, ↓un_ap, ↓chR_bl, ↓chain_ap, ↓consM_ap, ↓tupM_ap, ↓lstM_ap, ↓smallT_ap, ↓smallL_ap, ↓seqM_ap, ↓seqK_nx, ↓seqK_rt, ↓seqK_rtl, ↓seqK_bk, ↓seqK_ct, ↓seqK_ex, ↓seqK_bad, ↓retM_ap, ↓dropM_ap, ↓put_ap, ↓setM_ap, ↓setC_ap, ↓setL_ap, ↓smallS_ap, ↓retL_ap, ↓smallR_ap, ↓unpM_ap, ↓lstD_ap, ↓lcM_ap, ↓smallC_ap, ↓isiM_ak, ↓isiK_ap, ↓isi2M_ak, ↓isi2K_ap, ↓callF_ap, ↓resF_ok, ↓resF_ex, ↓forS_ap, ↓forM_nil, ↓forM_cons, ↓forK_nx, ↓forK_ct, ↓forK_bk, ↓forK_rt, ↓forK_ex, ↓tryM_ap, ↓tryK_ok, ↓tryK_ex, ↓noExK_ok, ↓raiseM_ap, ↓appM_ap, ↓apps_m, ↓appK_ap, ↓appKK_m, ↓callMM_ap, ↓mmK_m, ↓mmK_h, ↓callM_ap, ↓cmK_m, ↓cmK_h, ↓resM_some, ↓callO_ap, ↓resO_some, ↓slM_ap, ↓intO_ap, ↓intK_int, ↓rd_ap, ↓rdK_d, ↓rdK_m, ↓finP_rt, ↓finP_nx, ↓finP_ex, ↓finO_rtl, ↓finM_rt, ↓finM_nx, ↓eqD_ap, ↓neD_ap, ↓inD_ap, ↓notInD_ap, ↓negD_ap, ↓isNonD_ap, ↓notNonD_ap, ↓isBlD_ap, ↓notBlD_ap, ↓lenS_ap, ↓lenT_ap, ↓lenL_ap, ↓lenC_ap, ↓intI_ap, ↓intB_ap, ↓all_ap, ↓any_ap, ↓reprI_ap, ↓reprS_ap, ↓tupT_ap, ↓tupL_ap, ↓lstT_ap, ↓lstL_ap, ↓ixT_ap, ↓ixL_ap, ↓ixC_ap, ↓ixB_ap, ↓tgetM_ap, ↓tgetK_ap, ↓tixM_ap, ↓tixK_ap, ↓tgtN_ap, ↓tgtT_tup, ↓tgtT_lst, ↓tgsNil_ap, ↓tgsCons_ap, ↓itA_lst, ↓itA_scr, ↓itA_tup, ↓itA_str, ↓hixM_ak, ↓hixK_h, ↓hixK_m, ↓hixL_ap, ↓hixR_h, ↓hixR_m, ↓subD_ap, ↓ltD_ap, ↓leD_ap, ↓gtD_ap, ↓geD_ap, ↓modD_ap, ↓fdivD_ap, ↓addL_ap, ↓addI_ap, ↓addS_ap, ↓slS_ap, ↓mulI_ap, ↓mulR_ap, optK_some, optKD_some, eqP, eqS, inP, inP.flat, inP.eqF, isN, L2.atI, L2.ixN, isiO, isi2O, tyn, L2.kitB, sbeq, toP, toPs, PySem.SeqAt.shaped, PySem.PyData.canLay0, PySem.PyData.canLayAll0, PySem.PyData.depth, PySem.PyData.depthAll, PySem.PyData.eqv, PySem.PyData.eqvAll, strOk_of, ↓truM_ap, ↓truR_bl, ↓hx, q]
theorem sq_ix (h : Sq V [x0, x1, x2, x3]) : (∀ ρ, De.ixD V (.int 0) ρ = .ok x0 ρ) ∧ (∀ ρ, De.ixD V (.int 1) ρ = .ok x1 ρ) ∧ (∀ ρ, De.ixD V (.int 2) ρ = .ok x2 ρ) ∧ (∀ ρ, De.ixD V (.int 3) ρ = .ok x3 ρ) := by
  rcases h with rfl | rfl <;> exact ⟨fun ρ => nr rfl, fun ρ => nr rfl, fun ρ => nr rfl, fun ρ => nr rfl⟩
theorem due_of {r : D} {fl : Fl} {ρ' : Rho} (lp : forM tgD b__law_due_1 (enumL 0 [.str "teller", .str "hearer", .str "day", .str "place"]) [.d V, .u, .u] = .ok fl ρ') (hr : finP (seqK (.ok fl ρ') (retM (De.ret .non))) = .ok r) : F__law_due [V] = .ok r := by
  have i1 : ∀ ρ, itE (.lst [.str "teller", .str "hearer", .str "day", .str "place"]) ρ = .ok (enumL 0 [.str "teller", .str "hearer", .str "day", .str "place"]) ρ := fun ρ => nr rfl
  have k : g__law_due [.d V, .u, .u] = seqK (.ok fl ρ') (retM (De.ret .non)) := by
    unfold g__law_due
    rw [seqM_ap]
    generalize enumL 0 [D.str "teller", .str "hearer", .str "day", .str "place"] = R at lp i1
    congr 1
    simp [startR, startH, ↓atI_cast, ↓andT_ok, ↓andT_ex, ↓andT_bad, ↓bind_ap, ↓ret_ap, ↓bad_ap, ↓andB_ok, ↓andB_t, ↓andB_f, ↓andB_ex, ↓andB_bad, ↓iteM_ap, ↓iteF_ap, ↓andM_ap, ↓orM_ap, ↓notM_ap, ↓blR_bl, ↓blM_ap, ↓andR_bl, ↓andV_ap, ↓orR_bl, ↓orV_ap, ↓notR_bl, ↓notV_ap, ↓bin_ap, ↓un_ap, ↓chR_bl, ↓chain_ap, ↓consM_ap, ↓tupM_ap, ↓lstM_ap, ↓smallT_ap, ↓smallL_ap, ↓seqM_ap, ↓seqK_nx, ↓seqK_rt, ↓seqK_rtl, ↓seqK_bk, ↓seqK_ct, ↓seqK_ex, ↓seqK_bad, ↓retM_ap, ↓dropM_ap, ↓put_ap, ↓setM_ap, ↓setC_ap, ↓setL_ap, ↓smallS_ap, ↓retL_ap, ↓smallR_ap, ↓unpM_ap, ↓lstD_ap, ↓lcM_ap, ↓smallC_ap, ↓isiM_ak, ↓isiK_ap, ↓isi2M_ak, ↓isi2K_ap, ↓callF_ap, ↓resF_ok, ↓resF_ex, ↓forS_ap, ↓forM_nil, ↓forM_cons, ↓forK_nx, ↓forK_ct, ↓forK_bk, ↓forK_rt, ↓forK_ex, ↓tryM_ap, ↓tryK_ok, ↓tryK_ex, ↓noExK_ok, ↓raiseM_ap, ↓appM_ap, ↓apps_m, ↓appK_ap, ↓appKK_m, ↓callMM_ap, ↓mmK_m, ↓mmK_h, ↓callM_ap, ↓cmK_m, ↓cmK_h, ↓resM_some, ↓callO_ap, ↓resO_some, ↓slM_ap, ↓intO_ap, ↓intK_int, ↓rd_ap, ↓rdK_d, ↓rdK_m, ↓finP_rt, ↓finP_nx, ↓finP_ex, ↓finO_rtl, ↓finM_rt, ↓finM_nx, ↓eqD_ap, ↓neD_ap, ↓inD_ap, ↓notInD_ap, ↓negD_ap, ↓isNonD_ap, ↓notNonD_ap, ↓isBlD_ap, ↓notBlD_ap, ↓lenS_ap, ↓lenT_ap, ↓lenL_ap, ↓lenC_ap, ↓intI_ap, ↓intB_ap, ↓all_ap, ↓any_ap, ↓reprI_ap, ↓reprS_ap, ↓tupT_ap, ↓tupL_ap, ↓lstT_ap, ↓lstL_ap, ↓ixT_ap, ↓ixL_ap, ↓ixC_ap, ↓ixB_ap, ↓tgetM_ap, ↓tgetK_ap, ↓tixM_ap, ↓tixK_ap, ↓tgtN_ap, ↓tgtT_tup, ↓tgtT_lst, ↓tgsNil_ap, ↓tgsCons_ap, ↓itA_lst, ↓itA_scr, ↓itA_tup, ↓itA_str, ↓hixM_ak, ↓hixK_h, ↓hixK_m, ↓hixL_ap, ↓hixR_h, ↓hixR_m, ↓subD_ap, ↓ltD_ap, ↓leD_ap, ↓gtD_ap, ↓geD_ap, ↓modD_ap, ↓fdivD_ap, ↓addL_ap, ↓addI_ap, ↓addS_ap, ↓slS_ap, ↓mulI_ap, ↓mulR_ap, optK_some, optKD_some, eqP, eqS, inP, inP.flat, inP.eqF, isN, L2.atI, L2.ixN, isiO, isi2O, tyn, L2.kitB, sbeq, toP, toPs, PySem.SeqAt.shaped, PySem.PyData.canLay0, PySem.PyData.canLayAll0, PySem.PyData.depth, PySem.PyData.depthAll, PySem.PyData.eqv, PySem.PyData.eqvAll, strOk_of, ↓i1, ↓lp]
  unfold F__law_due mkP
  show finP (g__law_due [.d V, .u, .u]) = _
  rw [k, hr]
theorem due_0 (h : Sq V [x0, x1, x2, x3]) (h0 : Ent2 x0 false w0) : F__law_due [V] = .ok (.str "teller") := by
  obtain ⟨i0, i1, i2, i3⟩ := sq_ix h
  refine due_of (fl := .rt (.str "teller")) (ρ' := [.d V, .d (.int 0), .d (.str "teller")]) ?_ rfl
  unfold enumL enumL enumL enumL enumL
  rw [forM_cons, due_stop0 i0 h0]
  rfl
theorem due_1 (h : Sq V [x0, x1, x2, x3]) (h0 : Ent2 x0 true w0) (h1 : Ent2 x1 false w1) : F__law_due [V] = .ok (.str "hearer") := by
  obtain ⟨i0, i1, i2, i3⟩ := sq_ix h
  refine due_of (fl := .rt (.str "hearer")) (ρ' := [.d V, .d (.int 1), .d (.str "hearer")]) ?_ rfl
  unfold enumL enumL enumL enumL enumL
  rw [forM_cons, due_pass0 i0 h0, forK_nx, forM_cons, due_stop1 i1 h1]
  rfl
theorem due_2 (h : Sq V [x0, x1, x2, x3]) (h0 : Ent2 x0 true w0) (h1 : Ent2 x1 true w1) (h2 : Ent2 x2 n2 false) : F__law_due [V] = .ok (.str "day") := by
  obtain ⟨i0, i1, i2, i3⟩ := sq_ix h
  refine due_of (fl := .rt (.str "day")) (ρ' := [.d V, .d (.int 2), .d (.str "day")]) ?_ rfl
  unfold enumL enumL enumL enumL enumL
  rw [forM_cons, due_pass0 i0 h0, forK_nx, forM_cons, due_pass1 i1 h1, forK_nx, forM_cons, due_stop2 i2 h2]
  rfl
theorem due_3 (h : Sq V [x0, x1, x2, x3]) (h0 : Ent2 x0 true w0) (h1 : Ent2 x1 true w1) (h2 : Ent2 x2 n2 true) (h3 : Ent2 x3 false w3) : F__law_due [V] = .ok (.str "place") := by
  obtain ⟨i0, i1, i2, i3⟩ := sq_ix h
  refine due_of (fl := .rt (.str "place")) (ρ' := [.d V, .d (.int 3), .d (.str "place")]) ?_ rfl
  unfold enumL enumL enumL enumL enumL
  rw [forM_cons, due_pass0 i0 h0, forK_nx, forM_cons, due_pass1 i1 h1, forK_nx, forM_cons, due_pass2 i2 h2, forK_nx, forM_cons, due_stop3 i3 h3]
  rfl
theorem due_ok (h : Sq V [x0, x1, x2, x3]) (h0 : Ent2 x0 true w0) (h1 : Ent2 x1 true w1) (h2 : Ent2 x2 n2 true) (h3 : Ent2 x3 true w3) : F__law_due [V] = .ok .non := by
  obtain ⟨i0, i1, i2, i3⟩ := sq_ix h
  refine due_of (fl := .nx) (ρ' := [.d V, .d (.int 3), .d (.str "place")]) ?_ rfl
  unfold enumL enumL enumL enumL enumL
  rw [forM_cons, due_pass0 i0 h0, forK_nx, forM_cons, due_pass1 i1 h1, forK_nx, forM_cons, due_pass2 i2 h2, forK_nx, forM_cons, due_pass3 i3 h3, forK_nx]
  rfl
/-- both say the same of any four entries -/
theorem both (h : Sq V [x0, x1, x2, x3]) (p0 : Pc x0) (p1 : Pc x1) (p2 : Pc x2) (p3 : Pc x3) :
    (∃ s : Str, F__law_due [V] = .ok (.str s) ∧ F__law_tried [V] = .ok (.str s)) ∨ (∃ o : Own4, o.ok ∧ F__law_due [V] = .ok .non ∧ F__law_tried [V] = .ok o.s ∧ x0 = .str o.a ∧ x1 = .str o.b ∧ x2 = .int o.d ∧ x3 = .str o.p) := by
  obtain ⟨n0, w0, h0, g0, _⟩ := p0.ent
  obtain ⟨n1, w1, h1, g1, _⟩ := p1.ent
  obtain ⟨n2, w2, h2, _, g2⟩ := p2.ent
  obtain ⟨n3, w3, h3, g3, _⟩ := p3.ent
  cases n0 with
  | false => exact .inl ⟨_, due_0 h h0, tried_no h (sit_0 h0)⟩
  | true =>
    cases n1 with
    | false => exact .inl ⟨_, due_1 h h0 h1, tried_no h (sit_1 h0 h1)⟩
    | true =>
      cases w2 with
      | false => exact .inl ⟨_, due_2 h h0 h1 h2, tried_no h (sit_2 h0 h1 h2)⟩
      | true =>
        cases n3 with
        | false => exact .inl ⟨_, due_3 h h0 h1 h2 h3, tried_no h (sit_3 h0 h1 h2 h3)⟩
        | true =>
          obtain ⟨s0, rfl, k0⟩ := g0 rfl
          obtain ⟨s1, rfl, k1⟩ := g1 rfl
          obtain ⟨i, rfl⟩ := g2 rfl
          obtain ⟨s3, rfl, k3⟩ := g3 rfl
          exact .inr ⟨⟨s0, s1, i, s3⟩, ⟨k0, k1, k3⟩, due_ok h h0 h1 h2 h3, tried_ok h (sit_ok h0 h1 h2 h3), rfl, rfl, rfl, rfl⟩
end
end De

set_option Elab.async false
set_option linter.all false
set_option maxRecDepth 100000
set_option maxHeartbeats 1000000
namespace De
open K05
open PySem (Str sizeLine_eq)
/-! situations compared, taken apart, moved -/
def same (x o : Own4) : Bool := (x.a == o.a) && ((x.b == o.b) && ((x.d == o.d) && (x.p == o.p)))
theorem eq_strs (s t : Str) (ρ : Rho) : eqD (.str s) (.str t) ρ = .ok (.bl (s == t)) ρ := nr rfl
theorem eq_ints (i j : Int) (ρ : Rho) : eqD (.int i) (.int j) ρ = .ok (.bl (i == j)) ρ := nr rfl
theorem eqP_t {x o : Own4} (hx : x.ok) (ho : o.ok) : eqP x.t o.t = some (same x o) := by
  obtain ⟨a, b, d, p⟩ := x
  obtain ⟨a', b', d', p'⟩ := o
  have k1 := nm_ok hx.1
  have k2 := nm_ok hx.2.1
  have k3 := nm_ok hx.2.2
  have l1 := nm_ok ho.1
  have l2 := nm_ok ho.2.1
  have l3 := nm_ok ho.2.2
  simp only at k1 k2 k3 l1 l2 l3
  have e0 : eqS (Own4.t ⟨a, b, d, p⟩) (Own4.t ⟨a', b', d', p'⟩) = none := rfl
  have t1 : toP (Own4.t ⟨a, b, d, p⟩) = some (.tuple [.str a, .str b, .int d, .str p]) := by simp [Own4.t, toP, toPs]
  have t2 : toP (Own4.t ⟨a', b', d', p'⟩) = some (.tuple [.str a', .str b', .int d', .str p']) := by simp [Own4.t, toP, toPs]
  have s1 : PySem.SeqAt.shaped (.tuple [.str a, .str b, .int d, .str p]) = true := by simp [PySem.SeqAt.shaped, PySem.PyData.canLay0, PySem.PyData.canLayAll0, k1, k2, k3, PySem.PyData.depth, PySem.PyData.depthAll]
  have s2 : PySem.SeqAt.shaped (.tuple [.str a', .str b', .int d', .str p']) = true := by simp [PySem.SeqAt.shaped, PySem.PyData.canLay0, PySem.PyData.canLayAll0, l1, l2, l3, PySem.PyData.depth, PySem.PyData.depthAll]
  unfold eqP
  rw [e0]
  simp only [t1, t2, s1, s2, Bool.and_self, if_true]
  simp [PySem.PyData.eqv, PySem.PyData.eqvAll, same]
theorem same_self (o : Own4) : same o o = true := by simp [same]
theorem parts_ok (o : Own4) : F__law_parts [o.s] = .ok o.t := by kernel_rfl
section
variable (x o : Own4)
theorem fs_t0 : fldM fc_teller "teller" (rd 0) [.d x.s, .d o.s] = .ok (.str x.a) [.d x.s, .d o.s] := by kernel_rfl
theorem fs_t1 : fldM fc_teller "teller" (rd 1) [.d x.s, .d o.s] = .ok (.str o.a) [.d x.s, .d o.s] := by kernel_rfl
theorem fs_h0 : fldM fc_hearer "hearer" (rd 0) [.d x.s, .d o.s] = .ok (.str x.b) [.d x.s, .d o.s] := by kernel_rfl
theorem fs_h1 : fldM fc_hearer "hearer" (rd 1) [.d x.s, .d o.s] = .ok (.str o.b) [.d x.s, .d o.s] := by kernel_rfl
theorem fs_d0 : fldM fc_day "day" (rd 0) [.d x.s, .d o.s] = .ok (.int x.d) [.d x.s, .d o.s] := by kernel_rfl
theorem fs_d1 : fldM fc_day "day" (rd 1) [.d x.s, .d o.s] = .ok (.int o.d) [.d x.s, .d o.s] := by kernel_rfl
theorem fs_p0 : fldM fc_place "place" (rd 0) [.d x.s, .d o.s] = .ok (.str x.p) [.d x.s, .d o.s] := by kernel_rfl
theorem fs_p1 : fldM fc_place "place" (rd 1) [.d x.s, .d o.s] = .ok (.str o.p) [.d x.s, .d o.s] := by kernel_rfl
theorem fs_is : isiCM clsL "Situation" (rd 1) [.d x.s, .d o.s] = .ok (.bl true) [.d x.s, .d o.s] := by kernel_rfl
end
theorem sit_eq (x o : Own4) : F_Situation_eq [x.s, o.s] = .ok (.bl (same x o)) := by
  have a0 := fs_t0 x o
  have a1 := fs_t1 x o
  have b0 := fs_h0 x o
  have b1 := fs_h1 x o
  have c0 := fs_d0 x o
  have c1 := fs_d1 x o
  have d0 := fs_p0 x o
  have d1 := fs_p1 x o
  have i0 := fs_is x o
  unfold same
  generalize x.s = X at *
  generalize o.s = O at *
  unfold F_Situation_eq mkP g_Situation_eq
  by_cases ca : x.a = o.a <;> by_cases cb : x.b = o.b <;> by_cases cc : x.d = o.d <;> simp [startR, startH, ↓atI_cast, ↓andT_ok, ↓andT_ex, ↓andT_bad, ↓bind_ap, ↓ret_ap, ↓bad_ap, ↓andB_ok, ↓andB_t, ↓andB_f, ↓andB_ex, ↓andB_bad, ↓iteM_ap, ↓iteF_ap, ↓andM_ap, ↓orM_ap, ↓notM_ap, ↓blR_bl, ↓blM_ap, ↓andR_bl, ↓andV_ap, ↓orR_bl, ↓orV_ap, ↓notR_bl, ↓notV_ap, ↓bin_ap, ↓un_ap, ↓chR_bl, ↓chain_ap, ↓consM_ap, ↓tupM_ap, ↓lstM_ap, ↓smallT_ap, ↓smallL_ap, ↓seqM_ap, ↓seqK_nx, ↓seqK_rt, ↓seqK_rtl, ↓seqK_bk, ↓seqK_ct, ↓seqK_ex, ↓seqK_bad, ↓retM_ap, ↓dropM_ap, ↓put_ap, ↓setM_ap, ↓setC_ap, ↓setL_ap, ↓smallS_ap, ↓retL_ap, ↓smallR_ap, ↓unpM_ap, ↓lstD_ap, ↓lcM_ap, ↓smallC_ap, ↓isiM_ak, ↓isiK_ap, ↓isi2M_ak, ↓isi2K_ap, ↓callF_ap, ↓resF_ok, ↓resF_ex, ↓forS_ap, ↓forM_nil, ↓forM_cons, ↓forK_nx, ↓forK_ct, ↓forK_bk, ↓forK_rt, ↓forK_ex, ↓tryM_ap, ↓tryK_ok, ↓tryK_ex, ↓noExK_ok, ↓raiseM_ap, ↓appM_ap, ↓apps_m, ↓appK_ap, ↓appKK_m, ↓callMM_ap, ↓mmK_m, ↓mmK_h, ↓callM_ap, ↓cmK_m, ↓cmK_h, ↓resM_some, ↓callO_ap, ↓resO_some, ↓slM_ap, ↓intO_ap, ↓intK_int, ↓rd_ap, ↓rdK_d, ↓rdK_m, ↓finP_rt, ↓finP_nx, ↓finP_ex, ↓finO_rtl, ↓finM_rt, ↓finM_nx, ↓eqD_ap, ↓neD_ap, ↓inD_ap, ↓notInD_ap, ↓negD_ap, ↓isNonD_ap, ↓notNonD_ap, ↓isBlD_ap, ↓notBlD_ap, ↓lenS_ap, ↓lenT_ap, ↓lenL_ap, ↓lenC_ap, ↓intI_ap, ↓intB_ap, ↓all_ap, ↓any_ap, ↓reprI_ap, ↓reprS_ap, ↓tupT_ap, ↓tupL_ap, ↓lstT_ap, ↓lstL_ap, ↓ixT_ap, ↓ixL_ap, ↓ixC_ap, ↓ixB_ap, ↓tgetM_ap, ↓tgetK_ap, ↓tixM_ap, ↓tixK_ap, ↓tgtN_ap, ↓tgtT_tup, ↓tgtT_lst, ↓tgsNil_ap, ↓tgsCons_ap, ↓itA_lst, ↓itA_scr, ↓itA_tup, ↓itA_str, ↓hixM_ak, ↓hixK_h, ↓hixK_m, ↓hixL_ap, ↓hixR_h, ↓hixR_m, ↓subD_ap, ↓ltD_ap, ↓leD_ap, ↓gtD_ap, ↓geD_ap, ↓modD_ap, ↓fdivD_ap, ↓addL_ap, ↓addI_ap, ↓addS_ap, ↓slS_ap, ↓mulI_ap, ↓mulR_ap, optK_some, optKD_some, eqP, eqS, inP, inP.flat, inP.eqF, isN, L2.atI, L2.ixN, isiO, isi2O, tyn, L2.kitB, sbeq, toP, toPs, PySem.SeqAt.shaped, PySem.PyData.canLay0, PySem.PyData.canLayAll0, PySem.PyData.depth, PySem.PyData.depthAll, PySem.PyData.eqv, PySem.PyData.eqvAll, strOk_of, ↓a0, ↓a1, ↓b0, ↓b1, ↓c0, ↓c1, ↓d0, ↓d1, ↓i0, ca, cb, cc]
theorem eqI_ss (x o : Own4) : eqI etab x.s o.s = some (same x o) := by
  have q := sit_eq x o
  have l : etab.lookup ("Situation" : Str) = some F_Situation_eq := by kernel_rfl
  show (match etab.lookup ("Situation" : Str) with
    | some F => (if ("Situation" : Str) = "Situation" then (match F [x.s, o.s] with | .ok (.bl b) => some b | _ => none) else none)
    | none => none) = _
  rw [l]
  simp only [if_true, q]
theorem eqX_ss (x o : Own4) (ρ : Rho) : eqX etab x.s o.s ρ = .ok (.bl (same x o)) ρ := by
  show optM (eqI etab x.s o.s) ρ = _
  rw [eqI_ss]
  rfl
theorem neX_ss (x o : Own4) (ρ : Rho) : neX etab x.s o.s ρ = .ok (.bl (!same x o)) ρ := by
  show optM ((eqI etab x.s o.s).map (!·)) ρ = _
  rw [eqI_ss]
  rfl
end De

set_option Elab.async false
set_option linter.all false
set_option maxRecDepth 100000
set_option maxHeartbeats 1000000
namespace De
open K05
open PySem (Str sizeLine_eq)
/-! moved, exchanged -/
theorem ent_a {o : Own4} (ho : o.ok) : Ent2 (.str o.a) true false := ent_nm ho.1
theorem ent_b {o : Own4} (ho : o.ok) : Ent2 (.str o.b) true false := ent_nm ho.2.1
theorem ent_p {o : Own4} (ho : o.ok) : Ent2 (.str o.p) true false := ent_nm ho.2.2
theorem made_ok {o : Own4} (ho : o.ok) : F_Situation [.str o.a, .str o.b, .int o.d, .str o.p] = .ok (sitF (.str o.a) (.str o.b) (.int o.d) (.str o.p)) := sit_ok (ent_a ho) (ent_b ho) (ent_int _) (ent_p ho)
section
variable (o : Own4) (r : Rho)
theorem f_t : fldM fc_teller "teller" (rd 0) (.d o.s :: r) = .ok (.str o.a) (.d o.s :: r) := by kernel_rfl
theorem f_h : fldM fc_hearer "hearer" (rd 0) (.d o.s :: r) = .ok (.str o.b) (.d o.s :: r) := by kernel_rfl
theorem f_d : fldM fc_day "day" (rd 0) (.d o.s :: r) = .ok (.int o.d) (.d o.s :: r) := by kernel_rfl
theorem f_p : fldM fc_place "place" (rd 0) (.d o.s :: r) = .ok (.str o.p) (.d o.s :: r) := by kernel_rfl
theorem cT_m (F : List D → Fr D) (fs : M (List D)) : callT "Situation" "moved" F (rd 0) fs (.d o.s :: r) = De.bind fs (fun ds => callF F (o.s :: ds)) (.d o.s :: r) := by kernel_rfl
theorem cT_x (F : List D → Fr D) (fs : M (List D)) : callT "Situation" "exchanged" F (rd 0) fs (.d o.s :: r) = De.bind fs (fun ds => callF F (o.s :: ds)) (.d o.s :: r) := by kernel_rfl
end
def Own4.mv (o : Own4) (n : Int) : Own4 := ⟨o.a, o.b, o.d + n, o.p⟩
theorem mv_ok {o : Own4} (ho : o.ok) (n : Int) : (o.mv n).ok := ho
theorem s_of (x0 x1 x3 : Str) (i : Int) : D.ins "Situation" (sitF (.str x0) (.str x1) (.int i) (.str x3)) = Own4.s ⟨x0, x1, i, x3⟩ := rfl
theorem sm_ok {o : Own4} (ho : o.ok) (n : Int) : F_Situation_moved [o.s, .int n] = .ok (o.mv n).s := by
  have w := (ent_int n).w1
  have q := made_ok (mv_ok ho n)
  have e := s_of o.a o.b o.p (o.d + n)
  have a := f_t o
  have b := f_h o
  have c := f_d o
  have d := f_p o
  show _ = Fr.ok (Own4.s ⟨o.a, o.b, o.d + n, o.p⟩)
  rw [← e]
  have q' : F_Situation [.str o.a, .str o.b, .int (o.d + n), .str o.p] = .ok (sitF (.str o.a) (.str o.b) (.int (o.d + n)) (.str o.p)) := q
  generalize sitF (.str o.a) (.str o.b) (.int (o.d + n)) (.str o.p) = R at q' ⊢
  generalize o.s = S at *
  unfold F_Situation_moved mkP g_Situation_moved
  simp [startR, startH, ↓atI_cast, ↓andT_ok, ↓andT_ex, ↓andT_bad, ↓bind_ap, ↓ret_ap, ↓bad_ap, ↓andB_ok, ↓andB_t, ↓andB_f, ↓andB_ex, ↓andB_bad, ↓iteM_ap, ↓iteF_ap, ↓andM_ap, ↓orM_ap, ↓notM_ap, ↓blR_bl, ↓blM_ap, ↓andR_bl, ↓andV_ap, ↓orR_bl, ↓orV_ap, ↓notR_bl, ↓notV_ap, ↓bin_ap, ↓un_ap, ↓chR_bl, ↓chain_ap, ↓consM_ap, ↓tupM_ap, ↓lstM_ap, ↓smallT_ap, ↓smallL_ap, ↓seqM_ap, ↓seqK_nx, ↓seqK_rt, ↓seqK_rtl, ↓seqK_bk, ↓seqK_ct, ↓seqK_ex, ↓seqK_bad, ↓retM_ap, ↓dropM_ap, ↓put_ap, ↓setM_ap, ↓setC_ap, ↓setL_ap, ↓smallS_ap, ↓retL_ap, ↓smallR_ap, ↓unpM_ap, ↓lstD_ap, ↓lcM_ap, ↓smallC_ap, ↓isiM_ak, ↓isiK_ap, ↓isi2M_ak, ↓isi2K_ap, ↓callF_ap, ↓resF_ok, ↓resF_ex, ↓forS_ap, ↓forM_nil, ↓forM_cons, ↓forK_nx, ↓forK_ct, ↓forK_bk, ↓forK_rt, ↓forK_ex, ↓tryM_ap, ↓tryK_ok, ↓tryK_ex, ↓noExK_ok, ↓raiseM_ap, ↓appM_ap, ↓apps_m, ↓appK_ap, ↓appKK_m, ↓callMM_ap, ↓mmK_m, ↓mmK_h, ↓callM_ap, ↓cmK_m, ↓cmK_h, ↓resM_some, ↓callO_ap, ↓resO_some, ↓slM_ap, ↓intO_ap, ↓intK_int, ↓rd_ap, ↓rdK_d, ↓rdK_m, ↓finP_rt, ↓finP_nx, ↓finP_ex, ↓finO_rtl, ↓finM_rt, ↓finM_nx, ↓eqD_ap, ↓neD_ap, ↓inD_ap, ↓notInD_ap, ↓negD_ap, ↓isNonD_ap, ↓notNonD_ap, ↓isBlD_ap, ↓notBlD_ap, ↓lenS_ap, ↓lenT_ap, ↓lenL_ap, ↓lenC_ap, ↓intI_ap, ↓intB_ap, ↓all_ap, ↓any_ap, ↓reprI_ap, ↓reprS_ap, ↓tupT_ap, ↓tupL_ap, ↓lstT_ap, ↓lstL_ap, ↓ixT_ap, ↓ixL_ap, ↓ixC_ap, ↓ixB_ap, ↓tgetM_ap, ↓tgetK_ap, ↓tixM_ap, ↓tixK_ap, ↓tgtN_ap, ↓tgtT_tup, ↓tgtT_lst, ↓tgsNil_ap, ↓tgsCons_ap, ↓itA_lst, ↓itA_scr, ↓itA_tup, ↓itA_str, ↓hixM_ak, ↓hixK_h, ↓hixK_m, ↓hixL_ap, ↓hixR_h, ↓hixR_m, ↓subD_ap, ↓ltD_ap, ↓leD_ap, ↓gtD_ap, ↓geD_ap, ↓modD_ap, ↓fdivD_ap, ↓addL_ap, ↓addI_ap, ↓addS_ap, ↓slS_ap, ↓mulI_ap, ↓mulR_ap, optK_some, optKD_some, eqP, eqS, inP, inP.flat, inP.eqF, isN, L2.atI, L2.ixN, isiO, isi2O, tyn, L2.kitB, sbeq, toP, toPs, PySem.SeqAt.shaped, PySem.PyData.canLay0, PySem.PyData.canLayAll0, PySem.PyData.depth, PySem.PyData.depthAll, PySem.PyData.eqv, PySem.PyData.eqvAll, strOk_of, ↓truM_ap, ↓truR_bl, w, ↓a, ↓b, ↓c, ↓d, callI, q']
theorem sm_no {o : Own4} {d : D} {n : Bool} (h : Ent2 d n false) : F_Situation_moved [o.s, d] = .ex "BadSituation" [("what", .str "day")] := by
  have w := h.w1
  have rs := raise1_ap "BadSituation" "what"
  have rk := raise1K_str "BadSituation" "what" "day" (by decide +kernel)
  generalize o.s = S
  unfold F_Situation_moved mkP g_Situation_moved
  simp [startR, startH, ↓atI_cast, ↓andT_ok, ↓andT_ex, ↓andT_bad, ↓bind_ap, ↓ret_ap, ↓bad_ap, ↓andB_ok, ↓andB_t, ↓andB_f, ↓andB_ex, ↓andB_bad, ↓iteM_ap, ↓iteF_ap, ↓andM_ap, ↓orM_ap, ↓notM_ap, ↓blR_bl, ↓blM_ap, ↓andR_bl, ↓andV_ap, ↓orR_bl, ↓orV_ap, ↓notR_bl, ↓notV_ap, ↓bin_ap, ↓un_ap, ↓chR_bl, ↓chain_ap, ↓consM_ap, ↓tupM_ap, ↓lstM_ap, ↓smallT_ap, ↓smallL_ap, ↓seqM_ap, ↓seqK_nx, ↓seqK_rt, ↓seqK_rtl, ↓seqK_bk, ↓seqK_ct, ↓seqK_ex, ↓seqK_bad, ↓retM_ap, ↓dropM_ap, ↓put_ap, ↓setM_ap, ↓setC_ap, ↓setL_ap, ↓smallS_ap, ↓retL_ap, ↓smallR_ap, ↓unpM_ap, ↓lstD_ap, ↓lcM_ap, ↓smallC_ap, ↓isiM_ak, ↓isiK_ap, ↓isi2M_ak, ↓isi2K_ap, ↓callF_ap, ↓resF_ok, ↓resF_ex, ↓forS_ap, ↓forM_nil, ↓forM_cons, ↓forK_nx, ↓forK_ct, ↓forK_bk, ↓forK_rt, ↓forK_ex, ↓tryM_ap, ↓tryK_ok, ↓tryK_ex, ↓noExK_ok, ↓raiseM_ap, ↓appM_ap, ↓apps_m, ↓appK_ap, ↓appKK_m, ↓callMM_ap, ↓mmK_m, ↓mmK_h, ↓callM_ap, ↓cmK_m, ↓cmK_h, ↓resM_some, ↓callO_ap, ↓resO_some, ↓slM_ap, ↓intO_ap, ↓intK_int, ↓rd_ap, ↓rdK_d, ↓rdK_m, ↓finP_rt, ↓finP_nx, ↓finP_ex, ↓finO_rtl, ↓finM_rt, ↓finM_nx, ↓eqD_ap, ↓neD_ap, ↓inD_ap, ↓notInD_ap, ↓negD_ap, ↓isNonD_ap, ↓notNonD_ap, ↓isBlD_ap, ↓notBlD_ap, ↓lenS_ap, ↓lenT_ap, ↓lenL_ap, ↓lenC_ap, ↓intI_ap, ↓intB_ap, ↓all_ap, ↓any_ap, ↓reprI_ap, ↓reprS_ap, ↓tupT_ap, ↓tupL_ap, ↓lstT_ap, ↓lstL_ap, ↓ixT_ap, ↓ixL_ap, ↓ixC_ap, ↓ixB_ap, ↓tgetM_ap, ↓tgetK_ap, ↓tixM_ap, ↓tixK_ap, ↓tgtN_ap, ↓tgtT_tup, ↓tgtT_lst, ↓tgsNil_ap, ↓tgsCons_ap, ↓itA_lst, ↓itA_scr, ↓itA_tup, ↓itA_str, ↓hixM_ak, ↓hixK_h, ↓hixK_m, ↓hixL_ap, ↓hixR_h, ↓hixR_m, ↓subD_ap, ↓ltD_ap, ↓leD_ap, ↓gtD_ap, ↓geD_ap, ↓modD_ap, ↓fdivD_ap, ↓addL_ap, ↓addI_ap, ↓addS_ap, ↓slS_ap, ↓mulI_ap, ↓mulR_ap, optK_some, optKD_some, eqP, eqS, inP, inP.flat, inP.eqF, isN, L2.atI, L2.ixN, isiO, isi2O, tyn, L2.kitB, sbeq, toP, toPs, PySem.SeqAt.shaped, PySem.PyData.canLay0, PySem.PyData.canLayAll0, PySem.PyData.depth, PySem.PyData.depthAll, PySem.PyData.eqv, PySem.PyData.eqvAll, strOk_of, ↓truM_ap, ↓truR_bl, w, ↓rs, ↓rk]
theorem moved_of {o : Own4} {d r : D} (q : F_Situation_moved [o.s, d] = .ok r) : F__law_moved [o.s, d] = .ok r := by
  have c := cT_m o
  have k : g__law_moved [.d o.s, .d d, .u, .u] = .ok (.rt r) [.d o.s, .d d, .d r, .u] := by
    unfold g__law_moved
    refine (seq_nx (tryAs_ok (ρ' := [.d o.s, .d d, .d r, .u]) ?_)).trans ?_
    · generalize o.s = S at *
      simp [startR, startH, ↓atI_cast, ↓andT_ok, ↓andT_ex, ↓andT_bad, ↓bind_ap, ↓ret_ap, ↓bad_ap, ↓andB_ok, ↓andB_t, ↓andB_f, ↓andB_ex, ↓andB_bad, ↓iteM_ap, ↓iteF_ap, ↓andM_ap, ↓orM_ap, ↓notM_ap, ↓blR_bl, ↓blM_ap, ↓andR_bl, ↓andV_ap, ↓orR_bl, ↓orV_ap, ↓notR_bl, ↓notV_ap, ↓bin_ap, ↓un_ap, ↓chR_bl, ↓chain_ap, ↓consM_ap, ↓tupM_ap, ↓lstM_ap, ↓smallT_ap, ↓smallL_ap, ↓seqM_ap, ↓seqK_nx, ↓seqK_rt, ↓seqK_rtl, ↓seqK_bk, ↓seqK_ct, ↓seqK_ex, ↓seqK_bad, ↓retM_ap, ↓dropM_ap, ↓put_ap, ↓setM_ap, ↓setC_ap, ↓setL_ap, ↓smallS_ap, ↓retL_ap, ↓smallR_ap, ↓unpM_ap, ↓lstD_ap, ↓lcM_ap, ↓smallC_ap, ↓isiM_ak, ↓isiK_ap, ↓isi2M_ak, ↓isi2K_ap, ↓callF_ap, ↓resF_ok, ↓resF_ex, ↓forS_ap, ↓forM_nil, ↓forM_cons, ↓forK_nx, ↓forK_ct, ↓forK_bk, ↓forK_rt, ↓forK_ex, ↓tryM_ap, ↓tryK_ok, ↓tryK_ex, ↓noExK_ok, ↓raiseM_ap, ↓appM_ap, ↓apps_m, ↓appK_ap, ↓appKK_m, ↓callMM_ap, ↓mmK_m, ↓mmK_h, ↓callM_ap, ↓cmK_m, ↓cmK_h, ↓resM_some, ↓callO_ap, ↓resO_some, ↓slM_ap, ↓intO_ap, ↓intK_int, ↓rd_ap, ↓rdK_d, ↓rdK_m, ↓finP_rt, ↓finP_nx, ↓finP_ex, ↓finO_rtl, ↓finM_rt, ↓finM_nx, ↓eqD_ap, ↓neD_ap, ↓inD_ap, ↓notInD_ap, ↓negD_ap, ↓isNonD_ap, ↓notNonD_ap, ↓isBlD_ap, ↓notBlD_ap, ↓lenS_ap, ↓lenT_ap, ↓lenL_ap, ↓lenC_ap, ↓intI_ap, ↓intB_ap, ↓all_ap, ↓any_ap, ↓reprI_ap, ↓reprS_ap, ↓tupT_ap, ↓tupL_ap, ↓lstT_ap, ↓lstL_ap, ↓ixT_ap, ↓ixL_ap, ↓ixC_ap, ↓ixB_ap, ↓tgetM_ap, ↓tgetK_ap, ↓tixM_ap, ↓tixK_ap, ↓tgtN_ap, ↓tgtT_tup, ↓tgtT_lst, ↓tgsNil_ap, ↓tgsCons_ap, ↓itA_lst, ↓itA_scr, ↓itA_tup, ↓itA_str, ↓hixM_ak, ↓hixK_h, ↓hixK_m, ↓hixL_ap, ↓hixR_h, ↓hixR_m, ↓subD_ap, ↓ltD_ap, ↓leD_ap, ↓gtD_ap, ↓geD_ap, ↓modD_ap, ↓fdivD_ap, ↓addL_ap, ↓addI_ap, ↓addS_ap, ↓slS_ap, ↓mulI_ap, ↓mulR_ap, optK_some, optKD_some, eqP, eqS, inP, inP.flat, inP.eqF, isN, L2.atI, L2.ixN, isiO, isi2O, tyn, L2.kitB, sbeq, toP, toPs, PySem.SeqAt.shaped, PySem.PyData.canLay0, PySem.PyData.canLayAll0, PySem.PyData.depth, PySem.PyData.depthAll, PySem.PyData.eqv, PySem.PyData.eqvAll, strOk_of, ↓c, q]
    · rfl
  unfold F__law_moved mkP
  show finP (g__law_moved [.d o.s, .d d, .u, .u]) = _
  rw [k]
  rfl
theorem moved_no {o : Own4} {d : D} {s : Str} (q : F_Situation_moved [o.s, d] = .ex "BadSituation" [("what", .str s)]) : F__law_moved [o.s, d] = .ok (.str s) := by
  have c := cT_m o
  have k : g__law_moved [.d o.s, .d d, .u, .u] = .ok (.rt (.str s)) [.d o.s, .d d, .u, .u] := by
    unfold g__law_moved
    have t := tryAs_caught (i := 3) (catches := fun c => c == "BadSituation") (gb := setM 2 (callT "Situation" "moved" F_Situation_moved (rd 0) (consM (rd 1) (De.ret [])))) (gs := fun a dd c => (retM (xfM 3 a dd c "what"))) (ρ := [.d o.s, .d d, .u, .u]) (ρ' := [.d o.s, .d d, .u, .u]) (c := "BadSituation") (fs := [("what", .str s)]) (R := .ok (.rt (.str s)) [.d o.s, .d d, .u, .u]) (by
      generalize o.s = S at *
      simp [startR, startH, ↓atI_cast, ↓andT_ok, ↓andT_ex, ↓andT_bad, ↓bind_ap, ↓ret_ap, ↓bad_ap, ↓andB_ok, ↓andB_t, ↓andB_f, ↓andB_ex, ↓andB_bad, ↓iteM_ap, ↓iteF_ap, ↓andM_ap, ↓orM_ap, ↓notM_ap, ↓blR_bl, ↓blM_ap, ↓andR_bl, ↓andV_ap, ↓orR_bl, ↓orV_ap, ↓notR_bl, ↓notV_ap, ↓bin_ap, ↓un_ap, ↓chR_bl, ↓chain_ap, ↓consM_ap, ↓tupM_ap, ↓lstM_ap, ↓smallT_ap, ↓smallL_ap, ↓seqM_ap, ↓seqK_nx, ↓seqK_rt, ↓seqK_rtl, ↓seqK_bk, ↓seqK_ct, ↓seqK_ex, ↓seqK_bad, ↓retM_ap, ↓dropM_ap, ↓put_ap, ↓setM_ap, ↓setC_ap, ↓setL_ap, ↓smallS_ap, ↓retL_ap, ↓smallR_ap, ↓unpM_ap, ↓lstD_ap, ↓lcM_ap, ↓smallC_ap, ↓isiM_ak, ↓isiK_ap, ↓isi2M_ak, ↓isi2K_ap, ↓callF_ap, ↓resF_ok, ↓resF_ex, ↓forS_ap, ↓forM_nil, ↓forM_cons, ↓forK_nx, ↓forK_ct, ↓forK_bk, ↓forK_rt, ↓forK_ex, ↓tryM_ap, ↓tryK_ok, ↓tryK_ex, ↓noExK_ok, ↓raiseM_ap, ↓appM_ap, ↓apps_m, ↓appK_ap, ↓appKK_m, ↓callMM_ap, ↓mmK_m, ↓mmK_h, ↓callM_ap, ↓cmK_m, ↓cmK_h, ↓resM_some, ↓callO_ap, ↓resO_some, ↓slM_ap, ↓intO_ap, ↓intK_int, ↓rd_ap, ↓rdK_d, ↓rdK_m, ↓finP_rt, ↓finP_nx, ↓finP_ex, ↓finO_rtl, ↓finM_rt, ↓finM_nx, ↓eqD_ap, ↓neD_ap, ↓inD_ap, ↓notInD_ap, ↓negD_ap, ↓isNonD_ap, ↓notNonD_ap, ↓isBlD_ap, ↓notBlD_ap, ↓lenS_ap, ↓lenT_ap, ↓lenL_ap, ↓lenC_ap, ↓intI_ap, ↓intB_ap, ↓all_ap, ↓any_ap, ↓reprI_ap, ↓reprS_ap, ↓tupT_ap, ↓tupL_ap, ↓lstT_ap, ↓lstL_ap, ↓ixT_ap, ↓ixL_ap, ↓ixC_ap, ↓ixB_ap, ↓tgetM_ap, ↓tgetK_ap, ↓tixM_ap, ↓tixK_ap, ↓tgtN_ap, ↓tgtT_tup, ↓tgtT_lst, ↓tgsNil_ap, ↓tgsCons_ap, ↓itA_lst, ↓itA_scr, ↓itA_tup, ↓itA_str, ↓hixM_ak, ↓hixK_h, ↓hixK_m, ↓hixL_ap, ↓hixR_h, ↓hixR_m, ↓subD_ap, ↓ltD_ap, ↓leD_ap, ↓gtD_ap, ↓geD_ap, ↓modD_ap, ↓fdivD_ap, ↓addL_ap, ↓addI_ap, ↓addS_ap, ↓slS_ap, ↓mulI_ap, ↓mulR_ap, optK_some, optKD_some, eqP, eqS, inP, inP.flat, inP.eqF, isN, L2.atI, L2.ixN, isiO, isi2O, tyn, L2.kitB, sbeq, toP, toPs, PySem.SeqAt.shaped, PySem.PyData.canLay0, PySem.PyData.canLayAll0, PySem.PyData.depth, PySem.PyData.depthAll, PySem.PyData.eqv, PySem.PyData.eqvAll, strOk_of, ↓c, q]) rfl fun a dd hd => by
      have e1 := xf_ap 3 a dd "BadSituation" "what" [("what", .str s)] (.str s) [.d o.s, .d d, .u, .d (.xn a dd "BadSituation" [("what", .str s)])] rfl rfl
      show normR 3 ((retM (xfM 3 a dd "BadSituation" "what")) [.d o.s, .d d, .u, .d (.xn a dd "BadSituation" [("what", .str s)])]) = _
      generalize o.s = S at *
      simp [startR, startH, ↓atI_cast, ↓andT_ok, ↓andT_ex, ↓andT_bad, ↓bind_ap, ↓ret_ap, ↓bad_ap, ↓andB_ok, ↓andB_t, ↓andB_f, ↓andB_ex, ↓andB_bad, ↓iteM_ap, ↓iteF_ap, ↓andM_ap, ↓orM_ap, ↓notM_ap, ↓blR_bl, ↓blM_ap, ↓andR_bl, ↓andV_ap, ↓orR_bl, ↓orV_ap, ↓notR_bl, ↓notV_ap, ↓bin_ap, ↓un_ap, ↓chR_bl, ↓chain_ap, ↓consM_ap, ↓tupM_ap, ↓lstM_ap, ↓smallT_ap, ↓smallL_ap, ↓seqM_ap, ↓seqK_nx, ↓seqK_rt, ↓seqK_rtl, ↓seqK_bk, ↓seqK_ct, ↓seqK_ex, ↓seqK_bad, ↓retM_ap, ↓dropM_ap, ↓put_ap, ↓setM_ap, ↓setC_ap, ↓setL_ap, ↓smallS_ap, ↓retL_ap, ↓smallR_ap, ↓unpM_ap, ↓lstD_ap, ↓lcM_ap, ↓smallC_ap, ↓isiM_ak, ↓isiK_ap, ↓isi2M_ak, ↓isi2K_ap, ↓callF_ap, ↓resF_ok, ↓resF_ex, ↓forS_ap, ↓forM_nil, ↓forM_cons, ↓forK_nx, ↓forK_ct, ↓forK_bk, ↓forK_rt, ↓forK_ex, ↓tryM_ap, ↓tryK_ok, ↓tryK_ex, ↓noExK_ok, ↓raiseM_ap, ↓appM_ap, ↓apps_m, ↓appK_ap, ↓appKK_m, ↓callMM_ap, ↓mmK_m, ↓mmK_h, ↓callM_ap, ↓cmK_m, ↓cmK_h, ↓resM_some, ↓callO_ap, ↓resO_some, ↓slM_ap, ↓intO_ap, ↓intK_int, ↓rd_ap, ↓rdK_d, ↓rdK_m, ↓finP_rt, ↓finP_nx, ↓finP_ex, ↓finO_rtl, ↓finM_rt, ↓finM_nx, ↓eqD_ap, ↓neD_ap, ↓inD_ap, ↓notInD_ap, ↓negD_ap, ↓isNonD_ap, ↓notNonD_ap, ↓isBlD_ap, ↓notBlD_ap, ↓lenS_ap, ↓lenT_ap, ↓lenL_ap, ↓lenC_ap, ↓intI_ap, ↓intB_ap, ↓all_ap, ↓any_ap, ↓reprI_ap, ↓reprS_ap, ↓tupT_ap, ↓tupL_ap, ↓lstT_ap, ↓lstL_ap, ↓ixT_ap, ↓ixL_ap, ↓ixC_ap, ↓ixB_ap, ↓tgetM_ap, ↓tgetK_ap, ↓tixM_ap, ↓tixK_ap, ↓tgtN_ap, ↓tgtT_tup, ↓tgtT_lst, ↓tgsNil_ap, ↓tgsCons_ap, ↓itA_lst, ↓itA_scr, ↓itA_tup, ↓itA_str, ↓hixM_ak, ↓hixK_h, ↓hixK_m, ↓hixL_ap, ↓hixR_h, ↓hixR_m, ↓subD_ap, ↓ltD_ap, ↓leD_ap, ↓gtD_ap, ↓geD_ap, ↓modD_ap, ↓fdivD_ap, ↓addL_ap, ↓addI_ap, ↓addS_ap, ↓slS_ap, ↓mulI_ap, ↓mulR_ap, optK_some, optKD_some, eqP, eqS, inP, inP.flat, inP.eqF, isN, L2.atI, L2.ixN, isiO, isi2O, tyn, L2.kitB, sbeq, toP, toPs, PySem.SeqAt.shaped, PySem.PyData.canLay0, PySem.PyData.canLayAll0, PySem.PyData.depth, PySem.PyData.depthAll, PySem.PyData.eqv, PySem.PyData.eqvAll, strOk_of, ↓e1, normR]
    rw [seqM_ap, t]
    rfl
  unfold F__law_moved mkP
  show finP (g__law_moved [.d o.s, .d d, .u, .u]) = _
  rw [k]
  rfl
/-! names exchanged -/
def xc (n s t : Str) : Str := if n = s then t else if n = t then s else n
theorem cn_ok {s t : Str} (hs : nm s = true) (ht : nm t = true) : F_check_names [.str s, .str t] = .ok .non := by
  have a := (ent_nm hs).n1
  have b := (ent_nm ht).n1
  unfold F_check_names mkP g_check_names
  simp [startR, startH, ↓atI_cast, ↓andT_ok, ↓andT_ex, ↓andT_bad, ↓bind_ap, ↓ret_ap, ↓bad_ap, ↓andB_ok, ↓andB_t, ↓andB_f, ↓andB_ex, ↓andB_bad, ↓iteM_ap, ↓iteF_ap, ↓andM_ap, ↓orM_ap, ↓notM_ap, ↓blR_bl, ↓blM_ap, ↓andR_bl, ↓andV_ap, ↓orR_bl, ↓orV_ap, ↓notR_bl, ↓notV_ap, ↓bin_ap, ↓un_ap, ↓chR_bl, ↓chain_ap, ↓consM_ap, ↓tupM_ap, ↓lstM_ap, ↓smallT_ap, ↓smallL_ap, ↓seqM_ap, ↓seqK_nx, ↓seqK_rt, ↓seqK_rtl, ↓seqK_bk, ↓seqK_ct, ↓seqK_ex, ↓seqK_bad, ↓retM_ap, ↓dropM_ap, ↓put_ap, ↓setM_ap, ↓setC_ap, ↓setL_ap, ↓smallS_ap, ↓retL_ap, ↓smallR_ap, ↓unpM_ap, ↓lstD_ap, ↓lcM_ap, ↓smallC_ap, ↓isiM_ak, ↓isiK_ap, ↓isi2M_ak, ↓isi2K_ap, ↓callF_ap, ↓resF_ok, ↓resF_ex, ↓forS_ap, ↓forM_nil, ↓forM_cons, ↓forK_nx, ↓forK_ct, ↓forK_bk, ↓forK_rt, ↓forK_ex, ↓tryM_ap, ↓tryK_ok, ↓tryK_ex, ↓noExK_ok, ↓raiseM_ap, ↓appM_ap, ↓apps_m, ↓appK_ap, ↓appKK_m, ↓callMM_ap, ↓mmK_m, ↓mmK_h, ↓callM_ap, ↓cmK_m, ↓cmK_h, ↓resM_some, ↓callO_ap, ↓resO_some, ↓slM_ap, ↓intO_ap, ↓intK_int, ↓rd_ap, ↓rdK_d, ↓rdK_m, ↓finP_rt, ↓finP_nx, ↓finP_ex, ↓finO_rtl, ↓finM_rt, ↓finM_nx, ↓eqD_ap, ↓neD_ap, ↓inD_ap, ↓notInD_ap, ↓negD_ap, ↓isNonD_ap, ↓notNonD_ap, ↓isBlD_ap, ↓notBlD_ap, ↓lenS_ap, ↓lenT_ap, ↓lenL_ap, ↓lenC_ap, ↓intI_ap, ↓intB_ap, ↓all_ap, ↓any_ap, ↓reprI_ap, ↓reprS_ap, ↓tupT_ap, ↓tupL_ap, ↓lstT_ap, ↓lstL_ap, ↓ixT_ap, ↓ixL_ap, ↓ixC_ap, ↓ixB_ap, ↓tgetM_ap, ↓tgetK_ap, ↓tixM_ap, ↓tixK_ap, ↓tgtN_ap, ↓tgtT_tup, ↓tgtT_lst, ↓tgsNil_ap, ↓tgsCons_ap, ↓itA_lst, ↓itA_scr, ↓itA_tup, ↓itA_str, ↓hixM_ak, ↓hixK_h, ↓hixK_m, ↓hixL_ap, ↓hixR_h, ↓hixR_m, ↓subD_ap, ↓ltD_ap, ↓leD_ap, ↓gtD_ap, ↓geD_ap, ↓modD_ap, ↓fdivD_ap, ↓addL_ap, ↓addI_ap, ↓addS_ap, ↓slS_ap, ↓mulI_ap, ↓mulR_ap, optK_some, optKD_some, eqP, eqS, inP, inP.flat, inP.eqF, isN, L2.atI, L2.ixN, isiO, isi2O, tyn, L2.kitB, sbeq, toP, toPs, PySem.SeqAt.shaped, PySem.PyData.canLay0, PySem.PyData.canLayAll0, PySem.PyData.depth, PySem.PyData.depthAll, PySem.PyData.eqv, PySem.PyData.eqvAll, strOk_of, ↓truM_ap, ↓truR_bl, a, b]
theorem cn_no0 {x y : D} {w : Bool} (h : Ent2 x false w) : F_check_names [x, y] = .ex "BadSituation" [("what", .str "name")] := by
  have a := h.n1
  have rs := raise1_ap "BadSituation" "what"
  have rk := raise1K_str "BadSituation" "what" "name" (by decide +kernel)
  unfold F_check_names mkP g_check_names
  simp [startR, startH, ↓atI_cast, ↓andT_ok, ↓andT_ex, ↓andT_bad, ↓bind_ap, ↓ret_ap, ↓bad_ap, ↓andB_ok, ↓andB_t, ↓andB_f, ↓andB_ex, ↓andB_bad, ↓iteM_ap, ↓iteF_ap, ↓andM_ap, ↓orM_ap, ↓notM_ap, ↓blR_bl, ↓blM_ap, ↓andR_bl, ↓andV_ap, ↓orR_bl, ↓orV_ap, ↓notR_bl, ↓notV_ap, ↓bin_ap, ↓un_ap, ↓chR_bl, ↓chain_ap, ↓consM_ap, ↓tupM_ap, ↓lstM_ap, ↓smallT_ap, ↓smallL_ap, ↓seqM_ap, ↓seqK_nx, ↓seqK_rt, ↓seqK_rtl, ↓seqK_bk, ↓seqK_ct, ↓seqK_ex, ↓seqK_bad, ↓retM_ap, ↓dropM_ap, ↓put_ap, ↓setM_ap, ↓setC_ap, ↓setL_ap, ↓smallS_ap, ↓retL_ap, ↓smallR_ap, ↓unpM_ap, ↓lstD_ap, ↓lcM_ap, ↓smallC_ap, ↓isiM_ak, ↓isiK_ap, ↓isi2M_ak, ↓isi2K_ap, ↓callF_ap, ↓resF_ok, ↓resF_ex, ↓forS_ap, ↓forM_nil, ↓forM_cons, ↓forK_nx, ↓forK_ct, ↓forK_bk, ↓forK_rt, ↓forK_ex, ↓tryM_ap, ↓tryK_ok, ↓tryK_ex, ↓noExK_ok, ↓raiseM_ap, ↓appM_ap, ↓apps_m, ↓appK_ap, ↓appKK_m, ↓callMM_ap, ↓mmK_m, ↓mmK_h, ↓callM_ap, ↓cmK_m, ↓cmK_h, ↓resM_some, ↓callO_ap, ↓resO_some, ↓slM_ap, ↓intO_ap, ↓intK_int, ↓rd_ap, ↓rdK_d, ↓rdK_m, ↓finP_rt, ↓finP_nx, ↓finP_ex, ↓finO_rtl, ↓finM_rt, ↓finM_nx, ↓eqD_ap, ↓neD_ap, ↓inD_ap, ↓notInD_ap, ↓negD_ap, ↓isNonD_ap, ↓notNonD_ap, ↓isBlD_ap, ↓notBlD_ap, ↓lenS_ap, ↓lenT_ap, ↓lenL_ap, ↓lenC_ap, ↓intI_ap, ↓intB_ap, ↓all_ap, ↓any_ap, ↓reprI_ap, ↓reprS_ap, ↓tupT_ap, ↓tupL_ap, ↓lstT_ap, ↓lstL_ap, ↓ixT_ap, ↓ixL_ap, ↓ixC_ap, ↓ixB_ap, ↓tgetM_ap, ↓tgetK_ap, ↓tixM_ap, ↓tixK_ap, ↓tgtN_ap, ↓tgtT_tup, ↓tgtT_lst, ↓tgsNil_ap, ↓tgsCons_ap, ↓itA_lst, ↓itA_scr, ↓itA_tup, ↓itA_str, ↓hixM_ak, ↓hixK_h, ↓hixK_m, ↓hixL_ap, ↓hixR_h, ↓hixR_m, ↓subD_ap, ↓ltD_ap, ↓leD_ap, ↓gtD_ap, ↓geD_ap, ↓modD_ap, ↓fdivD_ap, ↓addL_ap, ↓addI_ap, ↓addS_ap, ↓slS_ap, ↓mulI_ap, ↓mulR_ap, optK_some, optKD_some, eqP, eqS, inP, inP.flat, inP.eqF, isN, L2.atI, L2.ixN, isiO, isi2O, tyn, L2.kitB, sbeq, toP, toPs, PySem.SeqAt.shaped, PySem.PyData.canLay0, PySem.PyData.canLayAll0, PySem.PyData.depth, PySem.PyData.depthAll, PySem.PyData.eqv, PySem.PyData.eqvAll, strOk_of, ↓truM_ap, ↓truR_bl, a, ↓rs, ↓rk]
theorem cn_no1 {x y : D} {w w' : Bool} (h : Ent2 x true w) (h' : Ent2 y false w') : F_check_names [x, y] = .ex "BadSituation" [("what", .str "name")] := by
  have a := h.n1
  have b := h'.n1
  have rs := raise1_ap "BadSituation" "what"
  have rk := raise1K_str "BadSituation" "what" "name" (by decide +kernel)
  unfold F_check_names mkP g_check_names
  simp [startR, startH, ↓atI_cast, ↓andT_ok, ↓andT_ex, ↓andT_bad, ↓bind_ap, ↓ret_ap, ↓bad_ap, ↓andB_ok, ↓andB_t, ↓andB_f, ↓andB_ex, ↓andB_bad, ↓iteM_ap, ↓iteF_ap, ↓andM_ap, ↓orM_ap, ↓notM_ap, ↓blR_bl, ↓blM_ap, ↓andR_bl, ↓andV_ap, ↓orR_bl, ↓orV_ap, ↓notR_bl, ↓notV_ap, ↓bin_ap, ↓un_ap, ↓chR_bl, ↓chain_ap, ↓consM_ap, ↓tupM_ap, ↓lstM_ap, ↓smallT_ap, ↓smallL_ap, ↓seqM_ap, ↓seqK_nx, ↓seqK_rt, ↓seqK_rtl, ↓seqK_bk, ↓seqK_ct, ↓seqK_ex, ↓seqK_bad, ↓retM_ap, ↓dropM_ap, ↓put_ap, ↓setM_ap, ↓setC_ap, ↓setL_ap, ↓smallS_ap, ↓retL_ap, ↓smallR_ap, ↓unpM_ap, ↓lstD_ap, ↓lcM_ap, ↓smallC_ap, ↓isiM_ak, ↓isiK_ap, ↓isi2M_ak, ↓isi2K_ap, ↓callF_ap, ↓resF_ok, ↓resF_ex, ↓forS_ap, ↓forM_nil, ↓forM_cons, ↓forK_nx, ↓forK_ct, ↓forK_bk, ↓forK_rt, ↓forK_ex, ↓tryM_ap, ↓tryK_ok, ↓tryK_ex, ↓noExK_ok, ↓raiseM_ap, ↓appM_ap, ↓apps_m, ↓appK_ap, ↓appKK_m, ↓callMM_ap, ↓mmK_m, ↓mmK_h, ↓callM_ap, ↓cmK_m, ↓cmK_h, ↓resM_some, ↓callO_ap, ↓resO_some, ↓slM_ap, ↓intO_ap, ↓intK_int, ↓rd_ap, ↓rdK_d, ↓rdK_m, ↓finP_rt, ↓finP_nx, ↓finP_ex, ↓finO_rtl, ↓finM_rt, ↓finM_nx, ↓eqD_ap, ↓neD_ap, ↓inD_ap, ↓notInD_ap, ↓negD_ap, ↓isNonD_ap, ↓notNonD_ap, ↓isBlD_ap, ↓notBlD_ap, ↓lenS_ap, ↓lenT_ap, ↓lenL_ap, ↓lenC_ap, ↓intI_ap, ↓intB_ap, ↓all_ap, ↓any_ap, ↓reprI_ap, ↓reprS_ap, ↓tupT_ap, ↓tupL_ap, ↓lstT_ap, ↓lstL_ap, ↓ixT_ap, ↓ixL_ap, ↓ixC_ap, ↓ixB_ap, ↓tgetM_ap, ↓tgetK_ap, ↓tixM_ap, ↓tixK_ap, ↓tgtN_ap, ↓tgtT_tup, ↓tgtT_lst, ↓tgsNil_ap, ↓tgsCons_ap, ↓itA_lst, ↓itA_scr, ↓itA_tup, ↓itA_str, ↓hixM_ak, ↓hixK_h, ↓hixK_m, ↓hixL_ap, ↓hixR_h, ↓hixR_m, ↓subD_ap, ↓ltD_ap, ↓leD_ap, ↓gtD_ap, ↓geD_ap, ↓modD_ap, ↓fdivD_ap, ↓addL_ap, ↓addI_ap, ↓addS_ap, ↓slS_ap, ↓mulI_ap, ↓mulR_ap, optK_some, optKD_some, eqP, eqS, inP, inP.flat, inP.eqF, isN, L2.atI, L2.ixN, isiO, isi2O, tyn, L2.kitB, sbeq, toP, toPs, PySem.SeqAt.shaped, PySem.PyData.canLay0, PySem.PyData.canLayAll0, PySem.PyData.depth, PySem.PyData.depthAll, PySem.PyData.eqv, PySem.PyData.eqvAll, strOk_of, ↓truM_ap, ↓truR_bl, a, b, ↓rs, ↓rk]
theorem xn_ok {n s t : Str} (hs : nm s = true) (ht : nm t = true) : F_exchange_name [.str n, .str s, .str t] = .ok (.str (xc n s t)) := by
  have q := cn_ok hs ht
  unfold F_exchange_name mkP g_exchange_name xc
  by_cases a : n = s
  · simp [startR, startH, ↓atI_cast, ↓andT_ok, ↓andT_ex, ↓andT_bad, ↓bind_ap, ↓ret_ap, ↓bad_ap, ↓andB_ok, ↓andB_t, ↓andB_f, ↓andB_ex, ↓andB_bad, ↓iteM_ap, ↓iteF_ap, ↓andM_ap, ↓orM_ap, ↓notM_ap, ↓blR_bl, ↓blM_ap, ↓andR_bl, ↓andV_ap, ↓orR_bl, ↓orV_ap, ↓notR_bl, ↓notV_ap, ↓bin_ap, ↓un_ap, ↓chR_bl, ↓chain_ap, ↓consM_ap, ↓tupM_ap, ↓lstM_ap, ↓smallT_ap, ↓smallL_ap, ↓seqM_ap, ↓seqK_nx, ↓seqK_rt, ↓seqK_rtl, ↓seqK_bk, ↓seqK_ct, ↓seqK_ex, ↓seqK_bad, ↓retM_ap, ↓dropM_ap, ↓put_ap, ↓setM_ap, ↓setC_ap, ↓setL_ap, ↓smallS_ap, ↓retL_ap, ↓smallR_ap, ↓unpM_ap, ↓lstD_ap, ↓lcM_ap, ↓smallC_ap, ↓isiM_ak, ↓isiK_ap, ↓isi2M_ak, ↓isi2K_ap, ↓callF_ap, ↓resF_ok, ↓resF_ex, ↓forS_ap, ↓forM_nil, ↓forM_cons, ↓forK_nx, ↓forK_ct, ↓forK_bk, ↓forK_rt, ↓forK_ex, ↓tryM_ap, ↓tryK_ok, ↓tryK_ex, ↓noExK_ok, ↓raiseM_ap, ↓appM_ap, ↓apps_m, ↓appK_ap, ↓appKK_m, ↓callMM_ap, ↓mmK_m, ↓mmK_h, ↓callM_ap, ↓cmK_m, ↓cmK_h, ↓resM_some, ↓callO_ap, ↓resO_some, ↓slM_ap, ↓intO_ap, ↓intK_int, ↓rd_ap, ↓rdK_d, ↓rdK_m, ↓finP_rt, ↓finP_nx, ↓finP_ex, ↓finO_rtl, ↓finM_rt, ↓finM_nx, ↓eqD_ap, ↓neD_ap, ↓inD_ap, ↓notInD_ap, ↓negD_ap, ↓isNonD_ap, ↓notNonD_ap, ↓isBlD_ap, ↓notBlD_ap, ↓lenS_ap, ↓lenT_ap, ↓lenL_ap, ↓lenC_ap, ↓intI_ap, ↓intB_ap, ↓all_ap, ↓any_ap, ↓reprI_ap, ↓reprS_ap, ↓tupT_ap, ↓tupL_ap, ↓lstT_ap, ↓lstL_ap, ↓ixT_ap, ↓ixL_ap, ↓ixC_ap, ↓ixB_ap, ↓tgetM_ap, ↓tgetK_ap, ↓tixM_ap, ↓tixK_ap, ↓tgtN_ap, ↓tgtT_tup, ↓tgtT_lst, ↓tgsNil_ap, ↓tgsCons_ap, ↓itA_lst, ↓itA_scr, ↓itA_tup, ↓itA_str, ↓hixM_ak, ↓hixK_h, ↓hixK_m, ↓hixL_ap, ↓hixR_h, ↓hixR_m, ↓subD_ap, ↓ltD_ap, ↓leD_ap, ↓gtD_ap, ↓geD_ap, ↓modD_ap, ↓fdivD_ap, ↓addL_ap, ↓addI_ap, ↓addS_ap, ↓slS_ap, ↓mulI_ap, ↓mulR_ap, optK_some, optKD_some, eqP, eqS, inP, inP.flat, inP.eqF, isN, L2.atI, L2.ixN, isiO, isi2O, tyn, L2.kitB, sbeq, toP, toPs, PySem.SeqAt.shaped, PySem.PyData.canLay0, PySem.PyData.canLayAll0, PySem.PyData.depth, PySem.PyData.depthAll, PySem.PyData.eqv, PySem.PyData.eqvAll, strOk_of, q, a]
  · by_cases b : n = t
    · subst b
      simp [startR, startH, ↓atI_cast, ↓andT_ok, ↓andT_ex, ↓andT_bad, ↓bind_ap, ↓ret_ap, ↓bad_ap, ↓andB_ok, ↓andB_t, ↓andB_f, ↓andB_ex, ↓andB_bad, ↓iteM_ap, ↓iteF_ap, ↓andM_ap, ↓orM_ap, ↓notM_ap, ↓blR_bl, ↓blM_ap, ↓andR_bl, ↓andV_ap, ↓orR_bl, ↓orV_ap, ↓notR_bl, ↓notV_ap, ↓bin_ap, ↓un_ap, ↓chR_bl, ↓chain_ap, ↓consM_ap, ↓tupM_ap, ↓lstM_ap, ↓smallT_ap, ↓smallL_ap, ↓seqM_ap, ↓seqK_nx, ↓seqK_rt, ↓seqK_rtl, ↓seqK_bk, ↓seqK_ct, ↓seqK_ex, ↓seqK_bad, ↓retM_ap, ↓dropM_ap, ↓put_ap, ↓setM_ap, ↓setC_ap, ↓setL_ap, ↓smallS_ap, ↓retL_ap, ↓smallR_ap, ↓unpM_ap, ↓lstD_ap, ↓lcM_ap, ↓smallC_ap, ↓isiM_ak, ↓isiK_ap, ↓isi2M_ak, ↓isi2K_ap, ↓callF_ap, ↓resF_ok, ↓resF_ex, ↓forS_ap, ↓forM_nil, ↓forM_cons, ↓forK_nx, ↓forK_ct, ↓forK_bk, ↓forK_rt, ↓forK_ex, ↓tryM_ap, ↓tryK_ok, ↓tryK_ex, ↓noExK_ok, ↓raiseM_ap, ↓appM_ap, ↓apps_m, ↓appK_ap, ↓appKK_m, ↓callMM_ap, ↓mmK_m, ↓mmK_h, ↓callM_ap, ↓cmK_m, ↓cmK_h, ↓resM_some, ↓callO_ap, ↓resO_some, ↓slM_ap, ↓intO_ap, ↓intK_int, ↓rd_ap, ↓rdK_d, ↓rdK_m, ↓finP_rt, ↓finP_nx, ↓finP_ex, ↓finO_rtl, ↓finM_rt, ↓finM_nx, ↓eqD_ap, ↓neD_ap, ↓inD_ap, ↓notInD_ap, ↓negD_ap, ↓isNonD_ap, ↓notNonD_ap, ↓isBlD_ap, ↓notBlD_ap, ↓lenS_ap, ↓lenT_ap, ↓lenL_ap, ↓lenC_ap, ↓intI_ap, ↓intB_ap, ↓all_ap, ↓any_ap, ↓reprI_ap, ↓reprS_ap, ↓tupT_ap, ↓tupL_ap, ↓lstT_ap, ↓lstL_ap, ↓ixT_ap, ↓ixL_ap, ↓ixC_ap, ↓ixB_ap, ↓tgetM_ap, ↓tgetK_ap, ↓tixM_ap, ↓tixK_ap, ↓tgtN_ap, ↓tgtT_tup, ↓tgtT_lst, ↓tgsNil_ap, ↓tgsCons_ap, ↓itA_lst, ↓itA_scr, ↓itA_tup, ↓itA_str, ↓hixM_ak, ↓hixK_h, ↓hixK_m, ↓hixL_ap, ↓hixR_h, ↓hixR_m, ↓subD_ap, ↓ltD_ap, ↓leD_ap, ↓gtD_ap, ↓geD_ap, ↓modD_ap, ↓fdivD_ap, ↓addL_ap, ↓addI_ap, ↓addS_ap, ↓slS_ap, ↓mulI_ap, ↓mulR_ap, optK_some, optKD_some, eqP, eqS, inP, inP.flat, inP.eqF, isN, L2.atI, L2.ixN, isiO, isi2O, tyn, L2.kitB, sbeq, toP, toPs, PySem.SeqAt.shaped, PySem.PyData.canLay0, PySem.PyData.canLayAll0, PySem.PyData.depth, PySem.PyData.depthAll, PySem.PyData.eqv, PySem.PyData.eqvAll, strOk_of, q, a]
    · simp [startR, startH, ↓atI_cast, ↓andT_ok, ↓andT_ex, ↓andT_bad, ↓bind_ap, ↓ret_ap, ↓bad_ap, ↓andB_ok, ↓andB_t, ↓andB_f, ↓andB_ex, ↓andB_bad, ↓iteM_ap, ↓iteF_ap, ↓andM_ap, ↓orM_ap, ↓notM_ap, ↓blR_bl, ↓blM_ap, ↓andR_bl, ↓andV_ap, ↓orR_bl, ↓orV_ap, ↓notR_bl, ↓notV_ap, ↓bin_ap, ↓un_ap, ↓chR_bl, ↓chain_ap, ↓consM_ap, ↓tupM_ap, ↓lstM_ap, ↓smallT_ap, ↓smallL_ap, ↓seqM_ap, ↓seqK_nx, ↓seqK_rt, ↓seqK_rtl, ↓seqK_bk, ↓seqK_ct, ↓seqK_ex, ↓seqK_bad, ↓retM_ap, ↓dropM_ap, ↓put_ap, ↓setM_ap, ↓setC_ap, ↓setL_ap, ↓smallS_ap, ↓retL_ap, ↓smallR_ap, ↓unpM_ap, ↓lstD_ap, ↓lcM_ap, ↓smallC_ap, ↓isiM_ak, ↓isiK_ap, ↓isi2M_ak, ↓isi2K_ap, ↓callF_ap, ↓resF_ok, ↓resF_ex, ↓forS_ap, ↓forM_nil, ↓forM_cons, ↓forK_nx, ↓forK_ct, ↓forK_bk, ↓forK_rt, ↓forK_ex, ↓tryM_ap, ↓tryK_ok, ↓tryK_ex, ↓noExK_ok, ↓raiseM_ap, ↓appM_ap, ↓apps_m, ↓appK_ap, ↓appKK_m, ↓callMM_ap, ↓mmK_m, ↓mmK_h, ↓callM_ap, ↓cmK_m, ↓cmK_h, ↓resM_some, ↓callO_ap, ↓resO_some, ↓slM_ap, ↓intO_ap, ↓intK_int, ↓rd_ap, ↓rdK_d, ↓rdK_m, ↓finP_rt, ↓finP_nx, ↓finP_ex, ↓finO_rtl, ↓finM_rt, ↓finM_nx, ↓eqD_ap, ↓neD_ap, ↓inD_ap, ↓notInD_ap, ↓negD_ap, ↓isNonD_ap, ↓notNonD_ap, ↓isBlD_ap, ↓notBlD_ap, ↓lenS_ap, ↓lenT_ap, ↓lenL_ap, ↓lenC_ap, ↓intI_ap, ↓intB_ap, ↓all_ap, ↓any_ap, ↓reprI_ap, ↓reprS_ap, ↓tupT_ap, ↓tupL_ap, ↓lstT_ap, ↓lstL_ap, ↓ixT_ap, ↓ixL_ap, ↓ixC_ap, ↓ixB_ap, ↓tgetM_ap, ↓tgetK_ap, ↓tixM_ap, ↓tixK_ap, ↓tgtN_ap, ↓tgtT_tup, ↓tgtT_lst, ↓tgsNil_ap, ↓tgsCons_ap, ↓itA_lst, ↓itA_scr, ↓itA_tup, ↓itA_str, ↓hixM_ak, ↓hixK_h, ↓hixK_m, ↓hixL_ap, ↓hixR_h, ↓hixR_m, ↓subD_ap, ↓ltD_ap, ↓leD_ap, ↓gtD_ap, ↓geD_ap, ↓modD_ap, ↓fdivD_ap, ↓addL_ap, ↓addI_ap, ↓addS_ap, ↓slS_ap, ↓mulI_ap, ↓mulR_ap, optK_some, optKD_some, eqP, eqS, inP, inP.flat, inP.eqF, isN, L2.atI, L2.ixN, isiO, isi2O, tyn, L2.kitB, sbeq, toP, toPs, PySem.SeqAt.shaped, PySem.PyData.canLay0, PySem.PyData.canLayAll0, PySem.PyData.depth, PySem.PyData.depthAll, PySem.PyData.eqv, PySem.PyData.eqvAll, strOk_of, q, a, b]
theorem xn_no {n x y : D} (q : F_check_names [x, y] = .ex "BadSituation" [("what", .str "name")]) : F_exchange_name [n, x, y] = .ex "BadSituation" [("what", .str "name")] := by
  unfold F_exchange_name mkP g_exchange_name
  simp [startR, startH, ↓atI_cast, ↓andT_ok, ↓andT_ex, ↓andT_bad, ↓bind_ap, ↓ret_ap, ↓bad_ap, ↓andB_ok, ↓andB_t, ↓andB_f, ↓andB_ex, ↓andB_bad, ↓iteM_ap, ↓iteF_ap, ↓andM_ap, ↓orM_ap, ↓notM_ap, ↓blR_bl, ↓blM_ap, ↓andR_bl, ↓andV_ap, ↓orR_bl, ↓orV_ap, ↓notR_bl, ↓notV_ap, ↓bin_ap, ↓un_ap, ↓chR_bl, ↓chain_ap, ↓consM_ap, ↓tupM_ap, ↓lstM_ap, ↓smallT_ap, ↓smallL_ap, ↓seqM_ap, ↓seqK_nx, ↓seqK_rt, ↓seqK_rtl, ↓seqK_bk, ↓seqK_ct, ↓seqK_ex, ↓seqK_bad, ↓retM_ap, ↓dropM_ap, ↓put_ap, ↓setM_ap, ↓setC_ap, ↓setL_ap, ↓smallS_ap, ↓retL_ap, ↓smallR_ap, ↓unpM_ap, ↓lstD_ap, ↓lcM_ap, ↓smallC_ap, ↓isiM_ak, ↓isiK_ap, ↓isi2M_ak, ↓isi2K_ap, ↓callF_ap, ↓resF_ok, ↓resF_ex, ↓forS_ap, ↓forM_nil, ↓forM_cons, ↓forK_nx, ↓forK_ct, ↓forK_bk, ↓forK_rt, ↓forK_ex, ↓tryM_ap, ↓tryK_ok, ↓tryK_ex, ↓noExK_ok, ↓raiseM_ap, ↓appM_ap, ↓apps_m, ↓appK_ap, ↓appKK_m, ↓callMM_ap, ↓mmK_m, ↓mmK_h, ↓callM_ap, ↓cmK_m, ↓cmK_h, ↓resM_some, ↓callO_ap, ↓resO_some, ↓slM_ap, ↓intO_ap, ↓intK_int, ↓rd_ap, ↓rdK_d, ↓rdK_m, ↓finP_rt, ↓finP_nx, ↓finP_ex, ↓finO_rtl, ↓finM_rt, ↓finM_nx, ↓eqD_ap, ↓neD_ap, ↓inD_ap, ↓notInD_ap, ↓negD_ap, ↓isNonD_ap, ↓notNonD_ap, ↓isBlD_ap, ↓notBlD_ap, ↓lenS_ap, ↓lenT_ap, ↓lenL_ap, ↓lenC_ap, ↓intI_ap, ↓intB_ap, ↓all_ap, ↓any_ap, ↓reprI_ap, ↓reprS_ap, ↓tupT_ap, ↓tupL_ap, ↓lstT_ap, ↓lstL_ap, ↓ixT_ap, ↓ixL_ap, ↓ixC_ap, ↓ixB_ap, ↓tgetM_ap, ↓tgetK_ap, ↓tixM_ap, ↓tixK_ap, ↓tgtN_ap, ↓tgtT_tup, ↓tgtT_lst, ↓tgsNil_ap, ↓tgsCons_ap, ↓itA_lst, ↓itA_scr, ↓itA_tup, ↓itA_str, ↓hixM_ak, ↓hixK_h, ↓hixK_m, ↓hixL_ap, ↓hixR_h, ↓hixR_m, ↓subD_ap, ↓ltD_ap, ↓leD_ap, ↓gtD_ap, ↓geD_ap, ↓modD_ap, ↓fdivD_ap, ↓addL_ap, ↓addI_ap, ↓addS_ap, ↓slS_ap, ↓mulI_ap, ↓mulR_ap, optK_some, optKD_some, eqP, eqS, inP, inP.flat, inP.eqF, isN, L2.atI, L2.ixN, isiO, isi2O, tyn, L2.kitB, sbeq, toP, toPs, PySem.SeqAt.shaped, PySem.PyData.canLay0, PySem.PyData.canLayAll0, PySem.PyData.depth, PySem.PyData.depthAll, PySem.PyData.eqv, PySem.PyData.eqvAll, strOk_of, q]
theorem other_ok (n s t : Str) : F__law_other [.str n, .str s, .str t] = .ok (.str (xc n s t)) := by
  unfold F__law_other mkP g__law_other xc
  by_cases a : n = s
  · simp [startR, startH, ↓atI_cast, ↓andT_ok, ↓andT_ex, ↓andT_bad, ↓bind_ap, ↓ret_ap, ↓bad_ap, ↓andB_ok, ↓andB_t, ↓andB_f, ↓andB_ex, ↓andB_bad, ↓iteM_ap, ↓iteF_ap, ↓andM_ap, ↓orM_ap, ↓notM_ap, ↓blR_bl, ↓blM_ap, ↓andR_bl, ↓andV_ap, ↓orR_bl, ↓orV_ap, ↓notR_bl, ↓notV_ap, ↓bin_ap, ↓un_ap, ↓chR_bl, ↓chain_ap, ↓consM_ap, ↓tupM_ap, ↓lstM_ap, ↓smallT_ap, ↓smallL_ap, ↓seqM_ap, ↓seqK_nx, ↓seqK_rt, ↓seqK_rtl, ↓seqK_bk, ↓seqK_ct, ↓seqK_ex, ↓seqK_bad, ↓retM_ap, ↓dropM_ap, ↓put_ap, ↓setM_ap, ↓setC_ap, ↓setL_ap, ↓smallS_ap, ↓retL_ap, ↓smallR_ap, ↓unpM_ap, ↓lstD_ap, ↓lcM_ap, ↓smallC_ap, ↓isiM_ak, ↓isiK_ap, ↓isi2M_ak, ↓isi2K_ap, ↓callF_ap, ↓resF_ok, ↓resF_ex, ↓forS_ap, ↓forM_nil, ↓forM_cons, ↓forK_nx, ↓forK_ct, ↓forK_bk, ↓forK_rt, ↓forK_ex, ↓tryM_ap, ↓tryK_ok, ↓tryK_ex, ↓noExK_ok, ↓raiseM_ap, ↓appM_ap, ↓apps_m, ↓appK_ap, ↓appKK_m, ↓callMM_ap, ↓mmK_m, ↓mmK_h, ↓callM_ap, ↓cmK_m, ↓cmK_h, ↓resM_some, ↓callO_ap, ↓resO_some, ↓slM_ap, ↓intO_ap, ↓intK_int, ↓rd_ap, ↓rdK_d, ↓rdK_m, ↓finP_rt, ↓finP_nx, ↓finP_ex, ↓finO_rtl, ↓finM_rt, ↓finM_nx, ↓eqD_ap, ↓neD_ap, ↓inD_ap, ↓notInD_ap, ↓negD_ap, ↓isNonD_ap, ↓notNonD_ap, ↓isBlD_ap, ↓notBlD_ap, ↓lenS_ap, ↓lenT_ap, ↓lenL_ap, ↓lenC_ap, ↓intI_ap, ↓intB_ap, ↓all_ap, ↓any_ap, ↓reprI_ap, ↓reprS_ap, ↓tupT_ap, ↓tupL_ap, ↓lstT_ap, ↓lstL_ap, ↓ixT_ap, ↓ixL_ap, ↓ixC_ap, ↓ixB_ap, ↓tgetM_ap, ↓tgetK_ap, ↓tixM_ap, ↓tixK_ap, ↓tgtN_ap, ↓tgtT_tup, ↓tgtT_lst, ↓tgsNil_ap, ↓tgsCons_ap, ↓itA_lst, ↓itA_scr, ↓itA_tup, ↓itA_str, ↓hixM_ak, ↓hixK_h, ↓hixK_m, ↓hixL_ap, ↓hixR_h, ↓hixR_m, ↓subD_ap, ↓ltD_ap, ↓leD_ap, ↓gtD_ap, ↓geD_ap, ↓modD_ap, ↓fdivD_ap, ↓addL_ap, ↓addI_ap, ↓addS_ap, ↓slS_ap, ↓mulI_ap, ↓mulR_ap, optK_some, optKD_some, eqP, eqS, inP, inP.flat, inP.eqF, isN, L2.atI, L2.ixN, isiO, isi2O, tyn, L2.kitB, sbeq, toP, toPs, PySem.SeqAt.shaped, PySem.PyData.canLay0, PySem.PyData.canLayAll0, PySem.PyData.depth, PySem.PyData.depthAll, PySem.PyData.eqv, PySem.PyData.eqvAll, strOk_of, a]
  · by_cases b : n = t
    · subst b
      simp [startR, startH, ↓atI_cast, ↓andT_ok, ↓andT_ex, ↓andT_bad, ↓bind_ap, ↓ret_ap, ↓bad_ap, ↓andB_ok, ↓andB_t, ↓andB_f, ↓andB_ex, ↓andB_bad, ↓iteM_ap, ↓iteF_ap, ↓andM_ap, ↓orM_ap, ↓notM_ap, ↓blR_bl, ↓blM_ap, ↓andR_bl, ↓andV_ap, ↓orR_bl, ↓orV_ap, ↓notR_bl, ↓notV_ap, ↓bin_ap, ↓un_ap, ↓chR_bl, ↓chain_ap, ↓consM_ap, ↓tupM_ap, ↓lstM_ap, ↓smallT_ap, ↓smallL_ap, ↓seqM_ap, ↓seqK_nx, ↓seqK_rt, ↓seqK_rtl, ↓seqK_bk, ↓seqK_ct, ↓seqK_ex, ↓seqK_bad, ↓retM_ap, ↓dropM_ap, ↓put_ap, ↓setM_ap, ↓setC_ap, ↓setL_ap, ↓smallS_ap, ↓retL_ap, ↓smallR_ap, ↓unpM_ap, ↓lstD_ap, ↓lcM_ap, ↓smallC_ap, ↓isiM_ak, ↓isiK_ap, ↓isi2M_ak, ↓isi2K_ap, ↓callF_ap, ↓resF_ok, ↓resF_ex, ↓forS_ap, ↓forM_nil, ↓forM_cons, ↓forK_nx, ↓forK_ct, ↓forK_bk, ↓forK_rt, ↓forK_ex, ↓tryM_ap, ↓tryK_ok, ↓tryK_ex, ↓noExK_ok, ↓raiseM_ap, ↓appM_ap, ↓apps_m, ↓appK_ap, ↓appKK_m, ↓callMM_ap, ↓mmK_m, ↓mmK_h, ↓callM_ap, ↓cmK_m, ↓cmK_h, ↓resM_some, ↓callO_ap, ↓resO_some, ↓slM_ap, ↓intO_ap, ↓intK_int, ↓rd_ap, ↓rdK_d, ↓rdK_m, ↓finP_rt, ↓finP_nx, ↓finP_ex, ↓finO_rtl, ↓finM_rt, ↓finM_nx, ↓eqD_ap, ↓neD_ap, ↓inD_ap, ↓notInD_ap, ↓negD_ap, ↓isNonD_ap, ↓notNonD_ap, ↓isBlD_ap, ↓notBlD_ap, ↓lenS_ap, ↓lenT_ap, ↓lenL_ap, ↓lenC_ap, ↓intI_ap, ↓intB_ap, ↓all_ap, ↓any_ap, ↓reprI_ap, ↓reprS_ap, ↓tupT_ap, ↓tupL_ap, ↓lstT_ap, ↓lstL_ap, ↓ixT_ap, ↓ixL_ap, ↓ixC_ap, ↓ixB_ap, ↓tgetM_ap, ↓tgetK_ap, ↓tixM_ap, ↓tixK_ap, ↓tgtN_ap, ↓tgtT_tup, ↓tgtT_lst, ↓tgsNil_ap, ↓tgsCons_ap, ↓itA_lst, ↓itA_scr, ↓itA_tup, ↓itA_str, ↓hixM_ak, ↓hixK_h, ↓hixK_m, ↓hixL_ap, ↓hixR_h, ↓hixR_m, ↓subD_ap, ↓ltD_ap, ↓leD_ap, ↓gtD_ap, ↓geD_ap, ↓modD_ap, ↓fdivD_ap, ↓addL_ap, ↓addI_ap, ↓addS_ap, ↓slS_ap, ↓mulI_ap, ↓mulR_ap, optK_some, optKD_some, eqP, eqS, inP, inP.flat, inP.eqF, isN, L2.atI, L2.ixN, isiO, isi2O, tyn, L2.kitB, sbeq, toP, toPs, PySem.SeqAt.shaped, PySem.PyData.canLay0, PySem.PyData.canLayAll0, PySem.PyData.depth, PySem.PyData.depthAll, PySem.PyData.eqv, PySem.PyData.eqvAll, strOk_of, a]
    · simp [startR, startH, ↓atI_cast, ↓andT_ok, ↓andT_ex, ↓andT_bad, ↓bind_ap, ↓ret_ap, ↓bad_ap, ↓andB_ok, ↓andB_t, ↓andB_f, ↓andB_ex, ↓andB_bad, ↓iteM_ap, ↓iteF_ap, ↓andM_ap, ↓orM_ap, ↓notM_ap, ↓blR_bl, ↓blM_ap, ↓andR_bl, ↓andV_ap, ↓orR_bl, ↓orV_ap, ↓notR_bl, ↓notV_ap, ↓bin_ap, ↓un_ap, ↓chR_bl, ↓chain_ap, ↓consM_ap, ↓tupM_ap, ↓lstM_ap, ↓smallT_ap, ↓smallL_ap, ↓seqM_ap, ↓seqK_nx, ↓seqK_rt, ↓seqK_rtl, ↓seqK_bk, ↓seqK_ct, ↓seqK_ex, ↓seqK_bad, ↓retM_ap, ↓dropM_ap, ↓put_ap, ↓setM_ap, ↓setC_ap, ↓setL_ap, ↓smallS_ap, ↓retL_ap, ↓smallR_ap, ↓unpM_ap, ↓lstD_ap, ↓lcM_ap, ↓smallC_ap, ↓isiM_ak, ↓isiK_ap, ↓isi2M_ak, ↓isi2K_ap, ↓callF_ap, ↓resF_ok, ↓resF_ex, ↓forS_ap, ↓forM_nil, ↓forM_cons, ↓forK_nx, ↓forK_ct, ↓forK_bk, ↓forK_rt, ↓forK_ex, ↓tryM_ap, ↓tryK_ok, ↓tryK_ex, ↓noExK_ok, ↓raiseM_ap, ↓appM_ap, ↓apps_m, ↓appK_ap, ↓appKK_m, ↓callMM_ap, ↓mmK_m, ↓mmK_h, ↓callM_ap, ↓cmK_m, ↓cmK_h, ↓resM_some, ↓callO_ap, ↓resO_some, ↓slM_ap, ↓intO_ap, ↓intK_int, ↓rd_ap, ↓rdK_d, ↓rdK_m, ↓finP_rt, ↓finP_nx, ↓finP_ex, ↓finO_rtl, ↓finM_rt, ↓finM_nx, ↓eqD_ap, ↓neD_ap, ↓inD_ap, ↓notInD_ap, ↓negD_ap, ↓isNonD_ap, ↓notNonD_ap, ↓isBlD_ap, ↓notBlD_ap, ↓lenS_ap, ↓lenT_ap, ↓lenL_ap, ↓lenC_ap, ↓intI_ap, ↓intB_ap, ↓all_ap, ↓any_ap, ↓reprI_ap, ↓reprS_ap, ↓tupT_ap, ↓tupL_ap, ↓lstT_ap, ↓lstL_ap, ↓ixT_ap, ↓ixL_ap, ↓ixC_ap, ↓ixB_ap, ↓tgetM_ap, ↓tgetK_ap, ↓tixM_ap, ↓tixK_ap, ↓tgtN_ap, ↓tgtT_tup, ↓tgtT_lst, ↓tgsNil_ap, ↓tgsCons_ap, ↓itA_lst, ↓itA_scr, ↓itA_tup, ↓itA_str, ↓hixM_ak, ↓hixK_h, ↓hixK_m, ↓hixL_ap, ↓hixR_h, ↓hixR_m, ↓subD_ap, ↓ltD_ap, ↓leD_ap, ↓gtD_ap, ↓geD_ap, ↓modD_ap, ↓fdivD_ap, ↓addL_ap, ↓addI_ap, ↓addS_ap, ↓slS_ap, ↓mulI_ap, ↓mulR_ap, optK_some, optKD_some, eqP, eqS, inP, inP.flat, inP.eqF, isN, L2.atI, L2.ixN, isiO, isi2O, tyn, L2.kitB, sbeq, toP, toPs, PySem.SeqAt.shaped, PySem.PyData.canLay0, PySem.PyData.canLayAll0, PySem.PyData.depth, PySem.PyData.depthAll, PySem.PyData.eqv, PySem.PyData.eqvAll, strOk_of, a, b]
def Own4.xc (o : Own4) (s t : Str) : Own4 := ⟨De.xc o.a s t, De.xc o.b s t, o.d, o.p⟩
theorem xc_nm {n s t : Str} (hn : nm n = true) (hs : nm s = true) (ht : nm t = true) : nm (xc n s t) = true := by
  unfold xc
  by_cases a : n = s
  · rw [if_pos a]; exact ht
  · rw [if_neg a]
    by_cases b : n = t
    · rw [if_pos b]; exact hs
    · rw [if_neg b]; exact hn
theorem xc_xc (n s t : Str) : xc (xc n s t) s t = n := by
  unfold xc
  by_cases a : n = s
  · by_cases b : t = s
    · simp [a, b]
    · simp [a, b]
  · by_cases b : n = t
    · simp [b]
    · simp [a, b]
theorem xc_comm (n s t : Str) : xc n t s = xc n s t := by
  unfold xc
  by_cases a : n = s
  · by_cases b : n = t
    · rw [if_pos b, if_pos a]
      exact a.symm.trans b
    · rw [if_neg b, if_pos a, if_pos a]
  · by_cases b : n = t
    · rw [if_pos b, if_neg a, if_pos b]
    · rw [if_neg b, if_neg a, if_neg a, if_neg b]
theorem xco_ok {o : Own4} (ho : o.ok) {s t : Str} (hs : nm s = true) (ht : nm t = true) : (o.xc s t).ok := ⟨xc_nm ho.1 hs ht, xc_nm ho.2.1 hs ht, ho.2.2⟩
theorem sx_ok {o : Own4} (ho : o.ok) {s t : Str} (hs : nm s = true) (ht : nm t = true) : F_Situation_exchanged [o.s, .str s, .str t] = .ok (o.xc s t).s := by
  have q := made_ok (xco_ok ho hs ht)
  have e := s_of (xc o.a s t) (xc o.b s t) o.p o.d
  have x1 := xn_ok (n := o.a) hs ht
  have x2 := xn_ok (n := o.b) hs ht
  have a := f_t o
  have b := f_h o
  have c := f_d o
  have d := f_p o
  show _ = Fr.ok (Own4.s ⟨xc o.a s t, xc o.b s t, o.d, o.p⟩)
  rw [← e]
  have q' : F_Situation [.str (xc o.a s t), .str (xc o.b s t), .int o.d, .str o.p] = .ok (sitF (.str (xc o.a s t)) (.str (xc o.b s t)) (.int o.d) (.str o.p)) := q
  generalize sitF (.str (xc o.a s t)) (.str (xc o.b s t)) (.int o.d) (.str o.p) = R at q' ⊢
  generalize xc o.a s t = A at *
  generalize xc o.b s t = B at *
  generalize o.s = S at *
  unfold F_Situation_exchanged mkP g_Situation_exchanged
  simp [startR, startH, ↓atI_cast, ↓andT_ok, ↓andT_ex, ↓andT_bad, ↓bind_ap, ↓ret_ap, ↓bad_ap, ↓andB_ok, ↓andB_t, ↓andB_f, ↓andB_ex, ↓andB_bad, ↓iteM_ap, ↓iteF_ap, ↓andM_ap, ↓orM_ap, ↓notM_ap, ↓blR_bl, ↓blM_ap, ↓andR_bl, ↓andV_ap, ↓orR_bl, ↓orV_ap, ↓notR_bl, ↓notV_ap, ↓bin_ap, ↓un_ap, ↓chR_bl, ↓chain_ap, ↓consM_ap, ↓tupM_ap, ↓lstM_ap, ↓smallT_ap, ↓smallL_ap, ↓seqM_ap, ↓seqK_nx, ↓seqK_rt, ↓seqK_rtl, ↓seqK_bk, ↓seqK_ct, ↓seqK_ex, ↓seqK_bad, ↓retM_ap, ↓dropM_ap, ↓put_ap, ↓setM_ap, ↓setC_ap, ↓setL_ap, ↓smallS_ap, ↓retL_ap, ↓smallR_ap, ↓unpM_ap, ↓lstD_ap, ↓lcM_ap, ↓smallC_ap, ↓isiM_ak, ↓isiK_ap, ↓isi2M_ak, ↓isi2K_ap, ↓callF_ap, ↓resF_ok, ↓resF_ex, ↓forS_ap, ↓forM_nil, ↓forM_cons, ↓forK_nx, ↓forK_ct, ↓forK_bk, ↓forK_rt, ↓forK_ex, ↓tryM_ap, ↓tryK_ok, ↓tryK_ex, ↓noExK_ok, ↓raiseM_ap, ↓appM_ap, ↓apps_m, ↓appK_ap, ↓appKK_m, ↓callMM_ap, ↓mmK_m, ↓mmK_h, ↓callM_ap, ↓cmK_m, ↓cmK_h, ↓resM_some, ↓callO_ap, ↓resO_some, ↓slM_ap, ↓intO_ap, ↓intK_int, ↓rd_ap, ↓rdK_d, ↓rdK_m, ↓finP_rt, ↓finP_nx, ↓finP_ex, ↓finO_rtl, ↓finM_rt, ↓finM_nx, ↓eqD_ap, ↓neD_ap, ↓inD_ap, ↓notInD_ap, ↓negD_ap, ↓isNonD_ap, ↓notNonD_ap, ↓isBlD_ap, ↓notBlD_ap, ↓lenS_ap, ↓lenT_ap, ↓lenL_ap, ↓lenC_ap, ↓intI_ap, ↓intB_ap, ↓all_ap, ↓any_ap, ↓reprI_ap, ↓reprS_ap, ↓tupT_ap, ↓tupL_ap, ↓lstT_ap, ↓lstL_ap, ↓ixT_ap, ↓ixL_ap, ↓ixC_ap, ↓ixB_ap, ↓tgetM_ap, ↓tgetK_ap, ↓tixM_ap, ↓tixK_ap, ↓tgtN_ap, ↓tgtT_tup, ↓tgtT_lst, ↓tgsNil_ap, ↓tgsCons_ap, ↓itA_lst, ↓itA_scr, ↓itA_tup, ↓itA_str, ↓hixM_ak, ↓hixK_h, ↓hixK_m, ↓hixL_ap, ↓hixR_h, ↓hixR_m, ↓subD_ap, ↓ltD_ap, ↓leD_ap, ↓gtD_ap, ↓geD_ap, ↓modD_ap, ↓fdivD_ap, ↓addL_ap, ↓addI_ap, ↓addS_ap, ↓slS_ap, ↓mulI_ap, ↓mulR_ap, optK_some, optKD_some, eqP, eqS, inP, inP.flat, inP.eqF, isN, L2.atI, L2.ixN, isiO, isi2O, tyn, L2.kitB, sbeq, toP, toPs, PySem.SeqAt.shaped, PySem.PyData.canLay0, PySem.PyData.canLayAll0, PySem.PyData.depth, PySem.PyData.depthAll, PySem.PyData.eqv, PySem.PyData.eqvAll, strOk_of, ↓a, ↓b, ↓c, ↓d, x1, x2, callI, q']
theorem sx_no {o : Own4} {x y : D} (q : F_check_names [x, y] = .ex "BadSituation" [("what", .str "name")]) : F_Situation_exchanged [o.s, x, y] = .ex "BadSituation" [("what", .str "name")] := by
  have x1 := xn_no (n := .str o.a) q
  have a := f_t o
  generalize o.s = S at *
  unfold F_Situation_exchanged mkP g_Situation_exchanged
  simp [startR, startH, ↓atI_cast, ↓andT_ok, ↓andT_ex, ↓andT_bad, ↓bind_ap, ↓ret_ap, ↓bad_ap, ↓andB_ok, ↓andB_t, ↓andB_f, ↓andB_ex, ↓andB_bad, ↓iteM_ap, ↓iteF_ap, ↓andM_ap, ↓orM_ap, ↓notM_ap, ↓blR_bl, ↓blM_ap, ↓andR_bl, ↓andV_ap, ↓orR_bl, ↓orV_ap, ↓notR_bl, ↓notV_ap, ↓bin_ap, ↓un_ap, ↓chR_bl, ↓chain_ap, ↓consM_ap, ↓tupM_ap, ↓lstM_ap, ↓smallT_ap, ↓smallL_ap, ↓seqM_ap, ↓seqK_nx, ↓seqK_rt, ↓seqK_rtl, ↓seqK_bk, ↓seqK_ct, ↓seqK_ex, ↓seqK_bad, ↓retM_ap, ↓dropM_ap, ↓put_ap, ↓setM_ap, ↓setC_ap, ↓setL_ap, ↓smallS_ap, ↓retL_ap, ↓smallR_ap, ↓unpM_ap, ↓lstD_ap, ↓lcM_ap, ↓smallC_ap, ↓isiM_ak, ↓isiK_ap, ↓isi2M_ak, ↓isi2K_ap, ↓callF_ap, ↓resF_ok, ↓resF_ex, ↓forS_ap, ↓forM_nil, ↓forM_cons, ↓forK_nx, ↓forK_ct, ↓forK_bk, ↓forK_rt, ↓forK_ex, ↓tryM_ap, ↓tryK_ok, ↓tryK_ex, ↓noExK_ok, ↓raiseM_ap, ↓appM_ap, ↓apps_m, ↓appK_ap, ↓appKK_m, ↓callMM_ap, ↓mmK_m, ↓mmK_h, ↓callM_ap, ↓cmK_m, ↓cmK_h, ↓resM_some, ↓callO_ap, ↓resO_some, ↓slM_ap, ↓intO_ap, ↓intK_int, ↓rd_ap, ↓rdK_d, ↓rdK_m, ↓finP_rt, ↓finP_nx, ↓finP_ex, ↓finO_rtl, ↓finM_rt, ↓finM_nx, ↓eqD_ap, ↓neD_ap, ↓inD_ap, ↓notInD_ap, ↓negD_ap, ↓isNonD_ap, ↓notNonD_ap, ↓isBlD_ap, ↓notBlD_ap, ↓lenS_ap, ↓lenT_ap, ↓lenL_ap, ↓lenC_ap, ↓intI_ap, ↓intB_ap, ↓all_ap, ↓any_ap, ↓reprI_ap, ↓reprS_ap, ↓tupT_ap, ↓tupL_ap, ↓lstT_ap, ↓lstL_ap, ↓ixT_ap, ↓ixL_ap, ↓ixC_ap, ↓ixB_ap, ↓tgetM_ap, ↓tgetK_ap, ↓tixM_ap, ↓tixK_ap, ↓tgtN_ap, ↓tgtT_tup, ↓tgtT_lst, ↓tgsNil_ap, ↓tgsCons_ap, ↓itA_lst, ↓itA_scr, ↓itA_tup, ↓itA_str, ↓hixM_ak, ↓hixK_h, ↓hixK_m, ↓hixL_ap, ↓hixR_h, ↓hixR_m, ↓subD_ap, ↓ltD_ap, ↓leD_ap, ↓gtD_ap, ↓geD_ap, ↓modD_ap, ↓fdivD_ap, ↓addL_ap, ↓addI_ap, ↓addS_ap, ↓slS_ap, ↓mulI_ap, ↓mulR_ap, optK_some, optKD_some, eqP, eqS, inP, inP.flat, inP.eqF, isN, L2.atI, L2.ixN, isiO, isi2O, tyn, L2.kitB, sbeq, toP, toPs, PySem.SeqAt.shaped, PySem.PyData.canLay0, PySem.PyData.canLayAll0, PySem.PyData.depth, PySem.PyData.depthAll, PySem.PyData.eqv, PySem.PyData.eqvAll, strOk_of, ↓a, x1]
theorem exch_of {o : Own4} {x y r : D} (q : F_Situation_exchanged [o.s, x, y] = .ok r) : F__law_exchanged [o.s, x, y] = .ok r := by
  have c := cT_x o
  have k : g__law_exchanged [.d o.s, .d x, .d y, .u, .u] = .ok (.rt r) [.d o.s, .d x, .d y, .d r, .u] := by
    unfold g__law_exchanged
    refine (seq_nx (tryAs_ok (ρ' := [.d o.s, .d x, .d y, .d r, .u]) ?_)).trans ?_
    · generalize o.s = S at *
      simp [startR, startH, ↓atI_cast, ↓andT_ok, ↓andT_ex, ↓andT_bad, ↓bind_ap, ↓ret_ap, ↓bad_ap, ↓andB_ok, ↓andB_t, ↓andB_f, ↓andB_ex, ↓andB_bad, ↓iteM_ap, ↓iteF_ap, ↓andM_ap, ↓orM_ap, ↓notM_ap, ↓blR_bl, ↓blM_ap, ↓andR_bl, ↓andV_ap, ↓orR_bl, ↓orV_ap, ↓notR_bl, ↓notV_ap, ↓bin_ap, ↓un_ap, ↓chR_bl, ↓chain_ap, ↓consM_ap, ↓tupM_ap, ↓lstM_ap, ↓smallT_ap, ↓smallL_ap, ↓seqM_ap, ↓seqK_nx, ↓seqK_rt, ↓seqK_rtl, ↓seqK_bk, ↓seqK_ct, ↓seqK_ex, ↓seqK_bad, ↓retM_ap, ↓dropM_ap, ↓put_ap, ↓setM_ap, ↓setC_ap, ↓setL_ap, ↓smallS_ap, ↓retL_ap, ↓smallR_ap, ↓unpM_ap, ↓lstD_ap, ↓lcM_ap, ↓smallC_ap, ↓isiM_ak, ↓isiK_ap, ↓isi2M_ak, ↓isi2K_ap, ↓callF_ap, ↓resF_ok, ↓resF_ex, ↓forS_ap, ↓forM_nil, ↓forM_cons, ↓forK_nx, ↓forK_ct, ↓forK_bk, ↓forK_rt, ↓forK_ex, ↓tryM_ap, ↓tryK_ok, ↓tryK_ex, ↓noExK_ok, ↓raiseM_ap, ↓appM_ap, ↓apps_m, ↓appK_ap, ↓appKK_m, ↓callMM_ap, ↓mmK_m, ↓mmK_h, ↓callM_ap, ↓cmK_m, ↓cmK_h, ↓resM_some, ↓callO_ap, ↓resO_some, ↓slM_ap, ↓intO_ap, ↓intK_int, ↓rd_ap, ↓rdK_d, ↓rdK_m, ↓finP_rt, ↓finP_nx, ↓finP_ex, ↓finO_rtl, ↓finM_rt, ↓finM_nx, ↓eqD_ap, ↓neD_ap, ↓inD_ap, ↓notInD_ap, ↓negD_ap, ↓isNonD_ap, ↓notNonD_ap, ↓isBlD_ap, ↓notBlD_ap, ↓lenS_ap, ↓lenT_ap, ↓lenL_ap, ↓lenC_ap, ↓intI_ap, ↓intB_ap, ↓all_ap, ↓any_ap, ↓reprI_ap, ↓reprS_ap, ↓tupT_ap, ↓tupL_ap, ↓lstT_ap, ↓lstL_ap, ↓ixT_ap, ↓ixL_ap, ↓ixC_ap, ↓ixB_ap, ↓tgetM_ap, ↓tgetK_ap, ↓tixM_ap, ↓tixK_ap, ↓tgtN_ap, ↓tgtT_tup, ↓tgtT_lst, ↓tgsNil_ap, ↓tgsCons_ap, ↓itA_lst, ↓itA_scr, ↓itA_tup, ↓itA_str, ↓hixM_ak, ↓hixK_h, ↓hixK_m, ↓hixL_ap, ↓hixR_h, ↓hixR_m, ↓subD_ap, ↓ltD_ap, ↓leD_ap, ↓gtD_ap, ↓geD_ap, ↓modD_ap, ↓fdivD_ap, ↓addL_ap, ↓addI_ap, ↓addS_ap, ↓slS_ap, ↓mulI_ap, ↓mulR_ap, optK_some, optKD_some, eqP, eqS, inP, inP.flat, inP.eqF, isN, L2.atI, L2.ixN, isiO, isi2O, tyn, L2.kitB, sbeq, toP, toPs, PySem.SeqAt.shaped, PySem.PyData.canLay0, PySem.PyData.canLayAll0, PySem.PyData.depth, PySem.PyData.depthAll, PySem.PyData.eqv, PySem.PyData.eqvAll, strOk_of, ↓c, q]
    · rfl
  unfold F__law_exchanged mkP
  show finP (g__law_exchanged [.d o.s, .d x, .d y, .u, .u]) = _
  rw [k]
  rfl
theorem exch_no {o : Own4} {x y : D} {s : Str} (q : F_Situation_exchanged [o.s, x, y] = .ex "BadSituation" [("what", .str s)]) : F__law_exchanged [o.s, x, y] = .ok (.str s) := by
  have c := cT_x o
  have k : g__law_exchanged [.d o.s, .d x, .d y, .u, .u] = .ok (.rt (.str s)) [.d o.s, .d x, .d y, .u, .u] := by
    unfold g__law_exchanged
    have t := tryAs_caught (i := 4) (catches := fun c => c == "BadSituation") (gb := setM 3 (callT "Situation" "exchanged" F_Situation_exchanged (rd 0) (consM (rd 1) (consM (rd 2) (De.ret []))))) (gs := fun a dd c => (retM (xfM 4 a dd c "what"))) (ρ := [.d o.s, .d x, .d y, .u, .u]) (ρ' := [.d o.s, .d x, .d y, .u, .u]) (c := "BadSituation") (fs := [("what", .str s)]) (R := .ok (.rt (.str s)) [.d o.s, .d x, .d y, .u, .u]) (by
      generalize o.s = S at *
      simp [startR, startH, ↓atI_cast, ↓andT_ok, ↓andT_ex, ↓andT_bad, ↓bind_ap, ↓ret_ap, ↓bad_ap, ↓andB_ok, ↓andB_t, ↓andB_f, ↓andB_ex, ↓andB_bad, ↓iteM_ap, ↓iteF_ap, ↓andM_ap, ↓orM_ap, ↓notM_ap, ↓blR_bl, ↓blM_ap, ↓andR_bl, ↓andV_ap, ↓orR_bl, ↓orV_ap, ↓notR_bl, ↓notV_ap, ↓bin_ap, ↓un_ap, ↓chR_bl, ↓chain_ap, ↓consM_ap, ↓tupM_ap, ↓lstM_ap, ↓smallT_ap, ↓smallL_ap, ↓seqM_ap, ↓seqK_nx, ↓seqK_rt, ↓seqK_rtl, ↓seqK_bk, ↓seqK_ct, ↓seqK_ex, ↓seqK_bad, ↓retM_ap, ↓dropM_ap, ↓put_ap, ↓setM_ap, ↓setC_ap, ↓setL_ap, ↓smallS_ap, ↓retL_ap, ↓smallR_ap, ↓unpM_ap, ↓lstD_ap, ↓lcM_ap, ↓smallC_ap, ↓isiM_ak, ↓isiK_ap, ↓isi2M_ak, ↓isi2K_ap, ↓callF_ap, ↓resF_ok, ↓resF_ex, ↓forS_ap, ↓forM_nil, ↓forM_cons, ↓forK_nx, ↓forK_ct, ↓forK_bk, ↓forK_rt, ↓forK_ex, ↓tryM_ap, ↓tryK_ok, ↓tryK_ex, ↓noExK_ok, ↓raiseM_ap, ↓appM_ap, ↓apps_m, ↓appK_ap, ↓appKK_m, ↓callMM_ap, ↓mmK_m, ↓mmK_h, ↓callM_ap, ↓cmK_m, ↓cmK_h, ↓resM_some, ↓callO_ap, ↓resO_some, ↓slM_ap, ↓intO_ap, ↓intK_int, ↓rd_ap, ↓rdK_d, ↓rdK_m, ↓finP_rt, ↓finP_nx, ↓finP_ex, ↓finO_rtl, ↓finM_rt, ↓finM_nx, ↓eqD_ap, ↓neD_ap, ↓inD_ap, ↓notInD_ap, ↓negD_ap, ↓isNonD_ap, ↓notNonD_ap, ↓isBlD_ap, ↓notBlD_ap, ↓lenS_ap, ↓lenT_ap, ↓lenL_ap, ↓lenC_ap, ↓intI_ap, ↓intB_ap, ↓all_ap, ↓any_ap, ↓reprI_ap, ↓reprS_ap, ↓tupT_ap, ↓tupL_ap, ↓lstT_ap, ↓lstL_ap, ↓ixT_ap, ↓ixL_ap, ↓ixC_ap, ↓ixB_ap, ↓tgetM_ap, ↓tgetK_ap, ↓tixM_ap, ↓tixK_ap, ↓tgtN_ap, ↓tgtT_tup, ↓tgtT_lst, ↓tgsNil_ap, ↓tgsCons_ap, ↓itA_lst, ↓itA_scr, ↓itA_tup, ↓itA_str, ↓hixM_ak, ↓hixK_h, ↓hixK_m, ↓hixL_ap, ↓hixR_h, ↓hixR_m, ↓subD_ap, ↓ltD_ap, ↓leD_ap, ↓gtD_ap, ↓geD_ap, ↓modD_ap, ↓fdivD_ap, ↓addL_ap, ↓addI_ap, ↓addS_ap, ↓slS_ap, ↓mulI_ap, ↓mulR_ap, optK_some, optKD_some, eqP, eqS, inP, inP.flat, inP.eqF, isN, L2.atI, L2.ixN, isiO, isi2O, tyn, L2.kitB, sbeq, toP, toPs, PySem.SeqAt.shaped, PySem.PyData.canLay0, PySem.PyData.canLayAll0, PySem.PyData.depth, PySem.PyData.depthAll, PySem.PyData.eqv, PySem.PyData.eqvAll, strOk_of, ↓c, q]) rfl fun a dd hd => by
      have e1 := xf_ap 4 a dd "BadSituation" "what" [("what", .str s)] (.str s) [.d o.s, .d x, .d y, .u, .d (.xn a dd "BadSituation" [("what", .str s)])] rfl rfl
      show normR 4 ((retM (xfM 4 a dd "BadSituation" "what")) [.d o.s, .d x, .d y, .u, .d (.xn a dd "BadSituation" [("what", .str s)])]) = _
      generalize o.s = S at *
      simp [startR, startH, ↓atI_cast, ↓andT_ok, ↓andT_ex, ↓andT_bad, ↓bind_ap, ↓ret_ap, ↓bad_ap, ↓andB_ok, ↓andB_t, ↓andB_f, ↓andB_ex, ↓andB_bad, ↓iteM_ap, ↓iteF_ap, ↓andM_ap, ↓orM_ap, ↓notM_ap, ↓blR_bl, ↓blM_ap, ↓andR_bl, ↓andV_ap, ↓orR_bl, ↓orV_ap, ↓notR_bl, ↓notV_ap, ↓bin_ap, ↓un_ap, ↓chR_bl, ↓chain_ap, ↓consM_ap, ↓tupM_ap, ↓lstM_ap, ↓smallT_ap, ↓smallL_ap, ↓seqM_ap, ↓seqK_nx, ↓seqK_rt, ↓seqK_rtl, ↓seqK_bk, ↓seqK_ct, ↓seqK_ex, ↓seqK_bad, ↓retM_ap, ↓dropM_ap, ↓put_ap, ↓setM_ap, ↓setC_ap, ↓setL_ap, ↓smallS_ap, ↓retL_ap, ↓smallR_ap, ↓unpM_ap, ↓lstD_ap, ↓lcM_ap, ↓smallC_ap, ↓isiM_ak, ↓isiK_ap, ↓isi2M_ak, ↓isi2K_ap, ↓callF_ap, ↓resF_ok, ↓resF_ex, ↓forS_ap, ↓forM_nil, ↓forM_cons, ↓forK_nx, ↓forK_ct, ↓forK_bk, ↓forK_rt, ↓forK_ex, ↓tryM_ap, ↓tryK_ok, ↓tryK_ex, ↓noExK_ok, ↓raiseM_ap, ↓appM_ap, ↓apps_m, ↓appK_ap, ↓appKK_m, ↓callMM_ap, ↓mmK_m, ↓mmK_h, ↓callM_ap, ↓cmK_m, ↓cmK_h, ↓resM_some, ↓callO_ap, ↓resO_some, ↓slM_ap, ↓intO_ap, ↓intK_int, ↓rd_ap, ↓rdK_d, ↓rdK_m, ↓finP_rt, ↓finP_nx, ↓finP_ex, ↓finO_rtl, ↓finM_rt, ↓finM_nx, ↓eqD_ap, ↓neD_ap, ↓inD_ap, ↓notInD_ap, ↓negD_ap, ↓isNonD_ap, ↓notNonD_ap, ↓isBlD_ap, ↓notBlD_ap, ↓lenS_ap, ↓lenT_ap, ↓lenL_ap, ↓lenC_ap, ↓intI_ap, ↓intB_ap, ↓all_ap, ↓any_ap, ↓reprI_ap, ↓reprS_ap, ↓tupT_ap, ↓tupL_ap, ↓lstT_ap, ↓lstL_ap, ↓ixT_ap, ↓ixL_ap, ↓ixC_ap, ↓ixB_ap, ↓tgetM_ap, ↓tgetK_ap, ↓tixM_ap, ↓tixK_ap, ↓tgtN_ap, ↓tgtT_tup, ↓tgtT_lst, ↓tgsNil_ap, ↓tgsCons_ap, ↓itA_lst, ↓itA_scr, ↓itA_tup, ↓itA_str, ↓hixM_ak, ↓hixK_h, ↓hixK_m, ↓hixL_ap, ↓hixR_h, ↓hixR_m, ↓subD_ap, ↓ltD_ap, ↓leD_ap, ↓gtD_ap, ↓geD_ap, ↓modD_ap, ↓fdivD_ap, ↓addL_ap, ↓addI_ap, ↓addS_ap, ↓slS_ap, ↓mulI_ap, ↓mulR_ap, optK_some, optKD_some, eqP, eqS, inP, inP.flat, inP.eqF, isN, L2.atI, L2.ixN, isiO, isi2O, tyn, L2.kitB, sbeq, toP, toPs, PySem.SeqAt.shaped, PySem.PyData.canLay0, PySem.PyData.canLayAll0, PySem.PyData.depth, PySem.PyData.depthAll, PySem.PyData.eqv, PySem.PyData.eqvAll, strOk_of, ↓e1, normR]
    rw [seqM_ap, t]
    rfl
  unfold F__law_exchanged mkP
  show finP (g__law_exchanged [.d o.s, .d x, .d y, .u, .u]) = _
  rw [k]
  rfl
theorem nx_of {n x y r : D} (q : F_exchange_name [n, x, y] = .ok r) : F__law_name_exchanged [n, x, y] = .ok r := by
  have k : g__law_name_exchanged [.d n, .d x, .d y, .u, .u] = .ok (.rt r) [.d n, .d x, .d y, .d r, .u] := by
    unfold g__law_name_exchanged
    refine (seq_nx (tryAs_ok (ρ' := [.d n, .d x, .d y, .d r, .u]) ?_)).trans ?_
    · simp [startR, startH, ↓atI_cast, ↓andT_ok, ↓andT_ex, ↓andT_bad, ↓bind_ap, ↓ret_ap, ↓bad_ap, ↓andB_ok, ↓andB_t, ↓andB_f, ↓andB_ex, ↓andB_bad, ↓iteM_ap, ↓iteF_ap, ↓andM_ap, ↓orM_ap, ↓notM_ap, ↓blR_bl, ↓blM_ap, ↓andR_bl, ↓andV_ap, ↓orR_bl, ↓orV_ap, ↓notR_bl, ↓notV_ap, ↓bin_ap, ↓un_ap, ↓chR_bl, ↓chain_ap, ↓consM_ap, ↓tupM_ap, ↓lstM_ap, ↓smallT_ap, ↓smallL_ap, ↓seqM_ap, ↓seqK_nx, ↓seqK_rt, ↓seqK_rtl, ↓seqK_bk, ↓seqK_ct, ↓seqK_ex, ↓seqK_bad, ↓retM_ap, ↓dropM_ap, ↓put_ap, ↓setM_ap, ↓setC_ap, ↓setL_ap, ↓smallS_ap, ↓retL_ap, ↓smallR_ap, ↓unpM_ap, ↓lstD_ap, ↓lcM_ap, ↓smallC_ap, ↓isiM_ak, ↓isiK_ap, ↓isi2M_ak, ↓isi2K_ap, ↓callF_ap, ↓resF_ok, ↓resF_ex, ↓forS_ap, ↓forM_nil, ↓forM_cons, ↓forK_nx, ↓forK_ct, ↓forK_bk, ↓forK_rt, ↓forK_ex, ↓tryM_ap, ↓tryK_ok, ↓tryK_ex, ↓noExK_ok, ↓raiseM_ap, ↓appM_ap, ↓apps_m, ↓appK_ap, ↓appKK_m, ↓callMM_ap, ↓mmK_m, ↓mmK_h, ↓callM_ap, ↓cmK_m, ↓cmK_h, ↓resM_some, ↓callO_ap, ↓resO_some, ↓slM_ap, ↓intO_ap, ↓intK_int, ↓rd_ap, ↓rdK_d, ↓rdK_m, ↓finP_rt, ↓finP_nx, ↓finP_ex, ↓finO_rtl, ↓finM_rt, ↓finM_nx, ↓eqD_ap, ↓neD_ap, ↓inD_ap, ↓notInD_ap, ↓negD_ap, ↓isNonD_ap, ↓notNonD_ap, ↓isBlD_ap, ↓notBlD_ap, ↓lenS_ap, ↓lenT_ap, ↓lenL_ap, ↓lenC_ap, ↓intI_ap, ↓intB_ap, ↓all_ap, ↓any_ap, ↓reprI_ap, ↓reprS_ap, ↓tupT_ap, ↓tupL_ap, ↓lstT_ap, ↓lstL_ap, ↓ixT_ap, ↓ixL_ap, ↓ixC_ap, ↓ixB_ap, ↓tgetM_ap, ↓tgetK_ap, ↓tixM_ap, ↓tixK_ap, ↓tgtN_ap, ↓tgtT_tup, ↓tgtT_lst, ↓tgsNil_ap, ↓tgsCons_ap, ↓itA_lst, ↓itA_scr, ↓itA_tup, ↓itA_str, ↓hixM_ak, ↓hixK_h, ↓hixK_m, ↓hixL_ap, ↓hixR_h, ↓hixR_m, ↓subD_ap, ↓ltD_ap, ↓leD_ap, ↓gtD_ap, ↓geD_ap, ↓modD_ap, ↓fdivD_ap, ↓addL_ap, ↓addI_ap, ↓addS_ap, ↓slS_ap, ↓mulI_ap, ↓mulR_ap, optK_some, optKD_some, eqP, eqS, inP, inP.flat, inP.eqF, isN, L2.atI, L2.ixN, isiO, isi2O, tyn, L2.kitB, sbeq, toP, toPs, PySem.SeqAt.shaped, PySem.PyData.canLay0, PySem.PyData.canLayAll0, PySem.PyData.depth, PySem.PyData.depthAll, PySem.PyData.eqv, PySem.PyData.eqvAll, strOk_of, q]
    · rfl
  unfold F__law_name_exchanged mkP
  show finP (g__law_name_exchanged [.d n, .d x, .d y, .u, .u]) = _
  rw [k]
  rfl
theorem nx_no {n x y : D} {s : Str} (q : F_exchange_name [n, x, y] = .ex "BadSituation" [("what", .str s)]) : F__law_name_exchanged [n, x, y] = .ok (.lst [.str "no", .str s]) := by
  have k : g__law_name_exchanged [.d n, .d x, .d y, .u, .u] = .ok (.rt (.lst [.str "no", .str s])) [.d n, .d x, .d y, .u, .u] := by
    unfold g__law_name_exchanged
    have t := tryAs_caught (i := 4) (catches := fun c => c == "BadSituation") (gb := setM 3 (De.bind (consM (rd 0) (consM (rd 1) (consM (rd 2) (De.ret [])))) (callF F_exchange_name))) (gs := fun a dd c => (retM (lstM (consM (De.ret (.str "no")) (consM (xfM 4 a dd c "what") (De.ret [])))))) (ρ := [.d n, .d x, .d y, .u, .u]) (ρ' := [.d n, .d x, .d y, .u, .u]) (c := "BadSituation") (fs := [("what", .str s)]) (R := .ok (.rt (.lst [.str "no", .str s])) [.d n, .d x, .d y, .u, .u]) (by
      simp [startR, startH, ↓atI_cast, ↓andT_ok, ↓andT_ex, ↓andT_bad, ↓bind_ap, ↓ret_ap, ↓bad_ap, ↓andB_ok, ↓andB_t, ↓andB_f, ↓andB_ex, ↓andB_bad, ↓iteM_ap, ↓iteF_ap, ↓andM_ap, ↓orM_ap, ↓notM_ap, ↓blR_bl, ↓blM_ap, ↓andR_bl, ↓andV_ap, ↓orR_bl, ↓orV_ap, ↓notR_bl, ↓notV_ap, ↓bin_ap, ↓un_ap, ↓chR_bl, ↓chain_ap, ↓consM_ap, ↓tupM_ap, ↓lstM_ap, ↓smallT_ap, ↓smallL_ap, ↓seqM_ap, ↓seqK_nx, ↓seqK_rt, ↓seqK_rtl, ↓seqK_bk, ↓seqK_ct, ↓seqK_ex, ↓seqK_bad, ↓retM_ap, ↓dropM_ap, ↓put_ap, ↓setM_ap, ↓setC_ap, ↓setL_ap, ↓smallS_ap, ↓retL_ap, ↓smallR_ap, ↓unpM_ap, ↓lstD_ap, ↓lcM_ap, ↓smallC_ap, ↓isiM_ak, ↓isiK_ap, ↓isi2M_ak, ↓isi2K_ap, ↓callF_ap, ↓resF_ok, ↓resF_ex, ↓forS_ap, ↓forM_nil, ↓forM_cons, ↓forK_nx, ↓forK_ct, ↓forK_bk, ↓forK_rt, ↓forK_ex, ↓tryM_ap, ↓tryK_ok, ↓tryK_ex, ↓noExK_ok, ↓raiseM_ap, ↓appM_ap, ↓apps_m, ↓appK_ap, ↓appKK_m, ↓callMM_ap, ↓mmK_m, ↓mmK_h, ↓callM_ap, ↓cmK_m, ↓cmK_h, ↓resM_some, ↓callO_ap, ↓resO_some, ↓slM_ap, ↓intO_ap, ↓intK_int, ↓rd_ap, ↓rdK_d, ↓rdK_m, ↓finP_rt, ↓finP_nx, ↓finP_ex, ↓finO_rtl, ↓finM_rt, ↓finM_nx, ↓eqD_ap, ↓neD_ap, ↓inD_ap, ↓notInD_ap, ↓negD_ap, ↓isNonD_ap, ↓notNonD_ap, ↓isBlD_ap, ↓notBlD_ap, ↓lenS_ap, ↓lenT_ap, ↓lenL_ap, ↓lenC_ap, ↓intI_ap, ↓intB_ap, ↓all_ap, ↓any_ap, ↓reprI_ap, ↓reprS_ap, ↓tupT_ap, ↓tupL_ap, ↓lstT_ap, ↓lstL_ap, ↓ixT_ap, ↓ixL_ap, ↓ixC_ap, ↓ixB_ap, ↓tgetM_ap, ↓tgetK_ap, ↓tixM_ap, ↓tixK_ap, ↓tgtN_ap, ↓tgtT_tup, ↓tgtT_lst, ↓tgsNil_ap, ↓tgsCons_ap, ↓itA_lst, ↓itA_scr, ↓itA_tup, ↓itA_str, ↓hixM_ak, ↓hixK_h, ↓hixK_m, ↓hixL_ap, ↓hixR_h, ↓hixR_m, ↓subD_ap, ↓ltD_ap, ↓leD_ap, ↓gtD_ap, ↓geD_ap, ↓modD_ap, ↓fdivD_ap, ↓addL_ap, ↓addI_ap, ↓addS_ap, ↓slS_ap, ↓mulI_ap, ↓mulR_ap, optK_some, optKD_some, eqP, eqS, inP, inP.flat, inP.eqF, isN, L2.atI, L2.ixN, isiO, isi2O, tyn, L2.kitB, sbeq, toP, toPs, PySem.SeqAt.shaped, PySem.PyData.canLay0, PySem.PyData.canLayAll0, PySem.PyData.depth, PySem.PyData.depthAll, PySem.PyData.eqv, PySem.PyData.eqvAll, strOk_of, q]) rfl fun a dd hd => by
      have e1 := xf_ap 4 a dd "BadSituation" "what" [("what", .str s)] (.str s) [.d n, .d x, .d y, .u, .d (.xn a dd "BadSituation" [("what", .str s)])] rfl rfl
      show normR 4 ((retM (lstM (consM (De.ret (.str "no")) (consM (xfM 4 a dd "BadSituation" "what") (De.ret []))))) [.d n, .d x, .d y, .u, .d (.xn a dd "BadSituation" [("what", .str s)])]) = _
      simp [startR, startH, ↓atI_cast, ↓andT_ok, ↓andT_ex, ↓andT_bad, ↓bind_ap, ↓ret_ap, ↓bad_ap, ↓andB_ok, ↓andB_t, ↓andB_f, ↓andB_ex, ↓andB_bad, ↓iteM_ap, ↓iteF_ap, ↓andM_ap, ↓orM_ap, ↓notM_ap, ↓blR_bl, ↓blM_ap, ↓andR_bl, ↓andV_ap, ↓orR_bl, ↓orV_ap, ↓notR_bl, ↓notV_ap, ↓bin_ap, ↓un_ap, ↓chR_bl, ↓chain_ap, ↓consM_ap, ↓tupM_ap, ↓lstM_ap, ↓smallT_ap, ↓smallL_ap, ↓seqM_ap, ↓seqK_nx, ↓seqK_rt, ↓seqK_rtl, ↓seqK_bk, ↓seqK_ct, ↓seqK_ex, ↓seqK_bad, ↓retM_ap, ↓dropM_ap, ↓put_ap, ↓setM_ap, ↓setC_ap, ↓setL_ap, ↓smallS_ap, ↓retL_ap, ↓smallR_ap, ↓unpM_ap, ↓lstD_ap, ↓lcM_ap, ↓smallC_ap, ↓isiM_ak, ↓isiK_ap, ↓isi2M_ak, ↓isi2K_ap, ↓callF_ap, ↓resF_ok, ↓resF_ex, ↓forS_ap, ↓forM_nil, ↓forM_cons, ↓forK_nx, ↓forK_ct, ↓forK_bk, ↓forK_rt, ↓forK_ex, ↓tryM_ap, ↓tryK_ok, ↓tryK_ex, ↓noExK_ok, ↓raiseM_ap, ↓appM_ap, ↓apps_m, ↓appK_ap, ↓appKK_m, ↓callMM_ap, ↓mmK_m, ↓mmK_h, ↓callM_ap, ↓cmK_m, ↓cmK_h, ↓resM_some, ↓callO_ap, ↓resO_some, ↓slM_ap, ↓intO_ap, ↓intK_int, ↓rd_ap, ↓rdK_d, ↓rdK_m, ↓finP_rt, ↓finP_nx, ↓finP_ex, ↓finO_rtl, ↓finM_rt, ↓finM_nx, ↓eqD_ap, ↓neD_ap, ↓inD_ap, ↓notInD_ap, ↓negD_ap, ↓isNonD_ap, ↓notNonD_ap, ↓isBlD_ap, ↓notBlD_ap, ↓lenS_ap, ↓lenT_ap, ↓lenL_ap, ↓lenC_ap, ↓intI_ap, ↓intB_ap, ↓all_ap, ↓any_ap, ↓reprI_ap, ↓reprS_ap, ↓tupT_ap, ↓tupL_ap, ↓lstT_ap, ↓lstL_ap, ↓ixT_ap, ↓ixL_ap, ↓ixC_ap, ↓ixB_ap, ↓tgetM_ap, ↓tgetK_ap, ↓tixM_ap, ↓tixK_ap, ↓tgtN_ap, ↓tgtT_tup, ↓tgtT_lst, ↓tgsNil_ap, ↓tgsCons_ap, ↓itA_lst, ↓itA_scr, ↓itA_tup, ↓itA_str, ↓hixM_ak, ↓hixK_h, ↓hixK_m, ↓hixL_ap, ↓hixR_h, ↓hixR_m, ↓subD_ap, ↓ltD_ap, ↓leD_ap, ↓gtD_ap, ↓geD_ap, ↓modD_ap, ↓fdivD_ap, ↓addL_ap, ↓addI_ap, ↓addS_ap, ↓slS_ap, ↓mulI_ap, ↓mulR_ap, optK_some, optKD_some, eqP, eqS, inP, inP.flat, inP.eqF, isN, L2.atI, L2.ixN, isiO, isi2O, tyn, L2.kitB, sbeq, toP, toPs, PySem.SeqAt.shaped, PySem.PyData.canLay0, PySem.PyData.canLayAll0, PySem.PyData.depth, PySem.PyData.depthAll, PySem.PyData.eqv, PySem.PyData.eqvAll, strOk_of, ↓e1, normR]
    rw [seqM_ap, t]
    rfl
  unfold F__law_name_exchanged mkP
  show finP (g__law_name_exchanged [.d n, .d x, .d y, .u, .u]) = _
  rw [k]
  rfl
end De

set_option Elab.async false
set_option linter.all false
set_option maxRecDepth 100000
set_option maxHeartbeats 1000000
namespace De
open K05
open PySem (Str sizeLine_eq)
/-! the law's turn, statement by statement -/
noncomputable def s5_1 : M Fl := (setM 4 (callMM F__law_situation 1 (consM (rd 2) (De.ret []))))
noncomputable def s5_2 : M Fl := (iteF (blM (De.bin eqD (rd 3) (De.ret (.int 1)))) (setM 4 (tupM (consM (callMM F__law_name 1 (De.ret [])) (consM (callMM F__law_name 1 (De.ret [])) (consM (De.bin subD (callMM F__law_take 1 (consM (De.bin mulD (De.ret (.int 2)) (De.bin powD (De.ret (.int 10)) (De.ret (.int 40)))) (De.ret []))) (De.bin powD (De.ret (.int 10)) (De.ret (.int 40)))) (consM (callMM F__law_name 1 (De.ret [])) (De.ret []))))))) (De.ret .nx))
noncomputable def s5_3 : M Fl := (setM 5 (De.bind (consM (rd 4) (De.ret [])) (callF F__law_tried)))
noncomputable def s5_4 : M Fl := (iteF (orM (notM (truM (isiCM clsL "Situation" (rd 5)))) (orM (blM (De.bin neD (De.bind (consM (rd 5) (De.ret [])) (callF F__law_parts)) (De.bind (consM (rd 4) (De.ret [])) tupleC))) (notM (truM (De.bind (consM (fldM fc_day "day" (rd 5)) (De.ret [])) (callF F__law_whole)))))) (retM (De.ret (.bl false))) (De.ret .nx))
noncomputable def s5_5 : M Fl := (forS (De.bind (De.ret (.int 3)) itR) (tgtN 6) b_law_4)
noncomputable def s5_6 : M Fl := (setM 7 (De.bin ixD (lstM (consM (De.bin subD (callMM F__law_take 1 (consM (De.ret (.int 41)) (De.ret []))) (De.ret (.int 20))) (consM (De.bin subD (callMM F__law_take 1 (consM (De.bin mulD (De.ret (.int 2)) (De.bin powD (De.ret (.int 10)) (De.ret (.int 40)))) (De.ret []))) (De.bin powD (De.ret (.int 10)) (De.ret (.int 40)))) (consM (De.ret (.int 0)) (De.ret []))))) (callMM F__law_take 1 (consM (De.ret (.int 3)) (De.ret [])))))
noncomputable def s5_7 : M Fl := (setM 8 (De.bind (consM (rd 5) (consM (rd 7) (De.ret []))) (callF F__law_moved)))
noncomputable def s5_8 : M Fl := (iteF (orM (blM (De.bin neD (De.bind (consM (rd 8) (De.ret [])) (callF F__law_parts)) (tupM (consM (De.bin ixD (rd 4) (De.ret (.int 0))) (consM (De.bin ixD (rd 4) (De.ret (.int 1))) (consM (De.bin addD (De.bin ixD (rd 4) (De.ret (.int 2))) (rd 7)) (consM (De.bin ixD (rd 4) (De.ret (.int 3))) (De.ret [])))))))) (blM (De.bin (neX etab) (De.bind (consM (rd 8) (consM (un negD (rd 7)) (De.ret []))) (callF F__law_moved)) (rd 5)))) (retM (De.ret (.bl false))) (De.ret .nx))
noncomputable def s5_9 : M Fl := (iteF (blM (De.bin neD (De.bind (consM (rd 5) (consM (De.bin ixD (lstM (consM (De.ret .non) (consM (De.ret (.bl true)) (consM (De.ret (.str "1")) (consM (tupM (consM (De.ret (.int 1)) (De.ret []))) (De.ret [])))))) (callMM F__law_take 1 (consM (De.ret (.int 4)) (De.ret [])))) (De.ret []))) (callF F__law_moved)) (De.ret (.str "day")))) (retM (De.ret (.bl false))) (De.ret .nx))
noncomputable def s5_10 : M Fl := (setM 9 (De.bin ixD (De.bin addD (De.bind (consM (slM (rd 4) (De.ret none) (intO (De.ret (.int 2)))) (De.ret [])) listC) (De.bind (consM (De.bin ixD (rd 2) (De.ret (.int 0))) (De.ret [])) listC)) (callMM F__law_take 1 (consM (De.ret (.int 5)) (De.ret [])))))
noncomputable def s5_11 : M Fl := (setM 10 (De.bin ixD (De.bin addD (De.bind (consM (slM (rd 4) (De.ret none) (intO (De.ret (.int 2)))) (De.ret [])) listC) (lstM (consM (callMM F__law_name 1 (De.ret [])) (De.ret [])))) (callMM F__law_take 1 (consM (De.ret (.int 3)) (De.ret [])))))
noncomputable def s5_12 : M Fl := (setM 11 (De.bind (consM (rd 5) (consM (rd 9) (consM (rd 10) (De.ret [])))) (callF F__law_exchanged)))
noncomputable def s5_13 : M Fl := (iteF (blM (De.bin neD (De.bind (consM (rd 11) (De.ret [])) (callF F__law_parts)) (tupM (consM (De.bind (consM (De.bin ixD (rd 4) (De.ret (.int 0))) (consM (rd 9) (consM (rd 10) (De.ret [])))) (callF F__law_other)) (consM (De.bind (consM (De.bin ixD (rd 4) (De.ret (.int 1))) (consM (rd 9) (consM (rd 10) (De.ret [])))) (callF F__law_other)) (consM (De.bin ixD (rd 4) (De.ret (.int 2))) (consM (De.bin ixD (rd 4) (De.ret (.int 3))) (De.ret [])))))))) (retM (De.ret (.bl false))) (De.ret .nx))
noncomputable def s5_14 : M Fl := (iteF (orM (blM (De.bin (neX etab) (De.bind (consM (rd 11) (consM (rd 9) (consM (rd 10) (De.ret [])))) (callF F__law_exchanged)) (rd 5))) (orM (blM (De.bin (neX etab) (De.bind (consM (rd 5) (consM (rd 10) (consM (rd 9) (De.ret [])))) (callF F__law_exchanged)) (rd 11))) (blM (De.bin neD (De.bind (consM (rd 5) (De.ret [])) (callF F__law_parts)) (De.bind (consM (rd 4) (De.ret [])) tupleC))))) (retM (De.ret (.bl false))) (De.ret .nx))
noncomputable def s5_15 : M Fl := (forS (De.bind (lstM (consM (rd 9) (consM (rd 10) (consM (callMM F__law_name 1 (De.ret [])) (consM (De.bin ixD (rd 4) (De.ret (.int 0))) (De.ret [])))))) itA) (tgtN 12) b_law_2)
noncomputable def s5_16 : M Fl := (setM 13 (De.bin ixD (lstM (consM (De.ret .non) (consM (De.ret (.str "")) (consM (De.bin addD (rd 9) (De.ret (.str "abcdefgh"))) (consM (De.ret (.int 3)) (consM (De.ret (.str "Ann")) (consM (De.ret (.bl true)) (De.ret [])))))))) (callMM F__law_take 1 (consM (De.ret (.int 6)) (De.ret [])))))
noncomputable def s5_17 : M Fl := (forS (De.bind (lstM (consM (tupM (consM (rd 13) (consM (rd 10) (De.ret [])))) (consM (tupM (consM (rd 9) (consM (rd 13) (De.ret [])))) (consM (tupM (consM (rd 13) (consM (rd 13) (De.ret [])))) (De.ret []))))) itA) (tgtN 14) b_law_1)
theorem b_law_5_is : b_law_5 = (seqM s5_1 (seqM s5_2 (seqM s5_3 (seqM s5_4 (seqM s5_5 (seqM s5_6 (seqM s5_7 (seqM s5_8 (seqM s5_9 (seqM s5_10 (seqM s5_11 (seqM s5_12 (seqM s5_13 (seqM s5_14 (seqM s5_15 (seqM s5_16 s5_17)))))))))))))))) := rfl
noncomputable def s4_1 : M Fl := (setC 15 (De.bind (rd 4) fun d => listO [d]))
noncomputable def s4_2 : M Fl := (forS (De.bind (lstM (consM (callMM F__law_take 1 (consM (De.ret (.int 4)) (De.ret []))) (consM (callMM F__law_take 1 (consM (De.ret (.int 4)) (De.ret []))) (De.ret [])))) itA) (tgtN 16) b_law_3)
noncomputable def s4_3 : M Fl := (setM 17 (De.bind (consM (rd 15) (De.ret [])) (callF F__law_due)))
noncomputable def s4_4 : M Fl := (setM 11 (De.bind (consM (rd 15) (De.ret [])) (callF F__law_tried)))
noncomputable def s4_5 : M Fl := (iteF (blM (De.bin notNonD (rd 17) (De.ret .non))) (iteF (blM (De.bin neD (rd 11) (rd 17))) (retM (De.ret (.bl false))) (De.ret .nx)) (iteF (orM (notM (truM (isiCM clsL "Situation" (rd 11)))) (orM (blM (De.bin neD (De.bind (consM (rd 11) (De.ret [])) (callF F__law_parts)) (De.bind (consM (rd 15) (De.ret [])) tupleC))) (truM (De.bind (consM (De.bin (eqX etab) (rd 11) (rd 5)) (consM (De.bin eqD (De.bind (consM (rd 15) (De.ret [])) tupleC) (De.bind (consM (rd 4) (De.ret [])) tupleC)) (De.ret []))) (callF F__law_unlike))))) (retM (De.ret (.bl false))) (De.ret .nx)))
theorem b_law_4_is : b_law_4 = (seqM s4_1 (seqM s4_2 (seqM s4_3 (seqM s4_4 s4_5)))) := rfl
end De

set_option Elab.async false
set_option linter.all false
set_option maxRecDepth 100000
set_option maxHeartbeats 1000000
namespace De
open K05
open PySem (Str sizeLine_eq)
/-! arguments spoilt -/
theorem t_ix (o : Own4) : (∀ ρ, De.ixD o.t (.int 0) ρ = .ok (.str o.a) ρ) ∧ (∀ ρ, De.ixD o.t (.int 1) ρ = .ok (.str o.b) ρ) ∧ (∀ ρ, De.ixD o.t (.int 2) ρ = .ok (.int o.d) ρ) ∧ (∀ ρ, De.ixD o.t (.int 3) ρ = .ok (.str o.p) ρ) := ⟨fun ρ => nr rfl, fun ρ => nr rfl, fun ρ => nr rfl, fun ρ => nr rfl⟩
theorem addS (s t : Str) (ρ : Rho) (h : s.length + t.length ≤ 1000) : addD (.str s) (.str t) ρ = .ok (.str (s ++ t)) ρ := by
  show (if small (s.length + t.length) then (De.ret (D.str (s ++ t)) : M D) else De.bad) ρ = _
  have : small (s.length + t.length) = true := by
    unfold small
    rw [decide_eq_true (by rw [sizeLine_eq]; omega)]
  rw [this]
  rfl
def nine (o : Own4) (s : Str) : List D := [.non, .bl true, .str "", .str (o.a ++ "abcdefgh"), .str s, .int 7, .str (o.b ++ "A"), .lst [.str o.a], .int (1 - o.d)]
theorem nine_ok {o : Own4} (ho : o.ok) {s : Str} (hs : nm s = true) : ∀ d ∈ nine o s, Pc d := fun d hd => by
  unfold nine at hd
  simp only [List.mem_cons, List.not_mem_nil, or_false] at hd
  rcases hd with rfl | rfl | rfl | rfl | rfl | rfl | rfl | rfl | rfl
  · exact .bad ent_non
  · exact .bad (ent_bl true)
  · exact .bad (ent_str (by decide) (by decide +kernel))
  · exact .bad (ent_long ho.1)
  · exact .nm hs
  · exact .int 7
  · exact .bad (ent_A ho.2.1)
  · exact .bad (ent_lst _)
  · exact .int _
theorem sp_step {v : D} {o : Own4} (ho : o.ok) {h : List D} (hh : HG h) {x0 x1 x2 x3 : D} (p0 : Pc x0) (p1 : Pc x1) (p2 : Pc x2) (p3 : Pc x3) {j : Nat} (hj : j < 4) (e2 e3 e6 e7 e8 e9 e10 e11 e12 e13 e14 e16 e17 : EV) :
    ∃ (y0 y1 y2 y3 : D) (h' : List D), De.bind (tgtN 16 (.int (j : Int))) (fun _ => b_law_3) [.d v, .m h, e2, e3, .d o.t, .d o.s, e6, e7, e8, e9, e10, e11, e12, e13, e14, .m [x0, x1, x2, x3], e16, e17] = .ok .nx [.d v, .m h', e2, e3, .d o.t, .d o.s, e6, e7, e8, e9, e10, e11, e12, e13, e14, .m [y0, y1, y2, y3], .d (.int (j : Int)), e17] ∧ HG h' ∧ Pc y0 ∧ Pc y1 ∧ Pc y2 ∧ Pc y3 := by
  obtain ⟨s, h1, q1, hh1, hs⟩ := name_ok hh
  obtain ⟨u, h2, hu, q2, hh2⟩ := take_i hh1 9 9 rfl (by decide) (by decide)
  obtain ⟨x, hx, xi⟩ := mem_ix (nine_ok ho hs) (v := u) (by simpa [nine] using hu)
  obtain ⟨i0, i1, i2, i3⟩ := t_ix o
  have la := nm_le ho.1
  have lb := nm_le ho.2.1
  have a1 : ∀ ρ, addD (.str o.a) (.str "abcdefgh") ρ = .ok (.str (o.a ++ "abcdefgh")) ρ := fun ρ => addS _ _ ρ (by have : (("abcdefgh" : Str)).length = 8 := rfl; omega)
  have a2 : ∀ ρ, addD (.str o.b) (.str "A") ρ = .ok (.str (o.b ++ "A")) ρ := fun ρ => addS _ _ ρ (by have : (("A" : Str)).length = 1 := rfl; omega)
  unfold nine at xi
  generalize (o.a ++ ("abcdefgh" : Str)) = A1 at a1 xi
  generalize (o.b ++ ("A" : Str)) = A2 at a2 xi
  have cj : j = 0 ∨ j = 1 ∨ j = 2 ∨ j = 3 := by omega
  generalize o.t = T at *
  generalize o.s = S at *
  rcases cj with rfl | rfl | rfl | rfl
  · refine ⟨x, x1, x2, x3, h2, ?_, hh2, hx, p1, p2, p3⟩
    unfold b_law_3
    simp [startR, startH, ↓atI_cast, ↓andT_ok, ↓andT_ex, ↓andT_bad, ↓bind_ap, ↓ret_ap, ↓bad_ap, ↓andB_ok, ↓andB_t, ↓andB_f, ↓andB_ex, ↓andB_bad, ↓iteM_ap, ↓iteF_ap, ↓andM_ap, ↓orM_ap, ↓notM_ap, ↓blR_bl, ↓blM_ap, ↓andR_bl, ↓andV_ap, ↓orR_bl, ↓orV_ap, ↓notR_bl, ↓notV_ap, ↓bin_ap, ↓un_ap, ↓chR_bl, ↓chain_ap, ↓consM_ap, ↓tupM_ap, ↓lstM_ap, ↓smallT_ap, ↓smallL_ap, ↓seqM_ap, ↓seqK_nx, ↓seqK_rt, ↓seqK_rtl, ↓seqK_bk, ↓seqK_ct, ↓seqK_ex, ↓seqK_bad, ↓retM_ap, ↓dropM_ap, ↓put_ap, ↓setM_ap, ↓setC_ap, ↓setL_ap, ↓smallS_ap, ↓retL_ap, ↓smallR_ap, ↓unpM_ap, ↓lstD_ap, ↓lcM_ap, ↓smallC_ap, ↓isiM_ak, ↓isiK_ap, ↓isi2M_ak, ↓isi2K_ap, ↓callF_ap, ↓resF_ok, ↓resF_ex, ↓forS_ap, ↓forM_nil, ↓forM_cons, ↓forK_nx, ↓forK_ct, ↓forK_bk, ↓forK_rt, ↓forK_ex, ↓tryM_ap, ↓tryK_ok, ↓tryK_ex, ↓noExK_ok, ↓raiseM_ap, ↓appM_ap, ↓apps_m, ↓appK_ap, ↓appKK_m, ↓callMM_ap, ↓mmK_m, ↓mmK_h, ↓callM_ap, ↓cmK_m, ↓cmK_h, ↓resM_some, ↓callO_ap, ↓resO_some, ↓slM_ap, ↓intO_ap, ↓intK_int, ↓rd_ap, ↓rdK_d, ↓rdK_m, ↓finP_rt, ↓finP_nx, ↓finP_ex, ↓finO_rtl, ↓finM_rt, ↓finM_nx, ↓eqD_ap, ↓neD_ap, ↓inD_ap, ↓notInD_ap, ↓negD_ap, ↓isNonD_ap, ↓notNonD_ap, ↓isBlD_ap, ↓notBlD_ap, ↓lenS_ap, ↓lenT_ap, ↓lenL_ap, ↓lenC_ap, ↓intI_ap, ↓intB_ap, ↓all_ap, ↓any_ap, ↓reprI_ap, ↓reprS_ap, ↓tupT_ap, ↓tupL_ap, ↓lstT_ap, ↓lstL_ap, ↓ixT_ap, ↓ixL_ap, ↓ixC_ap, ↓ixB_ap, ↓tgetM_ap, ↓tgetK_ap, ↓tixM_ap, ↓tixK_ap, ↓tgtN_ap, ↓tgtT_tup, ↓tgtT_lst, ↓tgsNil_ap, ↓tgsCons_ap, ↓itA_lst, ↓itA_scr, ↓itA_tup, ↓itA_str, ↓hixM_ak, ↓hixK_h, ↓hixK_m, ↓hixL_ap, ↓hixR_h, ↓hixR_m, ↓subD_ap, ↓ltD_ap, ↓leD_ap, ↓gtD_ap, ↓geD_ap, ↓modD_ap, ↓fdivD_ap, ↓addL_ap, ↓addI_ap, ↓addS_ap, ↓slS_ap, ↓mulI_ap, ↓mulR_ap, optK_some, optKD_some, eqP, eqS, inP, inP.flat, inP.eqF, isN, L2.atI, L2.ixN, isiO, isi2O, tyn, L2.kitB, sbeq, toP, toPs, PySem.SeqAt.shaped, PySem.PyData.canLay0, PySem.PyData.canLayAll0, PySem.PyData.depth, PySem.PyData.depthAll, PySem.PyData.eqv, PySem.PyData.eqvAll, strOk_of, ↓i0, ↓i1, ↓i2, ↓a1, ↓a2, q1, q2, ↓xi, setIx, lstOf, lstTo, put]
  · refine ⟨x0, x, x2, x3, h2, ?_, hh2, p0, hx, p2, p3⟩
    unfold b_law_3
    simp [startR, startH, ↓atI_cast, ↓andT_ok, ↓andT_ex, ↓andT_bad, ↓bind_ap, ↓ret_ap, ↓bad_ap, ↓andB_ok, ↓andB_t, ↓andB_f, ↓andB_ex, ↓andB_bad, ↓iteM_ap, ↓iteF_ap, ↓andM_ap, ↓orM_ap, ↓notM_ap, ↓blR_bl, ↓blM_ap, ↓andR_bl, ↓andV_ap, ↓orR_bl, ↓orV_ap, ↓notR_bl, ↓notV_ap, ↓bin_ap, ↓un_ap, ↓chR_bl, ↓chain_ap, ↓consM_ap, ↓tupM_ap, ↓lstM_ap, ↓smallT_ap, ↓smallL_ap, ↓seqM_ap, ↓seqK_nx, ↓seqK_rt, ↓seqK_rtl, ↓seqK_bk, ↓seqK_ct, ↓seqK_ex, ↓seqK_bad, ↓retM_ap, ↓dropM_ap, ↓put_ap, ↓setM_ap, ↓setC_ap, ↓setL_ap, ↓smallS_ap, ↓retL_ap, ↓smallR_ap, ↓unpM_ap, ↓lstD_ap, ↓lcM_ap, ↓smallC_ap, ↓isiM_ak, ↓isiK_ap, ↓isi2M_ak, ↓isi2K_ap, ↓callF_ap, ↓resF_ok, ↓resF_ex, ↓forS_ap, ↓forM_nil, ↓forM_cons, ↓forK_nx, ↓forK_ct, ↓forK_bk, ↓forK_rt, ↓forK_ex, ↓tryM_ap, ↓tryK_ok, ↓tryK_ex, ↓noExK_ok, ↓raiseM_ap, ↓appM_ap, ↓apps_m, ↓appK_ap, ↓appKK_m, ↓callMM_ap, ↓mmK_m, ↓mmK_h, ↓callM_ap, ↓cmK_m, ↓cmK_h, ↓resM_some, ↓callO_ap, ↓resO_some, ↓slM_ap, ↓intO_ap, ↓intK_int, ↓rd_ap, ↓rdK_d, ↓rdK_m, ↓finP_rt, ↓finP_nx, ↓finP_ex, ↓finO_rtl, ↓finM_rt, ↓finM_nx, ↓eqD_ap, ↓neD_ap, ↓inD_ap, ↓notInD_ap, ↓negD_ap, ↓isNonD_ap, ↓notNonD_ap, ↓isBlD_ap, ↓notBlD_ap, ↓lenS_ap, ↓lenT_ap, ↓lenL_ap, ↓lenC_ap, ↓intI_ap, ↓intB_ap, ↓all_ap, ↓any_ap, ↓reprI_ap, ↓reprS_ap, ↓tupT_ap, ↓tupL_ap, ↓lstT_ap, ↓lstL_ap, ↓ixT_ap, ↓ixL_ap, ↓ixC_ap, ↓ixB_ap, ↓tgetM_ap, ↓tgetK_ap, ↓tixM_ap, ↓tixK_ap, ↓tgtN_ap, ↓tgtT_tup, ↓tgtT_lst, ↓tgsNil_ap, ↓tgsCons_ap, ↓itA_lst, ↓itA_scr, ↓itA_tup, ↓itA_str, ↓hixM_ak, ↓hixK_h, ↓hixK_m, ↓hixL_ap, ↓hixR_h, ↓hixR_m, ↓subD_ap, ↓ltD_ap, ↓leD_ap, ↓gtD_ap, ↓geD_ap, ↓modD_ap, ↓fdivD_ap, ↓addL_ap, ↓addI_ap, ↓addS_ap, ↓slS_ap, ↓mulI_ap, ↓mulR_ap, optK_some, optKD_some, eqP, eqS, inP, inP.flat, inP.eqF, isN, L2.atI, L2.ixN, isiO, isi2O, tyn, L2.kitB, sbeq, toP, toPs, PySem.SeqAt.shaped, PySem.PyData.canLay0, PySem.PyData.canLayAll0, PySem.PyData.depth, PySem.PyData.depthAll, PySem.PyData.eqv, PySem.PyData.eqvAll, strOk_of, ↓i0, ↓i1, ↓i2, ↓a1, ↓a2, q1, q2, ↓xi, setIx, lstOf, lstTo, put]
  · refine ⟨x0, x1, x, x3, h2, ?_, hh2, p0, p1, hx, p3⟩
    unfold b_law_3
    simp [startR, startH, ↓atI_cast, ↓andT_ok, ↓andT_ex, ↓andT_bad, ↓bind_ap, ↓ret_ap, ↓bad_ap, ↓andB_ok, ↓andB_t, ↓andB_f, ↓andB_ex, ↓andB_bad, ↓iteM_ap, ↓iteF_ap, ↓andM_ap, ↓orM_ap, ↓notM_ap, ↓blR_bl, ↓blM_ap, ↓andR_bl, ↓andV_ap, ↓orR_bl, ↓orV_ap, ↓notR_bl, ↓notV_ap, ↓bin_ap, ↓un_ap, ↓chR_bl, ↓chain_ap, ↓consM_ap, ↓tupM_ap, ↓lstM_ap, ↓smallT_ap, ↓smallL_ap, ↓seqM_ap, ↓seqK_nx, ↓seqK_rt, ↓seqK_rtl, ↓seqK_bk, ↓seqK_ct, ↓seqK_ex, ↓seqK_bad, ↓retM_ap, ↓dropM_ap, ↓put_ap, ↓setM_ap, ↓setC_ap, ↓setL_ap, ↓smallS_ap, ↓retL_ap, ↓smallR_ap, ↓unpM_ap, ↓lstD_ap, ↓lcM_ap, ↓smallC_ap, ↓isiM_ak, ↓isiK_ap, ↓isi2M_ak, ↓isi2K_ap, ↓callF_ap, ↓resF_ok, ↓resF_ex, ↓forS_ap, ↓forM_nil, ↓forM_cons, ↓forK_nx, ↓forK_ct, ↓forK_bk, ↓forK_rt, ↓forK_ex, ↓tryM_ap, ↓tryK_ok, ↓tryK_ex, ↓noExK_ok, ↓raiseM_ap, ↓appM_ap, ↓apps_m, ↓appK_ap, ↓appKK_m, ↓callMM_ap, ↓mmK_m, ↓mmK_h, ↓callM_ap, ↓cmK_m, ↓cmK_h, ↓resM_some, ↓callO_ap, ↓resO_some, ↓slM_ap, ↓intO_ap, ↓intK_int, ↓rd_ap, ↓rdK_d, ↓rdK_m, ↓finP_rt, ↓finP_nx, ↓finP_ex, ↓finO_rtl, ↓finM_rt, ↓finM_nx, ↓eqD_ap, ↓neD_ap, ↓inD_ap, ↓notInD_ap, ↓negD_ap, ↓isNonD_ap, ↓notNonD_ap, ↓isBlD_ap, ↓notBlD_ap, ↓lenS_ap, ↓lenT_ap, ↓lenL_ap, ↓lenC_ap, ↓intI_ap, ↓intB_ap, ↓all_ap, ↓any_ap, ↓reprI_ap, ↓reprS_ap, ↓tupT_ap, ↓tupL_ap, ↓lstT_ap, ↓lstL_ap, ↓ixT_ap, ↓ixL_ap, ↓ixC_ap, ↓ixB_ap, ↓tgetM_ap, ↓tgetK_ap, ↓tixM_ap, ↓tixK_ap, ↓tgtN_ap, ↓tgtT_tup, ↓tgtT_lst, ↓tgsNil_ap, ↓tgsCons_ap, ↓itA_lst, ↓itA_scr, ↓itA_tup, ↓itA_str, ↓hixM_ak, ↓hixK_h, ↓hixK_m, ↓hixL_ap, ↓hixR_h, ↓hixR_m, ↓subD_ap, ↓ltD_ap, ↓leD_ap, ↓gtD_ap, ↓geD_ap, ↓modD_ap, ↓fdivD_ap, ↓addL_ap, ↓addI_ap, ↓addS_ap, ↓slS_ap, ↓mulI_ap, ↓mulR_ap, optK_some, optKD_some, eqP, eqS, inP, inP.flat, inP.eqF, isN, L2.atI, L2.ixN, isiO, isi2O, tyn, L2.kitB, sbeq, toP, toPs, PySem.SeqAt.shaped, PySem.PyData.canLay0, PySem.PyData.canLayAll0, PySem.PyData.depth, PySem.PyData.depthAll, PySem.PyData.eqv, PySem.PyData.eqvAll, strOk_of, ↓i0, ↓i1, ↓i2, ↓a1, ↓a2, q1, q2, ↓xi, setIx, lstOf, lstTo, put]
  · refine ⟨x0, x1, x2, x, h2, ?_, hh2, p0, p1, p2, hx⟩
    unfold b_law_3
    simp [startR, startH, ↓atI_cast, ↓andT_ok, ↓andT_ex, ↓andT_bad, ↓bind_ap, ↓ret_ap, ↓bad_ap, ↓andB_ok, ↓andB_t, ↓andB_f, ↓andB_ex, ↓andB_bad, ↓iteM_ap, ↓iteF_ap, ↓andM_ap, ↓orM_ap, ↓notM_ap, ↓blR_bl, ↓blM_ap, ↓andR_bl, ↓andV_ap, ↓orR_bl, ↓orV_ap, ↓notR_bl, ↓notV_ap, ↓bin_ap, ↓un_ap, ↓chR_bl, ↓chain_ap, ↓consM_ap, ↓tupM_ap, ↓lstM_ap, ↓smallT_ap, ↓smallL_ap, ↓seqM_ap, ↓seqK_nx, ↓seqK_rt, ↓seqK_rtl, ↓seqK_bk, ↓seqK_ct, ↓seqK_ex, ↓seqK_bad, ↓retM_ap, ↓dropM_ap, ↓put_ap, ↓setM_ap, ↓setC_ap, ↓setL_ap, ↓smallS_ap, ↓retL_ap, ↓smallR_ap, ↓unpM_ap, ↓lstD_ap, ↓lcM_ap, ↓smallC_ap, ↓isiM_ak, ↓isiK_ap, ↓isi2M_ak, ↓isi2K_ap, ↓callF_ap, ↓resF_ok, ↓resF_ex, ↓forS_ap, ↓forM_nil, ↓forM_cons, ↓forK_nx, ↓forK_ct, ↓forK_bk, ↓forK_rt, ↓forK_ex, ↓tryM_ap, ↓tryK_ok, ↓tryK_ex, ↓noExK_ok, ↓raiseM_ap, ↓appM_ap, ↓apps_m, ↓appK_ap, ↓appKK_m, ↓callMM_ap, ↓mmK_m, ↓mmK_h, ↓callM_ap, ↓cmK_m, ↓cmK_h, ↓resM_some, ↓callO_ap, ↓resO_some, ↓slM_ap, ↓intO_ap, ↓intK_int, ↓rd_ap, ↓rdK_d, ↓rdK_m, ↓finP_rt, ↓finP_nx, ↓finP_ex, ↓finO_rtl, ↓finM_rt, ↓finM_nx, ↓eqD_ap, ↓neD_ap, ↓inD_ap, ↓notInD_ap, ↓negD_ap, ↓isNonD_ap, ↓notNonD_ap, ↓isBlD_ap, ↓notBlD_ap, ↓lenS_ap, ↓lenT_ap, ↓lenL_ap, ↓lenC_ap, ↓intI_ap, ↓intB_ap, ↓all_ap, ↓any_ap, ↓reprI_ap, ↓reprS_ap, ↓tupT_ap, ↓tupL_ap, ↓lstT_ap, ↓lstL_ap, ↓ixT_ap, ↓ixL_ap, ↓ixC_ap, ↓ixB_ap, ↓tgetM_ap, ↓tgetK_ap, ↓tixM_ap, ↓tixK_ap, ↓tgtN_ap, ↓tgtT_tup, ↓tgtT_lst, ↓tgsNil_ap, ↓tgsCons_ap, ↓itA_lst, ↓itA_scr, ↓itA_tup, ↓itA_str, ↓hixM_ak, ↓hixK_h, ↓hixK_m, ↓hixL_ap, ↓hixR_h, ↓hixR_m, ↓subD_ap, ↓ltD_ap, ↓leD_ap, ↓gtD_ap, ↓geD_ap, ↓modD_ap, ↓fdivD_ap, ↓addL_ap, ↓addI_ap, ↓addS_ap, ↓slS_ap, ↓mulI_ap, ↓mulR_ap, optK_some, optKD_some, eqP, eqS, inP, inP.flat, inP.eqF, isN, L2.atI, L2.ixN, isiO, isi2O, tyn, L2.kitB, sbeq, toP, toPs, PySem.SeqAt.shaped, PySem.PyData.canLay0, PySem.PyData.canLayAll0, PySem.PyData.depth, PySem.PyData.depthAll, PySem.PyData.eqv, PySem.PyData.eqvAll, strOk_of, ↓i0, ↓i1, ↓i2, ↓a1, ↓a2, q1, q2, ↓xi, setIx, lstOf, lstTo, put]
end De

set_option Elab.async false
set_option linter.all false
set_option maxRecDepth 100000
set_option maxHeartbeats 1000000
namespace De
open K05
open PySem (Str sizeLine_eq)
/-! one spoilt row of arguments -/
theorem isiCM_ap (cs : List Str) (c : Str) (f : M D) (ρ : Rho) : isiCM cs c f ρ = andT (f ρ) fun d => optM (isiC cs c d) := bind_ap _ _ _
theorem isiC_s (o : Own4) : isiC clsL "Situation" o.s = some true := by kernel_rfl
theorem unlike_ok (b : Bool) : F__law_unlike [.bl b, .bl b] = .ok (.bl false) := by cases b <;> kernel_rfl
theorem neP_s (s t : Str) : eqP (.str s) (.str t) = some (s == t) := rfl
def I4 (v : D) (o : Own4) (e2 e3 e7 e8 e9 e10 e12 e13 e14 : EV) (ρ : Rho) : Prop := ∃ (h : List D) (e6 e11 e15 e16 e17 : EV), ρ = [.d v, .m h, e2, e3, .d o.t, .d o.s, e6, e7, e8, e9, e10, e11, e12, e13, e14, e15, e16, e17] ∧ HG h
theorem turn4 {v : D} {o : Own4} (ho : o.ok) {e2 e3 e7 e8 e9 e10 e12 e13 e14 : EV} (i : Int) (ρ : Rho) (hI : I4 v o e2 e3 e7 e8 e9 e10 e12 e13 e14 ρ) : ∃ ρ', De.bind (tgtN 6 (.int i)) (fun _ => b_law_4) ρ = .ok .nx ρ' ∧ I4 v o e2 e3 e7 e8 e9 e10 e12 e13 e14 ρ' := by
  obtain ⟨h, e6, e11, e15, e16, e17, rfl, hh⟩ := hI
  obtain ⟨j1, h1, hj1, q1, hh1⟩ := take_i hh 4 4 rfl (by decide) (by decide)
  obtain ⟨j2, h2, hj2, q2, hh2⟩ := take_i hh1 4 4 rfl (by decide) (by decide)
  obtain ⟨x0, x1, x2, x3, h3, q3, hh3, p0, p1, p2, p3⟩ := sp_step (v := v) ho hh2 (.nm ho.1) (.nm ho.2.1) (.int o.d) (.nm ho.2.2) hj1 e2 e3 (.d (.int i)) e7 e8 e9 e10 e11 e12 e13 e14 e16 e17
  obtain ⟨y0, y1, y2, y3, h4, q4, hh4, r0, r1, r2, r3⟩ := sp_step (v := v) ho hh3 p0 p1 p2 p3 hj2 e2 e3 (.d (.int i)) e7 e8 e9 e10 e11 e12 e13 e14 (.d (.int (j1 : Int))) e17
  have lp : forM (tgtN 16) b_law_3 [.int (j1 : Int), .int (j2 : Int)] [.d v, .m h2, e2, e3, .d o.t, .d o.s, .d (.int i), e7, e8, e9, e10, e11, e12, e13, e14, .m [.str o.a, .str o.b, .int o.d, .str o.p], e16, e17] = .ok .nx [.d v, .m h4, e2, e3, .d o.t, .d o.s, .d (.int i), e7, e8, e9, e10, e11, e12, e13, e14, .m [y0, y1, y2, y3], .d (.int (j2 : Int)), e17] := by
    rw [forM_cons, q3, forK_nx, forM_cons, q4, forK_nx]
    rfl
  have g1 : s4_1 [.d v, .m h, e2, e3, .d o.t, .d o.s, .d (.int i), e7, e8, e9, e10, e11, e12, e13, e14, e15, e16, e17] = .ok .nx [.d v, .m h, e2, e3, .d o.t, .d o.s, .d (.int i), e7, e8, e9, e10, e11, e12, e13, e14, .m [.str o.a, .str o.b, .int o.d, .str o.p], e16, e17] := by kernel_rfl
  have g2 : s4_2 [.d v, .m h, e2, e3, .d o.t, .d o.s, .d (.int i), e7, e8, e9, e10, e11, e12, e13, e14, .m [.str o.a, .str o.b, .int o.d, .str o.p], e16, e17] = .ok .nx [.d v, .m h4, e2, e3, .d o.t, .d o.s, .d (.int i), e7, e8, e9, e10, e11, e12, e13, e14, .m [y0, y1, y2, y3], .d (.int (j2 : Int)), e17] := by
    unfold s4_2
    generalize o.t = T at *
    generalize o.s = S at *
    simp [startR, startH, ↓atI_cast, ↓andT_ok, ↓andT_ex, ↓andT_bad, ↓bind_ap, ↓ret_ap, ↓bad_ap, ↓andB_ok, ↓andB_t, ↓andB_f, ↓andB_ex, ↓andB_bad, ↓iteM_ap, ↓iteF_ap, ↓andM_ap, ↓orM_ap, ↓notM_ap, ↓blR_bl, ↓blM_ap, ↓andR_bl, ↓andV_ap, ↓orR_bl, ↓orV_ap, ↓notR_bl, ↓notV_ap, ↓bin_ap, ↓un_ap, ↓chR_bl, ↓chain_ap, ↓consM_ap, ↓tupM_ap, ↓lstM_ap, ↓smallT_ap, ↓smallL_ap, ↓seqM_ap, ↓seqK_nx, ↓seqK_rt, ↓seqK_rtl, ↓seqK_bk, ↓seqK_ct, ↓seqK_ex, ↓seqK_bad, ↓retM_ap, ↓dropM_ap, ↓put_ap, ↓setM_ap, ↓setC_ap, ↓setL_ap, ↓smallS_ap, ↓retL_ap, ↓smallR_ap, ↓unpM_ap, ↓lstD_ap, ↓lcM_ap, ↓smallC_ap, ↓isiM_ak, ↓isiK_ap, ↓isi2M_ak, ↓isi2K_ap, ↓callF_ap, ↓resF_ok, ↓resF_ex, ↓forS_ap, ↓forM_nil, ↓forM_cons, ↓forK_nx, ↓forK_ct, ↓forK_bk, ↓forK_rt, ↓forK_ex, ↓tryM_ap, ↓tryK_ok, ↓tryK_ex, ↓noExK_ok, ↓raiseM_ap, ↓appM_ap, ↓apps_m, ↓appK_ap, ↓appKK_m, ↓callMM_ap, ↓mmK_m, ↓mmK_h, ↓callM_ap, ↓cmK_m, ↓cmK_h, ↓resM_some, ↓callO_ap, ↓resO_some, ↓slM_ap, ↓intO_ap, ↓intK_int, ↓rd_ap, ↓rdK_d, ↓rdK_m, ↓finP_rt, ↓finP_nx, ↓finP_ex, ↓finO_rtl, ↓finM_rt, ↓finM_nx, ↓eqD_ap, ↓neD_ap, ↓inD_ap, ↓notInD_ap, ↓negD_ap, ↓isNonD_ap, ↓notNonD_ap, ↓isBlD_ap, ↓notBlD_ap, ↓lenS_ap, ↓lenT_ap, ↓lenL_ap, ↓lenC_ap, ↓intI_ap, ↓intB_ap, ↓all_ap, ↓any_ap, ↓reprI_ap, ↓reprS_ap, ↓tupT_ap, ↓tupL_ap, ↓lstT_ap, ↓lstL_ap, ↓ixT_ap, ↓ixL_ap, ↓ixC_ap, ↓ixB_ap, ↓tgetM_ap, ↓tgetK_ap, ↓tixM_ap, ↓tixK_ap, ↓tgtN_ap, ↓tgtT_tup, ↓tgtT_lst, ↓tgsNil_ap, ↓tgsCons_ap, ↓itA_lst, ↓itA_scr, ↓itA_tup, ↓itA_str, ↓hixM_ak, ↓hixK_h, ↓hixK_m, ↓hixL_ap, ↓hixR_h, ↓hixR_m, ↓subD_ap, ↓ltD_ap, ↓leD_ap, ↓gtD_ap, ↓geD_ap, ↓modD_ap, ↓fdivD_ap, ↓addL_ap, ↓addI_ap, ↓addS_ap, ↓slS_ap, ↓mulI_ap, ↓mulR_ap, optK_some, optKD_some, eqP, eqS, inP, inP.flat, inP.eqF, isN, L2.atI, L2.ixN, isiO, isi2O, tyn, L2.kitB, sbeq, toP, toPs, PySem.SeqAt.shaped, PySem.PyData.canLay0, PySem.PyData.canLayAll0, PySem.PyData.depth, PySem.PyData.depthAll, PySem.PyData.eqv, PySem.PyData.eqvAll, strOk_of, q1, q2, itA, ↓lp]
  have tb : tgtN 6 (.int i) [.d v, .m h, e2, e3, .d o.t, .d o.s, e6, e7, e8, e9, e10, e11, e12, e13, e14, e15, e16, e17] = .ok () [.d v, .m h, e2, e3, .d o.t, .d o.s, .d (.int i), e7, e8, e9, e10, e11, e12, e13, e14, e15, e16, e17] := rfl
  have qb := both (V := .lst [y0, y1, y2, y3]) (.inl rfl) r0 r1 r2 r3
  rw [bind_ap, tb, andT_ok, b_law_4_is]
  rcases qb with ⟨s, d1, d2⟩ | ⟨x, hx, d1, d2, z0, z1, z2, z3⟩
  · have g3 : s4_3 [.d v, .m h4, e2, e3, .d o.t, .d o.s, .d (.int i), e7, e8, e9, e10, e11, e12, e13, e14, .m [y0, y1, y2, y3], .d (.int (j2 : Int)), e17] = .ok .nx [.d v, .m h4, e2, e3, .d o.t, .d o.s, .d (.int i), e7, e8, e9, e10, e11, e12, e13, e14, .d (.lst [y0, y1, y2, y3]), .d (.int (j2 : Int)), .d (.str s)] := by
      unfold s4_3
      simp [startR, startH, ↓atI_cast, ↓andT_ok, ↓andT_ex, ↓andT_bad, ↓bind_ap, ↓ret_ap, ↓bad_ap, ↓andB_ok, ↓andB_t, ↓andB_f, ↓andB_ex, ↓andB_bad, ↓iteM_ap, ↓iteF_ap, ↓andM_ap, ↓orM_ap, ↓notM_ap, ↓blR_bl, ↓blM_ap, ↓andR_bl, ↓andV_ap, ↓orR_bl, ↓orV_ap, ↓notR_bl, ↓notV_ap, ↓bin_ap, ↓un_ap, ↓chR_bl, ↓chain_ap, ↓consM_ap, ↓tupM_ap, ↓lstM_ap, ↓smallT_ap, ↓smallL_ap, ↓seqM_ap, ↓seqK_nx, ↓seqK_rt, ↓seqK_rtl, ↓seqK_bk, ↓seqK_ct, ↓seqK_ex, ↓seqK_bad, ↓retM_ap, ↓dropM_ap, ↓put_ap, ↓setM_ap, ↓setC_ap, ↓setL_ap, ↓smallS_ap, ↓retL_ap, ↓smallR_ap, ↓unpM_ap, ↓lstD_ap, ↓lcM_ap, ↓smallC_ap, ↓isiM_ak, ↓isiK_ap, ↓isi2M_ak, ↓isi2K_ap, ↓callF_ap, ↓resF_ok, ↓resF_ex, ↓forS_ap, ↓forM_nil, ↓forM_cons, ↓forK_nx, ↓forK_ct, ↓forK_bk, ↓forK_rt, ↓forK_ex, ↓tryM_ap, ↓tryK_ok, ↓tryK_ex, ↓noExK_ok, ↓raiseM_ap, ↓appM_ap, ↓apps_m, ↓appK_ap, ↓appKK_m, ↓callMM_ap, ↓mmK_m, ↓mmK_h, ↓callM_ap, ↓cmK_m, ↓cmK_h, ↓resM_some, ↓callO_ap, ↓resO_some, ↓slM_ap, ↓intO_ap, ↓intK_int, ↓rd_ap, ↓rdK_d, ↓rdK_m, ↓finP_rt, ↓finP_nx, ↓finP_ex, ↓finO_rtl, ↓finM_rt, ↓finM_nx, ↓eqD_ap, ↓neD_ap, ↓inD_ap, ↓notInD_ap, ↓negD_ap, ↓isNonD_ap, ↓notNonD_ap, ↓isBlD_ap, ↓notBlD_ap, ↓lenS_ap, ↓lenT_ap, ↓lenL_ap, ↓lenC_ap, ↓intI_ap, ↓intB_ap, ↓all_ap, ↓any_ap, ↓reprI_ap, ↓reprS_ap, ↓tupT_ap, ↓tupL_ap, ↓lstT_ap, ↓lstL_ap, ↓ixT_ap, ↓ixL_ap, ↓ixC_ap, ↓ixB_ap, ↓tgetM_ap, ↓tgetK_ap, ↓tixM_ap, ↓tixK_ap, ↓tgtN_ap, ↓tgtT_tup, ↓tgtT_lst, ↓tgsNil_ap, ↓tgsCons_ap, ↓itA_lst, ↓itA_scr, ↓itA_tup, ↓itA_str, ↓hixM_ak, ↓hixK_h, ↓hixK_m, ↓hixL_ap, ↓hixR_h, ↓hixR_m, ↓subD_ap, ↓ltD_ap, ↓leD_ap, ↓gtD_ap, ↓geD_ap, ↓modD_ap, ↓fdivD_ap, ↓addL_ap, ↓addI_ap, ↓addS_ap, ↓slS_ap, ↓mulI_ap, ↓mulR_ap, optK_some, optKD_some, eqP, eqS, inP, inP.flat, inP.eqF, isN, L2.atI, L2.ixN, isiO, isi2O, tyn, L2.kitB, sbeq, toP, toPs, PySem.SeqAt.shaped, PySem.PyData.canLay0, PySem.PyData.canLayAll0, PySem.PyData.depth, PySem.PyData.depthAll, PySem.PyData.eqv, PySem.PyData.eqvAll, strOk_of, d1]
    have g4 : s4_4 [.d v, .m h4, e2, e3, .d o.t, .d o.s, .d (.int i), e7, e8, e9, e10, e11, e12, e13, e14, .d (.lst [y0, y1, y2, y3]), .d (.int (j2 : Int)), .d (.str s)] = .ok .nx [.d v, .m h4, e2, e3, .d o.t, .d o.s, .d (.int i), e7, e8, e9, e10, .d (.str s), e12, e13, e14, .d (.lst [y0, y1, y2, y3]), .d (.int (j2 : Int)), .d (.str s)] := by
      unfold s4_4
      simp [startR, startH, ↓atI_cast, ↓andT_ok, ↓andT_ex, ↓andT_bad, ↓bind_ap, ↓ret_ap, ↓bad_ap, ↓andB_ok, ↓andB_t, ↓andB_f, ↓andB_ex, ↓andB_bad, ↓iteM_ap, ↓iteF_ap, ↓andM_ap, ↓orM_ap, ↓notM_ap, ↓blR_bl, ↓blM_ap, ↓andR_bl, ↓andV_ap, ↓orR_bl, ↓orV_ap, ↓notR_bl, ↓notV_ap, ↓bin_ap, ↓un_ap, ↓chR_bl, ↓chain_ap, ↓consM_ap, ↓tupM_ap, ↓lstM_ap, ↓smallT_ap, ↓smallL_ap, ↓seqM_ap, ↓seqK_nx, ↓seqK_rt, ↓seqK_rtl, ↓seqK_bk, ↓seqK_ct, ↓seqK_ex, ↓seqK_bad, ↓retM_ap, ↓dropM_ap, ↓put_ap, ↓setM_ap, ↓setC_ap, ↓setL_ap, ↓smallS_ap, ↓retL_ap, ↓smallR_ap, ↓unpM_ap, ↓lstD_ap, ↓lcM_ap, ↓smallC_ap, ↓isiM_ak, ↓isiK_ap, ↓isi2M_ak, ↓isi2K_ap, ↓callF_ap, ↓resF_ok, ↓resF_ex, ↓forS_ap, ↓forM_nil, ↓forM_cons, ↓forK_nx, ↓forK_ct, ↓forK_bk, ↓forK_rt, ↓forK_ex, ↓tryM_ap, ↓tryK_ok, ↓tryK_ex, ↓noExK_ok, ↓raiseM_ap, ↓appM_ap, ↓apps_m, ↓appK_ap, ↓appKK_m, ↓callMM_ap, ↓mmK_m, ↓mmK_h, ↓callM_ap, ↓cmK_m, ↓cmK_h, ↓resM_some, ↓callO_ap, ↓resO_some, ↓slM_ap, ↓intO_ap, ↓intK_int, ↓rd_ap, ↓rdK_d, ↓rdK_m, ↓finP_rt, ↓finP_nx, ↓finP_ex, ↓finO_rtl, ↓finM_rt, ↓finM_nx, ↓eqD_ap, ↓neD_ap, ↓inD_ap, ↓notInD_ap, ↓negD_ap, ↓isNonD_ap, ↓notNonD_ap, ↓isBlD_ap, ↓notBlD_ap, ↓lenS_ap, ↓lenT_ap, ↓lenL_ap, ↓lenC_ap, ↓intI_ap, ↓intB_ap, ↓all_ap, ↓any_ap, ↓reprI_ap, ↓reprS_ap, ↓tupT_ap, ↓tupL_ap, ↓lstT_ap, ↓lstL_ap, ↓ixT_ap, ↓ixL_ap, ↓ixC_ap, ↓ixB_ap, ↓tgetM_ap, ↓tgetK_ap, ↓tixM_ap, ↓tixK_ap, ↓tgtN_ap, ↓tgtT_tup, ↓tgtT_lst, ↓tgsNil_ap, ↓tgsCons_ap, ↓itA_lst, ↓itA_scr, ↓itA_tup, ↓itA_str, ↓hixM_ak, ↓hixK_h, ↓hixK_m, ↓hixL_ap, ↓hixR_h, ↓hixR_m, ↓subD_ap, ↓ltD_ap, ↓leD_ap, ↓gtD_ap, ↓geD_ap, ↓modD_ap, ↓fdivD_ap, ↓addL_ap, ↓addI_ap, ↓addS_ap, ↓slS_ap, ↓mulI_ap, ↓mulR_ap, optK_some, optKD_some, eqP, eqS, inP, inP.flat, inP.eqF, isN, L2.atI, L2.ixN, isiO, isi2O, tyn, L2.kitB, sbeq, toP, toPs, PySem.SeqAt.shaped, PySem.PyData.canLay0, PySem.PyData.canLayAll0, PySem.PyData.depth, PySem.PyData.depthAll, PySem.PyData.eqv, PySem.PyData.eqvAll, strOk_of, d2]
    have g5 : s4_5 [.d v, .m h4, e2, e3, .d o.t, .d o.s, .d (.int i), e7, e8, e9, e10, .d (.str s), e12, e13, e14, .d (.lst [y0, y1, y2, y3]), .d (.int (j2 : Int)), .d (.str s)] = .ok .nx [.d v, .m h4, e2, e3, .d o.t, .d o.s, .d (.int i), e7, e8, e9, e10, .d (.str s), e12, e13, e14, .d (.lst [y0, y1, y2, y3]), .d (.int (j2 : Int)), .d (.str s)] := by
      have es := neP_s s s
      rw [beq_self_eq_true] at es
      unfold s4_5
      simp [startR, startH, ↓atI_cast, ↓andT_ok, ↓andT_ex, ↓andT_bad, ↓bind_ap, ↓ret_ap, ↓bad_ap, ↓andB_ok, ↓andB_t, ↓andB_f, ↓andB_ex, ↓andB_bad, ↓iteM_ap, ↓iteF_ap, ↓andM_ap, ↓orM_ap, ↓notM_ap, ↓blR_bl, ↓blM_ap, ↓andR_bl, ↓andV_ap, ↓orR_bl, ↓orV_ap, ↓notR_bl, ↓notV_ap, ↓bin_ap, ↓un_ap, ↓chR_bl, ↓chain_ap, ↓consM_ap, ↓tupM_ap, ↓lstM_ap, ↓smallT_ap, ↓smallL_ap, ↓seqM_ap, ↓seqK_nx, ↓seqK_rt, ↓seqK_rtl, ↓seqK_bk, ↓seqK_ct, ↓seqK_ex, ↓seqK_bad, ↓retM_ap, ↓dropM_ap, ↓put_ap, ↓setM_ap, ↓setC_ap, ↓setL_ap, ↓smallS_ap, ↓retL_ap, ↓smallR_ap, ↓unpM_ap, ↓lstD_ap, ↓lcM_ap, ↓smallC_ap, ↓isiM_ak, ↓isiK_ap, ↓isi2M_ak, ↓isi2K_ap, ↓callF_ap, ↓resF_ok, ↓resF_ex, ↓forS_ap, ↓forM_nil, ↓forM_cons, ↓forK_nx, ↓forK_ct, ↓forK_bk, ↓forK_rt, ↓forK_ex, ↓tryM_ap, ↓tryK_ok, ↓tryK_ex, ↓noExK_ok, ↓raiseM_ap, ↓appM_ap, ↓apps_m, ↓appK_ap, ↓appKK_m, ↓callMM_ap, ↓mmK_m, ↓mmK_h, ↓callM_ap, ↓cmK_m, ↓cmK_h, ↓resM_some, ↓callO_ap, ↓resO_some, ↓slM_ap, ↓intO_ap, ↓intK_int, ↓rd_ap, ↓rdK_d, ↓rdK_m, ↓finP_rt, ↓finP_nx, ↓finP_ex, ↓finO_rtl, ↓finM_rt, ↓finM_nx, ↓eqD_ap, ↓neD_ap, ↓inD_ap, ↓notInD_ap, ↓negD_ap, ↓isNonD_ap, ↓notNonD_ap, ↓isBlD_ap, ↓notBlD_ap, ↓lenS_ap, ↓lenT_ap, ↓lenL_ap, ↓lenC_ap, ↓intI_ap, ↓intB_ap, ↓all_ap, ↓any_ap, ↓reprI_ap, ↓reprS_ap, ↓tupT_ap, ↓tupL_ap, ↓lstT_ap, ↓lstL_ap, ↓ixT_ap, ↓ixL_ap, ↓ixC_ap, ↓ixB_ap, ↓tgetM_ap, ↓tgetK_ap, ↓tixM_ap, ↓tixK_ap, ↓tgtN_ap, ↓tgtT_tup, ↓tgtT_lst, ↓tgsNil_ap, ↓tgsCons_ap, ↓itA_lst, ↓itA_scr, ↓itA_tup, ↓itA_str, ↓hixM_ak, ↓hixK_h, ↓hixK_m, ↓hixL_ap, ↓hixR_h, ↓hixR_m, ↓subD_ap, ↓ltD_ap, ↓leD_ap, ↓gtD_ap, ↓geD_ap, ↓modD_ap, ↓fdivD_ap, ↓addL_ap, ↓addI_ap, ↓addS_ap, ↓slS_ap, ↓mulI_ap, ↓mulR_ap, optK_some, optKD_some, eqP, eqS, inP, inP.flat, inP.eqF, isN, L2.atI, L2.ixN, isiO, isi2O, tyn, L2.kitB, sbeq, toP, toPs, PySem.SeqAt.shaped, PySem.PyData.canLay0, PySem.PyData.canLayAll0, PySem.PyData.depth, PySem.PyData.depthAll, PySem.PyData.eqv, PySem.PyData.eqvAll, strOk_of, ↓truM_ap, ↓truR_bl, ↓es]
    refine ⟨_, (seq_nx g1).trans ((seq_nx g2).trans ((seq_nx g3).trans ((seq_nx g4).trans g5))), h4, .d (.int i), .d (.str s), .d (.lst [y0, y1, y2, y3]), .d (.int (j2 : Int)), .d (.str s), rfl, hh4⟩
  · have g3 : s4_3 [.d v, .m h4, e2, e3, .d o.t, .d o.s, .d (.int i), e7, e8, e9, e10, e11, e12, e13, e14, .m [y0, y1, y2, y3], .d (.int (j2 : Int)), e17] = .ok .nx [.d v, .m h4, e2, e3, .d o.t, .d o.s, .d (.int i), e7, e8, e9, e10, e11, e12, e13, e14, .d (.lst [y0, y1, y2, y3]), .d (.int (j2 : Int)), .d .non] := by
      unfold s4_3
      simp [startR, startH, ↓atI_cast, ↓andT_ok, ↓andT_ex, ↓andT_bad, ↓bind_ap, ↓ret_ap, ↓bad_ap, ↓andB_ok, ↓andB_t, ↓andB_f, ↓andB_ex, ↓andB_bad, ↓iteM_ap, ↓iteF_ap, ↓andM_ap, ↓orM_ap, ↓notM_ap, ↓blR_bl, ↓blM_ap, ↓andR_bl, ↓andV_ap, ↓orR_bl, ↓orV_ap, ↓notR_bl, ↓notV_ap, ↓bin_ap, ↓un_ap, ↓chR_bl, ↓chain_ap, ↓consM_ap, ↓tupM_ap, ↓lstM_ap, ↓smallT_ap, ↓smallL_ap, ↓seqM_ap, ↓seqK_nx, ↓seqK_rt, ↓seqK_rtl, ↓seqK_bk, ↓seqK_ct, ↓seqK_ex, ↓seqK_bad, ↓retM_ap, ↓dropM_ap, ↓put_ap, ↓setM_ap, ↓setC_ap, ↓setL_ap, ↓smallS_ap, ↓retL_ap, ↓smallR_ap, ↓unpM_ap, ↓lstD_ap, ↓lcM_ap, ↓smallC_ap, ↓isiM_ak, ↓isiK_ap, ↓isi2M_ak, ↓isi2K_ap, ↓callF_ap, ↓resF_ok, ↓resF_ex, ↓forS_ap, ↓forM_nil, ↓forM_cons, ↓forK_nx, ↓forK_ct, ↓forK_bk, ↓forK_rt, ↓forK_ex, ↓tryM_ap, ↓tryK_ok, ↓tryK_ex, ↓noExK_ok, ↓raiseM_ap, ↓appM_ap, ↓apps_m, ↓appK_ap, ↓appKK_m, ↓callMM_ap, ↓mmK_m, ↓mmK_h, ↓callM_ap, ↓cmK_m, ↓cmK_h, ↓resM_some, ↓callO_ap, ↓resO_some, ↓slM_ap, ↓intO_ap, ↓intK_int, ↓rd_ap, ↓rdK_d, ↓rdK_m, ↓finP_rt, ↓finP_nx, ↓finP_ex, ↓finO_rtl, ↓finM_rt, ↓finM_nx, ↓eqD_ap, ↓neD_ap, ↓inD_ap, ↓notInD_ap, ↓negD_ap, ↓isNonD_ap, ↓notNonD_ap, ↓isBlD_ap, ↓notBlD_ap, ↓lenS_ap, ↓lenT_ap, ↓lenL_ap, ↓lenC_ap, ↓intI_ap, ↓intB_ap, ↓all_ap, ↓any_ap, ↓reprI_ap, ↓reprS_ap, ↓tupT_ap, ↓tupL_ap, ↓lstT_ap, ↓lstL_ap, ↓ixT_ap, ↓ixL_ap, ↓ixC_ap, ↓ixB_ap, ↓tgetM_ap, ↓tgetK_ap, ↓tixM_ap, ↓tixK_ap, ↓tgtN_ap, ↓tgtT_tup, ↓tgtT_lst, ↓tgsNil_ap, ↓tgsCons_ap, ↓itA_lst, ↓itA_scr, ↓itA_tup, ↓itA_str, ↓hixM_ak, ↓hixK_h, ↓hixK_m, ↓hixL_ap, ↓hixR_h, ↓hixR_m, ↓subD_ap, ↓ltD_ap, ↓leD_ap, ↓gtD_ap, ↓geD_ap, ↓modD_ap, ↓fdivD_ap, ↓addL_ap, ↓addI_ap, ↓addS_ap, ↓slS_ap, ↓mulI_ap, ↓mulR_ap, optK_some, optKD_some, eqP, eqS, inP, inP.flat, inP.eqF, isN, L2.atI, L2.ixN, isiO, isi2O, tyn, L2.kitB, sbeq, toP, toPs, PySem.SeqAt.shaped, PySem.PyData.canLay0, PySem.PyData.canLayAll0, PySem.PyData.depth, PySem.PyData.depthAll, PySem.PyData.eqv, PySem.PyData.eqvAll, strOk_of, d1]
    have g4 : s4_4 [.d v, .m h4, e2, e3, .d o.t, .d o.s, .d (.int i), e7, e8, e9, e10, e11, e12, e13, e14, .d (.lst [y0, y1, y2, y3]), .d (.int (j2 : Int)), .d .non] = .ok .nx [.d v, .m h4, e2, e3, .d o.t, .d o.s, .d (.int i), e7, e8, e9, e10, .d x.s, e12, e13, e14, .d (.lst [y0, y1, y2, y3]), .d (.int (j2 : Int)), .d .non] := by
      unfold s4_4
      simp [startR, startH, ↓atI_cast, ↓andT_ok, ↓andT_ex, ↓andT_bad, ↓bind_ap, ↓ret_ap, ↓bad_ap, ↓andB_ok, ↓andB_t, ↓andB_f, ↓andB_ex, ↓andB_bad, ↓iteM_ap, ↓iteF_ap, ↓andM_ap, ↓orM_ap, ↓notM_ap, ↓blR_bl, ↓blM_ap, ↓andR_bl, ↓andV_ap, ↓orR_bl, ↓orV_ap, ↓notR_bl, ↓notV_ap, ↓bin_ap, ↓un_ap, ↓chR_bl, ↓chain_ap, ↓consM_ap, ↓tupM_ap, ↓lstM_ap, ↓smallT_ap, ↓smallL_ap, ↓seqM_ap, ↓seqK_nx, ↓seqK_rt, ↓seqK_rtl, ↓seqK_bk, ↓seqK_ct, ↓seqK_ex, ↓seqK_bad, ↓retM_ap, ↓dropM_ap, ↓put_ap, ↓setM_ap, ↓setC_ap, ↓setL_ap, ↓smallS_ap, ↓retL_ap, ↓smallR_ap, ↓unpM_ap, ↓lstD_ap, ↓lcM_ap, ↓smallC_ap, ↓isiM_ak, ↓isiK_ap, ↓isi2M_ak, ↓isi2K_ap, ↓callF_ap, ↓resF_ok, ↓resF_ex, ↓forS_ap, ↓forM_nil, ↓forM_cons, ↓forK_nx, ↓forK_ct, ↓forK_bk, ↓forK_rt, ↓forK_ex, ↓tryM_ap, ↓tryK_ok, ↓tryK_ex, ↓noExK_ok, ↓raiseM_ap, ↓appM_ap, ↓apps_m, ↓appK_ap, ↓appKK_m, ↓callMM_ap, ↓mmK_m, ↓mmK_h, ↓callM_ap, ↓cmK_m, ↓cmK_h, ↓resM_some, ↓callO_ap, ↓resO_some, ↓slM_ap, ↓intO_ap, ↓intK_int, ↓rd_ap, ↓rdK_d, ↓rdK_m, ↓finP_rt, ↓finP_nx, ↓finP_ex, ↓finO_rtl, ↓finM_rt, ↓finM_nx, ↓eqD_ap, ↓neD_ap, ↓inD_ap, ↓notInD_ap, ↓negD_ap, ↓isNonD_ap, ↓notNonD_ap, ↓isBlD_ap, ↓notBlD_ap, ↓lenS_ap, ↓lenT_ap, ↓lenL_ap, ↓lenC_ap, ↓intI_ap, ↓intB_ap, ↓all_ap, ↓any_ap, ↓reprI_ap, ↓reprS_ap, ↓tupT_ap, ↓tupL_ap, ↓lstT_ap, ↓lstL_ap, ↓ixT_ap, ↓ixL_ap, ↓ixC_ap, ↓ixB_ap, ↓tgetM_ap, ↓tgetK_ap, ↓tixM_ap, ↓tixK_ap, ↓tgtN_ap, ↓tgtT_tup, ↓tgtT_lst, ↓tgsNil_ap, ↓tgsCons_ap, ↓itA_lst, ↓itA_scr, ↓itA_tup, ↓itA_str, ↓hixM_ak, ↓hixK_h, ↓hixK_m, ↓hixL_ap, ↓hixR_h, ↓hixR_m, ↓subD_ap, ↓ltD_ap, ↓leD_ap, ↓gtD_ap, ↓geD_ap, ↓modD_ap, ↓fdivD_ap, ↓addL_ap, ↓addI_ap, ↓addS_ap, ↓slS_ap, ↓mulI_ap, ↓mulR_ap, optK_some, optKD_some, eqP, eqS, inP, inP.flat, inP.eqF, isN, L2.atI, L2.ixN, isiO, isi2O, tyn, L2.kitB, sbeq, toP, toPs, PySem.SeqAt.shaped, PySem.PyData.canLay0, PySem.PyData.canLayAll0, PySem.PyData.depth, PySem.PyData.depthAll, PySem.PyData.eqv, PySem.PyData.eqvAll, strOk_of, d2]
    have g5 : s4_5 [.d v, .m h4, e2, e3, .d o.t, .d o.s, .d (.int i), e7, e8, e9, e10, .d x.s, e12, e13, e14, .d (.lst [y0, y1, y2, y3]), .d (.int (j2 : Int)), .d .non] = .ok .nx [.d v, .m h4, e2, e3, .d o.t, .d o.s, .d (.int i), e7, e8, e9, e10, .d x.s, e12, e13, e14, .d (.lst [y0, y1, y2, y3]), .d (.int (j2 : Int)), .d .non] := by
      have i1 := isiC_s x
      have i2 := parts_ok x
      have tx : ∀ ρ, tupleC [.lst [y0, y1, y2, y3]] ρ = .ok x.t ρ := fun ρ => by rw [z0, z1, z2, z3]; exact nr rfl
      have to : ∀ ρ, tupleC [o.t] ρ = .ok o.t ρ := fun ρ => nr rfl
      have z1e := eqP_t hx hx
      rw [same_self] at z1e
      have z2e := eqP_t hx ho
      have z3e := eqX_ss x o
      have ul := unlike_ok (same x o)
      generalize same x o = b at *
      generalize x.t = XT at *
      generalize x.s = XS at *
      generalize o.t = T at *
      generalize o.s = S at *
      unfold s4_5
      simp [startR, startH, ↓atI_cast, ↓andT_ok, ↓andT_ex, ↓andT_bad, ↓bind_ap, ↓ret_ap, ↓bad_ap, ↓andB_ok, ↓andB_t, ↓andB_f, ↓andB_ex, ↓andB_bad, ↓iteM_ap, ↓iteF_ap, ↓andM_ap, ↓orM_ap, ↓notM_ap, ↓blR_bl, ↓blM_ap, ↓andR_bl, ↓andV_ap, ↓orR_bl, ↓orV_ap, ↓notR_bl, ↓notV_ap, ↓bin_ap, ↓un_ap, ↓chR_bl, ↓chain_ap, ↓consM_ap, ↓tupM_ap, ↓lstM_ap, ↓smallT_ap, ↓smallL_ap, ↓seqM_ap, ↓seqK_nx, ↓seqK_rt, ↓seqK_rtl, ↓seqK_bk, ↓seqK_ct, ↓seqK_ex, ↓seqK_bad, ↓retM_ap, ↓dropM_ap, ↓put_ap, ↓setM_ap, ↓setC_ap, ↓setL_ap, ↓smallS_ap, ↓retL_ap, ↓smallR_ap, ↓unpM_ap, ↓lstD_ap, ↓lcM_ap, ↓smallC_ap, ↓isiM_ak, ↓isiK_ap, ↓isi2M_ak, ↓isi2K_ap, ↓callF_ap, ↓resF_ok, ↓resF_ex, ↓forS_ap, ↓forM_nil, ↓forM_cons, ↓forK_nx, ↓forK_ct, ↓forK_bk, ↓forK_rt, ↓forK_ex, ↓tryM_ap, ↓tryK_ok, ↓tryK_ex, ↓noExK_ok, ↓raiseM_ap, ↓appM_ap, ↓apps_m, ↓appK_ap, ↓appKK_m, ↓callMM_ap, ↓mmK_m, ↓mmK_h, ↓callM_ap, ↓cmK_m, ↓cmK_h, ↓resM_some, ↓callO_ap, ↓resO_some, ↓slM_ap, ↓intO_ap, ↓intK_int, ↓rd_ap, ↓rdK_d, ↓rdK_m, ↓finP_rt, ↓finP_nx, ↓finP_ex, ↓finO_rtl, ↓finM_rt, ↓finM_nx, ↓eqD_ap, ↓neD_ap, ↓inD_ap, ↓notInD_ap, ↓negD_ap, ↓isNonD_ap, ↓notNonD_ap, ↓isBlD_ap, ↓notBlD_ap, ↓lenS_ap, ↓lenT_ap, ↓lenL_ap, ↓lenC_ap, ↓intI_ap, ↓intB_ap, ↓all_ap, ↓any_ap, ↓reprI_ap, ↓reprS_ap, ↓tupT_ap, ↓tupL_ap, ↓lstT_ap, ↓lstL_ap, ↓ixT_ap, ↓ixL_ap, ↓ixC_ap, ↓ixB_ap, ↓tgetM_ap, ↓tgetK_ap, ↓tixM_ap, ↓tixK_ap, ↓tgtN_ap, ↓tgtT_tup, ↓tgtT_lst, ↓tgsNil_ap, ↓tgsCons_ap, ↓itA_lst, ↓itA_scr, ↓itA_tup, ↓itA_str, ↓hixM_ak, ↓hixK_h, ↓hixK_m, ↓hixL_ap, ↓hixR_h, ↓hixR_m, ↓subD_ap, ↓ltD_ap, ↓leD_ap, ↓gtD_ap, ↓geD_ap, ↓modD_ap, ↓fdivD_ap, ↓addL_ap, ↓addI_ap, ↓addS_ap, ↓slS_ap, ↓mulI_ap, ↓mulR_ap, optK_some, optKD_some, eqP, eqS, inP, inP.flat, inP.eqF, isN, L2.atI, L2.ixN, isiO, isi2O, tyn, L2.kitB, sbeq, toP, toPs, PySem.SeqAt.shaped, PySem.PyData.canLay0, PySem.PyData.canLayAll0, PySem.PyData.depth, PySem.PyData.depthAll, PySem.PyData.eqv, PySem.PyData.eqvAll, strOk_of, ↓truM_ap, ↓truR_bl, ↓isiCM_ap, optM_ap, optK_some, i1, i2, ↓tx, ↓to, ↓z1e, ↓z2e, ↓z3e, ul]
    refine ⟨_, (seq_nx g1).trans ((seq_nx g2).trans ((seq_nx g3).trans ((seq_nx g4).trans g5))), h4, .d (.int i), .d x.s, .d (.lst [y0, y1, y2, y3]), .d (.int (j2 : Int)), .d .non, rfl, hh4⟩
end De

set_option Elab.async false
set_option linter.all false
set_option maxRecDepth 100000
set_option maxHeartbeats 1000000
namespace De
open K05
open PySem (Str sizeLine_eq)
/-! a turn of the law -/
def WG3 (W : D) : Prop := ∃ A B, W = .lst [.lst A, .lst B] ∧ Nms A ∧ Nms B ∧ A.length = 3
theorem WG3.wg {W : D} (h : WG3 W) : WG W := let ⟨A, B, e, a, b, _⟩ := h; ⟨A, B, e, a, b⟩
theorem world3_ok {h : List D} (hh : HG h) : ∃ (W : D) (h' : List D), F__law_world h [] = some (W, h') ∧ HG h' ∧ WG3 W := by
  obtain ⟨xs, h1, e1, hh1, a1, a2⟩ := names_ok hh 3 3 rfl (by decide)
  obtain ⟨ys, h2, e2, hh2, b1, b2⟩ := names_ok hh1 2 2 rfl (by decide)
  refine ⟨.lst [.lst (xs.map D.str), .lst (ys.map D.str)], h2, ?_, hh2, _, _, rfl, nms_of a1 a2 (by decide) (by decide), nms_of b1 b2 (by decide) (by decide), by rw [List.length_map]; exact a2⟩
  unfold F__law_world mkM g__law_world
  simp [startR, startH, ↓atI_cast, ↓andT_ok, ↓andT_ex, ↓andT_bad, ↓bind_ap, ↓ret_ap, ↓bad_ap, ↓andB_ok, ↓andB_t, ↓andB_f, ↓andB_ex, ↓andB_bad, ↓iteM_ap, ↓iteF_ap, ↓andM_ap, ↓orM_ap, ↓notM_ap, ↓blR_bl, ↓blM_ap, ↓andR_bl, ↓andV_ap, ↓orR_bl, ↓orV_ap, ↓notR_bl, ↓notV_ap, ↓bin_ap, ↓un_ap, ↓chR_bl, ↓chain_ap, ↓consM_ap, ↓tupM_ap, ↓lstM_ap, ↓smallT_ap, ↓smallL_ap, ↓seqM_ap, ↓seqK_nx, ↓seqK_rt, ↓seqK_rtl, ↓seqK_bk, ↓seqK_ct, ↓seqK_ex, ↓seqK_bad, ↓retM_ap, ↓dropM_ap, ↓put_ap, ↓setM_ap, ↓setC_ap, ↓setL_ap, ↓smallS_ap, ↓retL_ap, ↓smallR_ap, ↓unpM_ap, ↓lstD_ap, ↓lcM_ap, ↓smallC_ap, ↓isiM_ak, ↓isiK_ap, ↓isi2M_ak, ↓isi2K_ap, ↓callF_ap, ↓resF_ok, ↓resF_ex, ↓forS_ap, ↓forM_nil, ↓forM_cons, ↓forK_nx, ↓forK_ct, ↓forK_bk, ↓forK_rt, ↓forK_ex, ↓tryM_ap, ↓tryK_ok, ↓tryK_ex, ↓noExK_ok, ↓raiseM_ap, ↓appM_ap, ↓apps_m, ↓appK_ap, ↓appKK_m, ↓callMM_ap, ↓mmK_m, ↓mmK_h, ↓callM_ap, ↓cmK_m, ↓cmK_h, ↓resM_some, ↓callO_ap, ↓resO_some, ↓slM_ap, ↓intO_ap, ↓intK_int, ↓rd_ap, ↓rdK_d, ↓rdK_m, ↓finP_rt, ↓finP_nx, ↓finP_ex, ↓finO_rtl, ↓finM_rt, ↓finM_nx, ↓eqD_ap, ↓neD_ap, ↓inD_ap, ↓notInD_ap, ↓negD_ap, ↓isNonD_ap, ↓notNonD_ap, ↓isBlD_ap, ↓notBlD_ap, ↓lenS_ap, ↓lenT_ap, ↓lenL_ap, ↓lenC_ap, ↓intI_ap, ↓intB_ap, ↓all_ap, ↓any_ap, ↓reprI_ap, ↓reprS_ap, ↓tupT_ap, ↓tupL_ap, ↓lstT_ap, ↓lstL_ap, ↓ixT_ap, ↓ixL_ap, ↓ixC_ap, ↓ixB_ap, ↓tgetM_ap, ↓tgetK_ap, ↓tixM_ap, ↓tixK_ap, ↓tgtN_ap, ↓tgtT_tup, ↓tgtT_lst, ↓tgsNil_ap, ↓tgsCons_ap, ↓itA_lst, ↓itA_scr, ↓itA_tup, ↓itA_str, ↓hixM_ak, ↓hixK_h, ↓hixK_m, ↓hixL_ap, ↓hixR_h, ↓hixR_m, ↓subD_ap, ↓ltD_ap, ↓leD_ap, ↓gtD_ap, ↓geD_ap, ↓modD_ap, ↓fdivD_ap, ↓addL_ap, ↓addI_ap, ↓addS_ap, ↓slS_ap, ↓mulI_ap, ↓mulR_ap, optK_some, optKD_some, eqP, eqS, inP, inP.flat, inP.eqF, isN, L2.atI, L2.ixN, isiO, isi2O, tyn, L2.kitB, sbeq, toP, toPs, PySem.SeqAt.shaped, PySem.PyData.canLay0, PySem.PyData.canLayAll0, PySem.PyData.depth, PySem.PyData.depthAll, PySem.PyData.eqv, PySem.PyData.eqvAll, strOk_of, e1, e2]
theorem big40 {h : List D} (hh : HG h) : ∃ (B : Nat) (u : Nat) (h' : List D), De.bin powD (De.ret (.int 10)) (De.ret (.int 40)) = De.ret (.int (B : Int)) ∧ F__law_take h [.int (2 * (B : Int))] = some (.int (u : Int), h') ∧ HG h' := by
  obtain ⟨B, B0, B1, hB⟩ := powB 10 40 (by decide) (by decide) (by decide)
  have lg : (2 * B).log2 < 9000 := Nat.lt_trans ((Nat.log2_lt (by omega) (k := 200)).2 (by rw [B1]; decide)) (by decide)
  obtain ⟨u, h', _, e, hh'⟩ := take_i hh (2 * B) (2 * (B : Int)) (by omega) (by omega) lg
  exact ⟨B, u, h', hB, e, hh'⟩
def IsI (d : D) : Prop := ∃ i : Int, d = .int i
section
variable {v W : D} {i : Int} {e4 e5 e6 e7 e8 e9 e10 e11 e12 e13 e14 e15 e16 e17 : EV}
theorem t1 (hW : WG3 W) {h : List D} (hh : HG h) : ∃ (o : Own4) (h' : List D), s5_1 [.d v, .m h, .d W, .d (.int i), e4, e5, e6, e7, e8, e9, e10, e11, e12, e13, e14, e15, e16, e17] = .ok .nx [.d v, .m h', .d W, .d (.int i), .d o.t, e5, e6, e7, e8, e9, e10, e11, e12, e13, e14, e15, e16, e17] ∧ HG h' ∧ o.ok := by
  obtain ⟨o, h', q, hh', ho⟩ := situ_ok hh hW.wg
  refine ⟨o, h', ?_, hh', ho⟩
  unfold s5_1
  generalize o.t = T at *
  simp [startR, startH, ↓atI_cast, ↓andT_ok, ↓andT_ex, ↓andT_bad, ↓bind_ap, ↓ret_ap, ↓bad_ap, ↓andB_ok, ↓andB_t, ↓andB_f, ↓andB_ex, ↓andB_bad, ↓iteM_ap, ↓iteF_ap, ↓andM_ap, ↓orM_ap, ↓notM_ap, ↓blR_bl, ↓blM_ap, ↓andR_bl, ↓andV_ap, ↓orR_bl, ↓orV_ap, ↓notR_bl, ↓notV_ap, ↓bin_ap, ↓un_ap, ↓chR_bl, ↓chain_ap, ↓consM_ap, ↓tupM_ap, ↓lstM_ap, ↓smallT_ap, ↓smallL_ap, ↓seqM_ap, ↓seqK_nx, ↓seqK_rt, ↓seqK_rtl, ↓seqK_bk, ↓seqK_ct, ↓seqK_ex, ↓seqK_bad, ↓retM_ap, ↓dropM_ap, ↓put_ap, ↓setM_ap, ↓setC_ap, ↓setL_ap, ↓smallS_ap, ↓retL_ap, ↓smallR_ap, ↓unpM_ap, ↓lstD_ap, ↓lcM_ap, ↓smallC_ap, ↓isiM_ak, ↓isiK_ap, ↓isi2M_ak, ↓isi2K_ap, ↓callF_ap, ↓resF_ok, ↓resF_ex, ↓forS_ap, ↓forM_nil, ↓forM_cons, ↓forK_nx, ↓forK_ct, ↓forK_bk, ↓forK_rt, ↓forK_ex, ↓tryM_ap, ↓tryK_ok, ↓tryK_ex, ↓noExK_ok, ↓raiseM_ap, ↓appM_ap, ↓apps_m, ↓appK_ap, ↓appKK_m, ↓callMM_ap, ↓mmK_m, ↓mmK_h, ↓callM_ap, ↓cmK_m, ↓cmK_h, ↓resM_some, ↓callO_ap, ↓resO_some, ↓slM_ap, ↓intO_ap, ↓intK_int, ↓rd_ap, ↓rdK_d, ↓rdK_m, ↓finP_rt, ↓finP_nx, ↓finP_ex, ↓finO_rtl, ↓finM_rt, ↓finM_nx, ↓eqD_ap, ↓neD_ap, ↓inD_ap, ↓notInD_ap, ↓negD_ap, ↓isNonD_ap, ↓notNonD_ap, ↓isBlD_ap, ↓notBlD_ap, ↓lenS_ap, ↓lenT_ap, ↓lenL_ap, ↓lenC_ap, ↓intI_ap, ↓intB_ap, ↓all_ap, ↓any_ap, ↓reprI_ap, ↓reprS_ap, ↓tupT_ap, ↓tupL_ap, ↓lstT_ap, ↓lstL_ap, ↓ixT_ap, ↓ixL_ap, ↓ixC_ap, ↓ixB_ap, ↓tgetM_ap, ↓tgetK_ap, ↓tixM_ap, ↓tixK_ap, ↓tgtN_ap, ↓tgtT_tup, ↓tgtT_lst, ↓tgsNil_ap, ↓tgsCons_ap, ↓itA_lst, ↓itA_scr, ↓itA_tup, ↓itA_str, ↓hixM_ak, ↓hixK_h, ↓hixK_m, ↓hixL_ap, ↓hixR_h, ↓hixR_m, ↓subD_ap, ↓ltD_ap, ↓leD_ap, ↓gtD_ap, ↓geD_ap, ↓modD_ap, ↓fdivD_ap, ↓addL_ap, ↓addI_ap, ↓addS_ap, ↓slS_ap, ↓mulI_ap, ↓mulR_ap, optK_some, optKD_some, eqP, eqS, inP, inP.flat, inP.eqF, isN, L2.atI, L2.ixN, isiO, isi2O, tyn, L2.kitB, sbeq, toP, toPs, PySem.SeqAt.shaped, PySem.PyData.canLay0, PySem.PyData.canLayAll0, PySem.PyData.depth, PySem.PyData.depthAll, PySem.PyData.eqv, PySem.PyData.eqvAll, strOk_of, q]
theorem t2 {o : Own4} (ho : o.ok) {h : List D} (hh : HG h) : ∃ (x : Own4) (h' : List D), s5_2 [.d v, .m h, .d W, .d (.int i), .d o.t, e5, e6, e7, e8, e9, e10, e11, e12, e13, e14, e15, e16, e17] = .ok .nx [.d v, .m h', .d W, .d (.int i), .d x.t, e5, e6, e7, e8, e9, e10, e11, e12, e13, e14, e15, e16, e17] ∧ HG h' ∧ x.ok := by
  by_cases c : i = 1
  · obtain ⟨a, h1, q1, hh1, ha⟩ := name_ok hh
    obtain ⟨b, h2, q2, hh2, hb⟩ := name_ok hh1
    obtain ⟨B, u, h3, hB, q3, hh3⟩ := big40 hh2
    obtain ⟨p, h4, q4, hh4, hp⟩ := name_ok hh3
    refine ⟨⟨a, b, (u : Int) - B, p⟩, h4, ?_, hh4, ha, hb, hp⟩
    have e : Own4.t ⟨a, b, (u : Int) - B, p⟩ = .tup [.str a, .str b, .int ((u : Int) - B), .str p] := rfl
    have i2 : in64 2 = true := by decide
    rw [e]
    unfold s5_2
    rw [hB]
    simp [startR, startH, ↓atI_cast, ↓andT_ok, ↓andT_ex, ↓andT_bad, ↓bind_ap, ↓ret_ap, ↓bad_ap, ↓andB_ok, ↓andB_t, ↓andB_f, ↓andB_ex, ↓andB_bad, ↓iteM_ap, ↓iteF_ap, ↓andM_ap, ↓orM_ap, ↓notM_ap, ↓blR_bl, ↓blM_ap, ↓andR_bl, ↓andV_ap, ↓orR_bl, ↓orV_ap, ↓notR_bl, ↓notV_ap, ↓bin_ap, ↓un_ap, ↓chR_bl, ↓chain_ap, ↓consM_ap, ↓tupM_ap, ↓lstM_ap, ↓smallT_ap, ↓smallL_ap, ↓seqM_ap, ↓seqK_nx, ↓seqK_rt, ↓seqK_rtl, ↓seqK_bk, ↓seqK_ct, ↓seqK_ex, ↓seqK_bad, ↓retM_ap, ↓dropM_ap, ↓put_ap, ↓setM_ap, ↓setC_ap, ↓setL_ap, ↓smallS_ap, ↓retL_ap, ↓smallR_ap, ↓unpM_ap, ↓lstD_ap, ↓lcM_ap, ↓smallC_ap, ↓isiM_ak, ↓isiK_ap, ↓isi2M_ak, ↓isi2K_ap, ↓callF_ap, ↓resF_ok, ↓resF_ex, ↓forS_ap, ↓forM_nil, ↓forM_cons, ↓forK_nx, ↓forK_ct, ↓forK_bk, ↓forK_rt, ↓forK_ex, ↓tryM_ap, ↓tryK_ok, ↓tryK_ex, ↓noExK_ok, ↓raiseM_ap, ↓appM_ap, ↓apps_m, ↓appK_ap, ↓appKK_m, ↓callMM_ap, ↓mmK_m, ↓mmK_h, ↓callM_ap, ↓cmK_m, ↓cmK_h, ↓resM_some, ↓callO_ap, ↓resO_some, ↓slM_ap, ↓intO_ap, ↓intK_int, ↓rd_ap, ↓rdK_d, ↓rdK_m, ↓finP_rt, ↓finP_nx, ↓finP_ex, ↓finO_rtl, ↓finM_rt, ↓finM_nx, ↓eqD_ap, ↓neD_ap, ↓inD_ap, ↓notInD_ap, ↓negD_ap, ↓isNonD_ap, ↓notNonD_ap, ↓isBlD_ap, ↓notBlD_ap, ↓lenS_ap, ↓lenT_ap, ↓lenL_ap, ↓lenC_ap, ↓intI_ap, ↓intB_ap, ↓all_ap, ↓any_ap, ↓reprI_ap, ↓reprS_ap, ↓tupT_ap, ↓tupL_ap, ↓lstT_ap, ↓lstL_ap, ↓ixT_ap, ↓ixL_ap, ↓ixC_ap, ↓ixB_ap, ↓tgetM_ap, ↓tgetK_ap, ↓tixM_ap, ↓tixK_ap, ↓tgtN_ap, ↓tgtT_tup, ↓tgtT_lst, ↓tgsNil_ap, ↓tgsCons_ap, ↓itA_lst, ↓itA_scr, ↓itA_tup, ↓itA_str, ↓hixM_ak, ↓hixK_h, ↓hixK_m, ↓hixL_ap, ↓hixR_h, ↓hixR_m, ↓subD_ap, ↓ltD_ap, ↓leD_ap, ↓gtD_ap, ↓geD_ap, ↓modD_ap, ↓fdivD_ap, ↓addL_ap, ↓addI_ap, ↓addS_ap, ↓slS_ap, ↓mulI_ap, ↓mulR_ap, optK_some, optKD_some, eqP, eqS, inP, inP.flat, inP.eqF, isN, L2.atI, L2.ixN, isiO, isi2O, tyn, L2.kitB, sbeq, toP, toPs, PySem.SeqAt.shaped, PySem.PyData.canLay0, PySem.PyData.canLayAll0, PySem.PyData.depth, PySem.PyData.depthAll, PySem.PyData.eqv, PySem.PyData.eqvAll, strOk_of, c, q1, q2, q3, q4, i2]
  · refine ⟨o, h, ?_, hh, ho⟩
    have c' : (i == 1) = false := beq_eq_false_iff_ne.2 c
    unfold s5_2
    simp [startR, startH, ↓atI_cast, ↓andT_ok, ↓andT_ex, ↓andT_bad, ↓bind_ap, ↓ret_ap, ↓bad_ap, ↓andB_ok, ↓andB_t, ↓andB_f, ↓andB_ex, ↓andB_bad, ↓iteM_ap, ↓iteF_ap, ↓andM_ap, ↓orM_ap, ↓notM_ap, ↓blR_bl, ↓blM_ap, ↓andR_bl, ↓andV_ap, ↓orR_bl, ↓orV_ap, ↓notR_bl, ↓notV_ap, ↓bin_ap, ↓un_ap, ↓chR_bl, ↓chain_ap, ↓consM_ap, ↓tupM_ap, ↓lstM_ap, ↓smallT_ap, ↓smallL_ap, ↓seqM_ap, ↓seqK_nx, ↓seqK_rt, ↓seqK_rtl, ↓seqK_bk, ↓seqK_ct, ↓seqK_ex, ↓seqK_bad, ↓retM_ap, ↓dropM_ap, ↓put_ap, ↓setM_ap, ↓setC_ap, ↓setL_ap, ↓smallS_ap, ↓retL_ap, ↓smallR_ap, ↓unpM_ap, ↓lstD_ap, ↓lcM_ap, ↓smallC_ap, ↓isiM_ak, ↓isiK_ap, ↓isi2M_ak, ↓isi2K_ap, ↓callF_ap, ↓resF_ok, ↓resF_ex, ↓forS_ap, ↓forM_nil, ↓forM_cons, ↓forK_nx, ↓forK_ct, ↓forK_bk, ↓forK_rt, ↓forK_ex, ↓tryM_ap, ↓tryK_ok, ↓tryK_ex, ↓noExK_ok, ↓raiseM_ap, ↓appM_ap, ↓apps_m, ↓appK_ap, ↓appKK_m, ↓callMM_ap, ↓mmK_m, ↓mmK_h, ↓callM_ap, ↓cmK_m, ↓cmK_h, ↓resM_some, ↓callO_ap, ↓resO_some, ↓slM_ap, ↓intO_ap, ↓intK_int, ↓rd_ap, ↓rdK_d, ↓rdK_m, ↓finP_rt, ↓finP_nx, ↓finP_ex, ↓finO_rtl, ↓finM_rt, ↓finM_nx, ↓eqD_ap, ↓neD_ap, ↓inD_ap, ↓notInD_ap, ↓negD_ap, ↓isNonD_ap, ↓notNonD_ap, ↓isBlD_ap, ↓notBlD_ap, ↓lenS_ap, ↓lenT_ap, ↓lenL_ap, ↓lenC_ap, ↓intI_ap, ↓intB_ap, ↓all_ap, ↓any_ap, ↓reprI_ap, ↓reprS_ap, ↓tupT_ap, ↓tupL_ap, ↓lstT_ap, ↓lstL_ap, ↓ixT_ap, ↓ixL_ap, ↓ixC_ap, ↓ixB_ap, ↓tgetM_ap, ↓tgetK_ap, ↓tixM_ap, ↓tixK_ap, ↓tgtN_ap, ↓tgtT_tup, ↓tgtT_lst, ↓tgsNil_ap, ↓tgsCons_ap, ↓itA_lst, ↓itA_scr, ↓itA_tup, ↓itA_str, ↓hixM_ak, ↓hixK_h, ↓hixK_m, ↓hixL_ap, ↓hixR_h, ↓hixR_m, ↓subD_ap, ↓ltD_ap, ↓leD_ap, ↓gtD_ap, ↓geD_ap, ↓modD_ap, ↓fdivD_ap, ↓addL_ap, ↓addI_ap, ↓addS_ap, ↓slS_ap, ↓mulI_ap, ↓mulR_ap, optK_some, optKD_some, eqP, eqS, inP, inP.flat, inP.eqF, isN, L2.atI, L2.ixN, isiO, isi2O, tyn, L2.kitB, sbeq, toP, toPs, PySem.SeqAt.shaped, PySem.PyData.canLay0, PySem.PyData.canLayAll0, PySem.PyData.depth, PySem.PyData.depthAll, PySem.PyData.eqv, PySem.PyData.eqvAll, strOk_of, c, c']
theorem t3 {o : Own4} (ho : o.ok) {h : List D} : s5_3 [.d v, .m h, .d W, .d (.int i), .d o.t, e5, e6, e7, e8, e9, e10, e11, e12, e13, e14, e15, e16, e17] = .ok .nx [.d v, .m h, .d W, .d (.int i), .d o.t, .d o.s, e6, e7, e8, e9, e10, e11, e12, e13, e14, e15, e16, e17] := by
  have q : F__law_tried [o.t] = .ok o.s := tried_ok (.inr rfl) (made_ok ho)
  unfold s5_3
  generalize o.t = T at *
  generalize o.s = S at *
  simp [startR, startH, ↓atI_cast, ↓andT_ok, ↓andT_ex, ↓andT_bad, ↓bind_ap, ↓ret_ap, ↓bad_ap, ↓andB_ok, ↓andB_t, ↓andB_f, ↓andB_ex, ↓andB_bad, ↓iteM_ap, ↓iteF_ap, ↓andM_ap, ↓orM_ap, ↓notM_ap, ↓blR_bl, ↓blM_ap, ↓andR_bl, ↓andV_ap, ↓orR_bl, ↓orV_ap, ↓notR_bl, ↓notV_ap, ↓bin_ap, ↓un_ap, ↓chR_bl, ↓chain_ap, ↓consM_ap, ↓tupM_ap, ↓lstM_ap, ↓smallT_ap, ↓smallL_ap, ↓seqM_ap, ↓seqK_nx, ↓seqK_rt, ↓seqK_rtl, ↓seqK_bk, ↓seqK_ct, ↓seqK_ex, ↓seqK_bad, ↓retM_ap, ↓dropM_ap, ↓put_ap, ↓setM_ap, ↓setC_ap, ↓setL_ap, ↓smallS_ap, ↓retL_ap, ↓smallR_ap, ↓unpM_ap, ↓lstD_ap, ↓lcM_ap, ↓smallC_ap, ↓isiM_ak, ↓isiK_ap, ↓isi2M_ak, ↓isi2K_ap, ↓callF_ap, ↓resF_ok, ↓resF_ex, ↓forS_ap, ↓forM_nil, ↓forM_cons, ↓forK_nx, ↓forK_ct, ↓forK_bk, ↓forK_rt, ↓forK_ex, ↓tryM_ap, ↓tryK_ok, ↓tryK_ex, ↓noExK_ok, ↓raiseM_ap, ↓appM_ap, ↓apps_m, ↓appK_ap, ↓appKK_m, ↓callMM_ap, ↓mmK_m, ↓mmK_h, ↓callM_ap, ↓cmK_m, ↓cmK_h, ↓resM_some, ↓callO_ap, ↓resO_some, ↓slM_ap, ↓intO_ap, ↓intK_int, ↓rd_ap, ↓rdK_d, ↓rdK_m, ↓finP_rt, ↓finP_nx, ↓finP_ex, ↓finO_rtl, ↓finM_rt, ↓finM_nx, ↓eqD_ap, ↓neD_ap, ↓inD_ap, ↓notInD_ap, ↓negD_ap, ↓isNonD_ap, ↓notNonD_ap, ↓isBlD_ap, ↓notBlD_ap, ↓lenS_ap, ↓lenT_ap, ↓lenL_ap, ↓lenC_ap, ↓intI_ap, ↓intB_ap, ↓all_ap, ↓any_ap, ↓reprI_ap, ↓reprS_ap, ↓tupT_ap, ↓tupL_ap, ↓lstT_ap, ↓lstL_ap, ↓ixT_ap, ↓ixL_ap, ↓ixC_ap, ↓ixB_ap, ↓tgetM_ap, ↓tgetK_ap, ↓tixM_ap, ↓tixK_ap, ↓tgtN_ap, ↓tgtT_tup, ↓tgtT_lst, ↓tgsNil_ap, ↓tgsCons_ap, ↓itA_lst, ↓itA_scr, ↓itA_tup, ↓itA_str, ↓hixM_ak, ↓hixK_h, ↓hixK_m, ↓hixL_ap, ↓hixR_h, ↓hixR_m, ↓subD_ap, ↓ltD_ap, ↓leD_ap, ↓gtD_ap, ↓geD_ap, ↓modD_ap, ↓fdivD_ap, ↓addL_ap, ↓addI_ap, ↓addS_ap, ↓slS_ap, ↓mulI_ap, ↓mulR_ap, optK_some, optKD_some, eqP, eqS, inP, inP.flat, inP.eqF, isN, L2.atI, L2.ixN, isiO, isi2O, tyn, L2.kitB, sbeq, toP, toPs, PySem.SeqAt.shaped, PySem.PyData.canLay0, PySem.PyData.canLayAll0, PySem.PyData.depth, PySem.PyData.depthAll, PySem.PyData.eqv, PySem.PyData.eqvAll, strOk_of, q]
theorem t4 {o : Own4} (ho : o.ok) {h : List D} : s5_4 [.d v, .m h, .d W, .d (.int i), .d o.t, .d o.s, e6, e7, e8, e9, e10, e11, e12, e13, e14, e15, e16, e17] = .ok .nx [.d v, .m h, .d W, .d (.int i), .d o.t, .d o.s, e6, e7, e8, e9, e10, e11, e12, e13, e14, e15, e16, e17] := by
  have i1 := isiC_s o
  have i2 := parts_ok o
  have to : ∀ ρ, tupleC [o.t] ρ = .ok o.t ρ := fun ρ => nr rfl
  have z1e := eqP_t ho ho
  rw [same_self] at z1e
  have fd : fldM fc_day "day" (rd 5) [.d v, .m h, .d W, .d (.int i), .d o.t, .d o.s, e6, e7, e8, e9, e10, e11, e12, e13, e14, e15, e16, e17] = .ok (.int o.d) [.d v, .m h, .d W, .d (.int i), .d o.t, .d o.s, e6, e7, e8, e9, e10, e11, e12, e13, e14, e15, e16, e17] := by kernel_rfl
  have w := lwhole_int o.d
  unfold s5_4
  generalize o.t = T at *
  generalize o.s = S at *
  simp [startR, startH, ↓atI_cast, ↓andT_ok, ↓andT_ex, ↓andT_bad, ↓bind_ap, ↓ret_ap, ↓bad_ap, ↓andB_ok, ↓andB_t, ↓andB_f, ↓andB_ex, ↓andB_bad, ↓iteM_ap, ↓iteF_ap, ↓andM_ap, ↓orM_ap, ↓notM_ap, ↓blR_bl, ↓blM_ap, ↓andR_bl, ↓andV_ap, ↓orR_bl, ↓orV_ap, ↓notR_bl, ↓notV_ap, ↓bin_ap, ↓un_ap, ↓chR_bl, ↓chain_ap, ↓consM_ap, ↓tupM_ap, ↓lstM_ap, ↓smallT_ap, ↓smallL_ap, ↓seqM_ap, ↓seqK_nx, ↓seqK_rt, ↓seqK_rtl, ↓seqK_bk, ↓seqK_ct, ↓seqK_ex, ↓seqK_bad, ↓retM_ap, ↓dropM_ap, ↓put_ap, ↓setM_ap, ↓setC_ap, ↓setL_ap, ↓smallS_ap, ↓retL_ap, ↓smallR_ap, ↓unpM_ap, ↓lstD_ap, ↓lcM_ap, ↓smallC_ap, ↓isiM_ak, ↓isiK_ap, ↓isi2M_ak, ↓isi2K_ap, ↓callF_ap, ↓resF_ok, ↓resF_ex, ↓forS_ap, ↓forM_nil, ↓forM_cons, ↓forK_nx, ↓forK_ct, ↓forK_bk, ↓forK_rt, ↓forK_ex, ↓tryM_ap, ↓tryK_ok, ↓tryK_ex, ↓noExK_ok, ↓raiseM_ap, ↓appM_ap, ↓apps_m, ↓appK_ap, ↓appKK_m, ↓callMM_ap, ↓mmK_m, ↓mmK_h, ↓callM_ap, ↓cmK_m, ↓cmK_h, ↓resM_some, ↓callO_ap, ↓resO_some, ↓slM_ap, ↓intO_ap, ↓intK_int, ↓rd_ap, ↓rdK_d, ↓rdK_m, ↓finP_rt, ↓finP_nx, ↓finP_ex, ↓finO_rtl, ↓finM_rt, ↓finM_nx, ↓eqD_ap, ↓neD_ap, ↓inD_ap, ↓notInD_ap, ↓negD_ap, ↓isNonD_ap, ↓notNonD_ap, ↓isBlD_ap, ↓notBlD_ap, ↓lenS_ap, ↓lenT_ap, ↓lenL_ap, ↓lenC_ap, ↓intI_ap, ↓intB_ap, ↓all_ap, ↓any_ap, ↓reprI_ap, ↓reprS_ap, ↓tupT_ap, ↓tupL_ap, ↓lstT_ap, ↓lstL_ap, ↓ixT_ap, ↓ixL_ap, ↓ixC_ap, ↓ixB_ap, ↓tgetM_ap, ↓tgetK_ap, ↓tixM_ap, ↓tixK_ap, ↓tgtN_ap, ↓tgtT_tup, ↓tgtT_lst, ↓tgsNil_ap, ↓tgsCons_ap, ↓itA_lst, ↓itA_scr, ↓itA_tup, ↓itA_str, ↓hixM_ak, ↓hixK_h, ↓hixK_m, ↓hixL_ap, ↓hixR_h, ↓hixR_m, ↓subD_ap, ↓ltD_ap, ↓leD_ap, ↓gtD_ap, ↓geD_ap, ↓modD_ap, ↓fdivD_ap, ↓addL_ap, ↓addI_ap, ↓addS_ap, ↓slS_ap, ↓mulI_ap, ↓mulR_ap, optK_some, optKD_some, eqP, eqS, inP, inP.flat, inP.eqF, isN, L2.atI, L2.ixN, isiO, isi2O, tyn, L2.kitB, sbeq, toP, toPs, PySem.SeqAt.shaped, PySem.PyData.canLay0, PySem.PyData.canLayAll0, PySem.PyData.depth, PySem.PyData.depthAll, PySem.PyData.eqv, PySem.PyData.eqvAll, strOk_of, ↓truM_ap, ↓truR_bl, ↓isiCM_ap, optM_ap, optK_some, i1, i2, ↓to, ↓z1e, ↓fd, w]
theorem t5 {o : Own4} (ho : o.ok) {h : List D} (hh : HG h) : ∃ (h' : List D) (f6 f11 f15 f16 f17 : EV), s5_5 [.d v, .m h, .d W, .d (.int i), .d o.t, .d o.s, e6, e7, e8, e9, e10, e11, e12, e13, e14, e15, e16, e17] = .ok .nx [.d v, .m h', .d W, .d (.int i), .d o.t, .d o.s, f6, e7, e8, e9, e10, f11, e12, e13, e14, f15, f16, f17] ∧ HG h' := by
  obtain ⟨ρ1, q1, h1, f6, f11, f15, f16, f17, rfl, hh1⟩ := forM_inv (I4 v o (.d W) (.d (.int i)) e7 e8 e9 e10 e12 e13 e14) IsI (fun d ρ ⟨j, hd⟩ hI => by
    subst hd
    exact turn4 ho j ρ hI) (rngL 0 3) [.d v, .m h, .d W, .d (.int i), .d o.t, .d o.s, e6, e7, e8, e9, e10, e11, e12, e13, e14, e15, e16, e17] (fun y hy => by
      obtain ⟨j, e, _⟩ := mem_rngL 3 y hy
      exact ⟨j, e⟩) ⟨h, e6, e11, e15, e16, e17, rfl, hh⟩
  have r3 := fun ρ => rng7 3 3 rfl (by decide) ρ
  refine ⟨h1, f6, f11, f15, f16, f17, ?_, hh1⟩
  unfold s5_5
  generalize rngL 0 3 = R at r3 q1
  generalize o.t = T at *
  generalize o.s = S at *
  simp [startR, startH, ↓atI_cast, ↓andT_ok, ↓andT_ex, ↓andT_bad, ↓bind_ap, ↓ret_ap, ↓bad_ap, ↓andB_ok, ↓andB_t, ↓andB_f, ↓andB_ex, ↓andB_bad, ↓iteM_ap, ↓iteF_ap, ↓andM_ap, ↓orM_ap, ↓notM_ap, ↓blR_bl, ↓blM_ap, ↓andR_bl, ↓andV_ap, ↓orR_bl, ↓orV_ap, ↓notR_bl, ↓notV_ap, ↓bin_ap, ↓un_ap, ↓chR_bl, ↓chain_ap, ↓consM_ap, ↓tupM_ap, ↓lstM_ap, ↓smallT_ap, ↓smallL_ap, ↓seqM_ap, ↓seqK_nx, ↓seqK_rt, ↓seqK_rtl, ↓seqK_bk, ↓seqK_ct, ↓seqK_ex, ↓seqK_bad, ↓retM_ap, ↓dropM_ap, ↓put_ap, ↓setM_ap, ↓setC_ap, ↓setL_ap, ↓smallS_ap, ↓retL_ap, ↓smallR_ap, ↓unpM_ap, ↓lstD_ap, ↓lcM_ap, ↓smallC_ap, ↓isiM_ak, ↓isiK_ap, ↓isi2M_ak, ↓isi2K_ap, ↓callF_ap, ↓resF_ok, ↓resF_ex, ↓forS_ap, ↓forM_nil, ↓forM_cons, ↓forK_nx, ↓forK_ct, ↓forK_bk, ↓forK_rt, ↓forK_ex, ↓tryM_ap, ↓tryK_ok, ↓tryK_ex, ↓noExK_ok, ↓raiseM_ap, ↓appM_ap, ↓apps_m, ↓appK_ap, ↓appKK_m, ↓callMM_ap, ↓mmK_m, ↓mmK_h, ↓callM_ap, ↓cmK_m, ↓cmK_h, ↓resM_some, ↓callO_ap, ↓resO_some, ↓slM_ap, ↓intO_ap, ↓intK_int, ↓rd_ap, ↓rdK_d, ↓rdK_m, ↓finP_rt, ↓finP_nx, ↓finP_ex, ↓finO_rtl, ↓finM_rt, ↓finM_nx, ↓eqD_ap, ↓neD_ap, ↓inD_ap, ↓notInD_ap, ↓negD_ap, ↓isNonD_ap, ↓notNonD_ap, ↓isBlD_ap, ↓notBlD_ap, ↓lenS_ap, ↓lenT_ap, ↓lenL_ap, ↓lenC_ap, ↓intI_ap, ↓intB_ap, ↓all_ap, ↓any_ap, ↓reprI_ap, ↓reprS_ap, ↓tupT_ap, ↓tupL_ap, ↓lstT_ap, ↓lstL_ap, ↓ixT_ap, ↓ixL_ap, ↓ixC_ap, ↓ixB_ap, ↓tgetM_ap, ↓tgetK_ap, ↓tixM_ap, ↓tixK_ap, ↓tgtN_ap, ↓tgtT_tup, ↓tgtT_lst, ↓tgsNil_ap, ↓tgsCons_ap, ↓itA_lst, ↓itA_scr, ↓itA_tup, ↓itA_str, ↓hixM_ak, ↓hixK_h, ↓hixK_m, ↓hixL_ap, ↓hixR_h, ↓hixR_m, ↓subD_ap, ↓ltD_ap, ↓leD_ap, ↓gtD_ap, ↓geD_ap, ↓modD_ap, ↓fdivD_ap, ↓addL_ap, ↓addI_ap, ↓addS_ap, ↓slS_ap, ↓mulI_ap, ↓mulR_ap, optK_some, optKD_some, eqP, eqS, inP, inP.flat, inP.eqF, isN, L2.atI, L2.ixN, isiO, isi2O, tyn, L2.kitB, sbeq, toP, toPs, PySem.SeqAt.shaped, PySem.PyData.canLay0, PySem.PyData.canLayAll0, PySem.PyData.depth, PySem.PyData.depthAll, PySem.PyData.eqv, PySem.PyData.eqvAll, strOk_of, ↓r3, ↓q1]
theorem t6 {o : Own4} {h : List D} (hh : HG h) : ∃ (n : Int) (h' : List D), s5_6 [.d v, .m h, .d W, .d (.int i), .d o.t, .d o.s, e6, e7, e8, e9, e10, e11, e12, e13, e14, e15, e16, e17] = .ok .nx [.d v, .m h', .d W, .d (.int i), .d o.t, .d o.s, e6, .d (.int n), e8, e9, e10, e11, e12, e13, e14, e15, e16, e17] ∧ HG h' := by
  obtain ⟨u, h1, hu, q1, hh1⟩ := take_i hh 41 41 rfl (by decide) (by decide)
  obtain ⟨B, w, h2, hB, q2, hh2⟩ := big40 hh1
  obtain ⟨k, h3, hk, q3, hh3⟩ := take_i hh2 3 3 rfl (by decide) (by decide)
  obtain ⟨x, ⟨n, rfl⟩, xi⟩ := mem_ix (P := IsI) (L := [.int ((u : Int) - 20), .int ((w : Int) - B), .int 0]) (fun d hd => by
    simp only [List.mem_cons, List.not_mem_nil, or_false] at hd
    rcases hd with rfl | rfl | rfl <;> exact ⟨_, rfl⟩) (v := k) (by simpa using hk)
  have i2 : in64 2 = true := by decide
  refine ⟨n, h3, ?_, hh3⟩
  unfold s5_6
  rw [hB]
  simp [startR, startH, ↓atI_cast, ↓andT_ok, ↓andT_ex, ↓andT_bad, ↓bind_ap, ↓ret_ap, ↓bad_ap, ↓andB_ok, ↓andB_t, ↓andB_f, ↓andB_ex, ↓andB_bad, ↓iteM_ap, ↓iteF_ap, ↓andM_ap, ↓orM_ap, ↓notM_ap, ↓blR_bl, ↓blM_ap, ↓andR_bl, ↓andV_ap, ↓orR_bl, ↓orV_ap, ↓notR_bl, ↓notV_ap, ↓bin_ap, ↓un_ap, ↓chR_bl, ↓chain_ap, ↓consM_ap, ↓tupM_ap, ↓lstM_ap, ↓smallT_ap, ↓smallL_ap, ↓seqM_ap, ↓seqK_nx, ↓seqK_rt, ↓seqK_rtl, ↓seqK_bk, ↓seqK_ct, ↓seqK_ex, ↓seqK_bad, ↓retM_ap, ↓dropM_ap, ↓put_ap, ↓setM_ap, ↓setC_ap, ↓setL_ap, ↓smallS_ap, ↓retL_ap, ↓smallR_ap, ↓unpM_ap, ↓lstD_ap, ↓lcM_ap, ↓smallC_ap, ↓isiM_ak, ↓isiK_ap, ↓isi2M_ak, ↓isi2K_ap, ↓callF_ap, ↓resF_ok, ↓resF_ex, ↓forS_ap, ↓forM_nil, ↓forM_cons, ↓forK_nx, ↓forK_ct, ↓forK_bk, ↓forK_rt, ↓forK_ex, ↓tryM_ap, ↓tryK_ok, ↓tryK_ex, ↓noExK_ok, ↓raiseM_ap, ↓appM_ap, ↓apps_m, ↓appK_ap, ↓appKK_m, ↓callMM_ap, ↓mmK_m, ↓mmK_h, ↓callM_ap, ↓cmK_m, ↓cmK_h, ↓resM_some, ↓callO_ap, ↓resO_some, ↓slM_ap, ↓intO_ap, ↓intK_int, ↓rd_ap, ↓rdK_d, ↓rdK_m, ↓finP_rt, ↓finP_nx, ↓finP_ex, ↓finO_rtl, ↓finM_rt, ↓finM_nx, ↓eqD_ap, ↓neD_ap, ↓inD_ap, ↓notInD_ap, ↓negD_ap, ↓isNonD_ap, ↓notNonD_ap, ↓isBlD_ap, ↓notBlD_ap, ↓lenS_ap, ↓lenT_ap, ↓lenL_ap, ↓lenC_ap, ↓intI_ap, ↓intB_ap, ↓all_ap, ↓any_ap, ↓reprI_ap, ↓reprS_ap, ↓tupT_ap, ↓tupL_ap, ↓lstT_ap, ↓lstL_ap, ↓ixT_ap, ↓ixL_ap, ↓ixC_ap, ↓ixB_ap, ↓tgetM_ap, ↓tgetK_ap, ↓tixM_ap, ↓tixK_ap, ↓tgtN_ap, ↓tgtT_tup, ↓tgtT_lst, ↓tgsNil_ap, ↓tgsCons_ap, ↓itA_lst, ↓itA_scr, ↓itA_tup, ↓itA_str, ↓hixM_ak, ↓hixK_h, ↓hixK_m, ↓hixL_ap, ↓hixR_h, ↓hixR_m, ↓subD_ap, ↓ltD_ap, ↓leD_ap, ↓gtD_ap, ↓geD_ap, ↓modD_ap, ↓fdivD_ap, ↓addL_ap, ↓addI_ap, ↓addS_ap, ↓slS_ap, ↓mulI_ap, ↓mulR_ap, optK_some, optKD_some, eqP, eqS, inP, inP.flat, inP.eqF, isN, L2.atI, L2.ixN, isiO, isi2O, tyn, L2.kitB, sbeq, toP, toPs, PySem.SeqAt.shaped, PySem.PyData.canLay0, PySem.PyData.canLayAll0, PySem.PyData.depth, PySem.PyData.depthAll, PySem.PyData.eqv, PySem.PyData.eqvAll, strOk_of, q1, q2, q3, i2, ↓xi]
theorem t7 {o : Own4} (ho : o.ok) {h : List D} {n : Int} : s5_7 [.d v, .m h, .d W, .d (.int i), .d o.t, .d o.s, e6, .d (.int n), e8, e9, e10, e11, e12, e13, e14, e15, e16, e17] = .ok .nx [.d v, .m h, .d W, .d (.int i), .d o.t, .d o.s, e6, .d (.int n), .d (o.mv n).s, e9, e10, e11, e12, e13, e14, e15, e16, e17] := by
  have q := moved_of (sm_ok ho n)
  unfold s5_7
  generalize (o.mv n).s = S2 at *
  generalize o.s = S at *
  simp [startR, startH, ↓atI_cast, ↓andT_ok, ↓andT_ex, ↓andT_bad, ↓bind_ap, ↓ret_ap, ↓bad_ap, ↓andB_ok, ↓andB_t, ↓andB_f, ↓andB_ex, ↓andB_bad, ↓iteM_ap, ↓iteF_ap, ↓andM_ap, ↓orM_ap, ↓notM_ap, ↓blR_bl, ↓blM_ap, ↓andR_bl, ↓andV_ap, ↓orR_bl, ↓orV_ap, ↓notR_bl, ↓notV_ap, ↓bin_ap, ↓un_ap, ↓chR_bl, ↓chain_ap, ↓consM_ap, ↓tupM_ap, ↓lstM_ap, ↓smallT_ap, ↓smallL_ap, ↓seqM_ap, ↓seqK_nx, ↓seqK_rt, ↓seqK_rtl, ↓seqK_bk, ↓seqK_ct, ↓seqK_ex, ↓seqK_bad, ↓retM_ap, ↓dropM_ap, ↓put_ap, ↓setM_ap, ↓setC_ap, ↓setL_ap, ↓smallS_ap, ↓retL_ap, ↓smallR_ap, ↓unpM_ap, ↓lstD_ap, ↓lcM_ap, ↓smallC_ap, ↓isiM_ak, ↓isiK_ap, ↓isi2M_ak, ↓isi2K_ap, ↓callF_ap, ↓resF_ok, ↓resF_ex, ↓forS_ap, ↓forM_nil, ↓forM_cons, ↓forK_nx, ↓forK_ct, ↓forK_bk, ↓forK_rt, ↓forK_ex, ↓tryM_ap, ↓tryK_ok, ↓tryK_ex, ↓noExK_ok, ↓raiseM_ap, ↓appM_ap, ↓apps_m, ↓appK_ap, ↓appKK_m, ↓callMM_ap, ↓mmK_m, ↓mmK_h, ↓callM_ap, ↓cmK_m, ↓cmK_h, ↓resM_some, ↓callO_ap, ↓resO_some, ↓slM_ap, ↓intO_ap, ↓intK_int, ↓rd_ap, ↓rdK_d, ↓rdK_m, ↓finP_rt, ↓finP_nx, ↓finP_ex, ↓finO_rtl, ↓finM_rt, ↓finM_nx, ↓eqD_ap, ↓neD_ap, ↓inD_ap, ↓notInD_ap, ↓negD_ap, ↓isNonD_ap, ↓notNonD_ap, ↓isBlD_ap, ↓notBlD_ap, ↓lenS_ap, ↓lenT_ap, ↓lenL_ap, ↓lenC_ap, ↓intI_ap, ↓intB_ap, ↓all_ap, ↓any_ap, ↓reprI_ap, ↓reprS_ap, ↓tupT_ap, ↓tupL_ap, ↓lstT_ap, ↓lstL_ap, ↓ixT_ap, ↓ixL_ap, ↓ixC_ap, ↓ixB_ap, ↓tgetM_ap, ↓tgetK_ap, ↓tixM_ap, ↓tixK_ap, ↓tgtN_ap, ↓tgtT_tup, ↓tgtT_lst, ↓tgsNil_ap, ↓tgsCons_ap, ↓itA_lst, ↓itA_scr, ↓itA_tup, ↓itA_str, ↓hixM_ak, ↓hixK_h, ↓hixK_m, ↓hixL_ap, ↓hixR_h, ↓hixR_m, ↓subD_ap, ↓ltD_ap, ↓leD_ap, ↓gtD_ap, ↓geD_ap, ↓modD_ap, ↓fdivD_ap, ↓addL_ap, ↓addI_ap, ↓addS_ap, ↓slS_ap, ↓mulI_ap, ↓mulR_ap, optK_some, optKD_some, eqP, eqS, inP, inP.flat, inP.eqF, isN, L2.atI, L2.ixN, isiO, isi2O, tyn, L2.kitB, sbeq, toP, toPs, PySem.SeqAt.shaped, PySem.PyData.canLay0, PySem.PyData.canLayAll0, PySem.PyData.depth, PySem.PyData.depthAll, PySem.PyData.eqv, PySem.PyData.eqvAll, strOk_of, q]
theorem mv_back (o : Own4) (n : Int) : (o.mv n).mv (-n) = o := by
  unfold Own4.mv
  have : o.d + n + -n = o.d := by omega
  rw [this]
theorem t8 {o : Own4} (ho : o.ok) {h : List D} {n : Int} : s5_8 [.d v, .m h, .d W, .d (.int i), .d o.t, .d o.s, e6, .d (.int n), .d (o.mv n).s, e9, e10, e11, e12, e13, e14, e15, e16, e17] = .ok .nx [.d v, .m h, .d W, .d (.int i), .d o.t, .d o.s, e6, .d (.int n), .d (o.mv n).s, e9, e10, e11, e12, e13, e14, e15, e16, e17] := by
  have q1 := parts_ok (o.mv n)
  have q2 := moved_of (sm_ok (mv_ok ho n) (-n))
  rw [mv_back] at q2
  obtain ⟨i0, i1, i2, i3⟩ := t_ix o
  have z : eqP (o.mv n).t (.tup [.str o.a, .str o.b, .int (o.d + n), .str o.p]) = some true := by
    have := eqP_t (mv_ok ho n) (mv_ok ho n)
    rw [same_self] at this
    exact this
  have z3 := neX_ss o o
  rw [same_self] at z3
  unfold s5_8
  generalize (o.mv n).s = S2 at *
  generalize (o.mv n).t = T2 at *
  generalize o.s = S at *
  generalize o.t = T at *
  simp [startR, startH, ↓atI_cast, ↓andT_ok, ↓andT_ex, ↓andT_bad, ↓bind_ap, ↓ret_ap, ↓bad_ap, ↓andB_ok, ↓andB_t, ↓andB_f, ↓andB_ex, ↓andB_bad, ↓iteM_ap, ↓iteF_ap, ↓andM_ap, ↓orM_ap, ↓notM_ap, ↓blR_bl, ↓blM_ap, ↓andR_bl, ↓andV_ap, ↓orR_bl, ↓orV_ap, ↓notR_bl, ↓notV_ap, ↓bin_ap, ↓un_ap, ↓chR_bl, ↓chain_ap, ↓consM_ap, ↓tupM_ap, ↓lstM_ap, ↓smallT_ap, ↓smallL_ap, ↓seqM_ap, ↓seqK_nx, ↓seqK_rt, ↓seqK_rtl, ↓seqK_bk, ↓seqK_ct, ↓seqK_ex, ↓seqK_bad, ↓retM_ap, ↓dropM_ap, ↓put_ap, ↓setM_ap, ↓setC_ap, ↓setL_ap, ↓smallS_ap, ↓retL_ap, ↓smallR_ap, ↓unpM_ap, ↓lstD_ap, ↓lcM_ap, ↓smallC_ap, ↓isiM_ak, ↓isiK_ap, ↓isi2M_ak, ↓isi2K_ap, ↓callF_ap, ↓resF_ok, ↓resF_ex, ↓forS_ap, ↓forM_nil, ↓forM_cons, ↓forK_nx, ↓forK_ct, ↓forK_bk, ↓forK_rt, ↓forK_ex, ↓tryM_ap, ↓tryK_ok, ↓tryK_ex, ↓noExK_ok, ↓raiseM_ap, ↓appM_ap, ↓apps_m, ↓appK_ap, ↓appKK_m, ↓callMM_ap, ↓mmK_m, ↓mmK_h, ↓callM_ap, ↓cmK_m, ↓cmK_h, ↓resM_some, ↓callO_ap, ↓resO_some, ↓slM_ap, ↓intO_ap, ↓intK_int, ↓rd_ap, ↓rdK_d, ↓rdK_m, ↓finP_rt, ↓finP_nx, ↓finP_ex, ↓finO_rtl, ↓finM_rt, ↓finM_nx, ↓eqD_ap, ↓neD_ap, ↓inD_ap, ↓notInD_ap, ↓negD_ap, ↓isNonD_ap, ↓notNonD_ap, ↓isBlD_ap, ↓notBlD_ap, ↓lenS_ap, ↓lenT_ap, ↓lenL_ap, ↓lenC_ap, ↓intI_ap, ↓intB_ap, ↓all_ap, ↓any_ap, ↓reprI_ap, ↓reprS_ap, ↓tupT_ap, ↓tupL_ap, ↓lstT_ap, ↓lstL_ap, ↓ixT_ap, ↓ixL_ap, ↓ixC_ap, ↓ixB_ap, ↓tgetM_ap, ↓tgetK_ap, ↓tixM_ap, ↓tixK_ap, ↓tgtN_ap, ↓tgtT_tup, ↓tgtT_lst, ↓tgsNil_ap, ↓tgsCons_ap, ↓itA_lst, ↓itA_scr, ↓itA_tup, ↓itA_str, ↓hixM_ak, ↓hixK_h, ↓hixK_m, ↓hixL_ap, ↓hixR_h, ↓hixR_m, ↓subD_ap, ↓ltD_ap, ↓leD_ap, ↓gtD_ap, ↓geD_ap, ↓modD_ap, ↓fdivD_ap, ↓addL_ap, ↓addI_ap, ↓addS_ap, ↓slS_ap, ↓mulI_ap, ↓mulR_ap, optK_some, optKD_some, eqP, eqS, inP, inP.flat, inP.eqF, isN, L2.atI, L2.ixN, isiO, isi2O, tyn, L2.kitB, sbeq, toP, toPs, PySem.SeqAt.shaped, PySem.PyData.canLay0, PySem.PyData.canLayAll0, PySem.PyData.depth, PySem.PyData.depthAll, PySem.PyData.eqv, PySem.PyData.eqvAll, strOk_of, ↓truM_ap, ↓truR_bl, q1, q2, ↓i0, ↓i1, ↓i2, ↓i3, ↓z, ↓z3]
def NoWh (d : D) : Prop := ∃ n, Ent2 d n false
theorem t9 {o : Own4} {h : List D} (hh : HG h) : ∃ h', s5_9 [.d v, .m h, .d W, .d (.int i), .d o.t, .d o.s, e6, e7, e8, e9, e10, e11, e12, e13, e14, e15, e16, e17] = .ok .nx [.d v, .m h', .d W, .d (.int i), .d o.t, .d o.s, e6, e7, e8, e9, e10, e11, e12, e13, e14, e15, e16, e17] ∧ HG h' := by
  obtain ⟨k, h1, hk, q1, hh1⟩ := take_i hh 4 4 rfl (by decide) (by decide)
  obtain ⟨x, ⟨n, hx⟩, xi⟩ := mem_ix (P := NoWh) (L := [.non, .bl true, .str "1", .tup [.int 1]]) (fun d hd => by
    simp only [List.mem_cons, List.not_mem_nil, or_false] at hd
    rcases hd with rfl | rfl | rfl | rfl
    · exact ⟨_, ent_non⟩
    · exact ⟨_, ent_bl true⟩
    · exact ⟨_, ent_str (by decide) (by decide +kernel)⟩
    · exact ⟨_, ent_tup _⟩) (v := k) (by simpa using hk)
  have q2 := moved_no (sm_no (o := o) hx)
  have es := neP_s "day" "day"
  rw [beq_self_eq_true] at es
  refine ⟨h1, ?_, hh1⟩
  unfold s5_9
  generalize o.s = S at *
  simp [startR, startH, ↓atI_cast, ↓andT_ok, ↓andT_ex, ↓andT_bad, ↓bind_ap, ↓ret_ap, ↓bad_ap, ↓andB_ok, ↓andB_t, ↓andB_f, ↓andB_ex, ↓andB_bad, ↓iteM_ap, ↓iteF_ap, ↓andM_ap, ↓orM_ap, ↓notM_ap, ↓blR_bl, ↓blM_ap, ↓andR_bl, ↓andV_ap, ↓orR_bl, ↓orV_ap, ↓notR_bl, ↓notV_ap, ↓bin_ap, ↓un_ap, ↓chR_bl, ↓chain_ap, ↓consM_ap, ↓tupM_ap, ↓lstM_ap, ↓smallT_ap, ↓smallL_ap, ↓seqM_ap, ↓seqK_nx, ↓seqK_rt, ↓seqK_rtl, ↓seqK_bk, ↓seqK_ct, ↓seqK_ex, ↓seqK_bad, ↓retM_ap, ↓dropM_ap, ↓put_ap, ↓setM_ap, ↓setC_ap, ↓setL_ap, ↓smallS_ap, ↓retL_ap, ↓smallR_ap, ↓unpM_ap, ↓lstD_ap, ↓lcM_ap, ↓smallC_ap, ↓isiM_ak, ↓isiK_ap, ↓isi2M_ak, ↓isi2K_ap, ↓callF_ap, ↓resF_ok, ↓resF_ex, ↓forS_ap, ↓forM_nil, ↓forM_cons, ↓forK_nx, ↓forK_ct, ↓forK_bk, ↓forK_rt, ↓forK_ex, ↓tryM_ap, ↓tryK_ok, ↓tryK_ex, ↓noExK_ok, ↓raiseM_ap, ↓appM_ap, ↓apps_m, ↓appK_ap, ↓appKK_m, ↓callMM_ap, ↓mmK_m, ↓mmK_h, ↓callM_ap, ↓cmK_m, ↓cmK_h, ↓resM_some, ↓callO_ap, ↓resO_some, ↓slM_ap, ↓intO_ap, ↓intK_int, ↓rd_ap, ↓rdK_d, ↓rdK_m, ↓finP_rt, ↓finP_nx, ↓finP_ex, ↓finO_rtl, ↓finM_rt, ↓finM_nx, ↓eqD_ap, ↓neD_ap, ↓inD_ap, ↓notInD_ap, ↓negD_ap, ↓isNonD_ap, ↓notNonD_ap, ↓isBlD_ap, ↓notBlD_ap, ↓lenS_ap, ↓lenT_ap, ↓lenL_ap, ↓lenC_ap, ↓intI_ap, ↓intB_ap, ↓all_ap, ↓any_ap, ↓reprI_ap, ↓reprS_ap, ↓tupT_ap, ↓tupL_ap, ↓lstT_ap, ↓lstL_ap, ↓ixT_ap, ↓ixL_ap, ↓ixC_ap, ↓ixB_ap, ↓tgetM_ap, ↓tgetK_ap, ↓tixM_ap, ↓tixK_ap, ↓tgtN_ap, ↓tgtT_tup, ↓tgtT_lst, ↓tgsNil_ap, ↓tgsCons_ap, ↓itA_lst, ↓itA_scr, ↓itA_tup, ↓itA_str, ↓hixM_ak, ↓hixK_h, ↓hixK_m, ↓hixL_ap, ↓hixR_h, ↓hixR_m, ↓subD_ap, ↓ltD_ap, ↓leD_ap, ↓gtD_ap, ↓geD_ap, ↓modD_ap, ↓fdivD_ap, ↓addL_ap, ↓addI_ap, ↓addS_ap, ↓slS_ap, ↓mulI_ap, ↓mulR_ap, optK_some, optKD_some, eqP, eqS, inP, inP.flat, inP.eqF, isN, L2.atI, L2.ixN, isiO, isi2O, tyn, L2.kitB, sbeq, toP, toPs, PySem.SeqAt.shaped, PySem.PyData.canLay0, PySem.PyData.canLayAll0, PySem.PyData.depth, PySem.PyData.depthAll, PySem.PyData.eqv, PySem.PyData.eqvAll, strOk_of, q1, ↓xi, q2, ↓es]
end
end De

set_option Elab.async false
set_option linter.all false
set_option maxRecDepth 100000
set_option maxHeartbeats 1000000
namespace De
open K05
open PySem (Str sizeLine_eq)
section
variable {v W : D} {i : Int} {e4 e5 e6 e7 e8 e9 e10 e11 e12 e13 e14 e15 e16 e17 : EV}
theorem ab_names {o : Own4} (ho : o.ok) {A : List D} (hA : ∀ d ∈ A, IsN d) : ∀ d ∈ [D.str o.a, .str o.b] ++ A, IsN d := fun d hd => by
  rcases List.mem_append.1 hd with hd | hd
  · simp only [List.mem_cons, List.not_mem_nil, or_false] at hd
    rcases hd with rfl | rfl
    · exact ⟨_, rfl, ho.1⟩
    · exact ⟨_, rfl, ho.2.1⟩
  · exact hA d hd
theorem sl2 (o : Own4) (ρ : Rho) : slD o.t none (some 2) ρ = .ok (.tup [.str o.a, .str o.b]) ρ := nr rfl
theorem t10 {o : Own4} (ho : o.ok) (hW : WG3 W) {h : List D} (hh : HG h) : ∃ (s : Str) (h' : List D), s5_10 [.d v, .m h, .d W, .d (.int i), .d o.t, .d o.s, e6, e7, e8, e9, e10, e11, e12, e13, e14, e15, e16, e17] = .ok .nx [.d v, .m h', .d W, .d (.int i), .d o.t, .d o.s, e6, e7, e8, .d (.str s), e10, e11, e12, e13, e14, e15, e16, e17] ∧ HG h' ∧ nm s = true := by
  obtain ⟨A, B, rfl, ⟨_, _, hA⟩, _, l3⟩ := hW
  obtain ⟨k, h1, hk, q1, hh1⟩ := take_i hh 5 5 rfl (by decide) (by decide)
  obtain ⟨x, ⟨s, rfl, hs⟩, xi⟩ := mem_ix (ab_names ho hA) (v := k) (by simp [l3]; omega)
  have sl := sl2 o
  have l1 : ∀ ρ, listC [.tup [.str o.a, .str o.b]] ρ = .ok (.lst [.str o.a, .str o.b]) ρ := fun ρ => nr rfl
  have l2 : ∀ ρ, listC [.lst A] ρ = .ok (.lst A) ρ := fun ρ => nr rfl
  have w := w0 (.lst A) (.lst B)
  have ad : ∀ ρ, addD (.lst [.str o.a, .str o.b]) (.lst A) ρ = .ok (.lst ([.str o.a, .str o.b] ++ A)) ρ := fun ρ => addL_ap _ _ ρ (by simp [l3])
  refine ⟨s, h1, ?_, hh1, hs⟩
  unfold s5_10
  generalize o.t = T at *
  generalize o.s = S at *
  generalize [D.str o.a, .str o.b] ++ A = AL at *
  generalize D.lst [.lst A, .lst B] = WW at *
  simp [startR, startH, ↓atI_cast, ↓andT_ok, ↓andT_ex, ↓andT_bad, ↓bind_ap, ↓ret_ap, ↓bad_ap, ↓andB_ok, ↓andB_t, ↓andB_f, ↓andB_ex, ↓andB_bad, ↓iteM_ap, ↓iteF_ap, ↓andM_ap, ↓orM_ap, ↓notM_ap, ↓blR_bl, ↓blM_ap, ↓andR_bl, ↓andV_ap, ↓orR_bl, ↓orV_ap, ↓notR_bl, ↓notV_ap, ↓bin_ap, ↓un_ap, ↓chR_bl, ↓chain_ap, ↓consM_ap, ↓tupM_ap, ↓lstM_ap, ↓smallT_ap, ↓smallL_ap, ↓seqM_ap, ↓seqK_nx, ↓seqK_rt, ↓seqK_rtl, ↓seqK_bk, ↓seqK_ct, ↓seqK_ex, ↓seqK_bad, ↓retM_ap, ↓dropM_ap, ↓put_ap, ↓setM_ap, ↓setC_ap, ↓setL_ap, ↓smallS_ap, ↓retL_ap, ↓smallR_ap, ↓unpM_ap, ↓lstD_ap, ↓lcM_ap, ↓smallC_ap, ↓isiM_ak, ↓isiK_ap, ↓isi2M_ak, ↓isi2K_ap, ↓callF_ap, ↓resF_ok, ↓resF_ex, ↓forS_ap, ↓forM_nil, ↓forM_cons, ↓forK_nx, ↓forK_ct, ↓forK_bk, ↓forK_rt, ↓forK_ex, ↓tryM_ap, ↓tryK_ok, ↓tryK_ex, ↓noExK_ok, ↓raiseM_ap, ↓appM_ap, ↓apps_m, ↓appK_ap, ↓appKK_m, ↓callMM_ap, ↓mmK_m, ↓mmK_h, ↓callM_ap, ↓cmK_m, ↓cmK_h, ↓resM_some, ↓callO_ap, ↓resO_some, ↓slM_ap, ↓intO_ap, ↓intK_int, ↓rd_ap, ↓rdK_d, ↓rdK_m, ↓finP_rt, ↓finP_nx, ↓finP_ex, ↓finO_rtl, ↓finM_rt, ↓finM_nx, ↓eqD_ap, ↓neD_ap, ↓inD_ap, ↓notInD_ap, ↓negD_ap, ↓isNonD_ap, ↓notNonD_ap, ↓isBlD_ap, ↓notBlD_ap, ↓lenS_ap, ↓lenT_ap, ↓lenL_ap, ↓lenC_ap, ↓intI_ap, ↓intB_ap, ↓all_ap, ↓any_ap, ↓reprI_ap, ↓reprS_ap, ↓tupT_ap, ↓tupL_ap, ↓lstT_ap, ↓lstL_ap, ↓ixT_ap, ↓ixL_ap, ↓ixC_ap, ↓ixB_ap, ↓tgetM_ap, ↓tgetK_ap, ↓tixM_ap, ↓tixK_ap, ↓tgtN_ap, ↓tgtT_tup, ↓tgtT_lst, ↓tgsNil_ap, ↓tgsCons_ap, ↓itA_lst, ↓itA_scr, ↓itA_tup, ↓itA_str, ↓hixM_ak, ↓hixK_h, ↓hixK_m, ↓hixL_ap, ↓hixR_h, ↓hixR_m, ↓subD_ap, ↓ltD_ap, ↓leD_ap, ↓gtD_ap, ↓geD_ap, ↓modD_ap, ↓fdivD_ap, ↓addL_ap, ↓addI_ap, ↓addS_ap, ↓slS_ap, ↓mulI_ap, ↓mulR_ap, optK_some, optKD_some, eqP, eqS, inP, inP.flat, inP.eqF, isN, L2.atI, L2.ixN, isiO, isi2O, tyn, L2.kitB, sbeq, toP, toPs, PySem.SeqAt.shaped, PySem.PyData.canLay0, PySem.PyData.canLayAll0, PySem.PyData.depth, PySem.PyData.depthAll, PySem.PyData.eqv, PySem.PyData.eqvAll, strOk_of, ↓sl, ↓l1, ↓l2, ↓w, ↓ad, q1, ↓xi]
theorem t11 {o : Own4} (ho : o.ok) {h : List D} (hh : HG h) : ∃ (t : Str) (h' : List D), s5_11 [.d v, .m h, .d W, .d (.int i), .d o.t, .d o.s, e6, e7, e8, e9, e10, e11, e12, e13, e14, e15, e16, e17] = .ok .nx [.d v, .m h', .d W, .d (.int i), .d o.t, .d o.s, e6, e7, e8, e9, .d (.str t), e11, e12, e13, e14, e15, e16, e17] ∧ HG h' ∧ nm t = true := by
  obtain ⟨z, h1, q1, hh1, hz⟩ := name_ok hh
  obtain ⟨k, h2, hk, q2, hh2⟩ := take_i hh1 3 3 rfl (by decide) (by decide)
  obtain ⟨x, ⟨t, rfl, ht⟩, xi⟩ := mem_ix (ab_names ho (A := [.str z]) (fun d hd => ⟨z, List.mem_singleton.1 hd, hz⟩)) (v := k) (by simp; omega)
  have sl := sl2 o
  have l1 : ∀ ρ, listC [.tup [.str o.a, .str o.b]] ρ = .ok (.lst [.str o.a, .str o.b]) ρ := fun ρ => nr rfl
  have ad : ∀ ρ, addD (.lst [.str o.a, .str o.b]) (.lst [.str z]) ρ = .ok (.lst ([.str o.a, .str o.b] ++ [.str z])) ρ := fun ρ => addL_ap _ _ ρ (by simp)
  refine ⟨t, h2, ?_, hh2, ht⟩
  unfold s5_11
  generalize o.t = T at *
  generalize o.s = S at *
  generalize [D.str o.a, .str o.b] ++ [.str z] = AL at *
  simp [startR, startH, ↓atI_cast, ↓andT_ok, ↓andT_ex, ↓andT_bad, ↓bind_ap, ↓ret_ap, ↓bad_ap, ↓andB_ok, ↓andB_t, ↓andB_f, ↓andB_ex, ↓andB_bad, ↓iteM_ap, ↓iteF_ap, ↓andM_ap, ↓orM_ap, ↓notM_ap, ↓blR_bl, ↓blM_ap, ↓andR_bl, ↓andV_ap, ↓orR_bl, ↓orV_ap, ↓notR_bl, ↓notV_ap, ↓bin_ap, ↓un_ap, ↓chR_bl, ↓chain_ap, ↓consM_ap, ↓tupM_ap, ↓lstM_ap, ↓smallT_ap, ↓smallL_ap, ↓seqM_ap, ↓seqK_nx, ↓seqK_rt, ↓seqK_rtl, ↓seqK_bk, ↓seqK_ct, ↓seqK_ex, ↓seqK_bad, ↓retM_ap, ↓dropM_ap, ↓put_ap, ↓setM_ap, ↓setC_ap, ↓setL_ap, ↓smallS_ap, ↓retL_ap, ↓smallR_ap, ↓unpM_ap, ↓lstD_ap, ↓lcM_ap, ↓smallC_ap, ↓isiM_ak, ↓isiK_ap, ↓isi2M_ak, ↓isi2K_ap, ↓callF_ap, ↓resF_ok, ↓resF_ex, ↓forS_ap, ↓forM_nil, ↓forM_cons, ↓forK_nx, ↓forK_ct, ↓forK_bk, ↓forK_rt, ↓forK_ex, ↓tryM_ap, ↓tryK_ok, ↓tryK_ex, ↓noExK_ok, ↓raiseM_ap, ↓appM_ap, ↓apps_m, ↓appK_ap, ↓appKK_m, ↓callMM_ap, ↓mmK_m, ↓mmK_h, ↓callM_ap, ↓cmK_m, ↓cmK_h, ↓resM_some, ↓callO_ap, ↓resO_some, ↓slM_ap, ↓intO_ap, ↓intK_int, ↓rd_ap, ↓rdK_d, ↓rdK_m, ↓finP_rt, ↓finP_nx, ↓finP_ex, ↓finO_rtl, ↓finM_rt, ↓finM_nx, ↓eqD_ap, ↓neD_ap, ↓inD_ap, ↓notInD_ap, ↓negD_ap, ↓isNonD_ap, ↓notNonD_ap, ↓isBlD_ap, ↓notBlD_ap, ↓lenS_ap, ↓lenT_ap, ↓lenL_ap, ↓lenC_ap, ↓intI_ap, ↓intB_ap, ↓all_ap, ↓any_ap, ↓reprI_ap, ↓reprS_ap, ↓tupT_ap, ↓tupL_ap, ↓lstT_ap, ↓lstL_ap, ↓ixT_ap, ↓ixL_ap, ↓ixC_ap, ↓ixB_ap, ↓tgetM_ap, ↓tgetK_ap, ↓tixM_ap, ↓tixK_ap, ↓tgtN_ap, ↓tgtT_tup, ↓tgtT_lst, ↓tgsNil_ap, ↓tgsCons_ap, ↓itA_lst, ↓itA_scr, ↓itA_tup, ↓itA_str, ↓hixM_ak, ↓hixK_h, ↓hixK_m, ↓hixL_ap, ↓hixR_h, ↓hixR_m, ↓subD_ap, ↓ltD_ap, ↓leD_ap, ↓gtD_ap, ↓geD_ap, ↓modD_ap, ↓fdivD_ap, ↓addL_ap, ↓addI_ap, ↓addS_ap, ↓slS_ap, ↓mulI_ap, ↓mulR_ap, optK_some, optKD_some, eqP, eqS, inP, inP.flat, inP.eqF, isN, L2.atI, L2.ixN, isiO, isi2O, tyn, L2.kitB, sbeq, toP, toPs, PySem.SeqAt.shaped, PySem.PyData.canLay0, PySem.PyData.canLayAll0, PySem.PyData.depth, PySem.PyData.depthAll, PySem.PyData.eqv, PySem.PyData.eqvAll, strOk_of, ↓sl, ↓l1, ↓ad, q1, q2, ↓xi]
section
variable {s t : Str}
theorem t12 {o : Own4} (ho : o.ok) (hs : nm s = true) (ht : nm t = true) {h : List D} : s5_12 [.d v, .m h, .d W, .d (.int i), .d o.t, .d o.s, e6, e7, e8, .d (.str s), .d (.str t), e11, e12, e13, e14, e15, e16, e17] = .ok .nx [.d v, .m h, .d W, .d (.int i), .d o.t, .d o.s, e6, e7, e8, .d (.str s), .d (.str t), .d (o.xc s t).s, e12, e13, e14, e15, e16, e17] := by
  have q := exch_of (sx_ok ho hs ht)
  unfold s5_12
  generalize (o.xc s t).s = S2 at *
  generalize o.s = S at *
  simp [startR, startH, ↓atI_cast, ↓andT_ok, ↓andT_ex, ↓andT_bad, ↓bind_ap, ↓ret_ap, ↓bad_ap, ↓andB_ok, ↓andB_t, ↓andB_f, ↓andB_ex, ↓andB_bad, ↓iteM_ap, ↓iteF_ap, ↓andM_ap, ↓orM_ap, ↓notM_ap, ↓blR_bl, ↓blM_ap, ↓andR_bl, ↓andV_ap, ↓orR_bl, ↓orV_ap, ↓notR_bl, ↓notV_ap, ↓bin_ap, ↓un_ap, ↓chR_bl, ↓chain_ap, ↓consM_ap, ↓tupM_ap, ↓lstM_ap, ↓smallT_ap, ↓smallL_ap, ↓seqM_ap, ↓seqK_nx, ↓seqK_rt, ↓seqK_rtl, ↓seqK_bk, ↓seqK_ct, ↓seqK_ex, ↓seqK_bad, ↓retM_ap, ↓dropM_ap, ↓put_ap, ↓setM_ap, ↓setC_ap, ↓setL_ap, ↓smallS_ap, ↓retL_ap, ↓smallR_ap, ↓unpM_ap, ↓lstD_ap, ↓lcM_ap, ↓smallC_ap, ↓isiM_ak, ↓isiK_ap, ↓isi2M_ak, ↓isi2K_ap, ↓callF_ap, ↓resF_ok, ↓resF_ex, ↓forS_ap, ↓forM_nil, ↓forM_cons, ↓forK_nx, ↓forK_ct, ↓forK_bk, ↓forK_rt, ↓forK_ex, ↓tryM_ap, ↓tryK_ok, ↓tryK_ex, ↓noExK_ok, ↓raiseM_ap, ↓appM_ap, ↓apps_m, ↓appK_ap, ↓appKK_m, ↓callMM_ap, ↓mmK_m, ↓mmK_h, ↓callM_ap, ↓cmK_m, ↓cmK_h, ↓resM_some, ↓callO_ap, ↓resO_some, ↓slM_ap, ↓intO_ap, ↓intK_int, ↓rd_ap, ↓rdK_d, ↓rdK_m, ↓finP_rt, ↓finP_nx, ↓finP_ex, ↓finO_rtl, ↓finM_rt, ↓finM_nx, ↓eqD_ap, ↓neD_ap, ↓inD_ap, ↓notInD_ap, ↓negD_ap, ↓isNonD_ap, ↓notNonD_ap, ↓isBlD_ap, ↓notBlD_ap, ↓lenS_ap, ↓lenT_ap, ↓lenL_ap, ↓lenC_ap, ↓intI_ap, ↓intB_ap, ↓all_ap, ↓any_ap, ↓reprI_ap, ↓reprS_ap, ↓tupT_ap, ↓tupL_ap, ↓lstT_ap, ↓lstL_ap, ↓ixT_ap, ↓ixL_ap, ↓ixC_ap, ↓ixB_ap, ↓tgetM_ap, ↓tgetK_ap, ↓tixM_ap, ↓tixK_ap, ↓tgtN_ap, ↓tgtT_tup, ↓tgtT_lst, ↓tgsNil_ap, ↓tgsCons_ap, ↓itA_lst, ↓itA_scr, ↓itA_tup, ↓itA_str, ↓hixM_ak, ↓hixK_h, ↓hixK_m, ↓hixL_ap, ↓hixR_h, ↓hixR_m, ↓subD_ap, ↓ltD_ap, ↓leD_ap, ↓gtD_ap, ↓geD_ap, ↓modD_ap, ↓fdivD_ap, ↓addL_ap, ↓addI_ap, ↓addS_ap, ↓slS_ap, ↓mulI_ap, ↓mulR_ap, optK_some, optKD_some, eqP, eqS, inP, inP.flat, inP.eqF, isN, L2.atI, L2.ixN, isiO, isi2O, tyn, L2.kitB, sbeq, toP, toPs, PySem.SeqAt.shaped, PySem.PyData.canLay0, PySem.PyData.canLayAll0, PySem.PyData.depth, PySem.PyData.depthAll, PySem.PyData.eqv, PySem.PyData.eqvAll, strOk_of, q]
theorem t13 {o : Own4} (ho : o.ok) (hs : nm s = true) (ht : nm t = true) {h : List D} : s5_13 [.d v, .m h, .d W, .d (.int i), .d o.t, .d o.s, e6, e7, e8, .d (.str s), .d (.str t), .d (o.xc s t).s, e12, e13, e14, e15, e16, e17] = .ok .nx [.d v, .m h, .d W, .d (.int i), .d o.t, .d o.s, e6, e7, e8, .d (.str s), .d (.str t), .d (o.xc s t).s, e12, e13, e14, e15, e16, e17] := by
  have q1 := parts_ok (o.xc s t)
  have q2 := other_ok o.a s t
  have q3 := other_ok o.b s t
  obtain ⟨i0, i1, i2, i3⟩ := t_ix o
  have z : eqP (o.xc s t).t (.tup [.str (xc o.a s t), .str (xc o.b s t), .int o.d, .str o.p]) = some true := by
    have := eqP_t (xco_ok ho hs ht) (xco_ok ho hs ht)
    rw [same_self] at this
    exact this
  unfold s5_13
  generalize (o.xc s t).s = S2 at *
  generalize (o.xc s t).t = T2 at *
  generalize xc o.a s t = A at *
  generalize xc o.b s t = B at *
  generalize o.s = S at *
  generalize o.t = T at *
  simp [startR, startH, ↓atI_cast, ↓andT_ok, ↓andT_ex, ↓andT_bad, ↓bind_ap, ↓ret_ap, ↓bad_ap, ↓andB_ok, ↓andB_t, ↓andB_f, ↓andB_ex, ↓andB_bad, ↓iteM_ap, ↓iteF_ap, ↓andM_ap, ↓orM_ap, ↓notM_ap, ↓blR_bl, ↓blM_ap, ↓andR_bl, ↓andV_ap, ↓orR_bl, ↓orV_ap, ↓notR_bl, ↓notV_ap, ↓bin_ap, ↓un_ap, ↓chR_bl, ↓chain_ap, ↓consM_ap, ↓tupM_ap, ↓lstM_ap, ↓smallT_ap, ↓smallL_ap, ↓seqM_ap, ↓seqK_nx, ↓seqK_rt, ↓seqK_rtl, ↓seqK_bk, ↓seqK_ct, ↓seqK_ex, ↓seqK_bad, ↓retM_ap, ↓dropM_ap, ↓put_ap, ↓setM_ap, ↓setC_ap, ↓setL_ap, ↓smallS_ap, ↓retL_ap, ↓smallR_ap, ↓unpM_ap, ↓lstD_ap, ↓lcM_ap, ↓smallC_ap, ↓isiM_ak, ↓isiK_ap, ↓isi2M_ak, ↓isi2K_ap, ↓callF_ap, ↓resF_ok, ↓resF_ex, ↓forS_ap, ↓forM_nil, ↓forM_cons, ↓forK_nx, ↓forK_ct, ↓forK_bk, ↓forK_rt, ↓forK_ex, ↓tryM_ap, ↓tryK_ok, ↓tryK_ex, ↓noExK_ok, ↓raiseM_ap, ↓appM_ap, ↓apps_m, ↓appK_ap, ↓appKK_m, ↓callMM_ap, ↓mmK_m, ↓mmK_h, ↓callM_ap, ↓cmK_m, ↓cmK_h, ↓resM_some, ↓callO_ap, ↓resO_some, ↓slM_ap, ↓intO_ap, ↓intK_int, ↓rd_ap, ↓rdK_d, ↓rdK_m, ↓finP_rt, ↓finP_nx, ↓finP_ex, ↓finO_rtl, ↓finM_rt, ↓finM_nx, ↓eqD_ap, ↓neD_ap, ↓inD_ap, ↓notInD_ap, ↓negD_ap, ↓isNonD_ap, ↓notNonD_ap, ↓isBlD_ap, ↓notBlD_ap, ↓lenS_ap, ↓lenT_ap, ↓lenL_ap, ↓lenC_ap, ↓intI_ap, ↓intB_ap, ↓all_ap, ↓any_ap, ↓reprI_ap, ↓reprS_ap, ↓tupT_ap, ↓tupL_ap, ↓lstT_ap, ↓lstL_ap, ↓ixT_ap, ↓ixL_ap, ↓ixC_ap, ↓ixB_ap, ↓tgetM_ap, ↓tgetK_ap, ↓tixM_ap, ↓tixK_ap, ↓tgtN_ap, ↓tgtT_tup, ↓tgtT_lst, ↓tgsNil_ap, ↓tgsCons_ap, ↓itA_lst, ↓itA_scr, ↓itA_tup, ↓itA_str, ↓hixM_ak, ↓hixK_h, ↓hixK_m, ↓hixL_ap, ↓hixR_h, ↓hixR_m, ↓subD_ap, ↓ltD_ap, ↓leD_ap, ↓gtD_ap, ↓geD_ap, ↓modD_ap, ↓fdivD_ap, ↓addL_ap, ↓addI_ap, ↓addS_ap, ↓slS_ap, ↓mulI_ap, ↓mulR_ap, optK_some, optKD_some, eqP, eqS, inP, inP.flat, inP.eqF, isN, L2.atI, L2.ixN, isiO, isi2O, tyn, L2.kitB, sbeq, toP, toPs, PySem.SeqAt.shaped, PySem.PyData.canLay0, PySem.PyData.canLayAll0, PySem.PyData.depth, PySem.PyData.depthAll, PySem.PyData.eqv, PySem.PyData.eqvAll, strOk_of, ↓truM_ap, ↓truR_bl, q1, q2, q3, ↓i0, ↓i1, ↓i2, ↓i3, ↓z]
theorem xco_back (o : Own4) (s t : Str) : (o.xc s t).xc s t = o := by
  unfold Own4.xc
  simp only [xc_xc]
theorem xco_comm (o : Own4) (s t : Str) : o.xc t s = o.xc s t := by
  unfold Own4.xc
  rw [xc_comm o.a s t, xc_comm o.b s t]
theorem t14 {o : Own4} (ho : o.ok) (hs : nm s = true) (ht : nm t = true) {h : List D} : s5_14 [.d v, .m h, .d W, .d (.int i), .d o.t, .d o.s, e6, e7, e8, .d (.str s), .d (.str t), .d (o.xc s t).s, e12, e13, e14, e15, e16, e17] = .ok .nx [.d v, .m h, .d W, .d (.int i), .d o.t, .d o.s, e6, e7, e8, .d (.str s), .d (.str t), .d (o.xc s t).s, e12, e13, e14, e15, e16, e17] := by
  have q1 := exch_of (sx_ok (xco_ok ho hs ht) hs ht)
  rw [xco_back] at q1
  have q2 := exch_of (sx_ok ho ht hs)
  rw [xco_comm] at q2
  have q3 := parts_ok o
  have to : ∀ ρ, tupleC [o.t] ρ = .ok o.t ρ := fun ρ => nr rfl
  have z := eqP_t ho ho
  have n1 := neX_ss o o
  have n2 := neX_ss (o.xc s t) (o.xc s t)
  rw [same_self] at z n1 n2
  unfold s5_14
  generalize (o.xc s t).s = S2 at *
  generalize o.s = S at *
  generalize o.t = T at *
  simp [startR, startH, ↓atI_cast, ↓andT_ok, ↓andT_ex, ↓andT_bad, ↓bind_ap, ↓ret_ap, ↓bad_ap, ↓andB_ok, ↓andB_t, ↓andB_f, ↓andB_ex, ↓andB_bad, ↓iteM_ap, ↓iteF_ap, ↓andM_ap, ↓orM_ap, ↓notM_ap, ↓blR_bl, ↓blM_ap, ↓andR_bl, ↓andV_ap, ↓orR_bl, ↓orV_ap, ↓notR_bl, ↓notV_ap, ↓bin_ap, ↓un_ap, ↓chR_bl, ↓chain_ap, ↓consM_ap, ↓tupM_ap, ↓lstM_ap, ↓smallT_ap, ↓smallL_ap, ↓seqM_ap, ↓seqK_nx, ↓seqK_rt, ↓seqK_rtl, ↓seqK_bk, ↓seqK_ct, ↓seqK_ex, ↓seqK_bad, ↓retM_ap, ↓dropM_ap, ↓put_ap, ↓setM_ap, ↓setC_ap, ↓setL_ap, ↓smallS_ap, ↓retL_ap, ↓smallR_ap, ↓unpM_ap, ↓lstD_ap, ↓lcM_ap, ↓smallC_ap, ↓isiM_ak, ↓isiK_ap, ↓isi2M_ak, ↓isi2K_ap, ↓callF_ap, ↓resF_ok, ↓resF_ex, ↓forS_ap, ↓forM_nil, ↓forM_cons, ↓forK_nx, ↓forK_ct, ↓forK_bk, ↓forK_rt, ↓forK_ex, ↓tryM_ap, ↓tryK_ok, ↓tryK_ex, ↓noExK_ok, ↓raiseM_ap, ↓appM_ap, ↓apps_m, ↓appK_ap, ↓appKK_m, ↓callMM_ap, ↓mmK_m, ↓mmK_h, ↓callM_ap, ↓cmK_m, ↓cmK_h, ↓resM_some, ↓callO_ap, ↓resO_some, ↓slM_ap, ↓intO_ap, ↓intK_int, ↓rd_ap, ↓rdK_d, ↓rdK_m, ↓finP_rt, ↓finP_nx, ↓finP_ex, ↓finO_rtl, ↓finM_rt, ↓finM_nx, ↓eqD_ap, ↓neD_ap, ↓inD_ap, ↓notInD_ap, ↓negD_ap, ↓isNonD_ap, ↓notNonD_ap, ↓isBlD_ap, ↓notBlD_ap, ↓lenS_ap, ↓lenT_ap, ↓lenL_ap, ↓lenC_ap, ↓intI_ap, ↓intB_ap, ↓all_ap, ↓any_ap, ↓reprI_ap, ↓reprS_ap, ↓tupT_ap, ↓tupL_ap, ↓lstT_ap, ↓lstL_ap, ↓ixT_ap, ↓ixL_ap, ↓ixC_ap, ↓ixB_ap, ↓tgetM_ap, ↓tgetK_ap, ↓tixM_ap, ↓tixK_ap, ↓tgtN_ap, ↓tgtT_tup, ↓tgtT_lst, ↓tgsNil_ap, ↓tgsCons_ap, ↓itA_lst, ↓itA_scr, ↓itA_tup, ↓itA_str, ↓hixM_ak, ↓hixK_h, ↓hixK_m, ↓hixL_ap, ↓hixR_h, ↓hixR_m, ↓subD_ap, ↓ltD_ap, ↓leD_ap, ↓gtD_ap, ↓geD_ap, ↓modD_ap, ↓fdivD_ap, ↓addL_ap, ↓addI_ap, ↓addS_ap, ↓slS_ap, ↓mulI_ap, ↓mulR_ap, optK_some, optKD_some, eqP, eqS, inP, inP.flat, inP.eqF, isN, L2.atI, L2.ixN, isiO, isi2O, tyn, L2.kitB, sbeq, toP, toPs, PySem.SeqAt.shaped, PySem.PyData.canLay0, PySem.PyData.canLayAll0, PySem.PyData.depth, PySem.PyData.depthAll, PySem.PyData.eqv, PySem.PyData.eqvAll, strOk_of, ↓truM_ap, ↓truR_bl, q1, q2, q3, ↓to, ↓z, ↓n1, ↓n2]
def I2 (v W : D) (i : Int) (o : Own4) (s t : Str) (h : List D) (e6 e7 e8 e11 e13 e14 e15 e16 e17 : EV) (ρ : Rho) : Prop := ∃ e12, ρ = [.d v, .m h, .d W, .d (.int i), .d o.t, .d o.s, e6, e7, e8, .d (.str s), .d (.str t), e11, e12, e13, e14, e15, e16, e17]
theorem turn2 {o : Own4} (hs : nm s = true) (ht : nm t = true) {h : List D} (n : Str) (ρ : Rho) (hI : I2 v W i o s t h e6 e7 e8 e11 e13 e14 e15 e16 e17 ρ) : ∃ ρ', De.bind (tgtN 12 (.str n)) (fun _ => b_law_2) ρ = .ok .nx ρ' ∧ I2 v W i o s t h e6 e7 e8 e11 e13 e14 e15 e16 e17 ρ' := by
  obtain ⟨e12, rfl⟩ := hI
  have q1 := nx_of (xn_ok (n := n) hs ht)
  have q2 := other_ok n s t
  have es := neP_s (xc n s t) (xc n s t)
  rw [beq_self_eq_true] at es
  refine ⟨_, ?_, .d (.str n), rfl⟩
  unfold b_law_2
  generalize xc n s t = X at *
  generalize o.t = T at *
  generalize o.s = S at *
  simp [startR, startH, ↓atI_cast, ↓andT_ok, ↓andT_ex, ↓andT_bad, ↓bind_ap, ↓ret_ap, ↓bad_ap, ↓andB_ok, ↓andB_t, ↓andB_f, ↓andB_ex, ↓andB_bad, ↓iteM_ap, ↓iteF_ap, ↓andM_ap, ↓orM_ap, ↓notM_ap, ↓blR_bl, ↓blM_ap, ↓andR_bl, ↓andV_ap, ↓orR_bl, ↓orV_ap, ↓notR_bl, ↓notV_ap, ↓bin_ap, ↓un_ap, ↓chR_bl, ↓chain_ap, ↓consM_ap, ↓tupM_ap, ↓lstM_ap, ↓smallT_ap, ↓smallL_ap, ↓seqM_ap, ↓seqK_nx, ↓seqK_rt, ↓seqK_rtl, ↓seqK_bk, ↓seqK_ct, ↓seqK_ex, ↓seqK_bad, ↓retM_ap, ↓dropM_ap, ↓put_ap, ↓setM_ap, ↓setC_ap, ↓setL_ap, ↓smallS_ap, ↓retL_ap, ↓smallR_ap, ↓unpM_ap, ↓lstD_ap, ↓lcM_ap, ↓smallC_ap, ↓isiM_ak, ↓isiK_ap, ↓isi2M_ak, ↓isi2K_ap, ↓callF_ap, ↓resF_ok, ↓resF_ex, ↓forS_ap, ↓forM_nil, ↓forM_cons, ↓forK_nx, ↓forK_ct, ↓forK_bk, ↓forK_rt, ↓forK_ex, ↓tryM_ap, ↓tryK_ok, ↓tryK_ex, ↓noExK_ok, ↓raiseM_ap, ↓appM_ap, ↓apps_m, ↓appK_ap, ↓appKK_m, ↓callMM_ap, ↓mmK_m, ↓mmK_h, ↓callM_ap, ↓cmK_m, ↓cmK_h, ↓resM_some, ↓callO_ap, ↓resO_some, ↓slM_ap, ↓intO_ap, ↓intK_int, ↓rd_ap, ↓rdK_d, ↓rdK_m, ↓finP_rt, ↓finP_nx, ↓finP_ex, ↓finO_rtl, ↓finM_rt, ↓finM_nx, ↓eqD_ap, ↓neD_ap, ↓inD_ap, ↓notInD_ap, ↓negD_ap, ↓isNonD_ap, ↓notNonD_ap, ↓isBlD_ap, ↓notBlD_ap, ↓lenS_ap, ↓lenT_ap, ↓lenL_ap, ↓lenC_ap, ↓intI_ap, ↓intB_ap, ↓all_ap, ↓any_ap, ↓reprI_ap, ↓reprS_ap, ↓tupT_ap, ↓tupL_ap, ↓lstT_ap, ↓lstL_ap, ↓ixT_ap, ↓ixL_ap, ↓ixC_ap, ↓ixB_ap, ↓tgetM_ap, ↓tgetK_ap, ↓tixM_ap, ↓tixK_ap, ↓tgtN_ap, ↓tgtT_tup, ↓tgtT_lst, ↓tgsNil_ap, ↓tgsCons_ap, ↓itA_lst, ↓itA_scr, ↓itA_tup, ↓itA_str, ↓hixM_ak, ↓hixK_h, ↓hixK_m, ↓hixL_ap, ↓hixR_h, ↓hixR_m, ↓subD_ap, ↓ltD_ap, ↓leD_ap, ↓gtD_ap, ↓geD_ap, ↓modD_ap, ↓fdivD_ap, ↓addL_ap, ↓addI_ap, ↓addS_ap, ↓slS_ap, ↓mulI_ap, ↓mulR_ap, optK_some, optKD_some, eqP, eqS, inP, inP.flat, inP.eqF, isN, L2.atI, L2.ixN, isiO, isi2O, tyn, L2.kitB, sbeq, toP, toPs, PySem.SeqAt.shaped, PySem.PyData.canLay0, PySem.PyData.canLayAll0, PySem.PyData.depth, PySem.PyData.depthAll, PySem.PyData.eqv, PySem.PyData.eqvAll, strOk_of, q1, q2, ↓es]
theorem t15 {o : Own4} (ho : o.ok) (hs : nm s = true) (ht : nm t = true) {h : List D} (hh : HG h) : ∃ (h' : List D) (f12 : EV), s5_15 [.d v, .m h, .d W, .d (.int i), .d o.t, .d o.s, e6, e7, e8, .d (.str s), .d (.str t), e11, e12, e13, e14, e15, e16, e17] = .ok .nx [.d v, .m h', .d W, .d (.int i), .d o.t, .d o.s, e6, e7, e8, .d (.str s), .d (.str t), e11, f12, e13, e14, e15, e16, e17] ∧ HG h' := by
  obtain ⟨z, h1, q1, hh1, hz⟩ := name_ok hh
  obtain ⟨ρ1, q2, f12, rfl⟩ := forM_inv (I2 v W i o s t h1 e6 e7 e8 e11 e13 e14 e15 e16 e17) (fun d => ∃ n, d = .str n) (fun d ρ ⟨n, hd⟩ hI => by
    subst hd
    exact turn2 hs ht n ρ hI) [.str s, .str t, .str z, .str o.a] [.d v, .m h1, .d W, .d (.int i), .d o.t, .d o.s, e6, e7, e8, .d (.str s), .d (.str t), e11, e12, e13, e14, e15, e16, e17] (fun d hd => by
      simp only [List.mem_cons, List.not_mem_nil, or_false] at hd
      rcases hd with rfl | rfl | rfl | rfl <;> exact ⟨_, rfl⟩) ⟨e12, rfl⟩
  obtain ⟨i0, _⟩ := t_ix o
  refine ⟨h1, f12, ?_, hh1⟩
  unfold s5_15
  generalize o.t = T at *
  generalize o.s = S at *
  simp [startR, startH, ↓atI_cast, ↓andT_ok, ↓andT_ex, ↓andT_bad, ↓bind_ap, ↓ret_ap, ↓bad_ap, ↓andB_ok, ↓andB_t, ↓andB_f, ↓andB_ex, ↓andB_bad, ↓iteM_ap, ↓iteF_ap, ↓andM_ap, ↓orM_ap, ↓notM_ap, ↓blR_bl, ↓blM_ap, ↓andR_bl, ↓andV_ap, ↓orR_bl, ↓orV_ap, ↓notR_bl, ↓notV_ap, ↓bin_ap, ↓un_ap, ↓chR_bl, ↓chain_ap, ↓consM_ap, ↓tupM_ap, ↓lstM_ap, ↓smallT_ap, ↓smallL_ap, ↓seqM_ap, ↓seqK_nx, ↓seqK_rt, ↓seqK_rtl, ↓seqK_bk, ↓seqK_ct, ↓seqK_ex, ↓seqK_bad, ↓retM_ap, ↓dropM_ap, ↓put_ap, ↓setM_ap, ↓setC_ap, ↓setL_ap, ↓smallS_ap, ↓retL_ap, ↓smallR_ap, ↓unpM_ap, ↓lstD_ap, ↓lcM_ap, ↓smallC_ap, ↓isiM_ak, ↓isiK_ap, ↓isi2M_ak, ↓isi2K_ap, ↓callF_ap, ↓resF_ok, ↓resF_ex, ↓forS_ap, ↓forM_nil, ↓forM_cons, ↓forK_nx, ↓forK_ct, ↓forK_bk, ↓forK_rt, ↓forK_ex, ↓tryM_ap, ↓tryK_ok, ↓tryK_ex, ↓noExK_ok, ↓raiseM_ap, ↓appM_ap, ↓apps_m, ↓appK_ap, ↓appKK_m, ↓callMM_ap, ↓mmK_m, ↓mmK_h, ↓callM_ap, ↓cmK_m, ↓cmK_h, ↓resM_some, ↓callO_ap, ↓resO_some, ↓slM_ap, ↓intO_ap, ↓intK_int, ↓rd_ap, ↓rdK_d, ↓rdK_m, ↓finP_rt, ↓finP_nx, ↓finP_ex, ↓finO_rtl, ↓finM_rt, ↓finM_nx, ↓eqD_ap, ↓neD_ap, ↓inD_ap, ↓notInD_ap, ↓negD_ap, ↓isNonD_ap, ↓notNonD_ap, ↓isBlD_ap, ↓notBlD_ap, ↓lenS_ap, ↓lenT_ap, ↓lenL_ap, ↓lenC_ap, ↓intI_ap, ↓intB_ap, ↓all_ap, ↓any_ap, ↓reprI_ap, ↓reprS_ap, ↓tupT_ap, ↓tupL_ap, ↓lstT_ap, ↓lstL_ap, ↓ixT_ap, ↓ixL_ap, ↓ixC_ap, ↓ixB_ap, ↓tgetM_ap, ↓tgetK_ap, ↓tixM_ap, ↓tixK_ap, ↓tgtN_ap, ↓tgtT_tup, ↓tgtT_lst, ↓tgsNil_ap, ↓tgsCons_ap, ↓itA_lst, ↓itA_scr, ↓itA_tup, ↓itA_str, ↓hixM_ak, ↓hixK_h, ↓hixK_m, ↓hixL_ap, ↓hixR_h, ↓hixR_m, ↓subD_ap, ↓ltD_ap, ↓leD_ap, ↓gtD_ap, ↓geD_ap, ↓modD_ap, ↓fdivD_ap, ↓addL_ap, ↓addI_ap, ↓addS_ap, ↓slS_ap, ↓mulI_ap, ↓mulR_ap, optK_some, optKD_some, eqP, eqS, inP, inP.flat, inP.eqF, isN, L2.atI, L2.ixN, isiO, isi2O, tyn, L2.kitB, sbeq, toP, toPs, PySem.SeqAt.shaped, PySem.PyData.canLay0, PySem.PyData.canLayAll0, PySem.PyData.depth, PySem.PyData.depthAll, PySem.PyData.eqv, PySem.PyData.eqvAll, strOk_of, q1, ↓i0, itA, ↓q2]
def NoN (d : D) : Prop := ∃ w, Ent2 d false w
theorem t16 {o : Own4} (hs : nm s = true) {h : List D} (hh : HG h) : ∃ (d : D) (h' : List D), s5_16 [.d v, .m h, .d W, .d (.int i), .d o.t, .d o.s, e6, e7, e8, .d (.str s), .d (.str t), e11, e12, e13, e14, e15, e16, e17] = .ok .nx [.d v, .m h', .d W, .d (.int i), .d o.t, .d o.s, e6, e7, e8, .d (.str s), .d (.str t), e11, e12, .d d, e14, e15, e16, e17] ∧ HG h' ∧ NoN d := by
  obtain ⟨k, h1, hk, q1, hh1⟩ := take_i hh 6 6 rfl (by decide) (by decide)
  have ls := nm_le hs
  have ad : ∀ ρ, addD (.str s) (.str "abcdefgh") ρ = .ok (.str (s ++ "abcdefgh")) ρ := fun ρ => addS _ _ ρ (by have : (("abcdefgh" : Str)).length = 8 := rfl; omega)
  obtain ⟨x, hx, xi⟩ := mem_ix (P := NoN) (L := [.non, .str "", .str (s ++ "abcdefgh"), .int 3, .str "Ann", .bl true]) (fun d hd => by
    simp only [List.mem_cons, List.not_mem_nil, or_false] at hd
    rcases hd with rfl | rfl | rfl | rfl | rfl | rfl
    · exact ⟨_, ent_non⟩
    · exact ⟨_, ent_str (by decide) (by decide +kernel)⟩
    · exact ⟨_, ent_long hs⟩
    · exact ⟨_, ent_int 3⟩
    · exact ⟨_, ent_str (by decide) (by decide +kernel)⟩
    · exact ⟨_, ent_bl true⟩) (v := k) (by simpa using hk)
  refine ⟨x, h1, ?_, hh1, hx⟩
  unfold s5_16
  generalize (s ++ ("abcdefgh" : Str)) = A1 at *
  generalize o.t = T at *
  generalize o.s = S at *
  simp [startR, startH, ↓atI_cast, ↓andT_ok, ↓andT_ex, ↓andT_bad, ↓bind_ap, ↓ret_ap, ↓bad_ap, ↓andB_ok, ↓andB_t, ↓andB_f, ↓andB_ex, ↓andB_bad, ↓iteM_ap, ↓iteF_ap, ↓andM_ap, ↓orM_ap, ↓notM_ap, ↓blR_bl, ↓blM_ap, ↓andR_bl, ↓andV_ap, ↓orR_bl, ↓orV_ap, ↓notR_bl, ↓notV_ap, ↓bin_ap, ↓un_ap, ↓chR_bl, ↓chain_ap, ↓consM_ap, ↓tupM_ap, ↓lstM_ap, ↓smallT_ap, ↓smallL_ap, ↓seqM_ap, ↓seqK_nx, ↓seqK_rt, ↓seqK_rtl, ↓seqK_bk, ↓seqK_ct, ↓seqK_ex, ↓seqK_bad, ↓retM_ap, ↓dropM_ap, ↓put_ap, ↓setM_ap, ↓setC_ap, ↓setL_ap, ↓smallS_ap, ↓retL_ap, ↓smallR_ap, ↓unpM_ap, ↓lstD_ap, ↓lcM_ap, ↓smallC_ap, ↓isiM_ak, ↓isiK_ap, ↓isi2M_ak, ↓isi2K_ap, ↓callF_ap, ↓resF_ok, ↓resF_ex, ↓forS_ap, ↓forM_nil, ↓forM_cons, ↓forK_nx, ↓forK_ct, ↓forK_bk, ↓forK_rt, ↓forK_ex, ↓tryM_ap, ↓tryK_ok, ↓tryK_ex, ↓noExK_ok, ↓raiseM_ap, ↓appM_ap, ↓apps_m, ↓appK_ap, ↓appKK_m, ↓callMM_ap, ↓mmK_m, ↓mmK_h, ↓callM_ap, ↓cmK_m, ↓cmK_h, ↓resM_some, ↓callO_ap, ↓resO_some, ↓slM_ap, ↓intO_ap, ↓intK_int, ↓rd_ap, ↓rdK_d, ↓rdK_m, ↓finP_rt, ↓finP_nx, ↓finP_ex, ↓finO_rtl, ↓finM_rt, ↓finM_nx, ↓eqD_ap, ↓neD_ap, ↓inD_ap, ↓notInD_ap, ↓negD_ap, ↓isNonD_ap, ↓notNonD_ap, ↓isBlD_ap, ↓notBlD_ap, ↓lenS_ap, ↓lenT_ap, ↓lenL_ap, ↓lenC_ap, ↓intI_ap, ↓intB_ap, ↓all_ap, ↓any_ap, ↓reprI_ap, ↓reprS_ap, ↓tupT_ap, ↓tupL_ap, ↓lstT_ap, ↓lstL_ap, ↓ixT_ap, ↓ixL_ap, ↓ixC_ap, ↓ixB_ap, ↓tgetM_ap, ↓tgetK_ap, ↓tixM_ap, ↓tixK_ap, ↓tgtN_ap, ↓tgtT_tup, ↓tgtT_lst, ↓tgsNil_ap, ↓tgsCons_ap, ↓itA_lst, ↓itA_scr, ↓itA_tup, ↓itA_str, ↓hixM_ak, ↓hixK_h, ↓hixK_m, ↓hixL_ap, ↓hixR_h, ↓hixR_m, ↓subD_ap, ↓ltD_ap, ↓leD_ap, ↓gtD_ap, ↓geD_ap, ↓modD_ap, ↓fdivD_ap, ↓addL_ap, ↓addI_ap, ↓addS_ap, ↓slS_ap, ↓mulI_ap, ↓mulR_ap, optK_some, optKD_some, eqP, eqS, inP, inP.flat, inP.eqF, isN, L2.atI, L2.ixN, isiO, isi2O, tyn, L2.kitB, sbeq, toP, toPs, PySem.SeqAt.shaped, PySem.PyData.canLay0, PySem.PyData.canLayAll0, PySem.PyData.depth, PySem.PyData.depthAll, PySem.PyData.eqv, PySem.PyData.eqvAll, strOk_of, ↓ad, q1, ↓xi]
theorem no_lst (a b : Str) : eqP (.lst [.str "no", .str "name"]) (.lst [.str "no", .str "name"]) = some true := by
  simp [eqP, eqS, toP, toPs, PySem.SeqAt.shaped, PySem.PyData.canLay0, PySem.PyData.canLayAll0, PySem.PyData.depth, PySem.PyData.depthAll, PySem.PyData.eqv, PySem.PyData.eqvAll, strOk_of]
def I1 (v W : D) (i : Int) (o : Own4) (s t : Str) (h : List D) (e6 e7 e8 e11 e12 e13 e15 e16 e17 : EV) (ρ : Rho) : Prop := ∃ e14, ρ = [.d v, .m h, .d W, .d (.int i), .d o.t, .d o.s, e6, e7, e8, .d (.str s), .d (.str t), e11, e12, e13, e14, e15, e16, e17]
def BadP (d : D) : Prop := ∃ x y : D, d = .tup [x, y] ∧ F_check_names [x, y] = .ex "BadSituation" [("what", .str "name")]
theorem turn1 {o : Own4} {h : List D} (d : D) (hd : BadP d) (ρ : Rho) (hI : I1 v W i o s t h e6 e7 e8 e11 e12 e13 e15 e16 e17 ρ) : ∃ ρ', De.bind (tgtN 14 d) (fun _ => b_law_1) ρ = .ok .nx ρ' ∧ I1 v W i o s t h e6 e7 e8 e11 e12 e13 e15 e16 e17 ρ' := by
  obtain ⟨e14, rfl⟩ := hI
  obtain ⟨x, y, rfl, q⟩ := hd
  have q1 := exch_no (sx_no (o := o) q)
  have q2 := nx_no (xn_no (n := .str s) q)
  have j0 : ∀ ρ, De.ixD (.tup [x, y]) (.int 0) ρ = .ok x ρ := fun ρ => nr rfl
  have j1 : ∀ ρ, De.ixD (.tup [x, y]) (.int 1) ρ = .ok y ρ := fun ρ => nr rfl
  have es := neP_s "name" "name"
  rw [beq_self_eq_true] at es
  have el := no_lst "no" "name"
  refine ⟨_, ?_, .d (.tup [x, y]), rfl⟩
  unfold b_law_1
  generalize D.tup [x, y] = P at *
  generalize o.t = T at *
  generalize o.s = S at *
  simp [startR, startH, ↓atI_cast, ↓andT_ok, ↓andT_ex, ↓andT_bad, ↓bind_ap, ↓ret_ap, ↓bad_ap, ↓andB_ok, ↓andB_t, ↓andB_f, ↓andB_ex, ↓andB_bad, ↓iteM_ap, ↓iteF_ap, ↓andM_ap, ↓orM_ap, ↓notM_ap, ↓blR_bl, ↓blM_ap, ↓andR_bl, ↓andV_ap, ↓orR_bl, ↓orV_ap, ↓notR_bl, ↓notV_ap, ↓bin_ap, ↓un_ap, ↓chR_bl, ↓chain_ap, ↓consM_ap, ↓tupM_ap, ↓lstM_ap, ↓smallT_ap, ↓smallL_ap, ↓seqM_ap, ↓seqK_nx, ↓seqK_rt, ↓seqK_rtl, ↓seqK_bk, ↓seqK_ct, ↓seqK_ex, ↓seqK_bad, ↓retM_ap, ↓dropM_ap, ↓put_ap, ↓setM_ap, ↓setC_ap, ↓setL_ap, ↓smallS_ap, ↓retL_ap, ↓smallR_ap, ↓unpM_ap, ↓lstD_ap, ↓lcM_ap, ↓smallC_ap, ↓isiM_ak, ↓isiK_ap, ↓isi2M_ak, ↓isi2K_ap, ↓callF_ap, ↓resF_ok, ↓resF_ex, ↓forS_ap, ↓forM_nil, ↓forM_cons, ↓forK_nx, ↓forK_ct, ↓forK_bk, ↓forK_rt, ↓forK_ex, ↓tryM_ap, ↓tryK_ok, ↓tryK_ex, ↓noExK_ok, ↓raiseM_ap, ↓appM_ap, ↓apps_m, ↓appK_ap, ↓appKK_m, ↓callMM_ap, ↓mmK_m, ↓mmK_h, ↓callM_ap, ↓cmK_m, ↓cmK_h, ↓resM_some, ↓callO_ap, ↓resO_some, ↓slM_ap, ↓intO_ap, ↓intK_int, ↓rd_ap, ↓rdK_d, ↓rdK_m, ↓finP_rt, ↓finP_nx, ↓finP_ex, ↓finO_rtl, ↓finM_rt, ↓finM_nx, ↓eqD_ap, ↓neD_ap, ↓inD_ap, ↓notInD_ap, ↓negD_ap, ↓isNonD_ap, ↓notNonD_ap, ↓isBlD_ap, ↓notBlD_ap, ↓lenS_ap, ↓lenT_ap, ↓lenL_ap, ↓lenC_ap, ↓intI_ap, ↓intB_ap, ↓all_ap, ↓any_ap, ↓reprI_ap, ↓reprS_ap, ↓tupT_ap, ↓tupL_ap, ↓lstT_ap, ↓lstL_ap, ↓ixT_ap, ↓ixL_ap, ↓ixC_ap, ↓ixB_ap, ↓tgetM_ap, ↓tgetK_ap, ↓tixM_ap, ↓tixK_ap, ↓tgtN_ap, ↓tgtT_tup, ↓tgtT_lst, ↓tgsNil_ap, ↓tgsCons_ap, ↓itA_lst, ↓itA_scr, ↓itA_tup, ↓itA_str, ↓hixM_ak, ↓hixK_h, ↓hixK_m, ↓hixL_ap, ↓hixR_h, ↓hixR_m, ↓subD_ap, ↓ltD_ap, ↓leD_ap, ↓gtD_ap, ↓geD_ap, ↓modD_ap, ↓fdivD_ap, ↓addL_ap, ↓addI_ap, ↓addS_ap, ↓slS_ap, ↓mulI_ap, ↓mulR_ap, optK_some, optKD_some, eqP, eqS, inP, inP.flat, inP.eqF, isN, L2.atI, L2.ixN, isiO, isi2O, tyn, L2.kitB, sbeq, toP, toPs, PySem.SeqAt.shaped, PySem.PyData.canLay0, PySem.PyData.canLayAll0, PySem.PyData.depth, PySem.PyData.depthAll, PySem.PyData.eqv, PySem.PyData.eqvAll, strOk_of, ↓j0, ↓j1, q1, q2, ↓es, ↓el]
theorem t17 {o : Own4} (hs : nm s = true) {d : D} (hd : NoN d) {h : List D} : ∃ f14 : EV, s5_17 [.d v, .m h, .d W, .d (.int i), .d o.t, .d o.s, e6, e7, e8, .d (.str s), .d (.str t), e11, e12, .d d, e14, e15, e16, e17] = .ok .nx [.d v, .m h, .d W, .d (.int i), .d o.t, .d o.s, e6, e7, e8, .d (.str s), .d (.str t), e11, e12, .d d, f14, e15, e16, e17] := by
  obtain ⟨w, hd⟩ := hd
  obtain ⟨ρ1, q2, f14, rfl⟩ := forM_inv (I1 v W i o s t h e6 e7 e8 e11 e12 (.d d) e15 e16 e17) BadP (fun x ρ hx hI => turn1 x hx ρ hI) [.tup [d, .str t], .tup [.str s, d], .tup [d, d]] [.d v, .m h, .d W, .d (.int i), .d o.t, .d o.s, e6, e7, e8, .d (.str s), .d (.str t), e11, e12, .d d, e14, e15, e16, e17] (fun x hx => by
      simp only [List.mem_cons, List.not_mem_nil, or_false] at hx
      rcases hx with rfl | rfl | rfl
      · exact ⟨_, _, rfl, cn_no0 hd⟩
      · exact ⟨_, _, rfl, cn_no1 (ent_nm hs) hd⟩
      · exact ⟨_, _, rfl, cn_no0 hd⟩) ⟨e14, rfl⟩
  refine ⟨f14, ?_⟩
  unfold s5_17
  generalize o.t = T at *
  generalize o.s = S at *
  simp [startR, startH, ↓atI_cast, ↓andT_ok, ↓andT_ex, ↓andT_bad, ↓bind_ap, ↓ret_ap, ↓bad_ap, ↓andB_ok, ↓andB_t, ↓andB_f, ↓andB_ex, ↓andB_bad, ↓iteM_ap, ↓iteF_ap, ↓andM_ap, ↓orM_ap, ↓notM_ap, ↓blR_bl, ↓blM_ap, ↓andR_bl, ↓andV_ap, ↓orR_bl, ↓orV_ap, ↓notR_bl, ↓notV_ap, ↓bin_ap, ↓un_ap, ↓chR_bl, ↓chain_ap, ↓consM_ap, ↓tupM_ap, ↓lstM_ap, ↓smallT_ap, ↓smallL_ap, ↓seqM_ap, ↓seqK_nx, ↓seqK_rt, ↓seqK_rtl, ↓seqK_bk, ↓seqK_ct, ↓seqK_ex, ↓seqK_bad, ↓retM_ap, ↓dropM_ap, ↓put_ap, ↓setM_ap, ↓setC_ap, ↓setL_ap, ↓smallS_ap, ↓retL_ap, ↓smallR_ap, ↓unpM_ap, ↓lstD_ap, ↓lcM_ap, ↓smallC_ap, ↓isiM_ak, ↓isiK_ap, ↓isi2M_ak, ↓isi2K_ap, ↓callF_ap, ↓resF_ok, ↓resF_ex, ↓forS_ap, ↓forM_nil, ↓forM_cons, ↓forK_nx, ↓forK_ct, ↓forK_bk, ↓forK_rt, ↓forK_ex, ↓tryM_ap, ↓tryK_ok, ↓tryK_ex, ↓noExK_ok, ↓raiseM_ap, ↓appM_ap, ↓apps_m, ↓appK_ap, ↓appKK_m, ↓callMM_ap, ↓mmK_m, ↓mmK_h, ↓callM_ap, ↓cmK_m, ↓cmK_h, ↓resM_some, ↓callO_ap, ↓resO_some, ↓slM_ap, ↓intO_ap, ↓intK_int, ↓rd_ap, ↓rdK_d, ↓rdK_m, ↓finP_rt, ↓finP_nx, ↓finP_ex, ↓finO_rtl, ↓finM_rt, ↓finM_nx, ↓eqD_ap, ↓neD_ap, ↓inD_ap, ↓notInD_ap, ↓negD_ap, ↓isNonD_ap, ↓notNonD_ap, ↓isBlD_ap, ↓notBlD_ap, ↓lenS_ap, ↓lenT_ap, ↓lenL_ap, ↓lenC_ap, ↓intI_ap, ↓intB_ap, ↓all_ap, ↓any_ap, ↓reprI_ap, ↓reprS_ap, ↓tupT_ap, ↓tupL_ap, ↓lstT_ap, ↓lstL_ap, ↓ixT_ap, ↓ixL_ap, ↓ixC_ap, ↓ixB_ap, ↓tgetM_ap, ↓tgetK_ap, ↓tixM_ap, ↓tixK_ap, ↓tgtN_ap, ↓tgtT_tup, ↓tgtT_lst, ↓tgsNil_ap, ↓tgsCons_ap, ↓itA_lst, ↓itA_scr, ↓itA_tup, ↓itA_str, ↓hixM_ak, ↓hixK_h, ↓hixK_m, ↓hixL_ap, ↓hixR_h, ↓hixR_m, ↓subD_ap, ↓ltD_ap, ↓leD_ap, ↓gtD_ap, ↓geD_ap, ↓modD_ap, ↓fdivD_ap, ↓addL_ap, ↓addI_ap, ↓addS_ap, ↓slS_ap, ↓mulI_ap, ↓mulR_ap, optK_some, optKD_some, eqP, eqS, inP, inP.flat, inP.eqF, isN, L2.atI, L2.ixN, isiO, isi2O, tyn, L2.kitB, sbeq, toP, toPs, PySem.SeqAt.shaped, PySem.PyData.canLay0, PySem.PyData.canLayAll0, PySem.PyData.depth, PySem.PyData.depthAll, PySem.PyData.eqv, PySem.PyData.eqvAll, strOk_of, itA, ↓q2]
end
end
end De

set_option Elab.async false
set_option linter.all false
set_option maxRecDepth 100000
set_option maxHeartbeats 1000000
namespace De
open K05
open PySem (Str sizeLine_eq)
/-! the law -/
def LI (v W : D) (ρ : Rho) : Prop := ∃ (h : List D) (e3 e4 e5 e6 e7 e8 e9 e10 e11 e12 e13 e14 e15 e16 e17 : EV), ρ = [.d v, .m h, .d W, e3, e4, e5, e6, e7, e8, e9, e10, e11, e12, e13, e14, e15, e16, e17] ∧ HG h
theorem turn5 {v W : D} (hW : WG3 W) (i : Int) (ρ : Rho) (hI : LI v W ρ) : ∃ ρ', De.bind (tgtN 3 (.int i)) (fun _ => b_law_5) ρ = .ok .nx ρ' ∧ LI v W ρ' := by
  obtain ⟨h, e3, e4, e5, e6, e7, e8, e9, e10, e11, e12, e13, e14, e15, e16, e17, rfl, hh⟩ := hI
  obtain ⟨o0, h1, g1, hh1, ho0⟩ := t1 (v := v) (i := i) (e4 := e4) (e5 := e5) (e6 := e6) (e7 := e7) (e8 := e8) (e9 := e9) (e10 := e10) (e11 := e11) (e12 := e12) (e13 := e13) (e14 := e14) (e15 := e15) (e16 := e16) (e17 := e17) hW hh
  obtain ⟨o, h2, g2, hh2, ho⟩ := t2 (v := v) (W := W) (i := i) (e5 := e5) (e6 := e6) (e7 := e7) (e8 := e8) (e9 := e9) (e10 := e10) (e11 := e11) (e12 := e12) (e13 := e13) (e14 := e14) (e15 := e15) (e16 := e16) (e17 := e17) ho0 hh1
  have g3 := t3 (v := v) (W := W) (i := i) (e5 := e5) (e6 := e6) (e7 := e7) (e8 := e8) (e9 := e9) (e10 := e10) (e11 := e11) (e12 := e12) (e13 := e13) (e14 := e14) (e15 := e15) (e16 := e16) (e17 := e17) ho (h := h2)
  have g4 := t4 (v := v) (W := W) (i := i) (e6 := e6) (e7 := e7) (e8 := e8) (e9 := e9) (e10 := e10) (e11 := e11) (e12 := e12) (e13 := e13) (e14 := e14) (e15 := e15) (e16 := e16) (e17 := e17) ho (h := h2)
  obtain ⟨h3, f6, f11, f15, f16, f17, g5, hh3⟩ := t5 (v := v) (W := W) (i := i) (e6 := e6) (e7 := e7) (e8 := e8) (e9 := e9) (e10 := e10) (e11 := e11) (e12 := e12) (e13 := e13) (e14 := e14) (e15 := e15) (e16 := e16) (e17 := e17) ho hh2
  obtain ⟨n, h4, g6, hh4⟩ := t6 (v := v) (W := W) (i := i) (o := o) (e6 := f6) (e7 := e7) (e8 := e8) (e9 := e9) (e10 := e10) (e11 := f11) (e12 := e12) (e13 := e13) (e14 := e14) (e15 := f15) (e16 := f16) (e17 := f17) hh3
  have g7 := t7 (v := v) (W := W) (i := i) (n := n) (e6 := f6) (e8 := e8) (e9 := e9) (e10 := e10) (e11 := f11) (e12 := e12) (e13 := e13) (e14 := e14) (e15 := f15) (e16 := f16) (e17 := f17) ho (h := h4)
  have g8 := t8 (v := v) (W := W) (i := i) (n := n) (e6 := f6) (e9 := e9) (e10 := e10) (e11 := f11) (e12 := e12) (e13 := e13) (e14 := e14) (e15 := f15) (e16 := f16) (e17 := f17) ho (h := h4)
  obtain ⟨h5, g9, hh5⟩ := t9 (v := v) (W := W) (i := i) (o := o) (e6 := f6) (e7 := .d (.int n)) (e8 := .d (o.mv n).s) (e9 := e9) (e10 := e10) (e11 := f11) (e12 := e12) (e13 := e13) (e14 := e14) (e15 := f15) (e16 := f16) (e17 := f17) hh4
  obtain ⟨s, h6, g10, hh6, hs⟩ := t10 (v := v) (i := i) (e6 := f6) (e7 := .d (.int n)) (e8 := .d (o.mv n).s) (e9 := e9) (e10 := e10) (e11 := f11) (e12 := e12) (e13 := e13) (e14 := e14) (e15 := f15) (e16 := f16) (e17 := f17) ho hW hh5
  obtain ⟨t, h7, g11, hh7, ht⟩ := t11 (v := v) (W := W) (i := i) (e6 := f6) (e7 := .d (.int n)) (e8 := .d (o.mv n).s) (e9 := .d (.str s)) (e10 := e10) (e11 := f11) (e12 := e12) (e13 := e13) (e14 := e14) (e15 := f15) (e16 := f16) (e17 := f17) ho hh6
  have g12 := t12 (v := v) (W := W) (i := i) (e6 := f6) (e7 := .d (.int n)) (e8 := .d (o.mv n).s) (e11 := f11) (e12 := e12) (e13 := e13) (e14 := e14) (e15 := f15) (e16 := f16) (e17 := f17) ho hs ht (h := h7)
  have g13 := t13 (v := v) (W := W) (i := i) (e6 := f6) (e7 := .d (.int n)) (e8 := .d (o.mv n).s) (e12 := e12) (e13 := e13) (e14 := e14) (e15 := f15) (e16 := f16) (e17 := f17) ho hs ht (h := h7)
  have g14 := t14 (v := v) (W := W) (i := i) (e6 := f6) (e7 := .d (.int n)) (e8 := .d (o.mv n).s) (e12 := e12) (e13 := e13) (e14 := e14) (e15 := f15) (e16 := f16) (e17 := f17) ho hs ht (h := h7)
  obtain ⟨h8, f12, g15, hh8⟩ := t15 (v := v) (W := W) (i := i) (e6 := f6) (e7 := .d (.int n)) (e8 := .d (o.mv n).s) (e11 := .d (o.xc s t).s) (e12 := e12) (e13 := e13) (e14 := e14) (e15 := f15) (e16 := f16) (e17 := f17) ho hs ht hh7
  obtain ⟨d, h9, g16, hh9, hd⟩ := t16 (v := v) (W := W) (i := i) (o := o) (t := t) (e6 := f6) (e7 := .d (.int n)) (e8 := .d (o.mv n).s) (e11 := .d (o.xc s t).s) (e12 := f12) (e13 := e13) (e14 := e14) (e15 := f15) (e16 := f16) (e17 := f17) hs hh8
  obtain ⟨f14, g17⟩ := t17 (v := v) (W := W) (i := i) (o := o) (t := t) (e6 := f6) (e7 := .d (.int n)) (e8 := .d (o.mv n).s) (e11 := .d (o.xc s t).s) (e12 := f12) (e14 := e14) (e15 := f15) (e16 := f16) (e17 := f17) hs hd (h := h9)
  have tb : tgtN 3 (.int i) [.d v, .m h, .d W, e3, e4, e5, e6, e7, e8, e9, e10, e11, e12, e13, e14, e15, e16, e17] = .ok () [.d v, .m h, .d W, .d (.int i), e4, e5, e6, e7, e8, e9, e10, e11, e12, e13, e14, e15, e16, e17] := rfl
  rw [bind_ap, tb, andT_ok, b_law_5_is]
  exact ⟨_, (seq_nx g1).trans ((seq_nx g2).trans ((seq_nx g3).trans ((seq_nx g4).trans ((seq_nx g5).trans ((seq_nx g6).trans ((seq_nx g7).trans ((seq_nx g8).trans ((seq_nx g9).trans ((seq_nx g10).trans ((seq_nx g11).trans ((seq_nx g12).trans ((seq_nx g13).trans ((seq_nx g14).trans ((seq_nx g15).trans ((seq_nx g16).trans g17))))))))))))))),
    h9, .d (.int i), .d o.t, .d o.s, f6, .d (.int n), .d (o.mv n).s, .d (.str s), .d (.str t), .d (o.xc s t).s, f12, .d d, f14, f15, f16, f17, rfl, hh9⟩
theorem law05_ok (ns : List Int) (hn : ns.length ≤ 63) : F_law [.scr (ns.map .int)] = .ok (.bl true) := by
  obtain ⟨h0, q0, hh0⟩ := hand_ok ns hn
  obtain ⟨h1, q1, hh1⟩ := tongues_ok hh0
  obtain ⟨W, h2, q2, hh2, hW⟩ := world3_ok hh1
  generalize hv : D.scr (ns.map .int) = v at q0 ⊢
  obtain ⟨ρ1, q3, hl, f3, f4, f5, f6, f7, f8, f9, f10, f11, f12, f13, f14, f15, f16, f17, rfl, hh⟩ := forM_inv (LI v W) IsI (fun d ρ ⟨i, hd⟩ h => by
    subst hd
    exact turn5 hW i ρ h) (rngL 0 5) [.d v, .m h2, .d W, .u, .u, .u, .u, .u, .u, .u, .u, .u, .u, .u, .u, .u, .u, .u] (fun y hy => by
      obtain ⟨j, e, _⟩ := mem_rngL 5 y hy
      exact ⟨j, e⟩) ⟨h2, .u, .u, .u, .u, .u, .u, .u, .u, .u, .u, .u, .u, .u, .u, .u, rfl, hh2⟩
  have r5 := fun ρ => rng7 5 5 rfl (by decide) ρ
  generalize rngL 0 5 = R at r5 q3
  unfold F_law mkP g_law
  simp [startR, startH, ↓atI_cast, ↓andT_ok, ↓andT_ex, ↓andT_bad, ↓bind_ap, ↓ret_ap, ↓bad_ap, ↓andB_ok, ↓andB_t, ↓andB_f, ↓andB_ex, ↓andB_bad, ↓iteM_ap, ↓iteF_ap, ↓andM_ap, ↓orM_ap, ↓notM_ap, ↓blR_bl, ↓blM_ap, ↓andR_bl, ↓andV_ap, ↓orR_bl, ↓orV_ap, ↓notR_bl, ↓notV_ap, ↓bin_ap, ↓un_ap, ↓chR_bl, ↓chain_ap, ↓consM_ap, ↓tupM_ap, ↓lstM_ap, ↓smallT_ap, ↓smallL_ap, ↓seqM_ap, ↓seqK_nx, ↓seqK_rt, ↓seqK_rtl, ↓seqK_bk, ↓seqK_ct, ↓seqK_ex, ↓seqK_bad, ↓retM_ap, ↓dropM_ap, ↓put_ap, ↓setM_ap, ↓setC_ap, ↓setL_ap, ↓smallS_ap, ↓retL_ap, ↓smallR_ap, ↓unpM_ap, ↓lstD_ap, ↓lcM_ap, ↓smallC_ap, ↓isiM_ak, ↓isiK_ap, ↓isi2M_ak, ↓isi2K_ap, ↓callF_ap, ↓resF_ok, ↓resF_ex, ↓forS_ap, ↓forM_nil, ↓forM_cons, ↓forK_nx, ↓forK_ct, ↓forK_bk, ↓forK_rt, ↓forK_ex, ↓tryM_ap, ↓tryK_ok, ↓tryK_ex, ↓noExK_ok, ↓raiseM_ap, ↓appM_ap, ↓apps_m, ↓appK_ap, ↓appKK_m, ↓callMM_ap, ↓mmK_m, ↓mmK_h, ↓callM_ap, ↓cmK_m, ↓cmK_h, ↓resM_some, ↓callO_ap, ↓resO_some, ↓slM_ap, ↓intO_ap, ↓intK_int, ↓rd_ap, ↓rdK_d, ↓rdK_m, ↓finP_rt, ↓finP_nx, ↓finP_ex, ↓finO_rtl, ↓finM_rt, ↓finM_nx, ↓eqD_ap, ↓neD_ap, ↓inD_ap, ↓notInD_ap, ↓negD_ap, ↓isNonD_ap, ↓notNonD_ap, ↓isBlD_ap, ↓notBlD_ap, ↓lenS_ap, ↓lenT_ap, ↓lenL_ap, ↓lenC_ap, ↓intI_ap, ↓intB_ap, ↓all_ap, ↓any_ap, ↓reprI_ap, ↓reprS_ap, ↓tupT_ap, ↓tupL_ap, ↓lstT_ap, ↓lstL_ap, ↓ixT_ap, ↓ixL_ap, ↓ixC_ap, ↓ixB_ap, ↓tgetM_ap, ↓tgetK_ap, ↓tixM_ap, ↓tixK_ap, ↓tgtN_ap, ↓tgtT_tup, ↓tgtT_lst, ↓tgsNil_ap, ↓tgsCons_ap, ↓itA_lst, ↓itA_scr, ↓itA_tup, ↓itA_str, ↓hixM_ak, ↓hixK_h, ↓hixK_m, ↓hixL_ap, ↓hixR_h, ↓hixR_m, ↓subD_ap, ↓ltD_ap, ↓leD_ap, ↓gtD_ap, ↓geD_ap, ↓modD_ap, ↓fdivD_ap, ↓addL_ap, ↓addI_ap, ↓addS_ap, ↓slS_ap, ↓mulI_ap, ↓mulR_ap, optK_some, optKD_some, eqP, eqS, inP, inP.flat, inP.eqF, isN, L2.atI, L2.ixN, isiO, isi2O, tyn, L2.kitB, sbeq, toP, toPs, PySem.SeqAt.shaped, PySem.PyData.canLay0, PySem.PyData.canLayAll0, PySem.PyData.depth, PySem.PyData.depthAll, PySem.PyData.eqv, PySem.PyData.eqvAll, strOk_of, ↓truM_ap, ↓truR_bl, q0, q1, q2, ↓r5, ↓q3]
end De

set_option Elab.async false
set_option linter.all false
set_option maxRecDepth 100000
set_option maxHeartbeats 2000000
namespace De
open PySem PySem.Spec PyProof.Rows L2
open PySem.W (Frag)
theorem funE_mk {K : Frag} {h : Heap} {mg : Str → Option Value} {x : Str} {st : Stmt} {f : Addr} {oc : Value} {od an : Option Addr} {osl : Array (Option Value)} {kV doc pm cdv ct : Value} (X : K.In h) (G : h.Ns mainGlobals mg)
    (a : PySem.W.nsIn K mainGlobals x = some (some (.ref f))) (l : K.lookup f = some ⟨oc, od, .func (PySem.W.fnOf x x (defArgs st) (defBody st) (defScope st) .none kV doc pm an cdv ct), osl⟩) (c : PySem.W.codeIn K cdv x = true) (k : PySem.W.keepIn K (.ref f) = true) : FunE K mg x st :=
  ⟨f, _, fun_mk l c k, PySem.W.mg_of X G a⟩
theorem cx_never {P : Program} {w : World} {H : Hp} {s : Shared} {e : Value} {s' : Shared} (h : L2.CX P w [] H s (fun _ _ _ => False) e s') : False := by
  obtain ⟨_, _, _, _, _, _, _, _, _, _, _, _, z⟩ := h
  exact z
theorem ktab_mk {K : Frag} {w : World} {h : Heap} {mg : Str → Option Value} {x : Str} {a : Addr} {es : Array DictEntry} {n : Nat} {tb : List (Str × D)} (X : K.In h) (G : h.Ns mainGlobals mg) (q : PySem.W.nsIn K mainGlobals x = some (some (.ref a))) (l : K.lookup a = some ⟨.type "dict", none, .dict es n, #[]⟩) (k : PySem.W.KeysLit w.params es.toList) (m : TabM es.toList tb) (s : (a == sysModules) = false) : ∃ a, mg x = some (.ref a) ∧ KTab K w a tb :=
  ⟨a, PySem.W.mg_of X G q, ⟨es, n, l, k, m⟩, s⟩
theorem nx_mk {K : Frag} {C T : Addr} {v : Value} {nm q : Str} {N : Addr} {bs : List Value} {sn : List Str} {sub : List Value} {ab : Bool} {col : Option Bool} {dd : Option Addr} {m0 m1 m2 m3 m5 : Option Value} {bm : List Value} {x : String} {b1 : Bool}
    {nm' q' : Str} {N' : Addr} {bs' : List Value} {sn' : List Str} {sub' : List Value} {ab' : Bool} {col' : Option Bool} {dd' : Option Addr} {m0' m1' m2' m3' m5' : Option Value} {x' : String} {b1' : Bool}
    (xL : K.lookup C = some (excClassObj nm q C N bs (.ref T :: bm) b1 sn sub ab col dd m0 m1 m2 m3 m5 x)) (xT : K.lookup T = some (excClassObj nm' q' T N' bs' bm b1' sn' sub' ab' col' dd' m0' m1' m2' m3' m5' x'))
    (f : PySem.W.findIn K (.ref T) "__init__" = some (some v)) (hb : ((Value.ref C) != (Value.ref C)) = false) : PySem.W.ks_superIn K C C "__init__" = some (some v) := by
  unfold PySem.W.findIn at f
  simp only [xT] at f
  unfold PySem.W.ks_superIn PySem.W.clsIn
  simp only [xL]
  show PySem.W.alongIn K "__init__" (List.drop 1 (List.dropWhile (fun x => x != .ref C) (.ref C :: .ref T :: bm))) = _
  rw [List.dropWhile_cons_of_neg (by rw [hb]; exact Bool.false_ne_true)]
  exact f
theorem tab_str {t : Tok} {x : Str} {h : Nat} {y : Str} {u : Tok} {es : List DictEntry} {r : List (Str × D)} (k : TabM es r) : TabM ({ hash := h, key := .str x t, val := .str y u } :: es) ((x, .str y) :: r) :=
  ⟨⟨t, rfl⟩, ⟨.str y, ⟨_, rfl⟩, fun _ _ _ _ => .str _⟩, k⟩
/-- a law over a script: it answers True -/
def spLaw (K : Frag) : Sp := fun vs H Q _ => ∃ (a : Addr) (ns : List Int), vs = [.ref a] ∧ SqL K H a (ns.map V.int) ∧ ns.length ≤ 63 ∧ ∀ H', Q (.bl true) H'
theorem rpA_ints {K : Frag} {cm : Str → Option Addr} {Z : ZS} {H : Hp} : ∀ ns : List Int, RpA K cm Z H (ns.map V.int) (ns.map D.int)
  | [] => .nil
  | n :: ns => .cons (.int n) (rpA_ints ns)
theorem law_end {P : Program} {w : World} {K : Frag} {mg : Str → Option Value} {base : Heap} {cm : Str → Option Addr} {k : Nat} {f : Addr} {fd : FuncData} {x : Str} {F : List D → Fr D} (h : FnOk P w K mg base (L2.CX P w) k f fd [x] (spP K cm F)) (hF : ∀ ns : List Int, ns.length ≤ 63 → F [.scr (ns.map .int)] = .ok (.bl true)) : FnOk P w K mg base (L2.CX P w) k f fd [x] (spLaw K) := by
  refine h.imp fun vs H Q E ⟨a, ns, ev, hS, hl, hq⟩ => ?_
  subst ev
  refine ⟨fun b => H b ≠ none, [.scr (ns.map .int)], fun _ q => q, .cons (.scr ?_ (rpA_ints ns)) .nil, ?_⟩
  · rcases hS with hS | hS
    · refine .inl ⟨?_, hS⟩
      rcases hS with e | ⟨o, e⟩ <;> rw [e] <;> exact fun q => nomatch q
    · exact .inr hS
  · rw [hF ns hl]
    intro v Z' H' _ r
    cases r
    exact hq H'
end De
namespace K05
open PySem PySem.Spec PyProof.Rows L2 De
open PySem.W (Frag)
abbrev i1 : Stmt := (classBody (topS 2)).getD 0 (.Pass ⟨0, 0, 0, 0⟩)
abbrev i2 : Stmt := (classBody (topS 3)).getD 0 (.Pass ⟨0, 0, 0, 0⟩)
theorem err_1 {w : World} {K : Frag} {mg : Str → Option Value} {base : Heap} {C fI : Addr} {fd : FuncData} (T : SupX.SupC pw K C fI "BadTongue.__init__" i1 fd) : FnOk pw w K mg base (L2.CX pw w) 1 fI fd ["self"] (spE0 C) := by
  refine err0 T rfl ⟨rfl, rfl, rfl, by decide +kernel, rfl, by decide +kernel, by decide +kernel, by decide +kernel, by decide +kernel⟩ rfl rfl (fun _ => rfl) (fun env => ⟨_, rfl⟩)
theorem err_2 {w : World} {K : Frag} {mg : Str → Option Value} {base : Heap} {C fI : Addr} {fd : FuncData} (T : SupX.SupC pw K C fI "BadSituation.__init__" i2 fd) (hf : PySem.W.findIn K (.ref C) "what" = some none) : FnOk pw w K mg base (L2.CX pw w) 1 fI fd ["self", "what"] (spE1 C "what") := by
  refine err1 T rfl (by decide +kernel) hf ⟨rfl, rfl, rfl, by decide +kernel, rfl, by decide +kernel, by decide +kernel, by decide +kernel, by decide +kernel⟩ rfl rfl rfl rfl (by decide +kernel) (by decide +kernel) (fun _ => rfl) (fun _ => rfl) (fun env => ⟨_, rfl⟩)
/-- an error of the class at C in a clause that names S -/
theorem exm_mk {K : Frag} {S : Addr} {cls : Value} {b : Bool} (h1 : PySem.W.subIn K (.ref S) (.type "BaseException") = some true) (h2 : PySem.W.isClsIn K S = true) (h3 : PySem.W.typeIn K (.ref S) = some (.type "type")) (h4 : PySem.W.subIn K cls (.ref S) = some b) : PySem.W.exmOne K cls (.ref S) = some b := by
  have e1 : (PySem.W.subIn K (.ref S) (.type "BaseException") == some true) = true := by rw [h1] <;> rfl
  have e2 : ((PySem.W.clsIn K S).isSome && PySem.W.typeIn K (.ref S) == some (.type "type")) = true := by
    have h2' : (PySem.W.clsIn K S).isSome = true := h2
    rw [h2', h3] <;> rfl
  show (if (PySem.W.subIn K (.ref S) (.type "BaseException") == some true) = true then (if ((PySem.W.clsIn K S).isSome && PySem.W.typeIn K (.ref S) == some (.type "type")) = true then PySem.W.subIn K cls (.ref S) else none) else none) = some b
  rw [if_pos e1, if_pos e2]
  exact h4
theorem kit_mk {K : Frag} {S : Addr} {C : Addr} {b : Bool} (h1 : (Value.ref C == Value.ref S) = false) (h2 : PySem.W.isClsIn K S = true) (h3 : PySem.W.typeIn K (.ref S) = some (.type "type")) (h4 : PySem.W.subIn K (.ref C) (.ref S) = some b) : PySem.W.kitOne K (.ref C) (.ref S) = some b := by
  have e2 : ((PySem.W.clsIn K S).isSome && PySem.W.typeIn K (.ref S) == some (.type "type")) = true := by
    have h2' : (PySem.W.clsIn K S).isSome = true := h2
    rw [h2', h3] <;> rfl
  show (if (Value.ref C == Value.ref S) = true then some true else if ((PySem.W.clsIn K S).isSome && PySem.W.typeIn K (.ref S) == some (.type "type")) = true then PySem.W.subIn K (.ref C) (.ref S) else none) = some b
  rw [if_neg (by rw [h1]; exact Bool.false_ne_true), if_pos e2]
  exact h4
/-- the error's class, as the top leaves it -/
structure EC (K : Frag) (qual : Str) (st : Stmt) (ps : List Str) (C fI : Addr) (fd : FuncData) : Prop where
  T : SupX.SupC pw K C fI qual st fd
  b : L2.Binds K fd ps []
  ci : PySem.W.isClsIn K C = true
  ty : PySem.W.typeIn K (.ref C) = some (.type "type")
  bx : PySem.W.subIn K (.ref C) (.type "BaseException") = some true
  xc : XfC K C
  ec : ExcC K C
theorem ec_mk {K : Frag} {qual : Str} {st : Stmt} {ps : List Str} {C fI : Addr}
    {nm q : Str} {N : Addr} {bs : List Value} {sn : List Str} {sub : List Value} {ab : Bool} {col : Option Bool} {dd : Option Addr} {m0 m1 m2 m3 m5 : Option Value} {bm : List Value}
    {cc cda : Addr} {oc kV doc pm ct : Value} {od an : Option Addr} {osl : Array (Option Value)} {ccl cl : Value} {cdd cld : Option Addr} {vs : Array Value} {ccs csl : Array (Option Value)} {file : Str} {tf : Tok}
    (hb : ∀ (kV doc pm : Value) (an : Option Addr) (cd ct : Value) (cc : Addr) (us : List Value), us.length = ps.length → bindArgs (PySem.W.fnX "__init__" qual (defArgs st) (defBody st) (defScope st) [("__class__", cc)] .none kV doc pm an cd ct) ⟨us, []⟩ = pure (ps.zip (us ++ [])))
    (xL : K.lookup C = some (excClassObj nm q C N bs bm true sn sub ab col dd m0 m1 m2 m3 m5 "ValueError.__new__")) (ve : PySem.HandSPX.refsVE bm = true)
    (sa : PySem.W.findIn K (.ref C) "__setattr__" = some (some (.builtin "object.__setattr__"))) (exC : PySem.W.subIn K (.ref C) (.type "BaseException") = some true) (tyC : PySem.W.typeIn K (.ref C) = some (.type "type")) (kC : PySem.W.keepIn K (.ref C) = true)
    (iC : PySem.W.findIn K (.ref C) "__init__" = some (some (.ref fI))) (tI : PySem.W.typeIn K (.ref fI) = some (.type "function")) (isV : PySem.W.subIn K (.ref C) (.type "ValueError") = some true) (nx : PySem.W.ks_superIn K C C "__init__" = some (some (.builtin "ValueError.__init__"))) (me : PySem.W.mroIn K C (.ref C) = some true)
    (lfI : K.lookup fI = some ⟨oc, od, .func (PySem.W.fnX "__init__" qual (defArgs st) (defBody st) (defScope st) [("__class__", cc)] .none kV doc pm an (.ref cda) ct), osl⟩) (cd : PySem.W.codeIn K (.ref cda) qual = true)
    (lcda : K.lookup cda = some ⟨ccl, cdd, .fields vs, ccs⟩) (v2 : vs[2]? = some (.str file tf)) (fl : ((pw.main.file : Str) == file) = true) (lcc : K.lookup cc = some ⟨cl, cld, .cell (some (.ref C)), csl⟩)
    (opq : PySem.W.nsIn K cStatics "thirdparty.any" = some none) (sup : PySem.W.nsIn K mainGlobals "super" = some none) (ci : PySem.W.isClsIn K C = true)
    (ga : PySem.W.findIn K (.ref C) "__getattribute__" = some (some (.builtin "BaseException.__getattribute__"))) (gg : PySem.W.findIn K (.ref C) "__getattr__" = some none) (ca : PySem.W.findIn K (.ref C) "__class__" = some (some (.builtin "object.__class__")))
    (hn : PySem.W.specialIn K (.builtin "object.__class__") "__get__" = some (some (.builtin "getset_descriptor.__get__"))) (ht : PySem.W.takesIn K (.builtin "object.__class__") = some true) (ho : PySem.W.mroIn K C (.type "object") = some true) :
    ∃ fd, EC K qual st ps C fI fd := by
  have T : SupX.SupC pw K C fI qual st (PySem.W.fnX "__init__" qual (defArgs st) (defBody st) (defScope st) [("__class__", cc)] .none kV doc pm an (.ref cda) ct) :=
    ⟨⟨⟨nm, q, N, bs, bm, sn, sub, ab, col, dd, m0, m1, m2, m3, m5, xL, ve⟩, sa, exC, tyC, kC⟩, iC, tI, isV, nx, me, ⟨cc, cda, oc, kV, doc, pm, ct, od, an, osl, ccl, cl, cdd, cld, vs, ccs, csl, file, tf, rfl, lfI, cd, lcda, v2, fl, lcc⟩, opq, rfl, sup⟩
  have hd : PySem.W.hasDictIn K C = true := by
    unfold PySem.W.hasDictIn PySem.W.clsIn
    rw [xL]
    rfl
  exact ⟨_, T, fun s us hK hl => .of_eq (hb _ _ _ _ _ _ _ us (by simpa using hl)), ci, tyC, exC, ⟨ga, gg, exC, hd⟩, ⟨ga, gg, exC, hd, ca, hn, ht, ho⟩⟩
/-- a class of plain instances, as the top leaves it -/
theorem cls_mk {K : Frag} {qual : Str} {st : Stmt} {ps : List Str} {C f : Addr} {od an : Option Addr} {sl : Array (Option Value)} {oc kV dc pm cd ct : Value}
    (a1 : PySem.W.findIn K (.ref C) "__init__" = some (some (.ref f))) (q1 : PySem.W.isFn K (.ref f) = true) (l1 : K.lookup f = some ⟨oc, od, .func (PySem.W.fnOf "__init__" qual (defArgs st) (defBody st) (defScope st) .none kV dc pm an cd ct), sl⟩) (c1 : PySem.W.codeIn K cd qual = true) (k1 : PySem.W.keepIn K (.ref f) = true)
    (pg : PySem.W.plainGet K C Str.empty = true) (hd : PySem.W.hasDictIn K C = true) (po : PySem.W.plainOver K C = true) (sa : PySem.W.findIn K (.ref C) "__setattr__" = some (some (.builtin "object.__setattr__"))) (mk : PySem.W.makesIn K C = true) (kc : PySem.W.keepIn K (.ref C) = true)
    (hb : ∀ (kV doc pm : Value) (an : Option Addr) (cdv ct : Value) (us : List Value), us.length = ps.length → bindArgs (PySem.W.fnOf "__init__" qual (defArgs st) (defBody st) (defScope st) .none kV doc pm an cdv ct) ⟨us, []⟩ = pure (ps.zip us)) :
    ∃ fd, Mk K C f ∧ L2.Binds K fd ps [] ∧ Fun K "__init__" qual st f fd ∧ Cls K C := by
  have F1 := fun_mk (st := st) l1 c1 k1
  exact ⟨_, ⟨mk, a1, q1, kc⟩, F1.binds hb, F1, ⟨pg, hd, po, sa⟩⟩
/-- a method, as the top leaves it -/
theorem meth_mk {K : Frag} {x qual : Str} {st : Stmt} {ps : List Str} {f : Addr} {od an : Option Addr} {sl : Array (Option Value)} {oc kV dc pm cd ct : Value}
    (l1 : K.lookup f = some ⟨oc, od, .func (PySem.W.fnOf x qual (defArgs st) (defBody st) (defScope st) .none kV dc pm an cd ct), sl⟩) (c1 : PySem.W.codeIn K cd qual = true) (k1 : PySem.W.keepIn K (.ref f) = true)
    (hb : ∀ (kV doc pm : Value) (an : Option Addr) (cdv ct : Value) (us : List Value), us.length = ps.length → bindArgs (PySem.W.fnOf x qual (defArgs st) (defBody st) (defScope st) .none kV doc pm an cdv ct) ⟨us, []⟩ = pure (ps.zip us)) :
    ∃ fd, L2.Binds K fd ps [] ∧ Fun K x qual st f fd := by
  have F1 := fun_mk (st := st) l1 c1 k1
  exact ⟨_, F1.binds hb, F1⟩
theorem kit_self {K : Frag} {C : Addr} : PySem.W.kitOne K (.ref C) (.ref C) = some true := by
  show (if (Value.ref C == Value.ref C) = true then some true else _) = _
  rw [if_pos (by simp)]
theorem facts_mk {w : World} {K : Frag} {h : Heap} {mg : Str → Option Value} {base : Heap} {C1 C2 C3 C4 f1 f2 f3 f4 g_Tongue_eq g_Situation_eq g_Situation_moved g_Situation_exchanged : Addr} (X : K.In h) (G : h.Ns mainGlobals mg)
    (a1 : PySem.W.nsIn K mainGlobals "BadTongue" = some (some (.ref C1))) (E1 : ∃ fd, EC K "BadTongue.__init__" i1 ["self"] C1 f1 fd)
    (a2 : PySem.W.nsIn K mainGlobals "BadSituation" = some (some (.ref C2))) (E2 : ∃ fd, EC K "BadSituation.__init__" i2 ["self", "what"] C2 f2 fd)
    (a3 : PySem.W.nsIn K mainGlobals "Tongue" = some (some (.ref C3))) (E3 : ∃ fd, Mk K C3 f3 ∧ L2.Binds K fd ["self", "person", "you", "today", "here"] [] ∧ Fun K "__init__" "Tongue.__init__" init_Tongue f3 fd ∧ Cls K C3)
    (n_shifts_person : PySem.W.findIn K (.ref C3) "shifts_person" = some none) (n_shifts_you : PySem.W.findIn K (.ref C3) "shifts_you" = some none) (n_shifts_today : PySem.W.findIn K (.ref C3) "shifts_today" = some none) (n_shifts_here : PySem.W.findIn K (.ref C3) "shifts_here" = some none) (n_shifts : PySem.W.findIn K (.ref C3) "shifts" = some none)
    (ha3 : PySem.W.findIn K (.ref C3) "__class__" = some (some (.builtin "object.__class__"))) (hm3 : PySem.W.mroIn K C3 (.type "object") = some true) (ci3 : PySem.W.isClsIn K C3 = true) (ty3 : PySem.W.typeIn K (.ref C3) = some (.type "type"))
    (a4 : PySem.W.nsIn K mainGlobals "Situation" = some (some (.ref C4))) (E4 : ∃ fd, Mk K C4 f4 ∧ L2.Binds K fd ["self", "teller", "hearer", "day", "place"] [] ∧ Fun K "__init__" "Situation.__init__" init_Situation f4 fd ∧ Cls K C4)
    (n_teller : PySem.W.findIn K (.ref C4) "teller" = some none) (n_hearer : PySem.W.findIn K (.ref C4) "hearer" = some none) (n_day : PySem.W.findIn K (.ref C4) "day" = some none) (n_place : PySem.W.findIn K (.ref C4) "place" = some none)
    (ha4 : PySem.W.findIn K (.ref C4) "__class__" = some (some (.builtin "object.__class__"))) (hm4 : PySem.W.mroIn K C4 (.type "object") = some true) (ci4 : PySem.W.isClsIn K C4 = true) (ty4 : PySem.W.typeIn K (.ref C4) = some (.type "type"))
    (hn0 : PySem.W.specialIn K (.builtin "object.__class__") "__get__" = some (some (.builtin "getset_descriptor.__get__"))) (ht0 : PySem.W.takesIn K (.builtin "object.__class__") = some true)
    (u34 : PySem.W.subIn K (.ref C3) (.ref C4) = some false) (u43 : PySem.W.subIn K (.ref C4) (.ref C3) = some false) (n34 : (Value.ref C3 == Value.ref C4) = false) (n43 : (Value.ref C4 == Value.ref C3) = false)
    (at_Tongue_eq : PySem.W.findIn K (.ref C3) "__eq__" = some (some (.ref g_Tongue_eq))) (fn_Tongue_eq : PySem.W.isFn K (.ref g_Tongue_eq) = true) (kp_Tongue_eq : PySem.W.keepIn K (.ref g_Tongue_eq) = true) (M_Tongue_eq : ∃ fd, L2.Binds K fd ["self", "other"] [] ∧ Fun K "__eq__" "Tongue.__eq__" meth_Tongue_eq g_Tongue_eq fd)
    (ne_Tongue_eq : PySem.W.findIn K (.ref C3) "__ne__" = some (some (.builtin "object.__ne__")))
    (at_Situation_eq : PySem.W.findIn K (.ref C4) "__eq__" = some (some (.ref g_Situation_eq))) (fn_Situation_eq : PySem.W.isFn K (.ref g_Situation_eq) = true) (kp_Situation_eq : PySem.W.keepIn K (.ref g_Situation_eq) = true) (M_Situation_eq : ∃ fd, L2.Binds K fd ["self", "other"] [] ∧ Fun K "__eq__" "Situation.__eq__" meth_Situation_eq g_Situation_eq fd)
    (ne_Situation_eq : PySem.W.findIn K (.ref C4) "__ne__" = some (some (.builtin "object.__ne__")))
    (at_Situation_moved : PySem.W.findIn K (.ref C4) "moved" = some (some (.ref g_Situation_moved))) (fn_Situation_moved : PySem.W.isFn K (.ref g_Situation_moved) = true) (kp_Situation_moved : PySem.W.keepIn K (.ref g_Situation_moved) = true) (M_Situation_moved : ∃ fd, L2.Binds K fd ["self", "days"] [] ∧ Fun K "moved" "Situation.moved" meth_Situation_moved g_Situation_moved fd)
    (at_Situation_exchanged : PySem.W.findIn K (.ref C4) "exchanged" = some (some (.ref g_Situation_exchanged))) (fn_Situation_exchanged : PySem.W.isFn K (.ref g_Situation_exchanged) = true) (kp_Situation_exchanged : PySem.W.keepIn K (.ref g_Situation_exchanged) = true) (M_Situation_exchanged : ∃ fd, L2.Binds K fd ["self", "one", "other"] [] ∧ Fun K "exchanged" "Situation.exchanged" meth_Situation_exchanged g_Situation_exchanged fd)
    (s11 : PySem.W.subIn K (.ref C1) (.ref C1) = some true) (s12 : PySem.W.subIn K (.ref C1) (.ref C2) = some false) (s21 : PySem.W.subIn K (.ref C2) (.ref C1) = some false) (s22 : PySem.W.subIn K (.ref C2) (.ref C2) = some true) (s31 : PySem.W.subIn K (.ref C3) (.ref C1) = some false) (s32 : PySem.W.subIn K (.ref C3) (.ref C2) = some false) (s41 : PySem.W.subIn K (.ref C4) (.ref C1) = some false) (s42 : PySem.W.subIn K (.ref C4) (.ref C2) = some false)
    (x2 : PySem.W.findIn K (.ref C2) "what" = some none)
    (cL : ∃ u, mg "LETTERS" = some u ∧ RelV (.str "abcdefghijklmnopqrstuvwxyz") u)
    (z : Blt mg)
    (f_is_whole : FunE K mg "is_whole" (topS 6))
    (f_is_name : FunE K mg "is_name" (topS 7))
    (f_all_tongues : FunE K mg "all_tongues" (topS 10))
    (f_check_names : FunE K mg "check_names" (topS 11))
    (f_exchange_name : FunE K mg "exchange_name" (topS 12))
    (f__law_hand : FunE K mg "_law_hand" (topS 15))
    (f__law_mixed : FunE K mg "_law_mixed" (topS 16))
    (f__law_take : FunE K mg "_law_take" (topS 17))
    (f__law_name : FunE K mg "_law_name" (topS 18))
    (f__law_names : FunE K mg "_law_names" (topS 19))
    (f__law_world : FunE K mg "_law_world" (topS 20))
    (f__law_date : FunE K mg "_law_date" (topS 21))
    (f__law_situation : FunE K mg "_law_situation" (topS 22))
    (f__law_whole : FunE K mg "_law_whole" (topS 23))
    (f__law_unlike : FunE K mg "_law_unlike" (topS 24))
    (f__law_letters : FunE K mg "_law_letters" (topS 25))
    (f__law_tongue_tried : FunE K mg "_law_tongue_tried" (topS 26))
    (f__law_tried : FunE K mg "_law_tried" (topS 27))
    (f__law_moved : FunE K mg "_law_moved" (topS 28))
    (f__law_exchanged : FunE K mg "_law_exchanged" (topS 29))
    (f__law_name_exchanged : FunE K mg "_law_name_exchanged" (topS 30))
    (f__law_parts : FunE K mg "_law_parts" (topS 31))
    (f__law_other : FunE K mg "_law_other" (topS 32))
    (f__law_tongues_right : FunE K mg "_law_tongues_right" (topS 33))
    (f__law_due : FunE K mg "_law_due" (topS 34)) : Facts pw w K mg base := by
  obtain ⟨d1, E1⟩ := E1
  obtain ⟨d2, E2⟩ := E2
  obtain ⟨d3, M3, B3, F3, L3⟩ := E3
  obtain ⟨d4, M4, B4, F4, L4⟩ := E4
  obtain ⟨q_Tongue_eq, Bm_Tongue_eq, Fm_Tongue_eq⟩ := M_Tongue_eq
  obtain ⟨q_Situation_eq, Bm_Situation_eq, Fm_Situation_eq⟩ := M_Situation_eq
  obtain ⟨q_Situation_moved, Bm_Situation_moved, Fm_Situation_moved⟩ := M_Situation_moved
  obtain ⟨q_Situation_exchanged, Bm_Situation_exchanged, Fm_Situation_exchanged⟩ := M_Situation_exchanged
  have m1 := PySem.W.mg_of X G a1
  have c1 : cmOf mg "BadTongue" = some C1 := by
    unfold cmOf
    rw [m1]
    rfl
  have m2 := PySem.W.mg_of X G a2
  have c2 : cmOf mg "BadSituation" = some C2 := by
    unfold cmOf
    rw [m2]
    rfl
  have m3 := PySem.W.mg_of X G a3
  have c3 : cmOf mg "Tongue" = some C3 := by
    unfold cmOf
    rw [m3]
    rfl
  have m4 := PySem.W.mg_of X G a4
  have c4 : cmOf mg "Situation" = some C4 := by
    unfold cmOf
    rw [m4]
    rfl
  have cs : ∀ {c C}, cmOf mg c = some C → (c = "BadTongue" ∧ C = C1) ∨ (c = "BadSituation" ∧ C = C2) ∨ (c = "Tongue" ∧ C = C3) ∨ (c = "Situation" ∧ C = C4) := fun {c C} hc => by
    by_cases e1 : c = "BadTongue"
    · subst e1
      rw [c1] at hc
      exact .inl ⟨rfl, (Option.some.inj hc).symm⟩
    by_cases e2 : c = "BadSituation"
    · subst e2
      rw [c2] at hc
      exact .inr (.inl ⟨rfl, (Option.some.inj hc).symm⟩)
    by_cases e3 : c = "Tongue"
    · subst e3
      rw [c3] at hc
      exact .inr (.inr (.inl ⟨rfl, (Option.some.inj hc).symm⟩))
    by_cases e4 : c = "Situation"
    · subst e4
      rw [c4] at hc
      exact .inr (.inr (.inr (⟨rfl, (Option.some.inj hc).symm⟩)))
    exfalso
    unfold cmOf errs at hc
    rw [if_neg (by simp [e1, e2, e3, e4])] at hc
    cases hc
  have X1 : ∀ c C, cmOf mg c = some C → PySem.W.exmOne K (.ref C) (.ref C1) = some (c == "BadTongue") := fun c C hc => by
    rcases cs hc with ⟨rfl, rfl⟩ | ⟨rfl, rfl⟩ | ⟨rfl, rfl⟩ | ⟨rfl, rfl⟩
    · exact (exm_mk E1.bx E1.ci E1.ty s11).trans (congrArg some (show true = (("BadTongue" : Str) == "BadTongue") from by decide +kernel))
    · exact (exm_mk E1.bx E1.ci E1.ty s21).trans (congrArg some (show false = (("BadSituation" : Str) == "BadTongue") from by decide +kernel))
    · exact (exm_mk E1.bx E1.ci E1.ty s31).trans (congrArg some (show false = (("Tongue" : Str) == "BadTongue") from by decide +kernel))
    · exact (exm_mk E1.bx E1.ci E1.ty s41).trans (congrArg some (show false = (("Situation" : Str) == "BadTongue") from by decide +kernel))
  have X2 : ∀ c C, cmOf mg c = some C → PySem.W.exmOne K (.ref C) (.ref C2) = some (c == "BadSituation") := fun c C hc => by
    rcases cs hc with ⟨rfl, rfl⟩ | ⟨rfl, rfl⟩ | ⟨rfl, rfl⟩ | ⟨rfl, rfl⟩
    · exact (exm_mk E2.bx E2.ci E2.ty s12).trans (congrArg some (show false = (("BadTongue" : Str) == "BadSituation") from by decide +kernel))
    · exact (exm_mk E2.bx E2.ci E2.ty s22).trans (congrArg some (show true = (("BadSituation" : Str) == "BadSituation") from by decide +kernel))
    · exact (exm_mk E2.bx E2.ci E2.ty s32).trans (congrArg some (show false = (("Tongue" : Str) == "BadSituation") from by decide +kernel))
    · exact (exm_mk E2.bx E2.ci E2.ty s42).trans (congrArg some (show false = (("Situation" : Str) == "BadSituation") from by decide +kernel))
  have K3 : ∀ c ∈ (["Tongue"] : List Str), ∀ C, cmOf mg c = some C → C = C3 := fun c hm C hc => by
    rw [List.mem_singleton.1 hm, c3] at hc
    exact (Option.some.inj hc).symm
  have g_shifts_person : ∀ c ∈ fc_shifts_person, ∀ C, cmOf mg c = some C → Cls K C ∧ NoAttr K C "shifts_person" := fun c hm C hc => by
    rw [K3 c hm C hc]
    exact ⟨L3, n_shifts_person⟩
  have g_shifts_you : ∀ c ∈ fc_shifts_you, ∀ C, cmOf mg c = some C → Cls K C ∧ NoAttr K C "shifts_you" := fun c hm C hc => by
    rw [K3 c hm C hc]
    exact ⟨L3, n_shifts_you⟩
  have g_shifts_today : ∀ c ∈ fc_shifts_today, ∀ C, cmOf mg c = some C → Cls K C ∧ NoAttr K C "shifts_today" := fun c hm C hc => by
    rw [K3 c hm C hc]
    exact ⟨L3, n_shifts_today⟩
  have g_shifts_here : ∀ c ∈ fc_shifts_here, ∀ C, cmOf mg c = some C → Cls K C ∧ NoAttr K C "shifts_here" := fun c hm C hc => by
    rw [K3 c hm C hc]
    exact ⟨L3, n_shifts_here⟩
  have g_shifts : ∀ c ∈ fc_shifts, ∀ C, cmOf mg c = some C → Cls K C ∧ NoAttr K C "shifts" := fun c hm C hc => by
    rw [K3 c hm C hc]
    exact ⟨L3, n_shifts⟩
  have I3 : InsC K C3 := ⟨L3, ha3, hn0, ht0, hm3, ci3, ty3⟩
  have K4 : ∀ c ∈ (["Situation"] : List Str), ∀ C, cmOf mg c = some C → C = C4 := fun c hm C hc => by
    rw [List.mem_singleton.1 hm, c4] at hc
    exact (Option.some.inj hc).symm
  have g_teller : ∀ c ∈ fc_teller, ∀ C, cmOf mg c = some C → Cls K C ∧ NoAttr K C "teller" := fun c hm C hc => by
    rw [K4 c hm C hc]
    exact ⟨L4, n_teller⟩
  have g_hearer : ∀ c ∈ fc_hearer, ∀ C, cmOf mg c = some C → Cls K C ∧ NoAttr K C "hearer" := fun c hm C hc => by
    rw [K4 c hm C hc]
    exact ⟨L4, n_hearer⟩
  have g_day : ∀ c ∈ fc_day, ∀ C, cmOf mg c = some C → Cls K C ∧ NoAttr K C "day" := fun c hm C hc => by
    rw [K4 c hm C hc]
    exact ⟨L4, n_day⟩
  have g_place : ∀ c ∈ fc_place, ∀ C, cmOf mg c = some C → Cls K C ∧ NoAttr K C "place" := fun c hm C hc => by
    rw [K4 c hm C hc]
    exact ⟨L4, n_place⟩
  have I4 : InsC K C4 := ⟨L4, ha4, hn0, ht0, hm4, ci4, ty4⟩
  have xf : ∀ (c : Str) C, (c == ("BadSituation" : Str)) = true → cmOf mg c = some C → XfC K C ∧ PySem.W.findIn K (.ref C) "what" = some none := fun c C he hc => by
    have e : c = "BadSituation" := eq_of_beq he
    subst e
    rw [c2] at hc
    rw [← Option.some.inj hc]
    exact ⟨E2.xc, x2⟩
  have k3 : ClsE K mg (cmOf mg) clsL "Tongue" := ⟨C3, m3, I3, fun c' hm C' hc => by
    unfold clsL at hm
    simp only [List.mem_cons, List.not_mem_nil, or_false] at hm
    rcases hm with rfl | rfl
    · rw [c3] at hc
      rw [← Option.some.inj hc]
      exact ⟨I3, kit_self.trans (congrArg some (show true = (("Tongue" : Str) == "Tongue") from by decide +kernel))⟩
    · rw [c4] at hc
      rw [← Option.some.inj hc]
      exact ⟨I4, (kit_any n43 ci3 ty3 u43).trans (congrArg some (show false = (("Situation" : Str) == "Tongue") from by decide +kernel))⟩⟩
  have k4 : ClsE K mg (cmOf mg) clsL "Situation" := ⟨C4, m4, I4, fun c' hm C' hc => by
    unfold clsL at hm
    simp only [List.mem_cons, List.not_mem_nil, or_false] at hm
    rcases hm with rfl | rfl
    · rw [c3] at hc
      rw [← Option.some.inj hc]
      exact ⟨I3, (kit_any n34 ci4 ty4 u34).trans (congrArg some (show false = (("Tongue" : Str) == "Situation") from by decide +kernel))⟩
    · rw [c4] at hc
      rw [← Option.some.inj hc]
      exact ⟨I4, kit_self.trans (congrArg some (show true = (("Situation" : Str) == "Situation") from by decide +kernel))⟩⟩
  exact { blt := z, e_BadTongue := ⟨C1, f1, d1, m1, ⟨_, E1.T⟩, c1, X1, E1.b, err_1 E1.T⟩, e_BadSituation := ⟨C2, f2, d2, m2, ⟨_, E2.T⟩, c2, X2, E2.b, err_2 E2.T x2⟩, xf_BadSituation_what := xf, i_Tongue := ⟨C3, f3, d3, m3, c3, M3, B3, F3⟩, k_Tongue := k3, i_Situation := ⟨C4, f4, d4, m4, c4, M4, B4, F4⟩, k_Situation := k4, fl_shifts_person := g_shifts_person, fl_shifts_you := g_shifts_you, fl_shifts_today := g_shifts_today, fl_shifts_here := g_shifts_here, fl_shifts := g_shifts, fl_teller := g_teller, fl_hearer := g_hearer, fl_day := g_day, fl_place := g_place, q_Tongue_eq := ⟨C3, g_Tongue_eq, q_Tongue_eq, c3, at_Tongue_eq, fn_Tongue_eq, Bm_Tongue_eq, Fm_Tongue_eq, ne_Tongue_eq, hm3⟩, q_Situation_eq := ⟨C4, g_Situation_eq, q_Situation_eq, c4, at_Situation_eq, fn_Situation_eq, Bm_Situation_eq, Fm_Situation_eq, ne_Situation_eq, hm4⟩, m_Situation_moved := ⟨C4, g_Situation_moved, q_Situation_moved, c4, L4, ⟨at_Situation_moved, fn_Situation_moved, kp_Situation_moved⟩, Bm_Situation_moved, Fm_Situation_moved⟩, m_Situation_exchanged := ⟨C4, g_Situation_exchanged, q_Situation_exchanged, c4, L4, ⟨at_Situation_exchanged, fn_Situation_exchanged, kp_Situation_exchanged⟩, Bm_Situation_exchanged, Fm_Situation_exchanged⟩, c_LETTERS := cL, f_is_whole := f_is_whole, f_is_name := f_is_name, f_all_tongues := f_all_tongues, f_check_names := f_check_names, f_exchange_name := f_exchange_name, f__law_hand := f__law_hand, f__law_mixed := f__law_mixed, f__law_take := f__law_take, f__law_name := f__law_name, f__law_names := f__law_names, f__law_world := f__law_world, f__law_date := f__law_date, f__law_situation := f__law_situation, f__law_whole := f__law_whole, f__law_unlike := f__law_unlike, f__law_letters := f__law_letters, f__law_tongue_tried := f__law_tongue_tried, f__law_tried := f__law_tried, f__law_moved := f__law_moved, f__law_exchanged := f__law_exchanged, f__law_name_exchanged := f__law_name_exchanged, f__law_parts := f__law_parts, f__law_other := f__law_other, f__law_tongues_right := f__law_tongues_right, f__law_due := f__law_due }
theorem finish {w : World} {K : Frag} {h : Heap} {mg : Str → Option Value} {fa f : Addr} {oc : Value} {od an : Option Addr} {osl : Array (Option Value)} {kV doc pm cdv ct : Value} (X : K.In h) (G : h.Ns mainGlobals mg) (hfa : mg "law" = some (.ref fa))
    (a : PySem.W.nsIn K mainGlobals "law" = some (some (.ref f))) (l : K.lookup f = some ⟨oc, od, .func (PySem.W.fnOf "law" "law" (defArgs (topS 35)) (defBody (topS 35)) (defScope (topS 35)) .none kV doc pm an cdv ct), osl⟩) (c : PySem.W.codeIn K cdv "law" = true) (k : PySem.W.keepIn K (.ref f) = true)
    (T : ∀ base, Facts pw w K mg base) :
    ∃ fd : FuncData, (∀ (s : Shared) (v : Value), BindsTo s fd ⟨[v], []⟩ [("_law_script", v)]) ∧ ∀ base : Heap, K.In base → base.Ns mainGlobals mg → FnOk pw w K mg base (L2.CX pw w) 7 fa fd ["_law_script"] (spLaw K) := by
  have e := hfa.symm.trans (PySem.W.mg_of X G a)
  cases e
  have F1 := fun_mk (st := topS 35) l c k
  exact ⟨PySem.W.fnOf "law" "law" (defArgs (topS 35)) (defBody (topS 35)) (defScope (topS 35)) .none kV doc pm an cdv ct, fun s v => .of_eq rfl, fun base _ _ => law_end (all_own (T base) F1) law05_ok⟩
end K05

set_option Elab.async false
set_option linter.all false
set_option maxRecDepth 100000
open PySem PySem.W PyProof.Rows
set_option maxHeartbeats 0 in
theorem PySem.Challenge.cw_whosetomorrow_k05_whole_tongues_and_situ_holds : PySem.Challenge.rw_whosetomorrow_k05_whole_tongues_and_situ.Holds := by
  w_on; o_law; k_head; (case hw => w_witness2)
  k_fill
  refine L2.walk_of (l := PySem.Challenge.rw_whosetomorrow_k05_whole_tongues_and_situ) (n := 63) (k := 7) (x := "_law_script") (CX := fun w => L2.CX K05.pw w) (sp := fun w => De.spLaw _) rfl (by decide) rfl ⟨rfl, by decide, by decide⟩ (fun w h Y => PySem.W.kIn_of Y) ?F (fun _ _ a ns hl _ hS => ⟨a, ns, rfl, hS, hl, fun _ => rfl⟩) (fun _ _ _ _ _ h => De.cx_never h)
  case F =>
    intro w mg fa h KX G hmg
    refine' K05.finish KX G hmg ?a ?l ?c ?k fun base => ?T
    (case a => k_is); (case l => k_is); (case c => k_is); (case k => k_is)
    refine' K05.facts_mk KX G ?a1 ?E1 ?a2 ?E2 ?a3 ?E3 ?n_shifts_person ?n_shifts_you ?n_shifts_today ?n_shifts_here ?n_shifts ?ha3 ?hm3 ?ci3 ?ty3 ?a4 ?E4 ?n_teller ?n_hearer ?n_day ?n_place ?ha4 ?hm4 ?ci4 ?ty4 ?hn0 ?ht0 ?u34 ?u43 ?n34 ?n43 ?at_Tongue_eq ?fn_Tongue_eq ?kp_Tongue_eq ?M_Tongue_eq ?ne_Tongue_eq ?at_Situation_eq ?fn_Situation_eq ?kp_Situation_eq ?M_Situation_eq ?ne_Situation_eq ?at_Situation_moved ?fn_Situation_moved ?kp_Situation_moved ?M_Situation_moved ?at_Situation_exchanged ?fn_Situation_exchanged ?kp_Situation_exchanged ?M_Situation_exchanged ?s11 ?s12 ?s21 ?s22 ?s31 ?s32 ?s41 ?s42 ?x2 ?cL ?z ?f6 ?f7 ?f10 ?f11 ?f12 ?f15 ?f16 ?f17 ?f18 ?f19 ?f20 ?f21 ?f22 ?f23 ?f24 ?f25 ?f26 ?f27 ?f28 ?f29 ?f30 ?f31 ?f32 ?f33 ?f34
    (case a1 => k_is)
    case E1 =>
      refine' K05.ec_mk (fun _ _ _ _ _ _ _ us hl => match us, hl with | [_], _ => rfl) ?pxL ?pxve ?pxsa ?pxexC ?pxtyC ?pxkC ?pxiC ?pxtI ?pxisV ?pxnx ?pxme ?pxlfI ?pxcd ?pxlcda ?pxv2 ?pxfl ?pxlcc ?pxopq ?pxsup ?pxci ?pxga ?pxgg ?pxca ?pxhn ?pxht ?pxho
      (case pxL => first | k_is | rfl)
      (case pxve => decide +kernel)
      (case pxsa => first | k_is | rfl)
      (case pxexC => first | k_is | rfl)
      (case pxtyC => first | k_is | rfl)
      (case pxkC => first | k_is | rfl)
      (case pxiC => first | k_is | rfl)
      (case pxtI => first | k_is | rfl)
      (case pxisV => first | k_is | rfl)
      (case pxnx =>
        refine' De.nx_mk ?py1 ?py2 ?py3 ?py4
        (case py1 => k_is); (case py2 => k_is); (case py3 => k_is); (case py4 => rfl))
      (case pxme => first | k_is | rfl)
      (case pxlfI => first | k_is | rfl)
      (case pxcd => first | k_is | rfl)
      (case pxlcda => first | k_is | rfl)
      (case pxv2 => rfl)
      (case pxfl => rfl)
      (case pxlcc => first | k_is | rfl)
      (case pxopq => first | k_is | rfl)
      (case pxsup => first | k_is | rfl)
      (case pxci => first | k_is | rfl)
      (case pxga => first | k_is | rfl)
      (case pxgg => first | k_is | rfl)
      (case pxca => first | k_is | rfl)
      (case pxhn => first | k_is | rfl)
      (case pxht => first | k_is | rfl)
      (case pxho => first | k_is | rfl)
    (case a2 => k_is)
    case E2 =>
      refine' K05.ec_mk (fun _ _ _ _ _ _ _ us hl => match us, hl with | [_, _], _ => rfl) ?qxL ?qxve ?qxsa ?qxexC ?qxtyC ?qxkC ?qxiC ?qxtI ?qxisV ?qxnx ?qxme ?qxlfI ?qxcd ?qxlcda ?qxv2 ?qxfl ?qxlcc ?qxopq ?qxsup ?qxci ?qxga ?qxgg ?qxca ?qxhn ?qxht ?qxho
      (case qxL => first | k_is | rfl)
      (case qxve => decide +kernel)
      (case qxsa => first | k_is | rfl)
      (case qxexC => first | k_is | rfl)
      (case qxtyC => first | k_is | rfl)
      (case qxkC => first | k_is | rfl)
      (case qxiC => first | k_is | rfl)
      (case qxtI => first | k_is | rfl)
      (case qxisV => first | k_is | rfl)
      (case qxnx =>
        refine' De.nx_mk ?qy1 ?qy2 ?qy3 ?qy4
        (case qy1 => k_is); (case qy2 => k_is); (case qy3 => k_is); (case qy4 => rfl))
      (case qxme => first | k_is | rfl)
      (case qxlfI => first | k_is | rfl)
      (case qxcd => first | k_is | rfl)
      (case qxlcda => first | k_is | rfl)
      (case qxv2 => rfl)
      (case qxfl => rfl)
      (case qxlcc => first | k_is | rfl)
      (case qxopq => first | k_is | rfl)
      (case qxsup => first | k_is | rfl)
      (case qxci => first | k_is | rfl)
      (case qxga => first | k_is | rfl)
      (case qxgg => first | k_is | rfl)
      (case qxca => first | k_is | rfl)
      (case qxhn => first | k_is | rfl)
      (case qxht => first | k_is | rfl)
      (case qxho => first | k_is | rfl)
    (case a3 => k_is)
    case E3 =>
      refine' K05.cls_mk ?txa1 ?txq1 ?txl1 ?txc1 ?txk1 ?txpg ?txhd ?txpo ?txsa ?txmk ?txkc (fun _ _ _ _ _ _ us hl => match us, hl with | [_, _, _, _, _], _ => rfl)
      (case txa1 => k_is)
      (case txq1 => k_is)
      (case txl1 => k_is)
      (case txc1 => k_is)
      (case txk1 => k_is)
      (case txpg => k_is)
      (case txhd => k_is)
      (case txpo => k_is)
      (case txsa => k_is)
      (case txmk => k_is)
      (case txkc => k_is)
    (case n_shifts_person => k_is)
    (case n_shifts_you => k_is)
    (case n_shifts_today => k_is)
    (case n_shifts_here => k_is)
    (case n_shifts => k_is)
    (case ha3 => k_is); (case hm3 => k_is); (case ci3 => k_is); (case ty3 => k_is)
    (case a4 => k_is)
    case E4 =>
      refine' K05.cls_mk ?uxa1 ?uxq1 ?uxl1 ?uxc1 ?uxk1 ?uxpg ?uxhd ?uxpo ?uxsa ?uxmk ?uxkc (fun _ _ _ _ _ _ us hl => match us, hl with | [_, _, _, _, _], _ => rfl)
      (case uxa1 => k_is)
      (case uxq1 => k_is)
      (case uxl1 => k_is)
      (case uxc1 => k_is)
      (case uxk1 => k_is)
      (case uxpg => k_is)
      (case uxhd => k_is)
      (case uxpo => k_is)
      (case uxsa => k_is)
      (case uxmk => k_is)
      (case uxkc => k_is)
    (case n_teller => k_is)
    (case n_hearer => k_is)
    (case n_day => k_is)
    (case n_place => k_is)
    (case ha4 => k_is); (case hm4 => k_is); (case ci4 => k_is); (case ty4 => k_is)
    (case hn0 => k_is); (case ht0 => k_is); (case u34 => k_is); (case u43 => k_is); (case n34 => rfl); (case n43 => rfl)
    (case at_Tongue_eq => k_is); (case fn_Tongue_eq => k_is); (case kp_Tongue_eq => k_is)
    case M_Tongue_eq =>
      refine' K05.meth_mk ?lTongue_eq ?cTongue_eq ?kTongue_eq (fun _ _ _ _ _ _ us hl => match us, hl with | [_, _], _ => rfl)
      (case lTongue_eq => k_is); (case cTongue_eq => k_is); (case kTongue_eq => k_is)
    (case ne_Tongue_eq => k_is)
    (case at_Situation_eq => k_is); (case fn_Situation_eq => k_is); (case kp_Situation_eq => k_is)
    case M_Situation_eq =>
      refine' K05.meth_mk ?lSituation_eq ?cSituation_eq ?kSituation_eq (fun _ _ _ _ _ _ us hl => match us, hl with | [_, _], _ => rfl)
      (case lSituation_eq => k_is); (case cSituation_eq => k_is); (case kSituation_eq => k_is)
    (case ne_Situation_eq => k_is)
    (case at_Situation_moved => k_is); (case fn_Situation_moved => k_is); (case kp_Situation_moved => k_is)
    case M_Situation_moved =>
      refine' K05.meth_mk ?lSituation_moved ?cSituation_moved ?kSituation_moved (fun _ _ _ _ _ _ us hl => match us, hl with | [_, _], _ => rfl)
      (case lSituation_moved => k_is); (case cSituation_moved => k_is); (case kSituation_moved => k_is)
    (case at_Situation_exchanged => k_is); (case fn_Situation_exchanged => k_is); (case kp_Situation_exchanged => k_is)
    case M_Situation_exchanged =>
      refine' K05.meth_mk ?lSituation_exchanged ?cSituation_exchanged ?kSituation_exchanged (fun _ _ _ _ _ _ us hl => match us, hl with | [_, _, _], _ => rfl)
      (case lSituation_exchanged => k_is); (case cSituation_exchanged => k_is); (case kSituation_exchanged => k_is)
    (case s11 => first | rfl | k_is)
    (case s12 => k_is)
    (case s21 => k_is)
    (case s22 => first | rfl | k_is)
    (case s31 => k_is)
    (case s32 => k_is)
    (case s41 => k_is)
    (case s42 => k_is)
    (case x2 => k_is)
    case cL =>
      refine' ⟨_, PySem.W.mg_of KX G ?cLq, ?cLr⟩
      (case cLq => k_is)
      (case cLr => exact ⟨_, rfl⟩)
    case f6 =>
      refine' De.funE_mk KX G ?fa6 ?fl6 ?fc6 ?fk6
      (case fa6 => k_is); (case fl6 => k_is); (case fc6 => k_is); (case fk6 => k_is)
    case f7 =>
      refine' De.funE_mk KX G ?fa7 ?fl7 ?fc7 ?fk7
      (case fa7 => k_is); (case fl7 => k_is); (case fc7 => k_is); (case fk7 => k_is)
    case f10 =>
      refine' De.funE_mk KX G ?fa10 ?fl10 ?fc10 ?fk10
      (case fa10 => k_is); (case fl10 => k_is); (case fc10 => k_is); (case fk10 => k_is)
    case f11 =>
      refine' De.funE_mk KX G ?fa11 ?fl11 ?fc11 ?fk11
      (case fa11 => k_is); (case fl11 => k_is); (case fc11 => k_is); (case fk11 => k_is)
    case f12 =>
      refine' De.funE_mk KX G ?fa12 ?fl12 ?fc12 ?fk12
      (case fa12 => k_is); (case fl12 => k_is); (case fc12 => k_is); (case fk12 => k_is)
    case f15 =>
      refine' De.funE_mk KX G ?fa15 ?fl15 ?fc15 ?fk15
      (case fa15 => k_is); (case fl15 => k_is); (case fc15 => k_is); (case fk15 => k_is)
    case f16 =>
      refine' De.funE_mk KX G ?fa16 ?fl16 ?fc16 ?fk16
      (case fa16 => k_is); (case fl16 => k_is); (case fc16 => k_is); (case fk16 => k_is)
    case f17 =>
      refine' De.funE_mk KX G ?fa17 ?fl17 ?fc17 ?fk17
      (case fa17 => k_is); (case fl17 => k_is); (case fc17 => k_is); (case fk17 => k_is)
    case f18 =>
      refine' De.funE_mk KX G ?fa18 ?fl18 ?fc18 ?fk18
      (case fa18 => k_is); (case fl18 => k_is); (case fc18 => k_is); (case fk18 => k_is)
    case f19 =>
      refine' De.funE_mk KX G ?fa19 ?fl19 ?fc19 ?fk19
      (case fa19 => k_is); (case fl19 => k_is); (case fc19 => k_is); (case fk19 => k_is)
    case f20 =>
      refine' De.funE_mk KX G ?fa20 ?fl20 ?fc20 ?fk20
      (case fa20 => k_is); (case fl20 => k_is); (case fc20 => k_is); (case fk20 => k_is)
    case f21 =>
      refine' De.funE_mk KX G ?fa21 ?fl21 ?fc21 ?fk21
      (case fa21 => k_is); (case fl21 => k_is); (case fc21 => k_is); (case fk21 => k_is)
    case f22 =>
      refine' De.funE_mk KX G ?fa22 ?fl22 ?fc22 ?fk22
      (case fa22 => k_is); (case fl22 => k_is); (case fc22 => k_is); (case fk22 => k_is)
    case f23 =>
      refine' De.funE_mk KX G ?fa23 ?fl23 ?fc23 ?fk23
      (case fa23 => k_is); (case fl23 => k_is); (case fc23 => k_is); (case fk23 => k_is)
    case f24 =>
      refine' De.funE_mk KX G ?fa24 ?fl24 ?fc24 ?fk24
      (case fa24 => k_is); (case fl24 => k_is); (case fc24 => k_is); (case fk24 => k_is)
    case f25 =>
      refine' De.funE_mk KX G ?fa25 ?fl25 ?fc25 ?fk25
      (case fa25 => k_is); (case fl25 => k_is); (case fc25 => k_is); (case fk25 => k_is)
    case f26 =>
      refine' De.funE_mk KX G ?fa26 ?fl26 ?fc26 ?fk26
      (case fa26 => k_is); (case fl26 => k_is); (case fc26 => k_is); (case fk26 => k_is)
    case f27 =>
      refine' De.funE_mk KX G ?fa27 ?fl27 ?fc27 ?fk27
      (case fa27 => k_is); (case fl27 => k_is); (case fc27 => k_is); (case fk27 => k_is)
    case f28 =>
      refine' De.funE_mk KX G ?fa28 ?fl28 ?fc28 ?fk28
      (case fa28 => k_is); (case fl28 => k_is); (case fc28 => k_is); (case fk28 => k_is)
    case f29 =>
      refine' De.funE_mk KX G ?fa29 ?fl29 ?fc29 ?fk29
      (case fa29 => k_is); (case fl29 => k_is); (case fc29 => k_is); (case fk29 => k_is)
    case f30 =>
      refine' De.funE_mk KX G ?fa30 ?fl30 ?fc30 ?fk30
      (case fa30 => k_is); (case fl30 => k_is); (case fc30 => k_is); (case fk30 => k_is)
    case f31 =>
      refine' De.funE_mk KX G ?fa31 ?fl31 ?fc31 ?fk31
      (case fa31 => k_is); (case fl31 => k_is); (case fc31 => k_is); (case fk31 => k_is)
    case f32 =>
      refine' De.funE_mk KX G ?fa32 ?fl32 ?fc32 ?fk32
      (case fa32 => k_is); (case fl32 => k_is); (case fc32 => k_is); (case fk32 => k_is)
    case f33 =>
      refine' De.funE_mk KX G ?fa33 ?fl33 ?fc33 ?fk33
      (case fa33 => k_is); (case fl33 => k_is); (case fc33 => k_is); (case fk33 => k_is)
    case f34 =>
      refine' De.funE_mk KX G ?fa34 ?fl34 ?fc34 ?fk34
      (case fa34 => k_is); (case fl34 => k_is); (case fc34 => k_is); (case fk34 => k_is)
    case z =>
      refine' De.Blt.mk (PySem.W.mg_none_of KX G ?z0) (PySem.W.mg_none_of KX G ?z1) (PySem.W.mg_none_of KX G ?z2) (PySem.W.mg_none_of KX G ?z3) (PySem.W.mg_none_of KX G ?z4) (PySem.W.mg_none_of KX G ?z5) (PySem.W.mg_none_of KX G ?z6) (PySem.W.mg_none_of KX G ?z7) (PySem.W.mg_none_of KX G ?z8) (PySem.W.mg_none_of KX G ?z9) (PySem.W.mg_none_of KX G ?z10) (PySem.W.mg_none_of KX G ?z11) (PySem.W.mg_none_of KX G ?z12) (PySem.W.mg_none_of KX G ?z13)
      (case z0 => k_is)
      (case z1 => k_is)
      (case z2 => k_is)
      (case z3 => k_is)
      (case z4 => k_is)
      (case z5 => k_is)
      (case z6 => k_is)
      (case z7 => k_is)
      (case z8 => k_is)
      (case z9 => k_is)
      (case z10 => k_is)
      (case z11 => k_is)
      (case z12 => k_is)
      (case z13 => k_is)

