import PyProof.Rows.All
import Wide.All
import OpenK.AllK
import Wide.FinOn
import KE.KExcSuper
import HandS.ForSpec
import HandS.ExcInit
import HandS.Nested
import HandS.FStr
import HandS.CallLocal
import HandS.CallSlots
import HandS.ForMost
import HandS.More
import HandS.TryMany
import HandS.ExcField
import HandS.IsInst
import HandS.Walk
import HandS.DictComp
import HandS.Style
import HandS.Star
import HandS.Codes
import HandS.Wide
import HandS.RaiseMore
import PySem.Challenge.RW_retroact_k19_events_as_lines
set_option Elab.async false
set_option linter.all false
set_option maxRecDepth 100000
set_option maxHeartbeats 4000000
namespace RX
open PySem PySem.Spec PyProof.Rows L2 LamX NdefX
open PySem.W (kxs_mw KxsAt)
/-! ### the bound built-in __init__ of an exception that is being made, called -/
section
variable {prog : Program} {w : World} {A : Around} {E : Value → Shared → Prop} {h : Heap} {g : Array GenState} {d : Drawn} {t : Nat} {os : OsState}
variable {nm q : Str} {C N : Addr} {bs bm : List Value} {hdct : Bool} {sn : List Str} {sub : List Value} {ab : Bool} {col : Option Bool} {dd : Option Addr} {k0 k1 k2 k3 k5 : Option Value}
theorem call_mw {u e t0 : Addr} {rest : List Value} {Q : Value → Shared → Prop}
    (hC : h.get? C = some (excClassObj nm q C N bs bm hdct sn sub ab col dd k0 k1 k2 k3 k5 "ValueError.__new__")) (he : h.get? e = some (HandSPX.excO C t0)) (hu : h.get? u = some (kxs_mw "ValueError.__init__" e)) (hrest : rest.length ≤ sizeLine)
    (hq : ∀ h' t1, (∀ b o, b ≠ e → h.get? b = some o → h'.get? b = some o) → h'.get? e = some (HandSPX.excO C t1) → Q .none ⟨h', g, d, t, os⟩) :
    wpAny (model prog w) A (call (.ref u) rest) Q E ⟨h, g, d, t, os⟩ := by
  refine wpAny_call (codeAny_of_tree ?_)
  show wpAny _ A.in1 (callAny (.ref u) ⟨rest, []⟩) _ _ _
  simp only [callAny]
  refine wpAny_bind (wpAny_load hu ?_)
  simp only [kxs_mw, show (Value.type "method-wrapper" == Value.type "method" || Value.type "method-wrapper" == Value.type "builtin_function_or_method" || Value.type "method-wrapper" == Value.type "method-wrapper") = true by decide, if_true]
  refine W.KFB.if_so (by decide) ?_
  refine wpAny_bind (W.check_bound_init F.excBase_ValueError.toExcCallFacts hC he rfl ?_)
  refine wpAny_bind (wpAny_pure (wpAny_pure ?_))
  refine ⟨Code.quiet_builtin _ (by decide +kernel), codeAny_builtin F.excBase_ValueError.initEntry ?_⟩
  rw [Around.under_plainId F.excBase_ValueError.init.plain _]
  wp_walk
  refine hq _ h.objs.size (fun b o hb ho => ?_) ?_
  · rw [Heap.get?_update_other _ _ (Ne.symm hb)]
    exact Heap.get?_push_of_some _ ho
  · rw [Heap.get?_update_self _ (Heap.get?_push_of_some _ he) rfl]
    rfl
end
/-- what the written part says of the class for super().__init__ -/
structure SupC (prog : Program) (K : PySem.W.Frag) (mg : Str → Option Value) (C cc cda : Addr) : Prop where
  ox : OexC K C
  cell : ∃ cl cld csl, K.lookup cc = some ⟨cl, cld, .cell (some (.ref C)), csl⟩
  code : ∃ ccl cdd vs ccs file tf, K.lookup cda = some ⟨ccl, cdd, .fields vs, ccs⟩ ∧ vs[2]? = some (.str file tf) ∧ ((prog.main.file : Str) == file) = true
  self : PySem.W.mroIn K C (.ref C) = some true
  sup : mg "super" = none
  top : (prog.main.scope.names.lookup ("super" : Str)).isSome = false
  opq : PySem.W.nsIn K cStatics "thirdparty.any" = some none
  ini : PySem.W.ks_superIn K C C "__init__" = some (some (.builtin "ValueError.__init__"))
  vE : PySem.W.subIn K (.ref C) (.type "ValueError") = some true
theorem startF_head {N : List Str} {a : Addr} {vs : List V} {ws : List (Option V)} : (startF N (.ref a :: vs) ws)[0]? = some (some (.ref a)) := rfl

section
variable {CX : CXT} {P : Program} {w : World} {K : PySem.W.Frag} {mg : Str → Option Value} {base : Heap} {N ps : List Str} {fI cc cda C : Addr} {k : Nat} {sp : Sp}
  {nm qual : Str} {params : Arguments} {body rest : List Stmt} {scope : Scope} {kV doc pm ct oc : Value} {an od : Option Addr} {osl : Array (Option Value)} {e : Expr} {p0 p1 p2 p3 p4 : Pos} {ar : Arg}
abbrev supF (nm qual : Str) (params : Arguments) (body : List Stmt) (scope : Scope) (cc cda : Addr) : NF := ⟨nm, qual, params, body, scope, [("__class__", cc)], cda⟩
theorem fn_super (T : SupC P K mg C cc cda) (S : NScope N ps ["__class__"] scope) (hbd : body = .Expr (.Call (.Attribute (.Call (.Name "super" p0) [] [] p1) "__init__" p2) [e] [] p3) p4 :: rest)
    (lk : K.lookup fI = some ⟨oc, od, .func (PySem.W.ksFn nm qual params body scope .none kV doc pm an (.ref cda) ct cc), osl⟩) (hcd : PySem.W.codeIn K (.ref cda) qual = true)
    (hks : scope.names.lookup ("super" : Str) = some .globalImplicit) (hp : (params.posonlyargs ++ params.args).head? = some ar) (hps : ps.head? = some ar.arg)
    (len : ∀ vs H Q E, sp vs H Q E → vs.length = ps.length)
    (hst : ∀ env : Env, starEach [e] env = (false, eval e env) :: starEach [] env)
    (hev : ∀ L : Addr, ∃ pl : Sem Bool, eval (.Call (.Attribute (.Call (.Name "super" p0) [] [] p1) "__init__" p2) [e] [] p3) (envF (supF nm qual params body scope cc cda) fI L) = (do
      let ov ← attributeBase (.Call (.Name "super" p0) [] [] p1) "__init__" (envF (supF nm qual params body scope cc cda) fI L) (eval (.Call (.Name "super" p0) [] [] p1) (envF (supF nm qual params body scope cc cda) fI L))
      standAt p2.atName
      let (f, first) ← holding [ov] (getMethod ov "__init__" pl)
      callWith p3 f first (backTo p3 (starEach [e] (envF (supF nm qual params body scope cc cda) fI L))) []))
    (hbody : ∀ (A : Around) (outer : List Env) (s : Shared) (H : Hp) (vs : List V) (Q : VK) (E : XK), Room k (A.deeper (envF (supF nm qual params body scope cc cda) fI s.heap.objs.size)) → sp vs H Q E →
      ∃ (a : Addr) (vr : List V) (te : TE) (t : TS), vs = .ref a :: vr ∧ H a = some (exo a C none) ∧ PE (ncx CX P w K mg base N (supF nm qual params body scope cc cda) fI A outer s H E) e te ∧
        PSs (ncx CX P w K mg base N (supF nm qual params body scope cc cda) fI A outer s H E) rest t ∧
        te (startF N vs [none]) H (fun x H1 => ([x] : List V).length = 1 ∧ H1 a = some (exo a C none) ∧ t { nx := fun _ H' => Q .non H', rt := Q } (startF N vs [none]) H1)) :
    FnOk P w K mg base CX (k + 1) fI (PySem.W.ksFn nm qual params body scope .none kV doc pm an (.ref cda) ct cc) ps sp := by
  refine ⟨len, fun A outer s H args us vs Q E hr e0 hb r hsp => ?_⟩
  have hl := len _ _ _ _ hsp
  have X : K.In s.heap := e0.mod.kin.keeps fun b o q => (e0.bs b o q).1
  have lim : s.heap.NoLimit := e0.mod.nolimit.keeps fun b o q => (e0.bs b o q).1
  obtain ⟨cl, cld, csl, hcell⟩ := T.cell
  obtain ⟨ccl, cdd, vsA, ccs, file, tf, hcode, hvs, hfile⟩ := T.code
  obtain ⟨cn, cq, cN, cbs, cbm, csn, csub, cab, ccol, cdd0, k0, k1, k2, k3, k5, hC, hbm⟩ := T.ox.cls
  have hclsC : PySem.W.clsIn K C = some { name := cn, bases := cbs, mro := .ref C :: cbm, ns := cN, qualname := cq, hasDict := true, slotNames := csn, subclasses := csub, abstract := cab, collection := ccol, hasDel := false } := by unfold PySem.W.clsIn; rw [hC] <;> rfl
  refine PySem.ks_codeAny_call_defAt (fd := PySem.W.ksFn nm qual params _ scope .none kV doc pm an (.ref cda) ct cc) (binds := ps.zip us) hr.depth (X _ _ lk) rfl lim (PySem.W.codeRec_of X hcd) rfl hb S.nocell (fun ⟨n, _⟩ hy => S.par n (List.of_mem_zip hy).1) (fun h₁ hns kp => ?_) S.co S.gen S.kind
  obtain ⟨a, vr, te, t, rfl, hexo, hpe, hss, hq⟩ := hbody A outer s H vs Q E (hr.deeper _) hsp
  have ocell : s.heap.get? cc = some ⟨cl, cld, .cell (some (.ref C)), csl⟩ := X _ _ hcell
  have CA : CellsAt (supF nm qual params body scope cc cda).cl ["__class__"] [none] s.heap H := by
    have one : ∀ {y : Str} {c : Addr}, List.lookup y [(("__class__" : Str), cc)] = some c → y = "__class__" ∧ c = cc := fun {y c} z => by
      by_cases hy : y = ("__class__" : Str)
      · subst hy
        simp [List.lookup] at z
        exact ⟨rfl, z.symm⟩
      · have : (y == ("__class__" : Str)) = false := by simpa using hy
        simp [List.lookup, this] at z
    refine ⟨rfl, fun y c z => ?_, fun x y c z1 z2 => ?_, fun i y hy => ?_⟩
    · obtain ⟨_, rfl⟩ := one z
      exact ⟨(e0.bs _ _ (e0.mod.kin _ _ hcell)).2, _, _, ocell, rfl⟩
    · rw [(one z1).1, (one z2).1]
    · refine ⟨cc, ?_, fun v hv => ?_⟩
      · have : y = "__class__" := by
          cases i with
          | zero => simpa using hy.symm
          | succ i => simp at hy
        subst this
        simp [List.lookup]
      · cases i with
        | zero => simp at hv
        | succ i => simp at hv
  have I : Inv (ncx CX P w K mg base N (supF nm qual params body scope cc cda) fI A outer s H E) [] (startF N (.ref a :: vr) [none]) H { s with heap := h₁, toks := s.toks + (ps.zip us).length } :=
    inv_startN S hr.hd e0 hl r CA hns kp
  have ha0 : (startF N (.ref a :: vr) [none])[0]? = some (some (.ref a)) := rfl
  have hN0 : N[0]? = some ar.arg := by
    have e1 : ps[0]? = some ar.arg := by rw [← List.head?_eq_getElem?]; exact hps
    have hlt : 0 < ps.length := (List.getElem?_eq_some_iff.mp e1).1
    have e2 : (ps ++ [("__class__" : Str)])[0]? = some ar.arg := by rw [List.getElem?_append_left hlt]; exact e1
    rw [← S.pre, List.getElem?_take_of_lt (by omega)] at e2
    exact e2
  have hka : scope.names.lookup ar.arg = some .local := S.par _ (List.mem_of_mem_head? hps)
  obtain ⟨m, hn, hl2⟩ := id I.loc
  obtain ⟨ua, ra, la⟩ := hl2 0 ar.arg (.ref a) hN0 ha0 (.inl hka)
  obtain rfl : ua = Value.ref a := ra
  have hma : m ar.arg = some (.ref a) := by
    rcases la with ⟨_, z⟩ | ⟨z, _⟩
    · exact z
    · have hka' : scope.names.lookup ar.arg = some .cell ∨ scope.names.lookup ar.arg = some .free := z
      rw [hka] at hka'
      rcases hka' with z | z <;> cases z
  obtain ⟨mb, hb1, hb2⟩ := I.mod.blt
  obtain ⟨t1, hoa⟩ := exo_at I.hok hexo
  have XI := I.kIn
  show PySem.wpAt (model P w) (A.deeper (envF (supF nm qual params body scope cc cda) fI s.heap.objs.size)) (.func body (envF (supF nm qual params body scope cc cda) fI s.heap.objs.size)) (execs body (envF (supF nm qual params body scope cc cda) fI s.heap.objs.size)) _ (ncx CX P w K mg base N (supF nm qual params body scope cc cda) fI A outer s H E).xe _
  have hex : execs body (envF (supF nm qual params body scope cc cda) fI s.heap.objs.size) = execs (.Expr (.Call (.Attribute (.Call (.Name "super" p0) [] [] p1) "__init__" p2) [e] [] p3) p4 :: rest) (envF (supF nm qual params body scope cc cda) fI s.heap.objs.size) := by rw [← hbd]
  rw [hex]
  obtain ⟨pl, hevL⟩ := hev s.heap.objs.size
  refine ks_wpAt_execs_cons (ks_wpAt_Expr_any (ks_wpAt_MethodCall (pl := pl) ?_ hevL) I.quiet)
  refine ks_wpAt_super_base hks (S.frk _ List.mem_cons_self) rfl rfl (XI _ _ lk) rfl hp rfl (XI _ _ hcode) rfl hvs hfile T.top ?_
  refine PySem.W.ks_loadName_global S.kind hks (Calls.loadGlobal_builtin (I.mod.glob.keeps I.bk) T.sup (hb1.keeps I.bk) ((hb2 _ (by decide)).trans Boot.super) ⟨rfl, ?_⟩)
  refine wpAny_loadName_free S.kind (S.frk _ List.mem_cons_self) rfl ⟨_, XI _ _ hcell, rfl⟩ ?_
  refine wpAny_loadName_local S.kind hka hn hma ?_
  have hD1 : h₁.get? C = some (excClassObj cn cq C cN cbs cbm true csn csub cab ccol cdd0 k0 k1 k2 k3 k5 "ValueError.__new__") := XI _ _ hC
  refine ks_wpAny_isType_cls hD1 rfl ⟨rfl, ?_⟩
  refine ks_wpAny_call_super hD1 rfl hoa rfl (fun c z => by cases z) (PySem.W.looks_mroIn XI T.self) (fun h2 hso k2 => ?_)
  have I2 : Inv (ncx CX P w K mg base N (supF nm qual params body scope cc cda) fI A outer s H E) [] (startF N (.ref a :: vr) [none]) H { s with heap := h2, toks := s.toks + (ps.zip us).length } := I.kept (t' := s.toks + (ps.zip us).length) k2
  have hs12 : h₁.objs.size < h2.objs.size := Heap.lt_size hso
  have IA : PySem.W.InstAt h2 a (HandSPX.excO C t1) C none := ⟨k2 _ _ hoa, rfl, rfl, trivial⟩
  have hI2 : PySem.W.Looks (model P w) h2 (isInstance (.ref a) (.type "ValueError")) true := IA.type.andThen (PySem.W.looks_subIn I2.kIn T.vE)
  have hini : PySem.W.alongIn K "__init__" ((((Value.ref C :: cbm)).dropWhile (· != .ref C)).drop 1) = some (some (.builtin "ValueError.__init__")) := by
    have z := T.ini
    unfold PySem.W.ks_superIn at z
    rw [hclsC] at z
    exact z
  refine PySem.W.kxs_getMethod PySem.W.kxs_ValueError hso (PySem.W.looks_opaque I2.kIn T.opq) (l₀ := .ref C :: cbm) ((PySem.W.looks_clsIn I2.kIn hclsC).andThen .now) rfl I2.kIn hini hI2 (PySem.W.ks_ne I2.kIn IA hclsC) (by decide) ?_
  have hu3 : (h2.push (kxs_mw "ValueError.__init__" a)).get? h2.objs.size = some (kxs_mw "ValueError.__init__" a) := Heap.get?_push_size _ rfl
  have I3 : Inv (ncx CX P w K mg base N (supF nm qual params body scope cc cda) fI A outer s H E) [] (startF N (.ref a :: vr) [none]) H { s with heap := h2.push (kxs_mw "ValueError.__init__" a), toks := s.toks + (ps.zip us).length + 1 } :=
    I2.kept (t' := s.toks + (ps.zip us).length + 1) (fun b o z => Heap.get?_push_of_some _ z)
  have I4 : Inv (ncx CX P w K mg base N (supF nm qual params body scope cc cda) fI A outer s H E) [(h2.objs.size, kxs_mw "ValueError.__init__" a)] (startF N (.ref a :: vr) [none]) H { s with heap := h2.push (kxs_mw "ValueError.__init__" a), toks := s.toks + (ps.zip us).length + 1 } :=
    I3.pins_of fun p hp => by
      have hp' : p = (h2.objs.size, kxs_mw "ValueError.__init__" a) := by simpa using hp
      subst hp'
      exact ⟨hu3, I2.hok.fresh (Nat.le_refl _), Nat.ne_of_gt I2.lt, I2.nofs (Nat.le_refl _), fun v z => by cases z⟩
  have hargs := (pa_cons hpe pa_nil (hs := hst _)).run p3 [(h2.objs.size, kxs_mw "ValueError.__init__" a)] { s with heap := h2.push (kxs_mw "ValueError.__init__" a), toks := s.toks + (ps.zip us).length + 1 } (startF N (.ref a :: vr) [none]) H (fun vs H1 => vs.length = 1 ∧ H1 a = some (exo a C none) ∧ t { nx := fun _ H' => Q .non H', rt := Q } (startF N (.ref a :: vr) [none]) H1) I4 hq
  have hst' : starEach [e] (ncx CX P w K mg base N (supF nm qual params body scope cc cda) fI A outer s H E).env = (false, eval e (envF (supF nm qual params body scope cc cda) fI s.heap.objs.size)) :: starEach [] (envF (supF nm qual params body scope cc cda) fI s.heap.objs.size) := hst _
  rw [hst'] at hargs
  rw [hst]
  refine PySem.W.kxs_callWith (i := "ValueError.__init__") (x := a) rfl ?_
  refine Calls.evalArgs_plain ?_
  refine thn hargs fun us' s5 hh => ?_
  obtain ⟨vs5, H5, I5, r5, hl5, he5, hq5⟩ := hh
  obtain ⟨hmw5, _⟩ := I5.pin _ (List.mem_append_right _ List.mem_cons_self)
  refine ⟨hmw5, ?_⟩
  obtain ⟨t5, ho5⟩ := exo_at I5.hok he5
  obtain ⟨hp5, g5, dr5, tk5, os5⟩ := s5
  have hlen5 : us'.length ≤ sizeLine := by
    rw [← Paired.length r5, hl5, sizeLine_eq]
    decide
  refine call_mw (t0 := t5) (I5.kIn _ _ hC) ho5 hmw5 hlen5 fun h6 t6 k6 hx6 => ?_
  have J := I5.write (t' := tk5) (x := a) (e := a) (o := exo a C none) (h' := h6) (by rw [he5]; exact True.intro) (.inl rfl) k6 ⟨_, hx6⟩ (exo_ok hx6)
  have eu : upd H5 a (exo a C none) = H5 := by
    funext b
    by_cases hb : b = a
    · rw [hb, upd_same, he5]
    · rw [upd_ne hb]
  rw [eu] at J
  refine PySem.wpAt_of_wpAny (wpAny_mono (hss.run _ _ _ _ _ J hq5) (fun fl s' hs => ?_) fun e s' hs => hs)
  have fin : ∀ {σ' : L2.St} {H' : Hp} {v : V} {u : Value}, Inv (ncx CX P w K mg base N (supF nm qual params body scope cc cda) fI A outer s H E) [(h2.objs.size, kxs_mw "ValueError.__init__" a)] σ' H' s' → L2.RelV v u → Q v H' → CE outer P w H s Q u s' :=
    fun {σ' H' v u} J rv q => ⟨v, H', J.os, J.bare, J.base, J.hok, rv, q⟩
  cases fl with
  | ret u =>
    obtain ⟨v, σ', H', J, rv, q⟩ := hs
    exact fin J rv q
  | next =>
    obtain ⟨σ', H', J, q⟩ := hs
    exact fin (v := V.non) (u := Value.none) J rfl q
  | brk =>
    obtain ⟨_, _, _, q⟩ := hs
    exact False.elim q
  | cont =>
    obtain ⟨_, _, _, q⟩ := hs
    exact False.elim q
end
end RX
namespace RX
open PySem PySem.Spec PyProof.Rows L2
/-! ### try .. except C as n: suite, further clauses behind it: every exception of the body is the first clause's -/
def wAsF (K : PySem.W.Frag) (c : Value) (i : Nat) (ts : Addr → Value → Option Addr → TS) (D : Ends) : WX := fun cls d σ H =>
  PySem.W.exmOne K cls c = some true ∧ ∀ a, H a = none → ts a cls d { nx := fun σ' H' => D.nx (σ'.set i none) H', rt := D.rt, bk := fun σ' H' => D.bk (σ'.set i none) H', ct := fun σ' H' => D.ct (σ'.set i none) H' } (σ.set i (some (.ref a))) H
section
variable {X : Cx} {x n : Str} {c : Value} {i : Nat} {body suite : List Stmt} {b₀ : Stmt} {np pos pos' : Pos} {hds : List ExceptHandler} {tb : WX → TS} {ts : Addr → Value → Option Addr → TS}
theorem ps_try_asF (hs : X.stack = X.env :: X.outer) (hf : X.env.frame = some X.env.locals) (hN : X.N.Nodup) (hi : X.N[i]? = some n) (hln : X.env.kindOf n = some .local) (hc : Names X x c) 
    (hb : ∀ (W : WX) (pn : List (Addr × Obj)) (xe : Value → Shared → Prop), Takes (X.tr pn xe) W → PassesOwn (model X.prog X.w) X.A X.env xe → PSs (X.tr pn xe) body (tb W))
    (hsu : ∀ (a : Addr) (oe : Obj) (cls : Value) (d : Option Addr) (pn : List (Addr × Obj)), Zc cls d oe → (∃ vs, oe.data = .fields vs) → PSs (X.suite a ((a, oe) :: pn)) (b₀ :: suite) (ts a cls d)) :
    PS X (.Try body (.ExceptHandler (some (.Name x np)) (some n) (b₀ :: suite) pos' :: hds) [] [] pos) (fun D σ H => tb (wAsF X.K c i ts D) D σ H) := by
  refine ⟨fun pins s σ H D I h => ?_⟩
  have ok := I.ok
  have hfr : X.A.frames = some (X.env :: X.outer) := by rw [ok.frames, hs]
  have hloc : Loc X.env.scope n := .inl hln
  refine wpAny_Try_except ?_
  refine wpAny_mono ((hb (wAsF X.K c i ts D) (X.pn ++ pins) (fun e s₁ => wpAny (model X.prog X.w) X.A (noteFrame e X.env) (fun _ s₂ => wpAny (model X.prog X.w) X.A (setFlight e none) (fun _ s₃ =>
    wpAny (model X.prog X.w) X.A (handleBy e X.env (.ExceptHandler (some (.Name x np)) (some n) (b₀ :: suite) pos' :: hds)) (SP X pins D) X.xe s₃) X.xe s₂) X.xe s₁) (fun u s' xx => ?_) PassesOwn.looking).run [] s σ H D (I.toTry _) h) (fun f s1 hsp => ?_) (fun e s1 he => he)
  · -- the catch
    obtain ⟨a, B, sI, pins', σ', H', cls, d, rfl, J', nb, up, sky, na, os, ag, hb1, hyes⟩ := xx
    have J : Inv X pins σ' H' sI := J'.ofTry ok
    have sky' : Sky B (X.env :: X.outer) a (Zc cls d) X.env.locals s'.heap := by rw [← hs]; exact sky
    show wpAny (model X.prog X.w) X.A (noteFrame (.ref a) X.env) _ _ _
    refine Sky.land Zc.steady hfr hf sky' fun h3 fl3 up3 => ?_
    have J3 : Inv X pins σ' H' { s' with heap := h3 } := J.landed nb fl3.1 (up.trans up3) os ag
    obtain ⟨oe3, vs3, he3, hz3, hd3⟩ := fl3.there
    have notFr : ∀ {h : Heap} {o : Obj} {vs : Array Value}, h.FunFrames B (X.env :: X.outer) → h.get? a = some o → o.data = .fields vs → a ∉ frs (X.env :: X.outer) := fun {h o vs} ff e dd hm => by
      obtain ⟨_, o', e', hnf⟩ := ff.mem hm
      rw [e] at e'; cases e'
      exact hnf _ dd
    have nfr := notFr fl3.2.2.1 he3 hd3
    have nL : a ≠ X.env.locals := fun z => nfr (List.mem_filterMap.mpr ⟨X.env, List.mem_cons_self, by rw [hf, z]⟩)
    have nF : a ∉ X.fs := fun hm => by
      obtain ⟨e, he, q⟩ := List.mem_filterMap.mp hm
      exact nfr (List.mem_filterMap.mpr ⟨e, List.mem_cons_of_mem _ he, q⟩)
    have S3 := J3.suite he3 hd3 na nL nF
    refine wpAny_handleBy_cons (codeAny_handlers_test ?_) (by intro q; cases q)
    have LT : PySem.W.Looks (model X.prog X.w) h3 (typeOf (.ref a)) cls := fun A Q E s k q => wpAny_typeOf_ref (k _ _ he3) (by rw [hz3.1]; exact q)
    have LM := PySem.W.exm_one (M := model X.prog X.w) (J3.kIn) LT hb1
    have test : ∀ {Q : Value → Shared → Prop} {E : Value → Shared → Prop}, Q c { s' with heap := h3 } → wpAny (model X.prog X.w) (X.A.mark (some (.ref a))) (eval (.Name x np) X.env) Q E { s' with heap := h3 } := fun {Q E} q => by
      obtain ⟨hg, hdbg, hm | ⟨hm, hv, hnn⟩⟩ := hc
      · exact ld_glob (X := X.suite a ((a, oe3) :: (X.pn ++ pins))) S3 hg hm q hdbg
      · exact ld_blt (X := X.suite a ((a, oe3) :: (X.pn ++ pins))) S3 hg hm hv q hnn hdbg
    refine test (LM.here ?_)
    refine codeAny_handlers_suite_as ?_
    refine HandSPX.lands_againZ fl3 fun h4 fl4 up4 => ?_
    have J4 : Inv X pins σ' H' { s' with heap := h4 } := J.landed nb fl4.1 ((up.trans up3).trans up4) os ag
    obtain ⟨oe4, vs4, he4, hz4, hd4⟩ := fl4.there
    have S4 := J4.suite he4 hd4 na nL nF
    refine store_ok (X := X.suite a ((a, oe4) :: (X.pn ++ pins))) (v := .ref a) S4 hN hi hloc rfl (fun s5 S5 => ?_) (.inr hln)
    refine wpAny_mono ((hsu a oe4 cls d (X.pn ++ pins) hz4 ⟨_, hd4⟩).run [] s5 _ H' _ S5 (hyes a na)) (fun f s6 hsp => ?_) (fun _ _ z => False.elim z)
    have end_ : ∀ {σ6 : L2.St} {H6 : Hp} {Q : Shared → Prop}, Inv (X.suite a ((a, oe4) :: (X.pn ++ pins))) [] σ6 H6 s6 → (∀ s7, Inv X pins (σ6.set i none) H6 s7 → Q s7) →
        wpAny (model X.prog X.w) X.A (do bindName X.env n .none; unbindBehindTheSuite X.env n pos') (fun _ s7 => Q s7) X.xe s6 := fun {σ6 H6 Q} S6 hq => gone_ok (S6.unsuite ok) hN hi hln hq
    cases f with
    | next =>
      obtain ⟨σ6, H6, S6, q6⟩ := hsp
      exact end_ S6 fun s7 J7 => ⟨_, _, J7, q6⟩
    | brk =>
      obtain ⟨σ6, H6, S6, q6⟩ := hsp
      exact end_ S6 fun s7 J7 => ⟨_, _, J7, q6⟩
    | cont =>
      obtain ⟨σ6, H6, S6, q6⟩ := hsp
      exact end_ S6 fun s7 J7 => ⟨_, _, J7, q6⟩
    | ret u =>
      obtain ⟨v6, σ6, H6, S6, r6, q6⟩ := hsp
      exact end_ S6 fun s7 J7 => ⟨_, _, _, J7, r6, q6⟩
  · cases f with
    | next =>
      obtain ⟨σ', H', J', q⟩ := hsp
      exact wpAny_execs_nil ⟨σ', H', J'.ofTry ok, q⟩
    | brk =>
      obtain ⟨σ', H', J', q⟩ := hsp
      exact ⟨σ', H', J'.ofTry ok, q⟩
    | cont =>
      obtain ⟨σ', H', J', q⟩ := hsp
      exact ⟨σ', H', J'.ofTry ok, q⟩
    | ret u =>
      obtain ⟨v, σ', H', J', r, q⟩ := hsp
      exact ⟨v, σ', H', J'.ofTry ok, r, q⟩
end
end RX
namespace RX
open PySem PySem.Spec PyProof.Rows L2
/-- a def that may raise, at promises under which it doesn't -/
theorem fn_quiet {P : Program} {w : World} {K : PySem.W.Frag} {mg : Str → Option Value} {base : Heap} {k : Nat} {f : Addr} {fd : FuncData} {ps : List Str} {sp sp' : Sp} (F : FnOk P w K mg base (L2.CX P w) k f fd ps sp)
    (h : ∀ vs H Q E, sp' vs H Q E → sp vs H Q (fun _ _ _ => False)) : FnOk P w K mg base CX0 k f fd ps sp' := by
  refine ⟨fun vs H Q E q => F.len _ _ _ _ (h _ _ _ _ q), fun A outer s H args us vs Q E hr e0 hb r q => ?_⟩
  refine codeAny_mono (F.run A outer s H args us vs Q (fun _ _ _ => False) hr e0 hb r (h _ _ _ _ q)) fun r s' hq => ?_
  cases r with
  | ok fl => cases fl <;> exact hq
  | error e =>
    have hq' : L2.CX P w outer H s (fun _ _ _ => False) e s' := hq
    unfold L2.CX at hq'
    simp at hq'
section
variable {X : Cx} {CX : CXT} {k i : Nat} {f C : Addr} {fd : FuncData} {ps : List Str} {sp : Sp} {E : L2.St → XK} {x : Str} {p pos : Pos} {e : Expr} {es : List Expr} {t : TA}
/-- C(e, ..) whose __init__ may raise, the wish at the caller's slots -/
def tMakeS (C : Addr) (sp : Sp) (E : L2.St → XK) (t : TA) : TE := fun σ H Q => t σ H fun vs H1 => ∀ x dx, H1 x = none → H1 dx = none → dx ≠ x → sp (.ref x :: vs) (upd (upd H1 dx (.own x)) x (.ins C dx [])) (fun v H2 => v = .non ∧ Q (.ref x) H2) (E σ)
theorem run_makeS {pins : List (Addr × Obj)} {σ : L2.St} {H : Hp} {s : Shared} {Q : VK} {us : List Value} {vs : List V} (M : Mk X.K C f) (F : FnOk X.prog X.w X.K X.mg X.base CX k f fd ps sp) (hr : Room (k + 1) X.A) (hb : Binds X.K fd ps [])
    (hx : PassesAt CX X σ (E σ)) (I : Inv X pins σ H s) (r : Vals vs us)
    (h : ∀ x dx, H x = none → H dx = none → dx ≠ x → sp (.ref x :: vs) (upd (upd H dx (.own x)) x (.ins C dx [])) (fun v H2 => v = .non ∧ Q (.ref x) H2) (E σ)) :
    wpAny (model X.prog X.w) X.A (call (.ref C) us) (EP X pins σ Q) X.xe s := by
  have hq := h (s.heap.objs.size + 1) s.heap.objs.size (I.hok.fresh (Nat.le_succ _)) (I.hok.fresh (Nat.le_refl _)) (Nat.ne_of_lt (Nat.lt_succ_self _))
  have I2 := Inv.made (C := C) I
  have r2 : Vals (V.ref (s.heap.objs.size + 1) :: vs) (Value.ref (s.heap.objs.size + 1) :: us) := .cons rfl r
  have hl : (Value.ref (s.heap.objs.size + 1) :: us).length = ps.length := by
    have e := r2.length
    rw [F.len _ _ _ _ hq] at e
    exact e.symm
  have b := hb _ (Value.ref (s.heap.objs.size + 1) :: us) I2.kIn (by rw [List.append_nil]; exact hl)
  rw [List.append_nil] at b
  refine wpAny_call (make_map (f := f) I.kIn M.makes M.init (beq_iff_eq.mp M.fn) (codeAny_mono (F.run _ X.stack _ _ ⟨Value.ref (s.heap.objs.size + 1) :: us, []⟩ (Value.ref (s.heap.objs.size + 1) :: us) _ _ (E σ) (hr.make C us [])
    (I2.env0.make C us []) b r2 hq) fun r s' hq' => ?_))
  cases r with
  | error e => exact hx pins _ _ e s' I2 hq'
  | ok fl =>
    cases fl with
    | ret u =>
      obtain ⟨v, H', I3, rv, ev, q3⟩ := I2.after hq'
      subst ev
      exact ⟨rv, ⟨V.ref (s.heap.objs.size + 1), H', I3, rfl, q3⟩⟩
    | next => exact False.elim hq'
    | brk => exact False.elim hq'
    | cont => exact False.elim hq'
theorem pe_makeS (M : Mk X.K C f) (F : FnOk X.prog X.w X.K X.mg X.base CX k f fd ps sp) (hr : Room (k + 1) X.A) (hg : Gl X x) (hm : X.mg x = some (.ref C)) (hb : Binds X.K fd ps []) (hx : ∀ σ, PassesAt CX X σ (E σ))
    (ha : PA X (e :: es) t) (hdb : (x == ("__debug__" : Str)) = false := by decide) (he : starEach (e :: es) X.env = (false, eval e X.env) :: starEach es X.env := by rfl) (hpl : (backTo pos (starEach es X.env)).any (·.1) = false := by rfl) :
    PE X (.Call (.Name x p) (e :: es) [] pos) (tMakeS C sp E t) := by
  refine ⟨fun pins s σ H Q I h => ?_⟩
  refine wpAny_Call_Name_kw (ld_glob I hg hm ?_ hdb)
  refine PySem.W.callWith_K (h₀ := X.base) I.ok.mod.kin M.kp (thn (ha.run pos pins s σ H _ I h) fun us s1 ⟨vs, H1, I1, r, q⟩ => ⟨I1.kIn, ?_⟩) he hpl
  exact run_makeS M F hr hb (hx σ) I1 r q
/-- a local that holds a def which may raise, the wish at the caller's slots -/
def tCallLS (i : Nat) (f : Addr) (sp : Sp) (E : L2.St → XK) (t : TA) : TE := fun σ H Q => σ[i]? = some (some (.ref f)) ∧ t σ H fun vs H1 => sp vs H1 Q (E σ)
theorem pe_callLS (F : FnOk X.prog X.w X.K X.mg X.base CX k f fd ps sp) (hr : Room k X.A) (hN : X.N[i]? = some x) (hv : Vis X.env.scope x) (hk : PySem.W.keepIn X.K (.ref f) = true) (hb : Binds X.K fd ps []) (hx : ∀ σ, PassesAt CX X σ (E σ)) (ha : PA X (e :: es) t)
    (hdb : (x == ("__debug__" : Str)) = false := by decide) (hcd : (x == ("__classdict__" : Str)) = false := by decide)
    (he : starEach (e :: es) X.env = (false, eval e X.env) :: starEach es X.env := by rfl) (hpl : (backTo pos (starEach es X.env)).any (·.1) = false := by rfl) : PE X (.Call (.Name x p) (e :: es) [] pos) (tCallLS i f sp E t) := by
  refine ⟨fun pins s σ H Q I h => ?_⟩
  obtain ⟨hs, ht⟩ := h
  refine wpAny_Call_Name_kw (thn ((pe_var (pos := p) hN hv hdb hcd).run pins s σ H (fun v H1 => v = .ref f ∧ H1 = H) I ⟨.ref f, hs, rfl, rfl⟩) fun u s1 ⟨v, H1, I1, r1, q1⟩ => ?_)
  obtain ⟨rfl, rfl⟩ := q1
  cases r1
  refine PySem.W.callWith_K (h₀ := X.base) I.ok.mod.kin hk (thn (ha.run pos pins s1 σ _ _ I1 ht) fun us s2 ⟨vs, H2, I2, r, q⟩ => ⟨I2.kIn, ?_⟩) he hpl
  exact run_fnS F hr hb (hx σ) I2 r q
end
end RX
namespace RX
open PySem PySem.Spec PyProof.Rows L2
/-- d.get(y), d a written dict with text keys -/
def tKGet1 (K : PySem.W.Frag) (w : World) (td ty : TE) : TE := fun σ H Q => td σ H fun x H1 => ∃ (d : Addr) (es : Array DictEntry) (n : Nat), x = .ref d ∧ KDict K w d es n ∧ ty σ H1 fun y H2 => ∃ (z : Str) (r : Option Value) (v : V), y = .str z ∧ PySem.W.nsIn K d z = some r ∧ RelV v (r.getD .none) ∧ Q v H2
section
variable {X : Cx} {o e : Expr} {apos cpos : Pos} {td ty : TE}
theorem pe_kget1 (ho : PE X o td) (he : PE X e ty) (m : M1 X o "get" apos e cpos) : PE X (.Call (.Attribute o "get" apos) [e] [] cpos) (tKGet1 X.K X.w td ty) := by
  refine ⟨fun pins s σ H Q I h => ?_⟩
  refine wpAny_Call_method m.base m.few m.line PySem.F.plainAttrs_dict PySem.F.slot_dict_get PySem.F.type_dict_get (thn (ho.run pins s σ H _ I h) fun u s1 ⟨x, H1, I1, rx, d, es, n, ex, D, q1⟩ => ?_)
  subst ex
  obtain rfl : u = Value.ref d := rx
  refine ⟨kd_type D I1, fun b q => by cases q; exact ⟨_, I1.kIn _ _ D.at_, rfl⟩, ?_⟩
  rw [m.trees]
  refine Calls.callWith_builtin rfl (Calls.evalArgs_plain (Calls.spliced_cons (thn (he.run pins s1 σ H1 _ I1 q1) fun iv s2 ⟨y, H2, I2, ry, z, r, v, ey, hr, rv, q2⟩ => Calls.spliced_nil ?_)))
  subst ey
  obtain ⟨t, rfl⟩ := (show ∃ t, iv = Value.str z t from ry)
  have dd := PySem.W.mapOf_K (prog := X.prog) (w := X.w) I2.kIn D.at_ D.lit
  refine call_meetsIn PySem.F.slot_dict_get dd.typeIs PySem.F.entry_dict_get (PySem.F.args_dict_get_2 _ _) (meets_dict_get (strKind X.prog X.w) d (strKind_is X.prog X.w z t) D.low) ⟨_, dd, ?_⟩
  rw [PySem.W.find_K D.at_ hr]
  exact ⟨v, H2, I2.tok _, rv, q2⟩
end
end RX
namespace KQ
open PySem PySem.Spec L2 RX TL
/-! ### texts as lists of signs -/
def mk (l : List Nat) : Str := ⟨l.toArray⟩
theorem mk_l (l : List Nat) : (mk l).cps.toList = l := by simp [mk]
theorem mk_len (l : List Nat) : (mk l).length = l.length := by simp [mk, Str.length]
theorem mk_of (z : Str) : mk z.cps.toList = z := by cases z; simp [mk]
theorem mk_inj {a b : List Nat} : mk a = mk b ↔ a = b := ⟨fun h => by rw [← mk_l a, h, mk_l], fun h => by rw [h]⟩
theorem mk_app (a b : List Nat) : mk a ++ mk b = mk (a ++ b) := by
  show Str.mk (a.toArray ++ b.toArray) = _
  simp [mk]
theorem tl_mk (l : List Nat) : tl (mk l) = l := mk_l l
/-! ### numbers -/
def isD (c : Nat) : Bool := decide (48 ≤ c) && decide (c ≤ 57)
theorem isD_iff {c : Nat} : isD c = true ↔ 48 ≤ c ∧ c ≤ 57 := by
  unfold isD
  rw [Bool.and_eq_true, decide_eq_true_iff, decide_eq_true_iff]
def numT : Int → List Nat
  | .ofNat n => numL n
  | .negSucc n => 45 :: numL (n + 1)
def body (w : List Nat) : List Nat := if w.head? = some 45 then w.tail else w
def okB (w : List Nat) : Bool := ((decide (1 ≤ (body w).length) && decide ((body w).length ≤ 10)) && (body w).all isD) && !(decide ((body w).head? = some 48) && !decide (w = [48]))
def valN (w : List Nat) : Int := if w.head? = some 45 then -((NumText.digitsVal (body w) : Nat) : Int) else ((NumText.digitsVal (body w) : Nat) : Int)
def numOf (w : List Nat) : Option Int := if okB w = true then some (valN w) else none
theorem numT_str (n : Int) : Str.ofString (toString n) = mk (numT n) := by
  cases n with
  | ofNat n => exact ext_tl (by rw [tl_mk]; exact tl_num n)
  | negSucc n =>
    refine ext_tl ?_
    rw [tl_mk]
    show (Str.ofString (toString (Int.negSucc n))).cps.toList = 45 :: numL (n + 1)
    rw [PyProof.Rows.signs_ofString]
    have e : toString (Int.negSucc n) = "-" ++ Nat.repr (n + 1) := rfl
    rw [e, String.toList_append, List.map_append, Nat.toList_repr]
    rfl
theorem numL_head {n : Nat} (h : 0 < n) : ∃ c r, numL n = c :: r ∧ 49 ≤ c := by
  induction n using Nat.strongRecOn with
  | _ n ih =>
    by_cases h10 : n < 10
    · exact ⟨48 + n, [], numL_lt h10, by omega⟩
    · obtain ⟨c, r, e, hc⟩ := ih (n / 10) (by omega) (by omega)
      exact ⟨c, r ++ [48 + n % 10], by rw [numL_step (by omega), e]; rfl, hc⟩
theorem numL_all (n : Nat) : (numL n).all isD = true := List.all_eq_true.mpr fun c hc => isD_iff.mpr (numL_digits n c hc)
theorem numL_nd {n : Nat} {c : Nat} (h : ¬ (48 ≤ c ∧ c ≤ 57)) : (numL n).head? ≠ some c := fun z => h (numL_digits n c (List.mem_of_mem_head? z))
def small (n : Int) : Prop := -10000000000 < n ∧ n < 10000000000
theorem numOf_T {n : Int} (h : small n) : numOf (numT n) = some n := by
  obtain ⟨h0, h1⟩ := h
  cases n with
  | ofNat n =>
    have hl : (numL n).length ≤ 10 := numL_len (by decide) (by have : ((n : Nat) : Int) < 10000000000 := h1; omega)
    have hb : body (numL n) = numL n := if_neg (numL_nd (by omega))
    have h48 : (numL n).head? = some 48 → numL n = [48] := fun z => by
      by_cases h0 : 0 < n
      · obtain ⟨c, r, e, hc⟩ := numL_head h0
        rw [e] at z
        cases z
        omega
      · have : n = 0 := by omega
        subst this
        exact numL_lt (by decide)
    have ok : okB (numL n) = true := by
      unfold okB
      rw [hb, numL_all, decide_eq_true (show 1 ≤ (numL n).length from List.length_pos_iff.mpr (numL_ne n)), decide_eq_true hl]
      by_cases z : (numL n).head? = some 48
      · rw [decide_eq_true (h48 z)]
        simp
      · rw [decide_eq_false z]
        rfl
    show (if okB (numL n) = true then some (valN (numL n)) else none) = _
    rw [if_pos ok]
    unfold valN
    rw [if_neg (numL_nd (by omega)), hb, numL_val]
    rfl
  | negSucc n =>
    have hl : (numL (n + 1)).length ≤ 10 := numL_len (by decide) (by omega)
    have hb : body (45 :: numL (n + 1)) = numL (n + 1) := if_pos rfl
    obtain ⟨c, r, e, hc⟩ := numL_head (n := n + 1) (by omega)
    have ok : okB (45 :: numL (n + 1)) = true := by
      unfold okB
      rw [hb, numL_all, decide_eq_true (show 1 ≤ (numL (n + 1)).length from List.length_pos_iff.mpr (numL_ne _)), decide_eq_true hl, e]
      have : ¬ (c :: r).head? = some 48 := fun z => by cases z; omega
      rw [decide_eq_false this]
      rfl
    show (if okB (45 :: numL (n + 1)) = true then some (valN (45 :: numL (n + 1))) else none) = _
    rw [if_pos ok]
    unfold valN
    rw [if_pos (show (45 :: numL (n + 1)).head? = some 45 from rfl), hb, numL_val]
    rfl
theorem chars_back {cs : List Nat} (h : ∀ c ∈ cs, 48 ≤ c ∧ c ≤ 57) : (cs.map Char.ofNat).map Char.toNat = cs := by
  induction cs with
  | nil => rfl
  | cons c cs ih =>
    rw [List.map_cons, List.map_cons, ih fun x hx => h x (List.mem_cons_of_mem _ hx)]
    have hc := h c (List.mem_cons_self ..)
    have go : ∀ c : Nat, c < 58 → (Char.ofNat c).toNat = c := by decide
    rw [go c (by omega)]
theorem numL_back {d : List Nat} (hd : ∀ c ∈ d, 48 ≤ c ∧ c ≤ 57) (h1 : 1 ≤ d.length) (h48 : d.head? = some 48 → d = [48]) : numL (NumText.digitsVal d) = d := by
  unfold numL
  obtain ⟨n, hn⟩ : ∃ n, d.length = n + 1 := ⟨d.length - 1, by omega⟩
  have hc : n = 0 ∨ ∃ c r, d = c :: r ∧ 49 ≤ c := by
    cases d with
    | nil => simp at h1
    | cons c r =>
      by_cases z : c = 48
      · subst z
        have := h48 rfl
        rw [this] at hn
        simp at hn
        exact .inl hn
      · have := hd c (List.mem_cons_self ..)
        exact .inr ⟨c, r, rfl, by omega⟩
  rw [NumText.toDigits_digitsVal n d hn hd hc, chars_back hd]
theorem numOf_back {w : List Nat} {n : Int} (h : numOf w = some n) : numT n = w ∧ small n := by
  unfold numOf at h
  by_cases ok : okB w = true
  · rw [if_pos ok] at h
    cases h
    unfold okB at ok
    simp only [Bool.and_eq_true, decide_eq_true_eq, Bool.not_eq_true', Bool.and_eq_false_iff] at ok
    obtain ⟨⟨⟨l1, l2⟩, ha⟩, h48⟩ := ok
    have hd : ∀ c ∈ body w, 48 ≤ c ∧ c ≤ 57 := fun c hc => isD_iff.mp (List.all_eq_true.mp ha c hc)
    have bound : NumText.digitsVal (body w) < 10000000000 := by
      have e := numL_val
      have go : ∀ (d : List Nat), (∀ c ∈ d, 48 ≤ c ∧ c ≤ 57) → ∀ a, d.foldl (fun acc c => acc * 10 + (c - 48)) a < (a + 1) * 10 ^ d.length := by
        intro d
        induction d with
        | nil => intro _ a; simp
        | cons c d ih =>
          intro hd a
          have hc := hd c (List.mem_cons_self ..)
          have := ih (fun x hx => hd x (List.mem_cons_of_mem _ hx)) (a * 10 + (c - 48))
          rw [List.foldl_cons, List.length_cons, Nat.pow_succ]
          have h2 : a * 10 + (c - 48) + 1 ≤ (a + 1) * 10 := by omega
          have h3 := Nat.mul_le_mul_right (10 ^ d.length) h2
          rw [Nat.mul_assoc, Nat.mul_comm 10] at h3
          omega
      have := go (body w) hd 0
      have p : 10 ^ (body w).length ≤ 10 ^ 10 := Nat.pow_le_pow_right (by decide) l2
      unfold NumText.digitsVal
      omega
    by_cases hm : w.head? = some 45
    · have hw : w = 45 :: body w := by
        cases w with
        | nil => cases hm
        | cons c r =>
          cases hm
          show _ = 45 :: (if ((45 : Nat) :: r).head? = some 45 then r else _)
          rw [if_pos (show ((45 : Nat) :: r).head? = some 45 from rfl)]
      have n48 : (body w).head? ≠ some 48 := fun z => by
        rcases h48 with q | q
        · rw [decide_eq_true z] at q
          cases q
        · have : w = [48] := by simpa using q
          rw [this] at hm
          cases hm
      have back := numL_back hd l1 (fun z => absurd z n48)
      have pos : 0 < NumText.digitsVal (body w) := by
        cases e : body w with
        | nil => rw [e] at l1; simp at l1
        | cons c r =>
          have := hd c (by rw [e]; exact List.mem_cons_self ..)
          exact NumText.digitsVal_pos (by
            have : c ≠ 48 := fun z => n48 (by rw [e, z]; rfl)
            omega)
      have hv : valN w = -((NumText.digitsVal (body w) : Nat) : Int) := if_pos hm
      rw [hv]
      obtain ⟨k, hk⟩ : ∃ k, NumText.digitsVal (body w) = k + 1 := ⟨_, (Nat.succ_pred_eq_of_pos pos).symm⟩
      rw [hk] at back bound ⊢
      refine ⟨?_, by unfold small; omega⟩
      show 45 :: numL (k + 1) = w
      rw [back]
      exact hw.symm
    · have hb : body w = w := if_neg hm
      have hv : valN w = ((NumText.digitsVal (body w) : Nat) : Int) := if_neg hm
      rw [hv]
      rw [hb] at hd l1 bound h48 ⊢
      refine ⟨?_, by unfold small; omega⟩
      show numL _ = w
      refine numL_back hd l1 fun z => ?_
      rcases h48 with q | q
      · rw [decide_eq_true z] at q
        cases q
      · simpa using q
  · rw [if_neg ok] at h
    cases h
/-! ### lines of words -/
def numsOf : List (List Nat) → Option (List Int)
  | [] => some []
  | w :: ws => match numOf w, numsOf ws with
    | some n, some ns => some (n :: ns)
    | _, _ => none
theorem numsOf_T {ns : List Int} (h : ∀ n ∈ ns, small n) : numsOf (ns.map numT) = some ns := by
  induction ns with
  | nil => rfl
  | cons n ns ih =>
    show (match numOf (numT n), numsOf (ns.map numT) with | some n, some ns => some (n :: ns) | _, _ => none) = _
    rw [numOf_T (h n (List.mem_cons_self ..)), ih fun x hx => h x (List.mem_cons_of_mem _ hx)]
theorem numsOf_back {ws : List (List Nat)} {ns : List Int} (h : numsOf ws = some ns) : ns.map numT = ws ∧ ∀ n ∈ ns, small n := by
  induction ws generalizing ns with
  | nil => cases h; exact ⟨rfl, by simp⟩
  | cons w ws ih =>
    have h : (match numOf w, numsOf ws with | some n, some ns => some (n :: ns) | _, _ => none) = some ns := h
    cases e1 : numOf w with
    | none => rw [e1] at h; cases h
    | some n =>
      cases e2 : numsOf ws with
      | none => rw [e1, e2] at h; cases h
      | some ms =>
        rw [e1, e2] at h
        cases h
        obtain ⟨a1, a2⟩ := numOf_back e1
        obtain ⟨b1, b2⟩ := ih e2
        refine ⟨by rw [List.map_cons, a1, b1], fun x hx => ?_⟩
        rcases List.mem_cons.mp hx with rfl | hx
        · exact a2
        · exact b2 x hx
def splitL (s : Nat) (cs : List Nat) : List (List Nat) := spl [s] 0 [] cs
theorem pre_one {s c : Nat} {r : List Nat} : pre [s] (c :: r) = (c == s) ∨ pre [s] (c :: r) = (s == c) := by
  first | exact .inl rfl | exact .inr rfl | (left; simp [pre]) | (right; simp [pre])
theorem spl_ne {s k : Nat} {acc cs : List Nat} : spl [s] k acc cs ≠ [] := by
  induction cs generalizing acc k with
  | nil => rw [spl_nil]; simp
  | cons c r ih =>
    cases k with
    | zero =>
      cases h : pre [s] (c :: r) with
      | true => rw [spl_hit h]; simp
      | false => rw [spl_miss h]; exact ih
    | succ k => exact ih
theorem join_cons {S p : List Nat} {q : List (List Nat)} (h : q ≠ []) : joinL S (p :: q) = p ++ (S ++ joinL S q) := by
  cases q with
  | nil => exact absurd rfl h
  | cons x r => rfl
theorem join_spl {s : Nat} {cs acc : List Nat} : joinL [s] (spl [s] 0 acc cs) = acc ++ cs := by
  induction cs generalizing acc with
  | nil => rw [spl_nil, List.append_nil]; rfl
  | cons c r ih =>
    cases h : pre [s] (c :: r) with
    | true =>
      have e : c = s := by
        rcases pre_one (s := s) (c := c) (r := r) with q | q
        · rw [q] at h; exact eq_of_beq h
        · rw [q] at h; exact (eq_of_beq h).symm
      rw [spl_hit h, join_cons spl_ne]
      show acc ++ ([s] ++ joinL [s] (spl [s] 0 [] r)) = _
      rw [ih, e]
      rfl
    | false =>
      rw [spl_miss h, ih, List.append_assoc]
      rfl
theorem join_split (s : Nat) (cs : List Nat) : joinL [s] (splitL s cs) = cs := join_spl
theorem split_join' {s : Nat} {ps : List (List Nat)} (h : ps ≠ []) (hp : ∀ p ∈ ps, s ∉ p) : splitL s (joinL [s] ps) = ps := spl_join h hp
end KQ
namespace KQ
open PySem PySem.Spec L2 RX TL
/-! ### the text -/
def top (i : Nat) : Stmt := PySem.Challenge.pw_retroact_k19_events_as_lines.main.body.getD i (.Pass ⟨0, 0, 0, 0⟩)
abbrev sInit : Stmt := inClass (top 2) 0
abbrev sName : Stmt := top 7
abbrev sNumO : Stmt := top 12
abbrev sNumsO : Stmt := top 13
abbrev sPathO : Stmt := top 14
abbrev sWPath : Stmt := top 15
abbrev sWrite : Stmt := top 18
abbrev sRead : Stmt := top 19
abbrev sRI : Stmt := top 20
abbrev sRN : Stmt := top 21
abbrev sState : Stmt := top 23
abbrev sDraw : Stmt := top 24
abbrev sLNum : Stmt := top 25
abbrev sLName : Stmt := top 26
abbrev sEvent : Stmt := top 27
abbrev sDue : Stmt := top 28
abbrev sTold : Stmt := top 29
abbrev sBent : Stmt := top 30
abbrev sLaw : Stmt := top 31
theorem boot_isi : bootBuiltins "isinstance" = some (.builtin "isinstance") := by decide +kernel
theorem boot_int0 : bootBuiltins "int" = some (.type "int") := by decide +kernel
theorem boot_bool0 : bootBuiltins "bool" = some (.type "bool") := by decide +kernel
theorem boot_str0 : bootBuiltins "str" = some (.type "str") := by decide +kernel
theorem boot_list0 : bootBuiltins "list" = some (.type "list") := by decide +kernel
theorem boot_tuple0 : bootBuiltins "tuple" = some (.type "tuple") := by decide +kernel
theorem boot_all0 : bootBuiltins "all" = some (.builtin "all") := by decide +kernel
/-! ### heaps and tests -/
def But (p : Addr) (H H' : Hp) : Prop := ∀ b o, b ≠ p → H b = some o → H' b = some o
theorem But.refl (p : Addr) (H : Hp) : But p H H := fun _ _ _ h => h
theorem Same.but {p : Addr} {H H' : Hp} (s : Same H H') : But p H H' := fun b o _ h => s b o h
theorem But.trans {p : Addr} {H H1 H2 : Hp} (a : But p H H1) (b : But p H1 H2) : But p H H2 := fun c o n h => b c o n (a c o n h)
theorem same_new {H : Hp} {p : Addr} (h : H p = none) (o : HO) : Same H (upd H p o) := fun b u q => by rw [upd_ne (ne_of_none q h)]; exact q
theorem but_upd {p : Addr} {H : Hp} (o : HO) : But p H (upd H p o) := fun b u n q => by rw [upd_ne n]; exact q
theorem Same.upd {H H' : Hp} {p : Addr} (s : Same H H') (n : H p = none) (o : HO) : Same H (upd H' p o) := fun b u q => by rw [upd_ne (ne_of_none q n)]; exact s b u q
theorem ifT {c : Prop} [Decidable c] {A B : Prop} (h : c) (k : A) : if decide c = true then A else B := by rw [decide_eq_true h]; exact iteT k
theorem ifF {c : Prop} [Decidable c] {A B : Prop} (h : ¬ c) (k : B) : if decide c = true then A else B := by rw [decide_eq_false h]; exact iteF k
theorem ifNT {c : Prop} [Decidable c] {A B : Prop} (h : ¬ c) (k : A) : if (!decide c) = true then A else B := by rw [decide_eq_false h]; exact iteT k
theorem ifNF {c : Prop} [Decidable c] {A B : Prop} (h : c) (k : B) : if (!decide c) = true then A else B := by rw [decide_eq_true h]; exact iteF k
theorem int_eq {i j : Int} : (V.int i = V.int j) ↔ i = j := ⟨fun h => V.int.inj h, fun h => by rw [h]⟩
theorem str_eq {i j : Str} : (V.str i = V.str j) ↔ i = j := ⟨fun h => V.str.inj h, fun h => by rw [h]⟩
theorem size_m {n : Nat} (h : n ≤ 1000000) : n ≤ sizeLine := Nat.le_trans h (by decide)
theorem size_l {n : Nat} (h : n ≤ 100000) : n < sizeLine := Nat.lt_of_le_of_lt h (by decide)
theorem at0 {x : V} {r : List V} : atI (x :: r) 0 = some x := atI_nat (j := 0) rfl
theorem at1 {x y : V} {r : List V} : atI (x :: y :: r) 1 = some y := atI_nat (j := 1) rfl
theorem at2 {x y z : V} {r : List V} : atI (x :: y :: z :: r) 2 = some z := atI_nat (j := 2) rfl
theorem at3 {x y z u : V} {r : List V} : atI (x :: y :: z :: u :: r) 3 = some u := atI_nat (j := 3) rfl
theorem at4 {x y z u v : V} {r : List V} : atI (x :: y :: z :: u :: v :: r) 4 = some v := atI_nat (j := 4) rfl
/-! ### names -/
def low : Str := "abcdefghijklmnopqrstuvwxyz"
def keys : List Str := ["effect", "actor", "state", "on", "set", "if", "else", "end", "repeat", "send", "parent", "self", "child", "spawn", "as", "call", "then", "stop", "fail", "and", "or", "not", "rest"]
def isL (c : Nat) : Bool := decide (c ∈ low.cps.toList)
def nameB (z : Str) : Bool := (decide (1 ≤ z.length) && decide (z.length ≤ 12)) && (!(keys.any (· == z)) && z.cps.toList.all isL)
theorem low_l : low.cps.toList = [97, 98, 99, 100, 101, 102, 103, 104, 105, 106, 107, 108, 109, 110, 111, 112, 113, 114, 115, 116, 117, 118, 119, 120, 121, 122] := by decide +kernel
theorem isL_iff {c : Nat} : isL c = true ↔ 97 ≤ c ∧ c ≤ 122 := by
  unfold isL
  rw [low_l, decide_eq_true_iff]
  simp only [List.mem_cons, List.not_mem_nil, or_false]
  omega
def firsts : List Nat := [103, 106, 107, 109, 113, 118, 120, 121, 122]
theorem name_ok {c : Nat} {r : List Nat} (h : c ∈ firsts) (hr : ∀ x ∈ r, isL x = true) (hl : r.length ≤ 11) : nameB (mk (c :: r)) = true := by
  unfold nameB
  have hc : isL c = true := isL_iff.mpr (by simp only [firsts, List.mem_cons, List.not_mem_nil, or_false] at h; omega)
  have hk : keys.any (· == mk (c :: r)) = false := by
    rw [List.any_eq_false]
    intro k hk e
    have e : k = mk (c :: r) := eq_of_beq e
    have hh : k.cps.toList.head? = some c := by rw [e, mk_l]; rfl
    have all : ∀ k ∈ keys, ∀ c ∈ firsts, k.cps.toList.head? ≠ some c := by decide +kernel
    exact all k hk c h hh
  rw [mk_len, hk, mk_l, decide_eq_true (show 1 ≤ (c :: r).length by simp), decide_eq_true (show (c :: r).length ≤ 12 by simp; omega)]
  show (true && (true && (isL c && r.all isL))) = true
  rw [hc, List.all_eq_true.mpr hr]
  rfl
theorem nameB_no {z : Str} (h : nameB z = true) {c : Nat} (hc : ¬ (97 ≤ c ∧ c ≤ 122)) : c ∉ z.cps.toList := fun m => by
  unfold nameB at h
  simp only [Bool.and_eq_true] at h
  exact hc (isL_iff.mp (List.all_eq_true.mp h.2.2 c m))
/-! ### paths and events -/
def mainL : List Nat := [109, 97, 105, 110]
def inputL : List Nat := [105, 110, 112, 117, 116]
def delL : List Nat := [100, 101, 108, 105, 118, 101, 114]
def ansL : List Nat := [97, 110, 115, 119, 101, 114]
theorem main_s : ("main" : Str) = mk mainL := by decide +kernel
theorem input_s : ("input" : Str) = mk inputL := by decide +kernel
theorem del_s : ("deliver" : Str) = mk delL := by decide +kernel
theorem ans_s : ("answer" : Str) = mk ansL := by decide +kernel
theorem numT_chars (n : Int) : ∀ c ∈ numT n, c = 45 ∨ (48 ≤ c ∧ c ≤ 57) := by
  intro c h
  cases n with
  | ofNat n => exact .inr (numL_digits n c h)
  | negSucc n =>
    rcases List.mem_cons.mp h with h | h
    · exact .inl h
    · exact .inr (numL_digits _ c h)
theorem numT_ne (n : Int) : numT n ≠ [] := by
  cases n with
  | ofNat n => exact numL_ne n
  | negSucc n => simp [numT]
def pathT (p : List Int) : List Nat := if p = [] then mainL else joinL [46] (p.map numT)
def pathOf (w : List Nat) : Option (List Int) := if w = mainL then some [] else numsOf (splitL 46 w)
theorem joinL_chars {S : List Nat} {ps : List (List Nat)} {Y : Nat → Prop} (hS : ∀ c ∈ S, Y c) (h : ∀ p ∈ ps, ∀ c ∈ p, Y c) : ∀ c ∈ joinL S ps, Y c := by
  induction ps with
  | nil => intro c hc; cases hc
  | cons p ps ih =>
    cases ps with
    | nil => exact h p (List.mem_cons_self ..)
    | cons q r =>
      intro c hc
      have hc : c ∈ p ++ (S ++ joinL S (q :: r)) := hc
      rcases List.mem_append.mp hc with hc | hc
      · exact h p (List.mem_cons_self ..) c hc
      · rcases List.mem_append.mp hc with hc | hc
        · exact hS c hc
        · exact ih (fun x hx => h x (List.mem_cons_of_mem _ hx)) c hc
theorem pathT_chars (p : List Int) : ∀ c ∈ pathT p, c ≠ 32 := by
  unfold pathT
  split
  · decide
  · refine joinL_chars (Y := fun c => c ≠ 32) (by simp) fun w hw c hc => ?_
    obtain ⟨n, _, rfl⟩ := List.mem_map.mp hw
    have := numT_chars n c hc
    omega
theorem pathOf_T {p : List Int} (h : ∀ n ∈ p, small n) : pathOf (pathT p) = some p := by
  unfold pathOf
  by_cases hp : p = []
  · subst hp
    rfl
  · have e : pathT p = joinL [46] (p.map numT) := if_neg hp
    have hne : p.map numT ≠ [] := fun z => hp (List.map_eq_nil_iff.mp z)
    have nm : pathT p ≠ mainL := fun z => by
      have h109 : 109 ∈ joinL [46] (p.map numT) := by rw [← e, z]; decide
      have := joinL_chars (S := [46]) (Y := fun c => c ≠ 109) (by simp) (fun w hw c hc => by
        obtain ⟨n, _, rfl⟩ := List.mem_map.mp hw
        have := numT_chars n c hc
        omega) 109 h109
      exact this rfl
    rw [if_neg nm, e, split_join' hne (fun w hw hm => by
      obtain ⟨n, _, rfl⟩ := List.mem_map.mp hw
      have := numT_chars n 46 hm
      omega)]
    exact numsOf_T h
theorem pathOf_back {w : List Nat} {p : List Int} (h : pathOf w = some p) : pathT p = w ∧ ∀ n ∈ p, small n := by
  unfold pathOf at h
  by_cases hw : w = mainL
  · rw [if_pos hw] at h
    cases h
    exact ⟨hw.symm, by simp⟩
  · rw [if_neg hw] at h
    obtain ⟨e, hs⟩ := numsOf_back h
    have hp : p ≠ [] := fun z => by
      rw [z] at e
      exact spl_ne e.symm
    refine ⟨?_, hs⟩
    unfold pathT
    rw [if_neg hp, e]
    exact join_split 46 w
inductive Ev
  | inp (p : List Int) (m : List Nat) (as : List Int)
  | num (z : List Nat) (ns : List Int)
def wordsOf : Ev → List (List Nat)
  | .inp p m as => inputL :: pathT p :: m :: as.map numT
  | .num z ns => z :: ns.map numT
def lineOf (e : Ev) : List Nat := joinL [32] (wordsOf e)
def isNum (z : List Nat) (n : Nat) : Bool := (decide (z = delL) && decide (n = 1)) || (decide (z = ansL) && decide (n = 2))
def readI : List (List Nat) → Option Ev
  | _ :: w1 :: w2 :: r => if nameB (mk w2) = true then (match pathOf w1, numsOf r with | some p, some as => some (.inp p w2 as) | _, _ => none) else none
  | _ => none
def readN : List (List Nat) → Option Ev
  | w0 :: r => if isNum w0 r.length = true then (match numsOf r with | some ns => some (.num w0 ns) | none => none) else none
  | _ => none
def readW (ws : List (List Nat)) : Option Ev := if ws.head? = some inputL then readI ws else readN ws
def readEv (l : List Nat) : Option Ev := readW (splitL 32 l)
def EvOk : Ev → Prop
  | .inp p m as => (∀ n ∈ p, small n) ∧ nameB (mk m) = true ∧ ∀ n ∈ as, small n
  | .num z ns => isNum z ns.length = true ∧ ∀ n ∈ ns, small n
theorem isNum_ne {z : List Nat} {n : Nat} (h : isNum z n = true) : z ≠ inputL ∧ 32 ∉ z := by
  unfold isNum at h
  simp only [Bool.or_eq_true, Bool.and_eq_true, decide_eq_true_eq] at h
  rcases h with ⟨rfl, _⟩ | ⟨rfl, _⟩ <;> exact ⟨by decide, by decide⟩
theorem no32 {ns : List Int} : ∀ w ∈ ns.map numT, 32 ∉ w := fun w hw hm => by
  obtain ⟨n, _, rfl⟩ := List.mem_map.mp hw
  have := numT_chars n 32 hm
  omega
theorem read_line {e : Ev} (h : EvOk e) : readEv (lineOf e) = some e := by
  unfold readEv lineOf
  cases e with
  | inp p m as =>
    obtain ⟨hp, hm, ha⟩ := h
    rw [split_join' (by simp [wordsOf]) (fun w hw => ?_)]
    · show readI (inputL :: pathT p :: m :: as.map numT) = _
      show (if nameB (mk m) = true then (match pathOf (pathT p), numsOf (as.map numT) with | some p, some as => some (Ev.inp p m as) | _, _ => none) else none) = _
      rw [if_pos hm, pathOf_T hp, numsOf_T ha]
    · have hw : w ∈ inputL :: pathT p :: m :: as.map numT := hw
      rcases List.mem_cons.mp hw with rfl | hw
      · decide
      · rcases List.mem_cons.mp hw with rfl | hw
        · exact fun z => pathT_chars p 32 z rfl
        · rcases List.mem_cons.mp hw with rfl | hw
          · have := nameB_no hm (c := 32) (by omega)
            rw [mk_l] at this
            exact this
          · exact no32 w hw
  | num z ns =>
    obtain ⟨hz, hn⟩ := h
    obtain ⟨h1, h2⟩ := isNum_ne hz
    rw [split_join' (by simp [wordsOf]) (fun w hw => ?_)]
    · have : ¬ (z :: ns.map numT).head? = some inputL := fun q => h1 (Option.some.inj q)
      show (if (z :: ns.map numT).head? = some inputL then readI (z :: ns.map numT) else readN (z :: ns.map numT)) = _
      rw [if_neg this]
      show (if isNum z (ns.map numT).length = true then (match numsOf (ns.map numT) with | some ns => some (Ev.num z ns) | none => none) else none) = _
      rw [List.length_map, if_pos hz, numsOf_T hn]
    · rcases List.mem_cons.mp (show w ∈ z :: ns.map numT from hw) with rfl | hw
      · exact h2
      · exact no32 w hw
theorem read_back {l : List Nat} {e : Ev} (h : readEv l = some e) : lineOf e = l ∧ EvOk e := by
  unfold readEv at h
  have hw : wordsOf e = splitL 32 l ∧ EvOk e := by
    generalize splitL 32 l = ws at h
    unfold readW at h
    by_cases hh : ws.head? = some inputL
    · rw [if_pos hh] at h
      match ws, hh, h with
      | w0 :: w1 :: w2 :: r, hh, h =>
        cases hh
        have h : (if nameB (mk w2) = true then (match pathOf w1, numsOf r with | some p, some as => some (Ev.inp p w2 as) | _, _ => none) else none) = some e := h
        by_cases hm : nameB (mk w2) = true
        · rw [if_pos hm] at h
          cases e1 : pathOf w1 with
          | none => rw [e1] at h; cases h
          | some p =>
            cases e2 : numsOf r with
            | none => rw [e1, e2] at h; cases h
            | some as =>
              rw [e1, e2] at h
              cases h
              obtain ⟨a1, a2⟩ := pathOf_back e1
              obtain ⟨b1, b2⟩ := numsOf_back e2
              exact ⟨by show inputL :: pathT p :: w2 :: as.map numT = _; rw [a1, b1], a2, hm, b2⟩
        · rw [if_neg hm] at h
          cases h
    · rw [if_neg hh] at h
      match ws, h with
      | w0 :: r, h =>
        have h : (if isNum w0 r.length = true then (match numsOf r with | some ns => some (Ev.num w0 ns) | none => none) else none) = some e := h
        by_cases hm : isNum w0 r.length = true
        · rw [if_pos hm] at h
          cases e2 : numsOf r with
          | none => rw [e2] at h; cases h
          | some ns =>
            rw [e2] at h
            cases h
            obtain ⟨b1, b2⟩ := numsOf_back e2
            refine ⟨by show w0 :: ns.map numT = _; rw [b1], ?_, b2⟩
            have : ns.length = r.length := by rw [← b1, List.length_map]
            rw [this]
            exact hm
        · rw [if_neg hm] at h
          cases h
  refine ⟨?_, hw.2⟩
  unfold lineOf
  rw [hw.1]
  exact join_split 32 l
/-! ### lengths -/
theorem join_mem_len {S : List Nat} {ps : List (List Nat)} {p : List Nat} (h : p ∈ ps) : p.length ≤ (joinL S ps).length := by
  induction ps with
  | nil => cases h
  | cons q ps ih =>
    cases ps with
    | nil =>
      rcases List.mem_cons.mp h with rfl | h
      · exact Nat.le_refl _
      · cases h
    | cons r rs =>
      show p.length ≤ (q ++ (S ++ joinL S (r :: rs))).length
      rw [List.length_append, List.length_append]
      rcases List.mem_cons.mp h with rfl | h
      · omega
      · have := ih h
        omega
theorem join_sum {s : Nat} {ps : List (List Nat)} (h : ps ≠ []) : (ps.map (·.length)).sum + ps.length = (joinL [s] ps).length + 1 := by
  induction ps with
  | nil => exact absurd rfl h
  | cons q ps ih =>
    cases ps with
    | nil => simp [joinL]
    | cons r rs =>
      have := ih (by simp)
      show ((q.length) + ((r :: rs).map (·.length)).sum) + ((r :: rs).length + 1) = (q ++ ([s] ++ joinL [s] (r :: rs))).length + 1
      rw [List.length_append, List.length_append, List.length_singleton]
      omega
theorem numT_len {n : Int} (h : small n) : (numT n).length ≤ 11 := by
  obtain ⟨h0, h1⟩ := h
  cases n with
  | ofNat n =>
    have : (numL n).length ≤ 10 := numL_len (by decide) (by have : ((n : Nat) : Int) < 10000000000 := h1; omega)
    show (numL n).length ≤ 11
    omega
  | negSucc n =>
    have : (numL (n + 1)).length ≤ 10 := numL_len (by decide) (by omega)
    show (numL (n + 1)).length + 1 ≤ 11
    omega
theorem small_log {n : Int} (h : small n) : n.natAbs.log2 < 1920 := by
  obtain ⟨h0, h1⟩ := h
  by_cases z : n.natAbs = 0
  · rw [z]; decide
  · exact (Nat.log2_lt z).mpr (Nat.lt_of_lt_of_le (by omega : n.natAbs < 10000000000) (by decide +kernel))
end KQ
namespace KQ
open PySem PySem.Spec L2 RX TL
theorem sw_minus (w : List Nat) : Txt.startswith (mk w) "-" = decide (w.head? = some 45) := by
  have e : ("-" : Str) = mk [45] := by decide +kernel
  rw [e]
  have h := at_iff (x := mk w) (y := mk [45]) (by rw [tl_mk]; simp) 0
  rw [tl_mk, tl_mk, List.drop_zero] at h
  have p : pre [45] w = decide (w.head? = some 45) := by
    cases w with
    | nil => rfl
    | cons c r =>
      rcases pre_one (s := 45) (c := c) (r := r) with q | q
      · rw [q]
        by_cases z : c = 45
        · subst z; rfl
        · have : ¬ (c :: r).head? = some 45 := fun y => z (Option.some.inj y)
          rw [decide_eq_false this, beq_eq_false_iff_ne.mpr z]
      · rw [q]
        by_cases z : c = 45
        · subst z; rfl
        · have : ¬ (c :: r).head? = some 45 := fun y => z (Option.some.inj y)
          rw [decide_eq_false this, beq_eq_false_iff_ne.mpr (Ne.symm z)]
  rw [← p, Bool.eq_iff_iff, ← h]
  unfold Txt.startswith
  rw [Bool.and_eq_true, decide_eq_true_iff]
  exact Iff.rfl
theorem cut_one (w : List Nat) : cutS (mk w) (some 1) none = mk (w.drop 1) := by
  unfold cutS
  rw [show (1 : Int) = ((1 : Nat) : Int) from rfl, HT.sIx_nat, HT.sIx_none, mk_len, mk_l]
  cases w with
  | nil => rfl
  | cons c r =>
    rw [Nat.min_eq_left (by simp), List.take_of_length_le (by rw [List.length_drop]; exact Nat.le_refl _)]
    rfl
theorem split_mk (l : List Nat) (s : Nat) (hs : s < 256) : Txt.split (mk l) (mk [s]) = (splitL s l).map mk := by
  refine map_tl_inj ?_
  rw [split_spl _ (mk [s]) (by rw [tl_mk]; simp) (kind_ok (by simp [mk]; exact hs)), tl_mk, tl_mk, List.map_map]
  have : tl ∘ mk = id := funext fun l => tl_mk l
  rw [this, List.map_id]
  rfl
theorem join_mk (s : Nat) (ws : List (List Nat)) : Txt.join (mk [s]) (ws.map mk) = mk (joinL [s] ws) := by
  refine ext_tl ?_
  rw [join_eq, tl_join, tl_mk, tl_mk, List.map_map]
  have : tl ∘ mk = id := funext fun l => tl_mk l
  rw [this, List.map_id]
abbrev txs (ws : List (List Nat)) : List V := ws.map fun w => V.str (mk w)
theorem txs_mk (ws : List (List Nat)) : txs ws = (ws.map mk).map V.str := by rw [List.map_map]; rfl
theorem join_size {s : Nat} {ws : List (List Nat)} {n : Nat} (h : (joinL [s] ws).length ≤ n) : ((ws.map mk).map (·.length)).sum + (ws.map mk).length * (mk [s]).length ≤ n + 1 := by
  have e : (ws.map mk).map (·.length) = ws.map (·.length) := by
    rw [List.map_map]
    exact List.map_congr_left fun w _ => mk_len w
  rw [e, mk_len, List.length_map]
  by_cases hw : ws = []
  · subst hw
    simp
  · have := join_sum (s := s) hw
    simp only [List.length_singleton, Nat.mul_one]
    omega
theorem str_any {X : Cx} : CallR X (.type "str") (fun xs H Q => (∃ i, xs = [.int i] ∧ i.natAbs.log2 < 1920 ∧ Q (.str (toString i)) H) ∨ (∃ a, xs = [.str a] ∧ Q (.str a) H)) := by
  intro pins s σ H xs us Q I r h
  rcases h with h | h
  · exact call_str_int pins s σ H xs us Q I r h
  · exact SkE.call_str_str pins s σ H xs us Q I r h
end KQ
namespace KQ
open PySem PySem.Spec L2 RX TL
def dig : Str := "0123456789"
theorem dig_l : dig.cps.toList = [48, 49, 50, 51, 52, 53, 54, 55, 56, 57] := by decide +kernel
theorem dig_in (c : Nat) : decide (c ∈ dig.cps.toList) = isD c := by
  rw [Bool.eq_iff_iff, isD_iff, decide_eq_true_iff, dig_l]
  simp only [List.mem_cons, List.not_mem_nil, or_false]
  omega
/-! ### what stands in the heap -/
def IntsAt (H : Hp) (v : V) (ns : List Int) : Prop := ∃ a, v = .ref a ∧ H a = some (.tup (ns.map V.int))
def EvAt (H : Hp) (v : V) : Ev → Prop
  | .inp p m as => ∃ a pv av, v = .ref a ∧ H a = some (.tup [.str "input", pv, .str (mk m), av]) ∧ IntsAt H pv p ∧ IntsAt H av as
  | .num z ns => ∃ a, v = .ref a ∧ H a = some (.tup (.str (mk z) :: ns.map V.int))
/-- tuples stay -/
def Tl (H H' : Hp) : Prop := ∀ a xs, H a = some (.tup xs) → H' a = some (.tup xs)
theorem Same.tl {H H' : Hp} (s : Same H H') : Tl H H' := fun _ _ h => s _ _ h
theorem Tl.trans {H H1 H2 : Hp} (a : Tl H H1) (b : Tl H1 H2) : Tl H H2 := fun c o h => b c o (a c o h)
theorem IntsAt.tl {H H' : Hp} {v : V} {ns : List Int} (s : Tl H H') (h : IntsAt H v ns) : IntsAt H' v ns := by
  obtain ⟨a, e, h⟩ := h
  exact ⟨a, e, s _ _ h⟩
theorem EvAt.tl {H H' : Hp} {v : V} {e : Ev} (s : Tl H H') (h : EvAt H v e) : EvAt H' v e := by
  cases e with
  | inp p m as =>
    obtain ⟨a, pv, av, e, h, h1, h2⟩ := h
    exact ⟨a, pv, av, e, s _ _ h, h1.tl s, h2.tl s⟩
  | num z ns =>
    obtain ⟨a, e, h⟩ := h
    exact ⟨a, e, s _ _ h⟩
/-! ### promises -/
def Fl (C : Addr) (H : Hp) (E : XK) : Prop := ∀ d H', Same H H' → H d = none → H' d = some (.xd [("number", .int 0)]) → E (.ref C) (some d) H'
theorem Fl.same {C : Addr} {H H1 : Hp} {E : XK} (s : Same H H1) (f : Fl C H E) : Fl C H1 E := fun d H' s' n h => f d H' (s.trans s') (s.free n) h
def spEInit (C : Addr) : Sp := fun vs H Q _ => ∃ (a : Addr) (n : Int), vs = [.ref a, .int n] ∧ H a = some (exo a C none) ∧ small n ∧ ∀ d, H d = none → d ≠ a → Q .non (upd (upd H d (exd d [("number", .int n)])) a (exo a C (some d)))
def spName : Sp := fun vs H Q _ => ∃ z : Str, vs = [.str z] ∧ z.length ≤ 1000000 ∧ ∀ H', Same H H' → Q (.bl (nameB z)) H'
def numV : Option Int → V
  | none => .non
  | some n => .int n
def spNO : Sp := fun vs H Q _ => ∃ w : List Nat, vs = [.str (mk w)] ∧ w.length ≤ 2000 ∧ ∀ H', Same H H' → Q (numV (numOf w)) H'
/-- None, or a tuple of these numbers -/
def NsOut (H : Hp) (Q : VK) : Option (List Int) → Prop
  | none => ∀ H', Same H H' → Q .non H'
  | some ns => ∀ H' v, Same H H' → IntsAt H' v ns → Q v H'
def spNS (K : PySem.W.Frag) : Sp := fun vs H Q _ => ∃ (l : Addr) (ws : List (List Nat)), vs = [.ref l] ∧ SqL K H l (txs ws) ∧ ws.length ≤ 2000 ∧ (∀ w ∈ ws, w.length ≤ 2000) ∧ NsOut H Q (numsOf ws)
def spPO : Sp := fun vs H Q _ => ∃ w : List Nat, vs = [.str (mk w)] ∧ w.length ≤ 1900 ∧ NsOut H Q (pathOf w)
def spWP : Sp := fun vs H Q _ => ∃ v p, vs = [v] ∧ IntsAt H v p ∧ (∀ n ∈ p, small n) ∧ (pathT p).length ≤ 2000 ∧ p.length ≤ 2001 ∧ ∀ H', Same H H' → Q (.str (mk (pathT p))) H'
def spWrite : Sp := fun vs H Q _ => ∃ v e, vs = [v] ∧ EvAt H v e ∧ EvOk e ∧ (lineOf e).length ≤ 2000 ∧ ∀ H', Same H H' → Q (.str (mk (lineOf e))) H'
def EvOut (H : Hp) (Q : VK) : Option Ev → Prop
  | none => ∀ H', Same H H' → Q .non H'
  | some e => ∀ H' v, Same H H' → EvAt H' v e → Q v H'
def spRI (K : PySem.W.Frag) : Sp := fun vs H Q _ => ∃ (l : Addr) (ws : List (List Nat)), vs = [.ref l] ∧ SqL K H l (txs ws) ∧ ws.head? = some inputL ∧ ws.length ≤ 2000 ∧ (∀ w ∈ ws, w.length ≤ 1900) ∧ EvOut H Q (readI ws)
def spRN (K : PySem.W.Frag) : Sp := fun vs H Q _ => ∃ (l : Addr) (ws : List (List Nat)), vs = [.ref l] ∧ SqL K H l (txs ws) ∧ ws ≠ [] ∧ ws.length ≤ 2000 ∧ (∀ w ∈ ws, w.length ≤ 1900) ∧ EvOut H Q (readN ws)
def spRead (C : Addr) : Sp := fun vs H Q E => ∃ l : List Nat, vs = [.str (mk l)] ∧ l.length ≤ 1900 ∧ match readEv l with
  | some e => ∀ H' v, Same H H' → EvAt H' v e → Q v H'
  | none => Fl C H E
/-- what the written part says of an own exception -/
structure Ex1 (P : Program) (K : PySem.W.Frag) (mg : Str → Option Value) (C fI cc cda : Addr) (x : Str) : Prop where
  su : SupC P K mg C cc cda
  noR : PySem.W.findIn K (.ref C) "number" = some none
  iC : PySem.W.findIn K (.ref C) "__init__" = some (some (.ref fI))
  tI : PySem.W.typeIn K (.ref fI) = some (.type "function")
  gF : mg x = some (.ref C)
  xf : XfC K C
  te : PySem.W.exmOne K (.ref C) (.ref C) = some true
structure Txt (K : PySem.W.Frag) (mg : Str → Option Value) (kw wo : Addr) : Prop where
  zisi : mg "isinstance" = none
  zint : mg "int" = none
  zbool : mg "bool" = none
  zstr : mg "str" = none
  zlen : mg "len" = none
  zlist : mg "list" = none
  ztuple : mg "tuple" = none
  zrng : mg "range" = none
  zall : mg "all" = none
  gKw : mg "KEY_WORDS" = some (.ref kw)
  kKw : ∀ H, SqT K H kw (keys.map V.str)
  gLow : ∃ t, mg "SMALL_LETTERS" = some (.str low t)
  gLn : ∃ t, mg "LONGEST_NAME" = some (.int 12 t)
  gDi : ∃ t, mg "DIGITS" = some (.str dig t)
  gMd : ∃ t, mg "MOST_DIGITS" = some (.int 10 t)
  gMp : ∃ t, mg "MAIN_PATH" = some (.str "main" t)
  gWo : mg "WORDS" = some (.ref wo)
structure Cal (K : PySem.W.Frag) (mg : Str → Option Value) (x : Str) (f : Addr) (fd : FuncData) (ps : List Str) : Prop where
  g : mg x = some (.ref f)
  k : PySem.W.keepIn K (.ref f) = true
  b : Binds K fd ps []
section
variable {P : Program} {w : World} {K : PySem.W.Frag} {mg : Str → Option Value} {base : Heap} {N : List Str} {qual : Str} {scope : Scope} {f : Addr} {cd : Value} {A : Around} {outer : List PySem.Env} {s : Shared} {H : Hp} {E : XK}
theorem passX : Passes (L2.CX P w) (cxOf (L2.CX P w) P w K mg base N qual scope f cd A outer s H E) E := passes_call (takes_of rfl rfl rfl rfl) (fun _ _ _ _ h => h)
theorem takesX : Takes (cxOf (L2.CX P w) P w K mg base N qual scope f cd A outer s H E) (fun cls d _ H => E cls d H) := takes_of rfl rfl rfl rfl
theorem passF {X : Cx} : Passes CX0 X (fun _ _ _ => False) := fun _ _ _ _ _ _ _ h => h.elim
end
section
variable {P : Program} {w : World} {K : PySem.W.Frag} {mg : Str → Option Value} {base : Heap} {C fI cc cda kw wo : Addr}
theorem nsI : NdefX.NScope ["self", "number", "__class__"] ["self", "number"] ["__class__"] (defScope sInit) := NdefX.nscope_by (by decide +kernel)
theorem app_len (a b : Str) : (a ++ b).length = a.length + b.length := by
  show (_ ++ _ : Array Nat).size = _
  simp [Str.length]
theorem ok_init {oc kV doc pm ct : Value} {od an : Option Addr} {osl : Array (Option Value)} (T : Ex1 P K mg C fI cc cda "InvalidLine")
    (lk : K.lookup fI = some ⟨oc, od, .func (PySem.W.ksFn "__init__" "InvalidLine.__init__" (defArgs sInit) (defBody sInit) (defScope sInit) .none kV doc pm an (.ref cda) ct cc), osl⟩) (hcd : PySem.W.codeIn K (.ref cda) "InvalidLine.__init__" = true) :
    FnOk P w K mg base CX0 1 fI (PySem.W.ksFn "__init__" "InvalidLine.__init__" (defArgs sInit) (defBody sInit) (defScope sInit) .none kV doc pm an (.ref cda) ct cc) ["self", "number"] (spEInit C) := by
  refine fn_super T.su nsI rfl lk hcd rfl rfl rfl (fun vs H Q E h => ?_) (fun _ => rfl) (fun L => ⟨_, rfl⟩) (fun A outer s H vs Q E hr h => ?_)
  · obtain ⟨a, n, rfl, _⟩ := h
    rfl
  · obtain ⟨a, n, rfl, ha, hn, k⟩ := h
    refine ⟨a, [.int n], _, _, rfl, ha, pe_joined (.cons pe_str (.cons (pe_fmt (pv 1)) .nil)), pss_one (ps_ost (pv 0) (pv 1)), ?_⟩
    have l1 : (Str.empty ++ ("invalid line: " : Str)).length ≤ sizeLine := by decide +kernel
    refine ⟨_, rfl, l1, _, rfl, .inr ⟨_, rfl, small_log hn, _, rfl, ?_, rfl, ha, _, rfl, _, rfl, a, C, rfl, T.su.ox, T.noR, .inl ⟨ha, fun d hd hda => k d hd hda⟩⟩⟩
    refine size_m ?_
    have : (Str.empty ++ ("invalid line: " : Str)).length = 14 := by decide +kernel
    have e : (Str.ofString (toString n)).length = (numT n).length := by rw [numT_str, mk_len]
    have := numT_len hn
    rw [app_len]
    show _ + (Str.ofString (toString n)).length ≤ _
    omega
theorem fl_mk {E : XK} {H : Hp} (f : Fl C H E) : ∀ a, H a = none → spEInit C (.ref a :: ([.int 0] ++ [])) (upd H a (exo a C none))
    (fun v H2 => v = .non ∧ ∃ (d : Addr) (fs : List (Str × V)), H2 a = some (exo a C (some d)) ∧ H2 d = some (exd d fs) ∧ H d = none ∧ E (.ref C) (some d) (upd (del H2 a) d (.xd fs))) (fun _ _ _ => False) := by
  intro a ha
  refine ⟨a, 0, rfl, upd_same, ⟨by decide, by decide⟩, fun d hd hda => ⟨rfl, d, [("number", .int 0)], upd_same, by rw [upd_ne hda, upd_same], ?_, ?_⟩⟩
  · rw [upd_ne hda] at hd
    exact hd
  · rw [upd_ne hda] at hd
    refine f d _ (fun b o hb => ?_) hd upd_same
    have nb : b ≠ d := ne_of_none hb hd
    have na : b ≠ a := ne_of_none hb ha
    rw [upd_ne nb, del_ne na, upd_ne na, upd_ne nb, upd_ne na]
    exact hb
theorem scN : FnScope ["text", "letter"] ["text"] (defScope sName) := ⟨rfl, rfl, rfl, by decide +kernel, rfl, by decide +kernel, by decide +kernel⟩
theorem ok_name {f : Addr} {fd : FuncData} (F : Fun K "is_name" "is_name" sName f fd) (T : Txt K mg kw wo) : FnOk P w K mg base CX0 1 f fd ["text"] spName := by
  refine F.ok scN (fun vs H Q E h => ?_) (fun cdv A outer s H vs Q E hr h => ?_)
  · obtain ⟨z, rfl, _⟩ := h
    rfl
  · obtain ⟨z, rfl, hz, k⟩ := h
    obtain ⟨tl, gLow⟩ := T.gLow
    obtain ⟨tn, gLn⟩ := T.gLn
    refine ⟨_, (pss_cons (ps_if (PW.pt (pw_or (pt_not (pt_chain op_le op_le pe_int (pe_callB call_len_str rfl T.zlen PySem.boot_len (pa_cons (pv 0) pa_nil)) (pe_glob (v := .int 12) rfl gLn ⟨_, rfl⟩))) (pw_or1 (pt_cmpR op_in_seq (pv 0) (pe_glob (v := .ref kw) rfl T.gKw rfl) (by rfl)))))
        (pss_one (ps_ret pe_bl)) pss_nil)
      (pss_one (ps_ret (pe_callB (cr_all rfl) rfl T.zall boot_all0 (pa_cons
        (pe_lc (own := [("letter", 1)]) (g := gName 1) (tt := tYes) rfl scN.nd (pi_str (pv 0)) (blkOk_by (own := [("letter", 1)]) (N := ["text", "letter"]) (sc := defScope sName) (by decide +kernel))
          (fun _ _ _ _ _ => pg_name (i := 1) scN.nd rfl (Or.inl rfl)) (fun _ _ _ _ _ => pts_nil) (fun _ _ _ _ _ => pe_cmpR op_in_sign (pv 1) (pe_glob (v := .str low) rfl gLow ⟨_, rfl⟩) (by rfl))) pa_nil))))), ?_⟩
    have sz : z.length ≤ sizeLine := size_m hz
    refine ⟨_, rfl, z, rfl, sz, _, _, rfl, rfl, _, rfl, ?_⟩
    by_cases h1 : 1 ≤ z.length
    · refine ifT (by omega) ⟨_, _, rfl, rfl, _, rfl, ?_⟩
      by_cases h2 : z.length ≤ 12
      · refine ifNF (by omega) ?_
        have hin : L2.inV (.str z) (keys.map V.str) = keys.any (· == z) := by
          show (keys.map V.str).any (fun y => eqV y (.str z)) = _
          rw [List.any_map]
          rfl
        refine ⟨_, rfl, kw, _, rfl, .inr (T.kKw _), rfl, by decide +kernel, _, rfl, ?_⟩
        show if L2.inV (.str z) (keys.map V.str) = true then _ else _
        rw [hin]
        cases hk : keys.any (· == z) with
        | true =>
          have e : nameB z = false := by unfold nameB; rw [hk, decide_eq_true h1, decide_eq_true h2]; rfl
          have q := k H (Same.refl H)
          rw [e] at q
          exact iteT q
        | false =>
          have e : nameB z = z.cps.toList.all isL := by unfold nameB; rw [hk, decide_eq_true h1, decide_eq_true h2]; rfl
          refine iteF ?_
          refine ⟨_, rfl, z, rfl, fun D hD => lc_it walk_str (fun i H' => Same H H' ∧ H' D = some (.lst (((z.cps.toList.take i).map isL).map V.bl))) ⟨same_new hD _, upd_same⟩ (fun _ _ _ _ => trivial) ?_ ?_⟩
          · rintro i x H1 H2 hi ⟨s1, hD1⟩ ⟨rfl, c, hc, rfl⟩
            refine ⟨rfl, _, rfl, c, low, rfl, rfl, _, hD1, ?_, Same.upd s1 hD _, ?_⟩
            · rw [List.length_map, List.length_map, List.length_take]
              exact Nat.lt_of_le_of_lt (Nat.min_le_right _ _) (Nat.lt_of_le_of_lt (show z.cps.toList.length ≤ 1000000 by rw [Array.length_toList]; exact hz) (by decide))
            · have hc' : z.cps.toList[i]? = some c := by rw [Array.getElem?_toList]; exact hc
              rw [List.take_succ, hc', List.map_append, List.map_append]
              exact upd_same
          · rintro H1 ⟨s1, hD1⟩
            rw [show z.cps.toList.take z.cps.size = z.cps.toList by rw [← Array.length_toList, List.take_length]] at hD1
            refine ⟨D, _, rfl, SqL.of hD1, ?_⟩
            rw [List.all_map]
            have q := k H1 s1
            rw [e] at q
            exact q
      · refine ifNT (by omega) ?_
        have e : nameB z = false := by unfold nameB; rw [decide_eq_false h2, Bool.and_false]; rfl
        have q := k H (Same.refl H)
        rw [e] at q
        exact q
    · refine ifF (by omega) ?_
      have e : nameB z = false := by unfold nameB; rw [decide_eq_false h1]; rfl
      have q := k H (Same.refl H)
      rw [e] at q
      exact ⟨_, rfl, iteT q⟩
theorem scNumO : FnScope ["word", "digits", "digit"] ["word"] (defScope sNumO) := ⟨rfl, rfl, rfl, by decide +kernel, rfl, by decide +kernel, by decide +kernel⟩
theorem rest_first {c : TT} {A B : TS} {D : Ends} {σ : St} {H : Hp} (I : St → Hp → Prop) (h1 : ∀ σ' H', I σ' H' → D.nx σ' H') (h2 : (∀ σ' H', I σ' H' → D.nx σ' H') → tIfS c A B D σ H) : tIfS c A B D σ H := h2 h1
end
end KQ
namespace KQ
open PySem PySem.Spec L2 RX TL
theorem okB_eq (w : List Nat) : okB w = (((decide (1 ≤ (body w).length) && decide ((body w).length ≤ 10)) && (body w).all isD) && !(decide ((body w).head? = some 48) && !decide (w = [48]))) := rfl
theorem body_len (w : List Nat) : (body w).length ≤ w.length := by
  unfold body
  split
  · rw [List.length_tail]; omega
  · exact Nat.le_refl _
theorem int_text {w : List Nat} (h1 : 1 ≤ (body w).length) (h2 : (body w).length ≤ 10) (ha : (body w).all isD = true) : PySem.intText? (mk w) = some (valN w) := by
  have hd : NumText.AllDigits (body w) := fun c hc => isD_iff.mp (List.all_eq_true.mp ha c hc)
  unfold valN
  by_cases hm : w.head? = some 45
  · rw [if_pos hm]
    have hw : w = 45 :: body w := by
      cases w with
      | nil => cases hm
      | cons c r =>
        cases hm
        show _ = 45 :: (if ((45 : Nat) :: r).head? = some 45 then r else _)
        rw [if_pos (show ((45 : Nat) :: r).head? = some 45 from rfl)]
    refine PySem.intText_neg (x := mk w) (cs := body w) (by rw [mk_l]; exact hw) hd (by intro z; rw [z] at h1; simp at h1) ?_
    rw [mk_len, hw]
    show (body w).length + 1 ≤ 4300
    omega
  · rw [if_neg hm]
    have hb : body w = w := if_neg hm
    have e := PySem.intText_digits (x := mk w) (by rw [mk_l, ← hb]; exact hd) (by rw [mk_l, ← hb]; intro z; rw [z] at h1; simp at h1) (by rw [mk_len, ← hb]; omega)
    rw [mk_l] at e
    rw [hb]
    exact e
section
variable {P : Program} {w : World} {K : PySem.W.Frag} {mg : Str → Option Value} {base : Heap} {C fI cc cda kw wo : Addr}
theorem ok_numo {f : Addr} {fd : FuncData} (F : Fun K "number_of" "number_of" sNumO f fd) (T : Txt K mg kw wo) : FnOk P w K mg base CX0 1 f fd ["word"] spNO := by
  refine F.ok scNumO (fun vs H Q E h => ?_) (fun cdv A outer s H vs Q E hr h => ?_)
  · obtain ⟨w, rfl, _⟩ := h
    rfl
  · obtain ⟨w, rfl, hl, k⟩ := h
    obtain ⟨td, gDi⟩ := T.gDi
    obtain ⟨tm, gMd⟩ := T.gMd
    refine ⟨_, (pss_cons (ps_set (i := 1) scNumO.nd rfl (Or.inl rfl) (pe_ifExp (pt_val (pe_bm PySem.F.plainAttrs_str PySem.F.slot_str_startswith PySem.F.type_str_startswith mt_startswith (pv 0) (pa_cons pe_str pa_nil))) (pe_slice sl_str (pv 0) (po_some pe_int) po_none) (pv 0)))
 (pss_cons (ps_if (PW.pt (pw_or (pt_not (pt_chain op_le op_le pe_int (pe_callB call_len_str rfl T.zlen PySem.boot_len (pa_cons (pv 1) pa_nil)) (pe_glob (v := .int 10) rfl gMd ⟨_, rfl⟩))) (pw_or1 (pt_not (pt_val (pe_callB (cr_all rfl) rfl T.zall boot_all0 (pa_cons (pe_lc (own := [("digit", 2)]) (g := gName 2) (tt := tYes) rfl scNumO.nd (pi_str (pv 1)) (blkOk_by (own := [("digit", 2)]) (N := ["word", "digits", "digit"]) (sc := defScope sNumO) (by decide +kernel)) (fun _ _ _ _ _ => (pg_name (i := 2) scNumO.nd rfl (Or.inl rfl))) (fun _ _ _ _ _ => pts_nil) (fun _ _ _ _ _ => (pe_cmpR op_in_sign (pv 2) (pe_glob (v := .str dig) rfl gDi ⟨_, rfl⟩) (by rfl)))) pa_nil)))))))
 (pss_one (ps_ret pe_non))
 pss_nil)
 (pss_cons (ps_if (PW.pt (pw_and (pt_cmpR op_eq (pe_ix ix_str (pv 1) pe_int (fun _ _ => rfl)) pe_str (nomark _)) (pw_and1 (pt_cmpR op_ne (pv 0) pe_str (nomark _)))))
 (pss_one (ps_ret pe_non))
 pss_nil)
 (pss_one (ps_ret (pe_callTy call_int_str rfl T.zint boot_int0 (pa_cons (pv 0) pa_nil))))))), ?_⟩
    have hbl := body_len w
    have hbl2 : w.length ≤ (body w).length + 1 := by
      unfold body
      split
      · rw [List.length_tail]; omega
      · omega
    have none_ : okB w = false → ∀ H', Same H H' → Q .non H' := fun h H' s => by
      have q := k H' s
      unfold numOf at q
      rw [h, if_neg (by decide)] at q
      exact q
    have z0 : ("0" : Str) = mk [48] := by decide +kernel
    refine ⟨_, rfl, rfl, _, _, rfl, rfl, _, rfl, ?_⟩
    rw [sw_minus]
    refine ite2 (fun hm => ?r1) (fun hm => ?r2)
    case' r1 =>
      have hm := of_decide_eq_true hm
      refine ⟨_, rfl, 1, rfl, mk w, rfl, by rw [mk_len]; exact size_m (by omega), ?_⟩
      rw [cut_one, show w.drop 1 = body w by unfold body; rw [if_pos hm, List.drop_one]]
    case' r2 =>
      have hm : ¬ w.head? = some 45 := fun z => hm (decide_eq_true z)
      have hbw : body w = w := if_neg hm
      refine ⟨V.str (mk (body w)), by rw [hbw]; rfl, ?_⟩
    all_goals
      have eq1 := okB_eq w
      have e0 : ∀ {c : Nat}, decide (V.str ⟨#[c]⟩ = V.str "0") = decide (some c = some 48) := fun {c} => decide_eq_decide.mpr (by
        rw [str_eq, z0]
        exact ⟨fun z => by have := mk_inj.mp (show mk [c] = mk [48] from z); cases this; rfl, fun z => by cases z; rfl⟩)
      have itx := fun a b c => int_text (w := w) a b c
      generalize body w = d at eq1 itx hbl hbl2 ⊢
      refine ⟨_, rfl, mk d, rfl, by rw [mk_len]; exact size_m (by omega), _, _, rfl, rfl, _, rfl, ?_⟩
      rw [mk_len]
      by_cases h1 : 1 ≤ d.length
      · refine ifT (by omega) ⟨_, _, rfl, rfl, _, rfl, ?_⟩
        by_cases h2 : d.length ≤ 10
        · refine ifNF (by omega) ?_
          rw [decide_eq_true h1, decide_eq_true h2] at eq1
          refine ⟨_, rfl, mk d, rfl, fun D hD => lc_it walk_str (fun i H' => Same H H' ∧ H' D = some (.lst (((d.take i).map isD).map V.bl))) ⟨same_new hD _, upd_same⟩ (fun _ _ _ _ => trivial) ?_ ?_⟩
          · rintro i x H1 H2 hi ⟨s1, hD1⟩ ⟨rfl, c, hc, rfl⟩
            refine ⟨rfl, _, rfl, c, dig, rfl, rfl, _, hD1, ?_, Same.upd s1 hD _, ?_⟩
            · refine size_l ?_
              rw [List.length_map, List.length_map, List.length_take]
              omega
            · have hc' : d[i]? = some c := by
                have := hc
                rw [← Array.getElem?_toList, mk_l] at this
                exact this
              rw [List.take_succ, hc', List.map_append, List.map_append, dig_in]
              exact upd_same
          · rintro H1 ⟨s1, hD1⟩
            rw [show d.take (mk d).cps.size = d from List.take_of_length_le (by show d.length ≤ (mk d).length; rw [mk_len]; exact Nat.le_refl _)] at hD1
            refine ⟨D, _, rfl, SqL.of hD1, ?_⟩
            rw [List.all_map]
            have ea : d.all (id ∘ isD) = d.all isD := rfl
            rw [ea]
            refine ⟨_, rfl, ?_⟩
            cases hall : d.all isD with
            | false =>
              rw [hall] at eq1
              exact iteT (none_ eq1 H1 s1)
            | true =>
              rw [hall] at eq1
              refine iteF ?_
              obtain ⟨c, r, rfl⟩ : ∃ c r, d = c :: r := by
                cases d with
                | nil => simp at h1
                | cons c r => exact ⟨c, r, rfl⟩
              refine ⟨_, rfl, mk (c :: r), _, c, rfl, rfl, by rw [mk_len]; exact size_m (by omega), (by rw [mk_l]; exact atI_nat (j := 0) rfl), rfl, _, rfl, ?_⟩
              rw [e0]
              have fin : (decide ((c :: r).head? = some 48) && !decide (w = [48])) = false → tRet (tCB (fun xs H Q => ∃ a n, xs = [V.str a] ∧ PySem.intText? a = some n ∧ a.length ≤ 640 ∧ Q (V.int n) H) (tCons (tVar 0) tNil)) { nx := fun x H' => Q V.non H', rt := Q } [some (.str (mk w)), some (.str (mk (c :: r))), none] H1 := fun hh => by
                rw [hh] at eq1
                refine ⟨_, rfl, mk w, _, rfl, itx h1 h2 hall, ?_, ?_⟩
                · rw [mk_len]; omega
                · have q := k H1 s1
                  unfold numOf at q
                  rw [eq1, if_pos (by rfl)] at q
                  exact q
              by_cases hc : c = 48
              · subst hc
                refine ifT rfl ⟨_, rfl, rfl, _, rfl, ?_⟩
                by_cases hw : w = [48]
                · refine ifNF (by rw [hw, z0]) ?_
                  exact fin (by rw [decide_eq_true hw]; simp)
                · refine ifNT (fun z => hw (mk_inj.mp (by rw [← z0]; exact V.str.inj z))) ?_
                  rw [decide_eq_false hw] at eq1
                  exact none_ eq1 H1 s1
              · refine ifF (fun z => hc (Option.some.inj z)) (iteF ?_)
                exact fin (by
                  have : ¬ (c :: r).head? = some 48 := fun z => hc (Option.some.inj z)
                  rw [decide_eq_false this]
                  rfl)
        · refine ifNT (by omega) (iteT ?_)
          rw [decide_eq_false h2, Bool.and_false] at eq1
          exact none_ eq1 H (Same.refl H)
      · refine ifF (by omega) ⟨_, rfl, iteT ?_⟩
        rw [decide_eq_false h1] at eq1
        exact none_ eq1 H (Same.refl H)
end
end KQ
namespace KQ
open PySem PySem.Spec L2 RX TL
theorem numsOf_any : ∀ ws : List (List Nat), numsOf ws = none ↔ (ws.map fun w => numV (numOf w)).any (fun y => eqV y .non) = true
  | [] => by simp [numsOf]
  | w :: ws => by
    have ih := numsOf_any ws
    show (match numOf w, numsOf ws with | some n, some ns => some (n :: ns) | _, _ => none) = none ↔ _
    rw [List.map_cons, List.any_cons]
    cases e1 : numOf w with
    | none => simp [numV, eqV]
    | some n =>
      cases e2 : numsOf ws with
      | none =>
        rw [e2] at ih
        rw [ih.mp rfl]
        simp
      | some ns =>
        rw [e2] at ih
        have : (ws.map fun w => numV (numOf w)).any (fun y => eqV y .non) = false := by
          cases h : (ws.map fun w => numV (numOf w)).any (fun y => eqV y .non) with
          | false => rfl
          | true => exact absurd (ih.mpr h) (by simp)
        rw [this]
        simp [numV, eqV]
theorem numsOf_map : ∀ {ws : List (List Nat)} {ns : List Int}, numsOf ws = some ns → (ws.map fun w => numV (numOf w)) = ns.map V.int
  | [], ns, h => by cases h; rfl
  | w :: ws, ns, h => by
    have h : (match numOf w, numsOf ws with | some n, some ns => some (n :: ns) | _, _ => none) = some ns := h
    cases e1 : numOf w with
    | none => rw [e1] at h; cases h
    | some n =>
      cases e2 : numsOf ws with
      | none => rw [e1, e2] at h; cases h
      | some ms =>
        rw [e1, e2] at h
        cases h
        rw [List.map_cons, e1, numsOf_map e2]
        rfl
theorem flat_nums (ws : List (List Nat)) : (ws.map fun w => numV (numOf w)).all flatV = true := List.all_eq_true.mpr fun x hx => by
  obtain ⟨w, _, rfl⟩ := List.mem_map.mp hx
  cases numOf w <;> rfl
theorem txs_get {ws : List (List Nat)} {i : Nat} {x : V} (h : (txs ws)[i]? = some x) : ∃ w, ws[i]? = some w ∧ x = .str (mk w) := by
  rw [List.getElem?_map] at h
  cases q : ws[i]? with
  | none => rw [q] at h; cases h
  | some w => rw [q] at h; exact ⟨w, rfl, (Option.some.inj h).symm⟩
theorem int_get {ns : List Int} {i : Nat} {x : V} (h : (ns.map V.int)[i]? = some x) : ∃ n, ns[i]? = some n ∧ x = .int n := by
  rw [List.getElem?_map] at h
  cases q : ns[i]? with
  | none => rw [q] at h; cases h
  | some n => rw [q] at h; exact ⟨n, rfl, (Option.some.inj h).symm⟩
theorem nums_snoc {ns : List Int} {i : Nat} {n : Int} (h : ns[i]? = some n) : txs ((ns.take (i + 1)).map numT) = txs ((ns.take i).map numT) ++ [V.str (Str.ofString (toString n))] := by
  rw [List.take_succ, h, numT_str]
  show (((ns.take i ++ [n]).map numT).map fun w => V.str (mk w)) = _
  rw [List.map_append, List.map_append]
  rfl
theorem split_len (s : Nat) (cs : List Nat) : (splitL s cs).length ≤ cs.length + 1 ∧ ∀ w ∈ splitL s cs, w.length ≤ cs.length := by
  have h := join_split s cs
  have hs := join_sum (s := s) (ps := splitL s cs) spl_ne
  rw [h] at hs
  exact ⟨by omega, fun w hw => by rw [← h]; exact join_mem_len hw⟩
theorem ints_shaped (ns : List Int) : SeqAt.shaped (.tuple (ns.map .int)) = true := by
  have lay : ∀ ns : List Int, PyData.canLayAll0 (ns.map .int) = true := fun ns => by
    induction ns with
    | nil => rfl
    | cons n ns ih =>
      show (PyData.canLay0 (.int n) && PyData.canLayAll0 (ns.map .int)) = true
      rw [ih]; rfl
  have dep : ∀ ns : List Int, PyData.depthAll (ns.map .int) = 0 := fun ns => by
    induction ns with
    | nil => rfl
    | cons n ns ih =>
      show max 0 (PyData.depthAll (ns.map .int)) = 0
      rw [ih]; rfl
  unfold SeqAt.shaped
  show (PyData.canLayAll0 (ns.map .int) && decide (PyData.depthAll (ns.map .int) + 1 ≤ 64)) = true
  rw [lay, dep]
  rfl
theorem ints_dpAll {K : PySem.W.Frag} {H : Hp} (ns : List Int) : DpAll K H (ns.map V.int) (ns.map .int) := by
  induction ns with
  | nil => exact .nil
  | cons n ns ih => exact .cons (.int n) ih
theorem IntsAt.dp {K : PySem.W.Frag} {H : Hp} {v : V} {ns : List Int} (h : IntsAt H v ns) : Dp K H v (.tuple (ns.map .int)) := by
  obtain ⟨a, rfl, h⟩ := h
  exact .tup (SqT.of h) (ints_dpAll ns)
theorem eqv_nil (ns : List Int) : PyData.eqv (.tuple (ns.map .int)) (.tuple []) = decide (ns = []) := by
  cases ns with
  | nil => rfl
  | cons n ns => rfl
section
variable {P : Program} {w : World} {K : PySem.W.Frag} {mg : Str → Option Value} {base : Heap} {C fI cc cda kw wo : Addr}
theorem scNumsO : FnScope ["words", "numbers", "word"] ["words"] (defScope sNumsO) := ⟨rfl, rfl, rfl, by decide +kernel, rfl, by decide +kernel, by decide +kernel⟩
theorem ok_numso {f fN : Addr} {fd fdN : FuncData} (F : Fun K "numbers_of" "numbers_of" sNumsO f fd) (T : Txt K mg kw wo)
    (G_NO : FnOk P w K mg base CX0 1 fN fdN ["word"] spNO) (L_NO : Cal K mg "number_of" fN fdN ["word"]) : FnOk P w K mg base CX0 2 f fd ["words"] (spNS K) := by
  refine F.ok scNumsO (fun vs H Q E h => ?_) (fun cdv A outer s H vs Q E hr h => ?_)
  · obtain ⟨l, ws, rfl, _⟩ := h
    rfl
  · obtain ⟨l, ws, rfl, hl, h1, h2, k⟩ := h
    refine ⟨_, (pss_cons (ps_set (i := 1) scNumsO.nd rfl (Or.inl rfl) (pe_callTy call_tuple_of rfl T.ztuple boot_tuple0 (pa_cons (pe_lc (own := [("word", 2)]) (g := gName 2) (tt := tYes) rfl scNumsO.nd (pi_list (pv 0)) (blkOk_by (own := [("word", 2)]) (N := ["words", "numbers", "word"]) (sc := defScope sNumsO) (by decide +kernel)) (fun _ _ _ _ _ => (pg_name (i := 2) scNumsO.nd rfl (Or.inl rfl))) (fun _ _ _ _ _ => pts_nil) (fun _ _ _ _ _ => (pe_call G_NO hr rfl L_NO.g L_NO.k L_NO.b .nil pass0 (pa_cons (pv 2) pa_nil)))) pa_nil)))
 (pss_one (ps_ret (pe_ifExp (pt_cmpR op_in_seq pe_non (pv 1) (by rfl)) pe_non (pv 1))))), ?_⟩
    refine ⟨_, rfl, l, rfl, ⟨_, hl⟩, fun D hD => lc_list (K := K) (a := l) (xs := txs ws) (fun i H' => Same H H' ∧ H' D = some (.lst ((ws.take i).map fun w => numV (numOf w)))) ⟨same_new hD _, upd_same⟩ (fun i H' _ ⟨s, _⟩ => s.seq hl) ?_ ?_⟩
    · rintro i x H1 hx ⟨s1, hD1⟩
      obtain ⟨w, hw, rfl⟩ := txs_get hx
      refine ⟨rfl, _, rfl, w, rfl, h2 w (List.mem_of_getElem? hw), fun H2 s2 => ⟨_, s2 _ _ hD1, ?_, Same.upd (s1.trans s2) hD _, ?_⟩⟩
      · refine size_l ?_
        rw [List.length_map, List.length_take]
        omega
      · rw [List.take_succ, hw, List.map_append]
        exact upd_same
    · rintro H1 ⟨s1, hD1⟩
      rw [List.length_map, List.take_length] at hD1
      refine ⟨D, _, rfl, .inl ⟨SqL.of hD1, fun t ht => ?_⟩⟩
      have st := same_new ht (.tup (ws.map fun w => numV (numOf w)))
      refine ⟨_, rfl, t, _, rfl, .inr (SqT.of upd_same), rfl, flat_nums ws, _, rfl, ?_⟩
      show if (ws.map fun w => numV (numOf w)).any (fun y => eqV y .non) = true then _ else _
      cases e : numsOf ws with
      | none =>
        rw [(numsOf_any ws).mp e]
        rw [e] at k
        exact iteT (k _ (s1.trans st))
      | some ns =>
        have : (ws.map fun w => numV (numOf w)).any (fun y => eqV y .non) = false := by
          cases h : (ws.map fun w => numV (numOf w)).any (fun y => eqV y .non) with
          | false => rfl
          | true => rw [(numsOf_any ws).mpr h] at e; cases e
        rw [this]
        rw [e] at k
        refine iteF ⟨_, rfl, k _ _ (s1.trans st) ⟨t, rfl, ?_⟩⟩
        rw [← numsOf_map e]
        exact upd_same
theorem scPathO : FnScope ["word"] ["word"] (defScope sPathO) := ⟨rfl, rfl, rfl, by decide +kernel, rfl, by decide +kernel, by decide +kernel⟩
theorem ok_patho {f fN : Addr} {fd fdN : FuncData} (F : Fun K "path_of" "path_of" sPathO f fd) (T : Txt K mg kw wo)
    (G_NS : FnOk P w K mg base CX0 2 fN fdN ["words"] (spNS K)) (L_NS : Cal K mg "numbers_of" fN fdN ["words"]) : FnOk P w K mg base CX0 3 f fd ["word"] spPO := by
  refine F.ok scPathO (fun vs H Q E h => ?_) (fun cdv A outer s H vs Q E hr h => ?_)
  · obtain ⟨w, rfl, _⟩ := h
    rfl
  · obtain ⟨w, rfl, hl, k⟩ := h
    obtain ⟨tm, gMp⟩ := T.gMp
    refine ⟨_, (pss_cons (ps_if (pt_cmpR op_eq (pv 0) (pe_glob (v := .str "main") rfl gMp ⟨_, rfl⟩) (nomark _))
 (pss_one (ps_ret (pe_tup pa_nil)))
 pss_nil)
 (pss_one (ps_ret (pe_call G_NS hr rfl L_NS.g L_NS.k L_NS.b .nil pass0 (pa_cons (pe_bm PySem.F.plainAttrs_str PySem.F.slot_str_split PySem.F.type_str_split mt_split (pv 0) (pa_cons pe_str pa_nil)) pa_nil))))), ?_⟩
    unfold pathOf at k
    refine ⟨_, rfl, rfl, _, rfl, ?_⟩
    by_cases hw : w = mainL
    · rw [if_pos hw] at k
      refine ifT (by rw [main_s, hw]) ⟨(by show 0 ≤ sizeLine; decide), fun t ht => ?_⟩
      exact k _ _ (same_new ht _) ⟨t, rfl, upd_same⟩
    · rw [if_neg hw] at k
      refine ifF (fun z => hw (mk_inj.mp (by rw [← main_s]; exact V.str.inj z))) ?_
      have es : ("." : Str) = mk [46] := by decide +kernel
      obtain ⟨l1, l2⟩ := split_len 46 w
      refine ⟨_, rfl, rfl, mk w, ".", rfl, rfl, by decide +kernel, ?_, fun p hp => ?_⟩
      · rw [mk_len]; exact size_m (by omega)
      · rw [es, split_mk w 46 (by decide), ← txs_mk]
        refine ⟨p, splitL 46 w, rfl, SqL.of upd_same, by omega, fun x hx => by have := l2 x hx; omega, ?_⟩
        have s1 := same_new hp (.lst (txs (splitL 46 w)))
        cases e : numsOf (splitL 46 w) with
        | none =>
          rw [e] at k
          exact fun H' s => k H' (s1.trans s)
        | some ns =>
          rw [e] at k
          exact fun H' v s h => k H' v (s1.trans s) h
theorem scWPath : FnScope ["path", "number"] ["path"] (defScope sWPath) := ⟨rfl, rfl, rfl, by decide +kernel, rfl, by decide +kernel, by decide +kernel⟩
theorem ok_wpath {f : Addr} {fd : FuncData} (F : Fun K "write_path" "write_path" sWPath f fd) (T : Txt K mg kw wo) : FnOk P w K mg base CX0 1 f fd ["path"] spWP := by
  refine F.ok scWPath (fun vs H Q E h => ?_) (fun cdv A outer s H vs Q E hr h => ?_)
  · obtain ⟨v, p, rfl, _⟩ := h
    rfl
  · obtain ⟨v, p, rfl, hv, hs, hl, hn, k⟩ := h
    obtain ⟨tm, gMp⟩ := T.gMp
    refine ⟨_, (pss_cons (ps_if (pt_cmpR (op_eqD hr.units) (pv 0) (pe_tup pa_nil) (nomark _))
 (pss_one (ps_ret (pe_glob (v := .str "main") rfl gMp ⟨_, rfl⟩)))
 pss_nil)
 (pss_one (ps_ret (pe_bm PySem.F.plainAttrs_str PySem.F.slot_str_join PySem.F.type_str_join mt_join pe_str (pa_cons (pe_lc (own := [("number", 1)]) (g := gName 1) (tt := tYes) rfl scWPath.nd (pi_tup (pv 0)) (blkOk_by (own := [("number", 1)]) (N := ["path", "number"]) (sc := defScope sWPath) (by decide +kernel)) (fun _ _ _ _ _ => (pg_name (i := 1) scWPath.nd rfl (Or.inl rfl))) (fun _ _ _ _ _ => pts_nil) (fun _ _ _ _ _ => (pe_callTy call_str_int rfl T.zstr boot_str0 (pa_cons (pv 1) pa_nil)))) pa_nil))))), ?_⟩
    refine ⟨_, rfl, (by show 0 ≤ sizeLine; decide), fun e he => ?_⟩
    have se := same_new he (.tup [])
    refine ⟨.tuple (p.map .int), .tuple [], (hv.tl (Same.tl se)).dp, .tup (SqT.of upd_same) .nil, ints_shaped p, rfl, _, rfl, ?_⟩
    rw [eqv_nil]
    unfold pathT at k hl
    by_cases hp : p = []
    · rw [if_pos hp] at k
      refine ifT hp ?_
      have := k _ se
      rw [← main_s] at this
      exact this
    · rw [if_neg hp] at k hl
      refine ifF hp ?_
      obtain ⟨a, rfl, ha⟩ := hv
      have es : ("." : Str) = mk [46] := by decide +kernel
      refine ⟨rfl, _, rfl, a, rfl, ⟨_, SqT.of (se _ _ ha)⟩, fun D hD => lc_tup (K := K) (a := a) (xs := p.map V.int) (fun i H' => Same H H' ∧ H' D = some (.lst (txs ((p.take i).map numT)))) ⟨Same.upd se (se.free hD) _, upd_same⟩ (fun i H' _ ⟨s, _⟩ => SqT.of (s _ _ ha)) ?_ ?_⟩
      · rintro i x H1 hx ⟨s1, hD1⟩
        obtain ⟨n, hni, rfl⟩ := int_get hx
        refine ⟨rfl, _, rfl, n, rfl, small_log (hs n (List.mem_of_getElem? hni)), _, hD1, ?_, Same.upd s1 (se.free hD) _, ?_⟩
        · refine size_l ?_
          rw [List.length_map, List.length_map, List.length_take]
          omega
        · rw [nums_snoc hni]
          exact upd_same
      · rintro H1 ⟨s1, hD1⟩
        rw [List.length_map, List.take_length, txs_mk] at hD1
        refine ⟨".", D, _, rfl, rfl, .inl (SqL.of hD1), ?_, ?_⟩
        · rw [es]
          exact Nat.le_trans (join_size hl) (by decide)
        · rw [es, join_mk]
          exact k H1 s1
end
end KQ
namespace KQ
open PySem PySem.Spec L2 RX TL
def wV (z : List Nat) : V := if z = delL then .int 2 else if z = ansL then .int 3 else .non
/-- the written dict WORDS -/
def Wd (K : PySem.W.Frag) (w : World) (wo : Addr) : Prop := ∃ es n, KDict K w wo es n ∧ ∀ z : List Nat, ∃ r, PySem.W.nsIn K wo (mk z) = some r ∧ RelV (wV z) (r.getD .none)
theorem wV_num (z : List Nat) (n : Nat) : decide (V.int ((n + 1 : Nat) : Int) = wV z) = isNum z n := by
  unfold wV isNum
  by_cases h1 : z = delL
  · have h2 : z ≠ ansL := by rw [h1]; decide
    rw [if_pos h1, decide_eq_true h1, decide_eq_false h2, Bool.false_and, Bool.or_false, Bool.true_and]
    exact decide_eq_decide.mpr (by rw [int_eq]; omega)
  · rw [if_neg h1, decide_eq_false h1, Bool.false_and, Bool.false_or]
    by_cases h2 : z = ansL
    · rw [if_pos h2, decide_eq_true h2, Bool.true_and]
      exact decide_eq_decide.mpr (by rw [int_eq]; omega)
    · rw [if_neg h2, decide_eq_false h2, Bool.false_and]
      exact decide_eq_false (by intro z; cases z)
theorem wV_scal (i : Int) (z : List Nat) : scal (.int i) (wV z) = true := by
  unfold wV
  split
  · rfl
  · split <;> rfl
theorem readI_short {ws : List (List Nat)} (h : ws.length < 3) : readI ws = none := by
  cases ws with
  | nil => rfl
  | cons w0 ws =>
    cases ws with
    | nil => rfl
    | cons w1 ws =>
      cases ws with
      | nil => rfl
      | cons w2 ws =>
        rw [List.length_cons, List.length_cons, List.length_cons] at h
        omega
theorem cut_from {xs : List V} {k : Nat} : cutV xs (some (k : Int)) none = xs.drop k := by
  unfold cutV
  rw [HT.sIx_nat, HT.sIx_none]
  by_cases h : k ≤ xs.length
  · rw [Nat.min_eq_left h, List.take_of_length_le (by rw [List.length_drop]; exact Nat.le_refl _)]
  · rw [Nat.min_eq_right (by omega), List.drop_length, List.drop_of_length_le (by omega), List.take_nil]
section
variable {P : Program} {w : World} {K : PySem.W.Frag} {mg : Str → Option Value} {base : Heap} {C fI cc cda kw wo : Addr}
theorem scRI : FnScope ["words", "path", "arguments"] ["words"] (defScope sRI) := ⟨rfl, rfl, rfl, by decide +kernel, rfl, by decide +kernel, by decide +kernel⟩
theorem ok_ri {f fN fP fS : Addr} {fd fdN fdP fdS : FuncData} (F : Fun K "_read_input" "_read_input" sRI f fd) (T : Txt K mg kw wo)
    (G_IN : FnOk P w K mg base CX0 1 fN fdN ["text"] spName) (L_IN : Cal K mg "is_name" fN fdN ["text"])
    (G_PO : FnOk P w K mg base CX0 3 fP fdP ["word"] spPO) (L_PO : Cal K mg "path_of" fP fdP ["word"])
    (G_NS : FnOk P w K mg base CX0 2 fS fdS ["words"] (spNS K)) (L_NS : Cal K mg "numbers_of" fS fdS ["words"]) : FnOk P w K mg base CX0 4 f fd ["words"] (spRI K) := by
  refine F.ok scRI (fun vs H Q E h => ?_) (fun cdv A outer s H vs Q E hr h => ?_)
  · obtain ⟨l, ws, rfl, _⟩ := h
    rfl
  · obtain ⟨l, ws, rfl, hl, hh, h1, h2, k⟩ := h
    have hr1 : Room 1 _ := hr.mono (by decide)
    have hr2 : Room 2 _ := hr.mono (by decide)
    refine ⟨_, (pss_cons (ps_if (PW.pt (pw_or (pt_cmpR op_lt (pe_callB call_len_seq rfl T.zlen PySem.boot_len (pa_cons (pv 0) pa_nil)) pe_int (nomark _)) (pw_or1 (pt_not (pt_val (pe_call G_IN hr1 rfl L_IN.g L_IN.k L_IN.b .nil pass0 (pa_cons (pe_ix ix_list (pv 0) pe_int (fun _ _ => rfl)) pa_nil)))))))
 (pss_one (ps_ret pe_non))
 pss_nil)
 (pss_cons (ps_set (i := 1) scRI.nd rfl (Or.inl rfl) (pe_call G_PO hr rfl L_PO.g L_PO.k L_PO.b .nil pass0 (pa_cons (pe_ix ix_list (pv 0) pe_int (fun _ _ => rfl)) pa_nil)))
 (pss_cons (ps_set (i := 2) scRI.nd rfl (Or.inl rfl) (pe_call G_NS hr2 rfl L_NS.g L_NS.k L_NS.b .nil pass0 (pa_cons (pe_slice sl_list (pv 0) (po_some pe_int) po_none) pa_nil)))
 (pss_cons (ps_if (PW.pt (pw_or (pt_cmpR op_isN (pv 1) pe_non (nomark _)) (pw_or1 (pt_cmpR op_isN (pv 2) pe_non (nomark _)))))
 (pss_one (ps_ret pe_non))
 pss_nil)
 (pss_one (ps_ret (pe_tup (pa_cons pe_str (pa_cons (pv 1) (pa_cons (pe_ix ix_list (pv 0) pe_int (fun _ _ => rfl)) (pa_cons (pv 2) pa_nil))))))))))), ?_⟩
    refine ⟨_, rfl, l, _, rfl, .inl hl, _, _, rfl, rfl, _, rfl, ?_⟩
    rw [List.length_map]
    by_cases h3 : ws.length < 3
    · have e : readI ws = none := readI_short h3
      rw [e] at k
      exact ifT (by omega) (iteT (k H (Same.refl H)))
    · refine ifF (by omega) ?_
      obtain ⟨w0, w1, w2, r, rfl⟩ : ∃ w0 w1 w2 r, ws = w0 :: w1 :: w2 :: r := by
        cases ws with
        | nil => exact absurd (by simp) h3
        | cons w0 ws =>
          cases ws with
          | nil => exact absurd (by simp) h3
          | cons w1 ws =>
            cases ws with
            | nil => exact absurd (by simp) h3
            | cons w2 ws => exact ⟨_, _, _, _, rfl⟩
      have l1 := h2 w1 (by simp)
      have l2 := h2 w2 (by simp)
      have k : EvOut H Q (if nameB (mk w2) = true then (match pathOf w1, numsOf r with | some p, some as => some (Ev.inp p w2 as) | _, _ => none) else none) := k
      refine ⟨_, rfl, l, _, _, _, rfl, rfl, hl, at2, _, rfl, by rw [mk_len]; omega, fun H1 s1 => ⟨_, rfl, ?_⟩⟩
      cases hn : nameB (mk w2) with
      | false =>
        rw [hn, if_neg (by decide)] at k
        exact iteT (k H1 s1)
      | true =>
        rw [hn, if_pos rfl] at k
        refine iteF ⟨_, rfl, l, _, _, _, rfl, rfl, s1.seq hl, at1, w1, rfl, l1, ?_⟩
        have hc : cutV (txs (w0 :: w1 :: w2 :: r)) (some 3) none = txs r := cut_from (k := 3)
        have hr2k : r.length ≤ 2000 := by simp at h1; omega
        have hrw : ∀ x ∈ r, x.length ≤ 2000 := fun x hx => by have := h2 x (by simp [hx]); omega
        cases e1 : pathOf w1 with
        | none =>
          rw [e1] at k
          have k : EvOut H Q none := k
          intro H2 s2
          have s02 := s1.trans s2
          refine ⟨_, rfl, 3, rfl, l, _, rfl, s02.seq hl, fun q hq => ?_⟩
          rw [hc]
          have sq := same_new hq (.lst (txs r))
          refine ⟨q, r, rfl, SqL.of upd_same, hr2k, hrw, ?_⟩
          cases e2 : numsOf r with
          | none =>
            intro H3 s3
            exact ⟨_, rfl, rfl, _, rfl, ifT rfl (iteT (k H3 ((s02.trans sq).trans s3)))⟩
          | some as =>
            intro H3 v3 s3 _
            exact ⟨_, rfl, rfl, _, rfl, ifT rfl (iteT (k H3 ((s02.trans sq).trans s3)))⟩
        | some p =>
          rw [e1] at k
          intro H2 v2 s2 hv2
          have s02 := s1.trans s2
          obtain ⟨b, rfl, hb⟩ := hv2
          refine ⟨_, rfl, 3, rfl, l, _, rfl, s02.seq hl, fun q hq => ?_⟩
          rw [hc]
          have sq := same_new hq (.lst (txs r))
          refine ⟨q, r, rfl, SqL.of upd_same, hr2k, hrw, ?_⟩
          cases e2 : numsOf r with
          | none =>
            rw [e2] at k
            have k : EvOut H Q none := k
            intro H3 s3
            exact ⟨_, rfl, rfl, _, rfl, ifF (by intro z; cases z) ⟨_, rfl, rfl, _, rfl, ifT rfl (k H3 ((s02.trans sq).trans s3))⟩⟩
          | some as =>
            rw [e2] at k
            have k : EvOut H Q (some (.inp p w2 as)) := k
            intro H3 v3 s3 hv3
            obtain ⟨g, rfl, hg⟩ := hv3
            have s03 := (s02.trans sq).trans s3
            refine ⟨_, rfl, rfl, _, rfl, ifF (by intro z; cases z) ⟨_, rfl, rfl, _, rfl, ifF (by intro z; cases z) ?_⟩⟩
            refine ⟨_, rfl, _, rfl, l, _, _, _, rfl, rfl, s03.seq hl, at2, _, rfl, (by show 4 ≤ sizeLine; decide), fun t ht => ?_⟩
            have st := same_new ht (.tup [.str "input", .ref b, .str (mk w2), .ref g])
            exact k _ _ (s03.trans st) ⟨t, .ref b, .ref g, rfl, upd_same, ⟨b, rfl, st _ _ (s3 _ _ (sq _ _ hb))⟩, ⟨g, rfl, st _ _ hg⟩⟩
end
end KQ
namespace KQ
open PySem PySem.Spec L2 RX TL
section
variable {P : Program} {w : World} {K : PySem.W.Frag} {mg : Str → Option Value} {base : Heap} {C fI cc cda kw wo : Addr}
theorem scRN : FnScope ["words", "numbers"] ["words"] (defScope sRN) := ⟨rfl, rfl, rfl, by decide +kernel, rfl, by decide +kernel, by decide +kernel⟩
theorem ok_rn {f fS : Addr} {fd fdS : FuncData} (F : Fun K "_read_numbers" "_read_numbers" sRN f fd) (T : Txt K mg kw wo) (W : Wd K w wo)
    (G_NS : FnOk P w K mg base CX0 2 fS fdS ["words"] (spNS K)) (L_NS : Cal K mg "numbers_of" fS fdS ["words"]) : FnOk P w K mg base CX0 3 f fd ["words"] (spRN K) := by
  refine F.ok scRN (fun vs H Q E h => ?_) (fun cdv A outer s H vs Q E hr h => ?_)
  · obtain ⟨l, ws, rfl, _⟩ := h
    rfl
  · obtain ⟨l, ws, rfl, hl, hh, h1, h2, k⟩ := h
    refine ⟨_, (pss_cons (ps_set (i := 1) scRN.nd rfl (Or.inl rfl) (pe_call G_NS hr rfl L_NS.g L_NS.k L_NS.b .nil pass0 (pa_cons (pe_slice sl_list (pv 0) (po_some pe_int) po_none) pa_nil)))
 (pss_cons (ps_if (PW.pt (pw_or (pt_cmpR op_ne (pe_callB call_len_seq rfl T.zlen PySem.boot_len (pa_cons (pv 0) pa_nil)) (pe_kget1 (pe_glob (v := .ref wo) rfl T.gWo rfl) (pe_ix ix_list (pv 0) pe_int (fun _ _ => rfl)) ⟨rfl, rfl, rfl, rfl⟩) (nomark _)) (pw_or1 (pt_cmpR op_isN (pv 1) pe_non (nomark _)))))
 (pss_one (ps_ret pe_non))
 pss_nil)
 (pss_one (ps_ret (pe_tup (pa_cons (pe_ix ix_list (pv 0) pe_int (fun _ _ => rfl)) (StX.pa_star (pv 1) pa_nil))))))), ?_⟩
    obtain ⟨es, n, KD, hget⟩ := W
    cases ws with
    | nil => exact absurd rfl hh
    | cons w0 r =>
      have hc : cutV (txs (w0 :: r)) (some 1) none = txs r := cut_from (k := 1)
      have hr2k : r.length ≤ 2000 := by rw [List.length_cons] at h1; omega
      have hrw : ∀ x ∈ r, x.length ≤ 2000 := fun x hx => by have := h2 x (List.mem_cons_of_mem _ hx); omega
      have k : EvOut H Q (if isNum w0 r.length = true then (match numsOf r with | some ns => some (.num w0 ns) | none => none) else none) := k
      obtain ⟨o, ho, hrel⟩ := hget w0
      refine ⟨_, rfl, 1, rfl, l, _, rfl, hl, fun q hq => ?_⟩
      rw [hc]
      have sq := same_new hq (.lst (txs r))
      refine ⟨q, r, rfl, SqL.of upd_same, hr2k, hrw, ?_⟩
      have hlen : ((txs (w0 :: r)).length : Int) = ((r.length + 1 : Nat) : Int) := by rw [List.length_map, List.length_cons]
      cases e2 : numsOf r with
      | none =>
        rw [e2] at k
        have k : ∀ H', Same H H' → Q .non H' := by
          split at k
          · exact k
          · exact k
        intro H3 s3
        have s03 := sq.trans s3
        refine ⟨_, rfl, l, _, rfl, .inl (s03.seq hl), wo, es, n, rfl, KD, _, rfl, l, _, _, _, rfl, rfl, s03.seq hl, at0, mk w0, o, wV w0, rfl, ho, hrel, wV_scal _ _, _, rfl, ?_⟩
        rw [hlen, wV_num]
        cases isNum w0 r.length with
        | true => exact iteF ⟨_, rfl, rfl, _, rfl, ifT rfl (k H3 s03)⟩
        | false => exact iteT (iteT (k H3 s03))
      | some ns =>
        rw [e2] at k
        intro H3 v3 s3 hv3
        obtain ⟨g, rfl, hg⟩ := hv3
        have s03 := sq.trans s3
        refine ⟨_, rfl, l, _, rfl, .inl (s03.seq hl), wo, es, n, rfl, KD, _, rfl, l, _, _, _, rfl, rfl, s03.seq hl, at0, mk w0, o, wV w0, rfl, ho, hrel, wV_scal _ _, _, rfl, ?_⟩
        rw [hlen, wV_num]
        cases hN : isNum w0 r.length with
        | false =>
          rw [hN] at k
          have k : ∀ H', Same H H' → Q .non H' := k
          exact iteT (iteT (k H3 s03))
        | true =>
          rw [hN, if_pos rfl] at k
          have k : EvOut H Q (some (.num w0 ns)) := k
          refine iteF ⟨_, rfl, rfl, _, rfl, ifF (by intro z; cases z) ?_⟩
          refine ⟨_, rfl, l, _, _, _, rfl, rfl, s03.seq hl, at0, _, rfl, g, _, rfl, .inl (SqT.of hg), ?_, fun t ht => ?_⟩
          · show (V.str (mk w0) :: (ns.map V.int ++ [])).length ≤ sizeLine
            rw [List.append_nil, List.length_cons, List.length_map]
            have : ns.length = r.length := by
              obtain ⟨e, _⟩ := numsOf_back e2
              rw [← e, List.length_map]
            exact size_m (by omega)
          · have st := same_new ht (.tup (V.str (mk w0) :: (ns.map V.int ++ [])))
            refine k _ _ (s03.trans st) ⟨t, rfl, ?_⟩
            rw [List.append_nil]
            exact upd_same
theorem scRead : FnScope ["line", "words", "event"] ["line"] (defScope sRead) := ⟨rfl, rfl, rfl, by decide +kernel, rfl, by decide +kernel, by decide +kernel⟩
theorem ok_read {f fRI fRN : Addr} {fd fdRI fdRN fdI : FuncData} (F : Fun K "read_event" "read_event" sRead f fd) (T : Txt K mg kw wo) (T1 : Ex1 P K mg C fI cc cda "InvalidLine")
    (GI : FnOk P w K mg base CX0 1 fI fdI ["self", "number"] (spEInit C)) (bI : Binds K fdI ["self", "number"] [])
    (G_RI : FnOk P w K mg base CX0 4 fRI fdRI ["words"] (spRI K)) (L_RI : Cal K mg "_read_input" fRI fdRI ["words"])
    (G_RN : FnOk P w K mg base CX0 3 fRN fdRN ["words"] (spRN K)) (L_RN : Cal K mg "_read_numbers" fRN fdRN ["words"]) : FnOk P w K mg base (L2.CX P w) 5 f fd ["line"] (spRead C) := by
  refine F.okX scRead (fun vs H Q E h => ?_) (fun cdv A outer s H vs Q E hr h => ?_)
  · obtain ⟨l, rfl, _⟩ := h
    rfl
  · obtain ⟨l, rfl, hlen, k⟩ := h
    have hr2 : Room 2 _ := hr.mono (by decide)
    have hr3 : Room 3 _ := hr.mono (by decide)
    refine ⟨_, (pss_cons (ps_set (i := 1) scRead.nd rfl (Or.inl rfl) (pe_bm PySem.F.plainAttrs_str PySem.F.slot_str_split PySem.F.type_str_split mt_split (pv 0) (pa_cons pe_str pa_nil)))
 (pss_cons (ps_set (i := 2) scRead.nd rfl (Or.inl rfl) (pe_ifExp (pt_cmpR op_eq (pe_ix ix_list (pv 1) pe_int (fun _ _ => rfl)) pe_str (nomark _)) (pe_call G_RI hr rfl L_RI.g L_RI.k L_RI.b .nil pass0 (pa_cons (pv 1) pa_nil)) (pe_call G_RN hr3 rfl L_RN.g L_RN.k L_RN.b .nil pass0 (pa_cons (pv 1) pa_nil))))
 (pss_cons (ps_if (pt_cmpR op_isN (pv 2) pe_non (nomark _))
 (pss_one (ps_raise rfl takesX (pmk_oex T1.su.ox T1.iC T1.tI GI hr2 bI .nil passF rfl T1.gF (pa_cons pe_int pa_nil))))
 pss_nil)
 (pss_one (ps_ret (pv 2)))))), ?_⟩
    have es : (" " : Str) = mk [32] := by decide +kernel
    refine ⟨_, rfl, rfl, mk l, " ", rfl, rfl, by decide +kernel, ?_, fun p hp => ?_⟩
    · rw [mk_len]; exact size_m (by omega)
    rw [es, split_mk l 32 (by decide), ← txs_mk]
    obtain ⟨n1, n2⟩ := split_len 32 l
    have sp := same_new hp (.lst (txs (splitL 32 l)))
    have hP : (upd H p (.lst (txs (splitL 32 l)))) p = some (.lst (txs (splitL 32 l))) := upd_same
    unfold readEv at k
    have hne : splitL 32 l ≠ [] := spl_ne
    generalize splitL 32 l = ws at k n1 n2 sp hP hne ⊢
    generalize upd H p (.lst (txs ws)) = H1 at sp hP ⊢
    have hw2 : ws.length ≤ 2000 := by omega
    have hw3 : ∀ x ∈ ws, x.length ≤ 1900 := fun x hx => by have := n2 x hx; omega
    obtain ⟨w0, r, rfl⟩ : ∃ w0 r, ws = w0 :: r := by
      cases ws with
      | nil => exact absurd rfl hne
      | cons w0 r => exact ⟨w0, r, rfl⟩
    refine ⟨_, rfl, p, _, _, _, rfl, rfl, SqL.of hP, at0, rfl, _, rfl, ?_⟩
    by_cases hi : w0 = inputL
    · have k : match readI (w0 :: r) with | some e => ∀ H' v, Same H H' → EvAt H' v e → Q v H' | none => Fl C H E := by
        have e : readW (w0 :: r) = readI (w0 :: r) := if_pos (by rw [hi]; rfl)
        rw [e] at k
        exact k
      refine ifT (by rw [input_s, hi]) ⟨_, rfl, p, w0 :: r, rfl, SqL.of hP, by rw [hi]; rfl, hw2, hw3, ?_⟩
      cases e : readI (w0 :: r) with
      | none =>
        rw [e] at k
        intro H2 s2
        exact ⟨_, rfl, rfl, _, rfl, ifT rfl ⟨by decide, fl_mk (Fl.same (sp.trans s2) k)⟩⟩
      | some ev =>
        rw [e] at k
        intro H2 v s2 hv
        have nv : v ≠ .non := by
          cases ev with
          | inp p m as => obtain ⟨a, _, _, rfl, _⟩ := hv; intro z; cases z
          | num z ns => obtain ⟨a, rfl, _⟩ := hv; intro z; cases z
        exact ⟨_, rfl, rfl, _, rfl, ifF nv ⟨_, rfl, k H2 v (sp.trans s2) hv⟩⟩
    · have k : match readN (w0 :: r) with | some e => ∀ H' v, Same H H' → EvAt H' v e → Q v H' | none => Fl C H E := by
        have e : readW (w0 :: r) = readN (w0 :: r) := if_neg (fun z => hi (Option.some.inj z))
        rw [e] at k
        exact k
      refine ifF (fun z => hi (mk_inj.mp (by rw [← input_s]; exact V.str.inj z))) ⟨_, rfl, p, w0 :: r, rfl, SqL.of hP, hne, hw2, hw3, ?_⟩
      cases e : readN (w0 :: r) with
      | none =>
        rw [e] at k
        intro H2 s2
        exact ⟨_, rfl, rfl, _, rfl, ifT rfl ⟨by decide, fl_mk (Fl.same (sp.trans s2) k)⟩⟩
      | some ev =>
        rw [e] at k
        intro H2 v s2 hv
        have nv : v ≠ .non := by
          cases ev with
          | inp p m as => obtain ⟨a, _, _, rfl, _⟩ := hv; intro z; cases z
          | num z ns => obtain ⟨a, rfl, _⟩ := hv; intro z; cases z
        exact ⟨_, rfl, rfl, _, rfl, ifF nv ⟨_, rfl, k H2 v (sp.trans s2) hv⟩⟩
end
end KQ
namespace KQ
open PySem PySem.Spec L2 RX TL
theorem word_len {e : Ev} {w : List Nat} {n : Nat} (h : (lineOf e).length ≤ n) (hw : w ∈ wordsOf e) : w.length ≤ n := Nat.le_trans (join_mem_len hw) h
theorem words_len {e : Ev} {n : Nat} (h : (lineOf e).length ≤ n) : (wordsOf e).length ≤ n + 1 := by
  have hw : wordsOf e ≠ [] := by cases e <;> simp [wordsOf]
  have := join_sum (s := 32) hw
  unfold lineOf at h
  omega
theorem path_count {p : List Int} {n : Nat} (h : (pathT p).length ≤ n) : p.length ≤ n + 1 := by
  by_cases hp : p = []
  · subst hp; simp
  · unfold pathT at h
    rw [if_neg hp] at h
    have := join_sum (s := 46) (ps := p.map numT) (fun z => hp (List.map_eq_nil_iff.mp z))
    rw [List.length_map] at this
    omega
theorem part_get {z : List Nat} {ns : List Int} {i : Nat} {x : V} (h : (V.str (mk z) :: ns.map V.int)[i]? = some x) :
    (x = .str (mk z) ∧ (txs (z :: ns.map numT))[i]? = some (.str (mk z))) ∨ ∃ n, x = .int n ∧ n ∈ ns ∧ (txs (z :: ns.map numT))[i]? = some (.str (Str.ofString (toString n))) := by
  cases i with
  | zero => exact .inl ⟨(Option.some.inj h).symm, rfl⟩
  | succ i =>
    have h : (ns.map V.int)[i]? = some x := h
    obtain ⟨n, hn, rfl⟩ := int_get h
    refine .inr ⟨n, rfl, List.mem_of_getElem? hn, ?_⟩
    show (txs (ns.map numT))[i]? = _
    rw [List.getElem?_map, List.getElem?_map, hn, numT_str]
    rfl
section
variable {P : Program} {w : World} {K : PySem.W.Frag} {mg : Str → Option Value} {base : Heap} {C fI cc cda kw wo : Addr}
theorem scWrite : FnScope ["event", "_", "path", "message", "arguments", "words", "argument", "part"] ["event"] (defScope sWrite) := ⟨rfl, rfl, rfl, by decide +kernel, rfl, by decide +kernel, by decide +kernel⟩
theorem ok_write {f fW : Addr} {fd fdW : FuncData} (F : Fun K "write_event" "write_event" sWrite f fd) (T : Txt K mg kw wo)
    (G_WP : FnOk P w K mg base CX0 1 fW fdW ["path"] spWP) (L_WP : Cal K mg "write_path" fW fdW ["path"]) : FnOk P w K mg base CX0 2 f fd ["event"] spWrite := by
  refine F.ok scWrite (fun vs H Q E h => ?_) (fun cdv A outer s H vs Q E hr h => ?_)
  · obtain ⟨v, e, rfl, _⟩ := h
    rfl
  · obtain ⟨v, e, rfl, hv, ok, hlen, k⟩ := h
    refine ⟨_, (pss_cons (ps_if (pt_cmpR op_eq (pe_ix ix_tup (pv 0) pe_int (fun _ _ => rfl)) pe_str (nomark _))
 (pss_cons (ps_asg (pv 0) (pg_tup rfl (pgs_cons (pg_name (i := 1) scWrite.nd rfl (Or.inl rfl)) (pgs_cons (pg_name (i := 2) scWrite.nd rfl (Or.inl rfl)) (pgs_cons (pg_name (i := 3) scWrite.nd rfl (Or.inl rfl)) (pgs_cons (pg_name (i := 4) scWrite.nd rfl (Or.inl rfl)) pgs_nil))))))
 (pss_one (ps_set (i := 5) scWrite.nd rfl (Or.inl rfl) (pe_op op_cat (pe_lst (pa_cons pe_str (pa_cons (pe_call G_WP hr rfl L_WP.g L_WP.k L_WP.b .nil pass0 (pa_cons (pv 2) pa_nil)) (pa_cons (pv 3) pa_nil)))) (pe_lc (own := [("argument", 6)]) (g := gName 6) (tt := tYes) rfl scWrite.nd (pi_tup (pv 4)) (blkOk_by (own := [("argument", 6)]) (N := ["event", "_", "path", "message", "arguments", "words", "argument", "part"]) (sc := defScope sWrite) (by decide +kernel)) (fun _ _ _ _ _ => (pg_name (i := 6) scWrite.nd rfl (Or.inl rfl))) (fun _ _ _ _ _ => pts_nil) (fun _ _ _ _ _ => (pe_callTy call_str_int rfl T.zstr boot_str0 (pa_cons (pv 6) pa_nil))))))))
 (pss_one (ps_setLc (i := 5) (own := [("part", 7)]) (g := gName 7) (tt := tYes) rfl scWrite.nd rfl rfl (sw_true rfl rfl rfl (by decide +kernel)) (pi_tup (pv 0)) (blkOk_by (own := [("part", 7)]) (N := ["event", "_", "path", "message", "arguments", "words", "argument", "part"]) (sc := defScope sWrite) (by decide +kernel)) (fun _ _ _ _ _ => (pg_name (i := 7) scWrite.nd rfl (Or.inl rfl))) (fun _ _ _ _ _ => pts_nil) (fun _ _ _ _ _ => (pe_callTy str_any rfl T.zstr boot_str0 (pa_cons (pv 7) pa_nil))))))
 (pss_one (ps_ret (pe_bm PySem.F.plainAttrs_str PySem.F.slot_str_join PySem.F.type_str_join mt_join pe_str (pa_cons (pv 5) pa_nil))))), ?_⟩
    have es : (" " : Str) = mk [32] := by decide +kernel
    dsimp only [tSeq]
    refine rest_first (fun σ' H' => ∃ (q : Addr) (x1 x2 x3 x4 x6 x7 : Option V), σ' = [some v, x1, x2, x3, x4, some (.ref q), x6, x7] ∧ Same H H' ∧ H' q = some (.lst (txs (wordsOf e)))) ?_ (fun rest => ?_)
    · rintro σ' H1 ⟨q, x1, x2, x3, x4, x6, x7, rfl, s1, h1⟩
      refine ⟨rfl, _, rfl, " ", q, (wordsOf e).map mk, rfl, rfl, .inl (SqL.of (by rw [← txs_mk]; exact h1)), ?_, ?_⟩
      · rw [es]
        exact Nat.le_trans (join_size hlen) (by decide)
      · rw [es, join_mk]
        exact k H1 s1
    · have hwl := words_len hlen
      cases e with
      | inp p m as =>
        obtain ⟨a, pv', av, rfl, ha, hp, hav⟩ := hv
        obtain ⟨ok1, ok2, ok3⟩ := ok
        have hpl : (pathT p).length ≤ 2000 := word_len hlen (by simp [wordsOf])
        have hal : as.length ≤ 2001 := by
          simp [wordsOf] at hwl
          omega
        refine ⟨_, rfl, a, _, _, _, rfl, rfl, SqT.of ha, at0, rfl, _, rfl, ifT rfl ?_⟩
        refine ⟨_, rfl, a, _, rfl, SqT.of ha, rfl, _, _, rfl, _, _, rfl, _, _, rfl, _, _, rfl, rfl, ?_⟩
        refine ⟨_, rfl, pv', p, rfl, hp, ok1, hpl, path_count hpl, fun H1 s1 => ⟨_, rfl, (by show 3 ≤ sizeLine; decide), fun l1 hl1 => ?_⟩⟩
        have sl := same_new hl1 (.lst [V.str "input", .str (mk (pathT p)), .str (mk m)])
        have L1 : (upd H1 l1 (.lst [V.str "input", .str (mk (pathT p)), .str (mk m)])) l1 = some (.lst [V.str "input", .str (mk (pathT p)), .str (mk m)]) := upd_same
        have s12 := s1.trans sl
        generalize upd H1 l1 (.lst [V.str "input", .str (mk (pathT p)), .str (mk m)]) = H2 at s12 L1 ⊢
        obtain ⟨g, rfl, hg⟩ := hav
        refine ⟨_, rfl, g, rfl, ⟨_, SqT.of (s12 _ _ hg)⟩, fun D hD => lc_tup (K := K) (a := g) (xs := as.map V.int) (fun i H' => Same H2 H' ∧ H' D = some (.lst (txs ((as.take i).map numT)))) ⟨same_new hD _, upd_same⟩ (fun i H' _ ⟨s, _⟩ => SqT.of (s _ _ (s12 _ _ hg))) ?_ ?_⟩
        · rintro i x H3 hx ⟨s3, hD3⟩
          obtain ⟨n, hni, rfl⟩ := int_get hx
          refine ⟨rfl, _, rfl, n, rfl, small_log (ok3 n (List.mem_of_getElem? hni)), _, hD3, ?_, Same.upd s3 hD _, ?_⟩
          · refine size_l ?_
            rw [List.length_map, List.length_map, List.length_take]
            omega
          · rw [nums_snoc hni]
            exact upd_same
        · rintro H3 ⟨s3, hD3⟩
          rw [List.length_map, List.take_length] at hD3
          refine ⟨l1, D, _, _, rfl, rfl, s3 _ _ L1, hD3, ?_, fun q hq => ?_⟩
          · rw [List.length_map, List.length_map]
            show 3 + as.length ≤ sizeLine
            exact size_m (by omega)
          · refine rest _ _ ⟨q, _, _, _, _, _, _, rfl, (s12.trans s3).trans (same_new hq _), ?_⟩
            have e : txs (wordsOf (.inp p m as)) = [V.str "input", .str (mk (pathT p)), .str (mk m)] ++ txs (as.map numT) := by rw [input_s]; rfl
            rw [e]
            exact upd_same
      | num z ns =>
        obtain ⟨a, rfl, ha⟩ := hv
        obtain ⟨ok1, ok2⟩ := ok
        obtain ⟨nz, _⟩ := isNum_ne ok1
        have hal : ns.length ≤ 2001 := by
          simp [wordsOf] at hwl
          omega
        refine ⟨_, rfl, a, _, _, _, rfl, rfl, SqT.of ha, at0, rfl, _, rfl, ifF (fun q => nz (mk_inj.mp (by rw [← input_s]; exact V.str.inj q))) ?_⟩
        refine ⟨_, rfl, a, rfl, ⟨_, SqT.of ha⟩, fun D hD => lc_tup (K := K) (a := a) (xs := V.str (mk z) :: ns.map V.int) (fun i H' => Same H H' ∧ H' D = some (.lst ((txs (z :: ns.map numT)).take i))) ⟨same_new hD _, upd_same⟩ (fun i H' _ ⟨s, _⟩ => SqT.of (s _ _ ha)) ?_ ?_⟩
        · rintro i x H1 hx ⟨s1, hD1⟩
          have sz : ((txs (z :: ns.map numT)).take i).length < sizeLine := by
            refine size_l ?_
            rw [List.length_take, List.length_map, List.length_cons, List.length_map]
            omega
          rcases part_get hx with ⟨rfl, ho⟩ | ⟨n, rfl, hn, ho⟩
          · refine ⟨rfl, _, rfl, .inr ⟨_, rfl, _, hD1, sz, Same.upd s1 hD _, ?_⟩⟩
            rw [List.take_succ, ho]
            exact upd_same
          · refine ⟨rfl, _, rfl, .inl ⟨n, rfl, small_log (ok2 n hn), _, hD1, sz, Same.upd s1 hD _, ?_⟩⟩
            rw [List.take_succ, ho]
            exact upd_same
        · rintro H1 ⟨s1, hD1⟩
          rw [List.take_of_length_le (by rw [List.length_map, List.length_cons, List.length_map, List.length_cons, List.length_map]; exact Nat.le_refl _)] at hD1
          exact rest _ _ ⟨D, _, _, _, _, _, _, rfl, s1, hD1⟩
end
end KQ
namespace KQ
open PySem PySem.Spec L2 RX TL
section
variable {P : Program} {w : World} {K : PySem.W.Frag} {mg : Str → Option Value} {base : Heap} {C fI cc cda kw wo : Addr}
theorem scDue : FnScope ["event", "path", "part", "number"] ["event"] (defScope sDue) := ⟨rfl, rfl, rfl, by decide +kernel, rfl, by decide +kernel, by decide +kernel⟩
theorem ok_due {f : Addr} {fd : FuncData} (F : Fun K "_law_due" "_law_due" sDue f fd) (T : Txt K mg kw wo) : FnOk P w K mg base CX0 2 f fd ["event"] spWrite := by
  refine F.ok scDue (fun vs H Q E h => ?_) (fun cdv A outer s H vs Q E hr h => ?_)
  · obtain ⟨v, e, rfl, _⟩ := h
    rfl
  · obtain ⟨v, e, rfl, hv, ok, hlen, k⟩ := h
    refine ⟨_, (pss_cons (ps_if (pt_cmpR op_ne (pe_ix ix_tup (pv 0) pe_int (fun _ _ => rfl)) pe_str (nomark _))
 (pss_one (ps_ret (pe_bm PySem.F.plainAttrs_str PySem.F.slot_str_join PySem.F.type_str_join mt_join pe_str (pa_cons (pe_lc (own := [("part", 2)]) (g := gName 2) (tt := tYes) rfl scDue.nd (pi_tup (pv 0)) (blkOk_by (own := [("part", 2)]) (N := ["event", "path", "part", "number"]) (sc := defScope sDue) (by decide +kernel)) (fun _ _ _ _ _ => (pg_name (i := 2) scDue.nd rfl (Or.inl rfl))) (fun _ _ _ _ _ => pts_nil) (fun _ _ _ _ _ => (pe_callTy str_any rfl T.zstr boot_str0 (pa_cons (pv 2) pa_nil)))) pa_nil))))
 pss_nil)
 (pss_cons (ps_set (i := 1) scDue.nd rfl (Or.inl rfl) pe_str)
 (pss_cons (ps_if (pt_cmpR (op_neD hr.units) (pe_ix ix_tup (pv 0) pe_int (fun _ _ => rfl)) (pe_tup pa_nil) (nomark _))
 (pss_one (ps_set (i := 1) scDue.nd rfl (Or.inl rfl) (pe_bm PySem.F.plainAttrs_str PySem.F.slot_str_join PySem.F.type_str_join mt_join pe_str (pa_cons (pe_lc (own := [("number", 3)]) (g := gName 3) (tt := tYes) rfl scDue.nd (pi_tup (pe_ix ix_tup (pv 0) pe_int (fun _ _ => rfl))) (blkOk_by (own := [("number", 3)]) (N := ["event", "path", "part", "number"]) (sc := defScope sDue) (by decide +kernel)) (fun _ _ _ _ _ => (pg_name (i := 3) scDue.nd rfl (Or.inl rfl))) (fun _ _ _ _ _ => pts_nil) (fun _ _ _ _ _ => (pe_callTy call_str_int rfl T.zstr boot_str0 (pa_cons (pv 3) pa_nil)))) pa_nil))))
 pss_nil)
 (pss_one (ps_ret (pe_bm PySem.F.plainAttrs_str PySem.F.slot_str_join PySem.F.type_str_join mt_join pe_str (pa_cons (pe_op op_cat (pe_lst (pa_cons pe_str (pa_cons (pv 1) (pa_cons (pe_ix ix_tup (pv 0) pe_int (fun _ _ => rfl)) pa_nil)))) (pe_lc (own := [("number", 3)]) (g := gName 3) (tt := tYes) rfl scDue.nd (pi_tup (pe_ix ix_tup (pv 0) pe_int (fun _ _ => rfl))) (blkOk_by (own := [("number", 3)]) (N := ["event", "path", "part", "number"]) (sc := defScope sDue) (by decide +kernel)) (fun _ _ _ _ _ => (pg_name (i := 3) scDue.nd rfl (Or.inl rfl))) (fun _ _ _ _ _ => pts_nil) (fun _ _ _ _ _ => (pe_callTy call_str_int rfl T.zstr boot_str0 (pa_cons (pv 3) pa_nil))))) pa_nil))))))), ?_⟩
    have es : (" " : Str) = mk [32] := by decide +kernel
    have ed : ("." : Str) = mk [46] := by decide +kernel
    have hwl := words_len hlen
    cases e with
    | num z ns =>
      obtain ⟨a, rfl, ha⟩ := hv
      obtain ⟨ok1, ok2⟩ := ok
      obtain ⟨nz, _⟩ := isNum_ne ok1
      have hal : ns.length ≤ 2001 := by
        simp [wordsOf] at hwl
        omega
      refine ⟨_, rfl, a, _, _, _, rfl, rfl, SqT.of ha, at0, rfl, _, rfl, ifNT (fun q => nz (mk_inj.mp (by rw [← input_s]; exact V.str.inj q))) ?_⟩
      refine ⟨rfl, _, rfl, a, rfl, ⟨_, SqT.of ha⟩, fun D hD => lc_tup (K := K) (a := a) (xs := V.str (mk z) :: ns.map V.int) (fun i H' => Same H H' ∧ H' D = some (.lst ((txs (z :: ns.map numT)).take i))) ⟨same_new hD _, upd_same⟩ (fun i H' _ ⟨s, _⟩ => SqT.of (s _ _ ha)) ?_ ?_⟩
      · rintro i x H1 hx ⟨s1, hD1⟩
        have sz : ((txs (z :: ns.map numT)).take i).length < sizeLine := by
          refine size_l ?_
          rw [List.length_take, List.length_map, List.length_cons, List.length_map]
          omega
        rcases part_get hx with ⟨rfl, ho⟩ | ⟨n, rfl, hn, ho⟩
        · refine ⟨rfl, _, rfl, .inr ⟨_, rfl, _, hD1, sz, Same.upd s1 hD _, ?_⟩⟩
          rw [List.take_succ, ho]
          exact upd_same
        · refine ⟨rfl, _, rfl, .inl ⟨n, rfl, small_log (ok2 n hn), _, hD1, sz, Same.upd s1 hD _, ?_⟩⟩
          rw [List.take_succ, ho]
          exact upd_same
      · rintro H1 ⟨s1, hD1⟩
        rw [List.take_of_length_le (by rw [List.length_map, List.length_cons, List.length_map, List.length_cons, List.length_map]; exact Nat.le_refl _)] at hD1
        refine ⟨" ", D, (wordsOf (.num z ns)).map mk, rfl, rfl, .inl (SqL.of (by rw [← txs_mk]; exact hD1)), ?_, ?_⟩
        · rw [es]
          exact Nat.le_trans (join_size hlen) (by decide)
        · rw [es, join_mk]
          exact k H1 s1
    | inp p m as =>
      obtain ⟨a, pv', av, rfl, ha, hp, hav⟩ := hv
      obtain ⟨ok1, ok2, ok3⟩ := ok
      have hpl : (pathT p).length ≤ 2000 := word_len hlen (by simp [wordsOf])
      have hal : as.length ≤ 2001 := by
        simp [wordsOf] at hwl
        omega
      have hpc := path_count hpl
      refine ⟨_, rfl, a, _, _, _, rfl, rfl, SqT.of ha, at0, rfl, _, rfl, ifNF rfl ?_⟩
      dsimp only [tNext, tSeq, tAsg, tC, gName]
      refine rest_first (fun σ' H' => ∃ x2 x3 : Option V, σ' = [some (.ref a), some (.str (mk (pathT p))), x2, x3] ∧ Same H H') ?_ (fun rest => ?_)
      · rintro σ' H1 ⟨x2, x3, rfl, s1⟩
        obtain ⟨g, rfl, hg⟩ := hav
        refine ⟨rfl, _, rfl, _, rfl, a, _, _, _, rfl, rfl, SqT.of (s1 _ _ ha), at2, (by show 3 ≤ sizeLine; decide), fun l1 hl1 => ?_⟩
        have sl := same_new hl1 (.lst [V.str "input", .str (mk (pathT p)), .str (mk m)])
        have L1 : (upd H1 l1 (.lst [V.str "input", .str (mk (pathT p)), .str (mk m)])) l1 = some (.lst [V.str "input", .str (mk (pathT p)), .str (mk m)]) := upd_same
        have s12 := s1.trans sl
        generalize upd H1 l1 (.lst [V.str "input", .str (mk (pathT p)), .str (mk m)]) = H2 at s12 L1 ⊢
        refine ⟨_, rfl, a, _, _, _, rfl, rfl, SqT.of (s12 _ _ ha), at3, g, rfl, ⟨_, SqT.of (s12 _ _ hg)⟩, fun D hD => lc_tup (K := K) (a := g) (xs := as.map V.int) (fun i H' => Same H2 H' ∧ H' D = some (.lst (txs ((as.take i).map numT)))) ⟨same_new hD _, upd_same⟩ (fun i H' _ ⟨s, _⟩ => SqT.of (s _ _ (s12 _ _ hg))) ?_ ?_⟩
        · rintro i x H3 hx ⟨s3, hD3⟩
          obtain ⟨n, hni, rfl⟩ := int_get hx
          refine ⟨rfl, _, rfl, n, rfl, small_log (ok3 n (List.mem_of_getElem? hni)), _, hD3, ?_, Same.upd s3 hD _, ?_⟩
          · refine size_l ?_
            rw [List.length_map, List.length_map, List.length_take]
            omega
          · rw [nums_snoc hni]
            exact upd_same
        · rintro H3 ⟨s3, hD3⟩
          rw [List.length_map, List.take_length] at hD3
          refine ⟨l1, D, _, _, rfl, rfl, s3 _ _ L1, hD3, ?_, fun q hq => ?_⟩
          · rw [List.length_map, List.length_map]
            show 3 + as.length ≤ sizeLine
            exact size_m (by omega)
          · have e : txs (wordsOf (.inp p m as)) = [V.str "input", .str (mk (pathT p)), .str (mk m)] ++ txs (as.map numT) := by rw [input_s]; rfl
            rw [← e]
            refine ⟨" ", q, (wordsOf (.inp p m as)).map mk, rfl, rfl, .inl (SqL.of (by rw [← txs_mk]; exact upd_same)), ?_, ?_⟩
            · rw [es]
              exact Nat.le_trans (join_size hlen) (by decide)
            · rw [es, join_mk]
              exact k _ ((s12.trans s3).trans (same_new hq _))
      · refine ⟨_, rfl, a, _, _, _, rfl, rfl, SqT.of ha, at1, (by show 0 ≤ sizeLine; decide), fun e0 he0 => ?_⟩
        have se := same_new he0 (.tup [])
        refine ⟨.tuple (p.map .int), .tuple [], (hp.tl (Same.tl se)).dp, .tup (SqT.of upd_same) .nil, ints_shaped p, rfl, _, rfl, ?_⟩
        rw [eqv_nil]
        by_cases hpn : p = []
        · refine ifNF hpn ?_
          subst hpn
          refine rest _ _ ⟨none, none, ?_, se⟩
          rw [main_s]
          rfl
        · refine ifNT hpn ?_
          obtain ⟨b, rfl, hb⟩ := hp
          have ep : pathT p = joinL [46] (p.map numT) := if_neg hpn
          refine ⟨rfl, _, rfl, a, _, _, _, rfl, rfl, SqT.of (se _ _ ha), at1, b, rfl, ⟨_, SqT.of (se _ _ hb)⟩, fun D hD => lc_tup (K := K) (a := b) (xs := p.map V.int) (fun i H' => Same H H' ∧ H' D = some (.lst (txs ((p.take i).map numT)))) ⟨Same.upd se (se.free hD) _, upd_same⟩ (fun i H' _ ⟨s, _⟩ => SqT.of (s _ _ hb)) ?_ ?_⟩
          · rintro i x H1 hx ⟨s1, hD1⟩
            obtain ⟨n, hni, rfl⟩ := int_get hx
            refine ⟨rfl, _, rfl, n, rfl, small_log (ok1 n (List.mem_of_getElem? hni)), _, hD1, ?_, Same.upd s1 (se.free hD) _, ?_⟩
            · refine size_l ?_
              rw [List.length_map, List.length_map, List.length_take]
              omega
            · rw [nums_snoc hni]
              exact upd_same
          · rintro H1 ⟨s1, hD1⟩
            rw [List.length_map, List.take_length, txs_mk] at hD1
            rw [ep] at hpl
            refine ⟨".", D, _, rfl, rfl, .inl (SqL.of hD1), ?_, ?_⟩
            · rw [ed]
              exact Nat.le_trans (join_size hpl) (by decide)
            · rw [ed, join_mk, ← ep]
              exact rest _ _ ⟨_, _, rfl, s1⟩
end
end KQ
namespace KQ
open PySem PySem.Spec L2 RX TL
theorem But.seq {K : PySem.W.Frag} {p : Addr} {H H' : Hp} {a : Addr} {xs : List V} (e : But p H H') (n : a ≠ p) (h : SqL K H a xs) : SqL K H' a xs := by
  rcases h with (h | ⟨o, h⟩) | h
  · exact .inl (.inl (e _ _ n h))
  · exact .inl (.inr ⟨o, e _ _ n h⟩)
  · exact .inr h
/-- a list of drawn numbers' state stands at p -/
def StAt (K : PySem.W.Frag) (l : Addr) (H : Hp) (p : Addr) : Prop := ∃ (ns : List Int) (a b c e : Int), H p = some (.lst [.ref l, .int a, .int b, .int c, .int e]) ∧ SqL K H l (ns.map V.int) ∧ 0 ≤ a ∧ l ≠ p
theorem StAt.same {K : PySem.W.Frag} {l : Addr} {H H' : Hp} {p : Addr} (s : Same H H') (h : StAt K l H p) : StAt K l H' p := by
  obtain ⟨ns, a, b, c, e, h1, h2, h3, h4⟩ := h
  exact ⟨ns, a, b, c, e, s _ _ h1, s.seq h2, h3, h4⟩
theorem StAt.notup {K : PySem.W.Frag} {l : Addr} {H : Hp} {p : Addr} (h : StAt K l H p) : ∀ xs, H p ≠ some (.tup xs) := fun xs z => by
  obtain ⟨ns, a, b, c, e, h1, _⟩ := h
  rw [h1] at z
  cases z
def spState (K : PySem.W.Frag) : Sp := fun vs H Q _ => ∃ (l : Addr) (ns : List Int), vs = [.ref l] ∧ SqL K H l (ns.map V.int) ∧ ∀ p l2 H', Same H H' → H p = none → StAt K l2 H' p → Q (.ref p) H'
def spDraw (K : PySem.W.Frag) (l : Addr) : Sp := fun vs H Q _ => ∃ (p : Addr) (m : Int), vs = [.ref p, .int m] ∧ StAt K l H p ∧ 0 < m ∧ m ≤ 10000000000 ∧ ∀ r H', 0 ≤ r → r < m → But p H H' → StAt K l H' p → Q (.int r) H'
def spNum (K : PySem.W.Frag) (l : Addr) : Sp := fun vs H Q _ => ∃ (p : Addr), vs = [.ref p] ∧ StAt K l H p ∧ ∀ r H', small r → But p H H' → StAt K l H' p → Q (.int r) H'
section
variable {P : Program} {w : World} {K : PySem.W.Frag} {mg : Str → Option Value} {base : Heap} {C fI cc cda kw wo l : Addr}
theorem scSt : FnScope ["script"] ["script"] (defScope sState) := ⟨rfl, rfl, rfl, by decide +kernel, rfl, by decide +kernel, by decide +kernel⟩
theorem ok_state {f : Addr} {fd : FuncData} (F : Fun K "_law_state" "_law_state" sState f fd) (T : Txt K mg kw wo) : FnOk P w K mg base CX0 1 f fd ["script"] (spState K) := by
  refine F.ok scSt (fun vs H Q E h => ?_) (fun cdv A outer s H vs Q E hr h => ?_)
  · obtain ⟨l, ns, rfl, _⟩ := h
    rfl
  · obtain ⟨l, ns, rfl, hl, k⟩ := h
    refine ⟨_, (pss_one (ps_ret (pe_lst (pa_cons (pe_callTy call_list_of rfl T.zlist boot_list0 (pa_cons (pv 0) pa_nil)) (pa_cons pe_int (pa_cons pe_int (pa_cons pe_int (pa_cons pe_int pa_nil)))))))), ?_⟩
    refine ⟨_, rfl, l, _, rfl, .inl hl, fun l2 hl2 => ⟨(by show 5 ≤ sizeLine; decide), fun p hp => ?_⟩⟩
    have s1 := same_new hl2 (.lst (ns.map V.int))
    have s2 := same_new hp (.lst [.ref l2, .int 0, .int 0, .int 1, .int 0])
    refine k p l2 _ (s1.trans s2) (s1.free hp) ⟨ns, 0, 0, 1, 0, upd_same, s2.seq (SqL.of upd_same), Int.le_refl 0, ?_⟩
    exact ne_of_none (H := upd H l2 (.lst (ns.map V.int))) upd_same hp
theorem scDr : FnScope ["state", "many", "value", "cell", "first"] ["state", "many"] (defScope sDraw) := ⟨rfl, rfl, rfl, by decide +kernel, rfl, by decide +kernel, by decide +kernel⟩
theorem ok_draw {f : Addr} {fd : FuncData} (F : Fun K "_law_draw" "_law_draw" sDraw f fd) (T : Txt K mg kw wo) : FnOk P w K mg base CX0 1 f fd ["state", "many"] (spDraw K l) := by
  refine F.ok scDr (fun vs H Q E h => ?_) (fun cdv A outer s H vs Q E hr h => ?_)
  · obtain ⟨p, m, rfl, _⟩ := h
    rfl
  · obtain ⟨p, m, rfl, hS, hm0, hm1, k⟩ := h
    refine ⟨_, (pss_cons (ps_if (PW.pt (pw_and (pt_cmpR op_gt (pe_ix ix_list (pv 0) pe_int (fun _ _ => rfl)) pe_int (nomark _)) (pw_and1 (pt_cmpR op_gt (pe_ix ix_list (pv 0) pe_int (fun _ _ => rfl)) pe_int (nomark _)))))
       (pss_cons (ps_set (i := 2) scDr.nd rfl (Or.inl rfl) (pe_op op_modN (pe_callTy call_int1 rfl T.zint boot_int0 (pa_cons (pe_ix ix_list (pv 0) pe_int (fun _ _ => rfl)) pa_nil)) (pv 1)))
       (pss_cons (ps_asg (pe_op op_fdivW (pe_ix ix_list (pv 0) pe_int (fun _ _ => rfl)) (pv 1)) (pg_sub (pv 0) pe_int set_list))
       (pss_cons (ps_asg (pe_op op_sub (pe_ix ix_list (pv 0) pe_int (fun _ _ => rfl)) pe_int) (pg_sub (pv 0) pe_int set_list))
       (pss_one (ps_ret (pv 2))))))
       pss_nil)
       (pss_cons (ps_set (i := 3) scDr.nd rfl (Or.inl rfl) (pe_op op_add (pe_ix ix_list (pv 0) pe_int (fun _ _ => rfl)) (pe_op op_mul pe_int (pe_ix ix_list (pv 0) pe_int (fun _ _ => rfl)))))
       (pss_cons (ps_if (pt_cmpR op_lt (pe_ix ix_list (pv 0) pe_int (fun _ _ => rfl)) (pe_callB call_len_seq rfl T.zlen PySem.boot_len (pa_cons (pe_ix ix_list (pv 0) pe_int (fun _ _ => rfl)) pa_nil)) (nomark _))
       (pss_one (ps_set (i := 3) scDr.nd rfl (Or.inl rfl) (pe_ix ix_list (pe_ix ix_list (pv 0) pe_int (fun _ _ => rfl)) (pe_ix ix_list (pv 0) pe_int (fun _ _ => rfl)) (fun _ _ => rfl))))
       pss_nil)
       (pss_cons (ps_asg (pe_op op_add (pe_ix ix_list (pv 0) pe_int (fun _ _ => rfl)) pe_int) (pg_sub (pv 0) pe_int set_list))
       (pss_cons (ps_if (pt_cmpR op_ge (pv 3) (pe_op op_pow pe_int pe_int) (nomark _))
       (pss_cons (ps_asg (pe_op op_fdivW (pv 3) (pv 1)) (pg_sub (pv 0) pe_int set_list))
       (pss_cons (ps_asg pe_int (pg_sub (pv 0) pe_int set_list))
       (pss_one (ps_ret (pe_op op_modN (pe_callTy call_int1 rfl T.zint boot_int0 (pa_cons (pv 3) pa_nil)) (pv 1))))))
       pss_nil)
       (pss_cons (ps_set (i := 4) scDr.nd rfl (Or.inl rfl) (pe_op op_modN (pe_callTy call_int1 rfl T.zint boot_int0 (pa_cons (pe_op op_add (pe_op op_add (pe_op op_mul (pv 3) pe_int) (pe_op op_mul (pe_ix ix_list (pv 0) pe_int (fun _ _ => rfl)) pe_int)) (pe_ix ix_list (pv 0) pe_int (fun _ _ => rfl))) pa_nil)) pe_int))
       (pss_cons (ps_asg (pe_op op_modN (pe_callTy call_int1 rfl T.zint boot_int0 (pa_cons (pe_op op_add (pe_op op_add (pe_op op_mul (pv 4) pe_int) (pe_op op_mul (pv 4) (pv 4))) pe_int) pa_nil)) pe_int) (pg_sub (pv 0) pe_int set_list))
       (pss_one (ps_ret (pe_op op_modN (pe_callTy call_int1 rfl T.zint boot_int0 (pa_cons (pe_op op_fdivN (pe_ix ix_list (pv 0) pe_int (fun _ _ => rfl)) pe_int) pa_nil)) (pv 1))))))))))), ?_⟩
    obtain ⟨ns, a, b, c, e, hp, hl, ha, hlp⟩ := hS
    have hm : m ≠ 0 := by omega
    have hdm : ∀ i, CDivW i m := fun i => wide_div hm0 (b := 34) (by omega) (by decide) (by decide)
    have r0 : ∀ i : Int, 0 ≤ i.fmod m := fun i => Int.fmod_nonneg_of_pos i hm0
    have r1 : ∀ i : Int, i.fmod m < m := fun i => Int.fmod_lt_of_pos i hm0
    have fin : ∀ (r : Int) (H' : Hp) (a' b' c' e' : Int), 0 ≤ r → r < m → 0 ≤ a' → But p H H' → H' p = some (.lst [.ref l, .int a', .int b', .int c', .int e']) → Q (.int r) H' := fun r H' a' b' c' e' h0 h1 ha' hb hp' =>
      k r H' h0 h1 hb ⟨ns, a', b', c', e', hp', hb.seq hlp hl, ha', hlp⟩
    have mulR : ∀ {i j : Int}, -(2 ^ 64) < j → j < 2 ^ 64 → CMul i j := fun h1 h2 => .inr ⟨h1, h2⟩
    -- state[4] > 0 and state[2] > 0
    refine ⟨_, rfl, p, _, _, _, rfl, rfl, SqL.of hp, at4, _, _, rfl, rfl, _, rfl, ?_⟩
    by_cases h1 : 0 < e
    · refine ifT h1 ⟨_, rfl, p, _, _, _, rfl, rfl, SqL.of hp, at2, _, _, rfl, rfl, _, rfl, ?_⟩
      by_cases h2 : 0 < b
      · refine ifT h2 ?_
        refine ⟨_, rfl, p, _, _, _, rfl, rfl, SqL.of hp, at2, .inl ⟨_, rfl, _, rfl, _, _, rfl, rfl, hm, ?_⟩⟩
        refine ⟨_, rfl, p, _, _, _, rfl, rfl, SqL.of hp, at2, _, rfl, _, _, rfl, rfl, hdm _, _, rfl, p, _, _, _, rfl, rfl, hp, rfl, ?_⟩
        have hp1 : upd H p (.lst (List.set [.ref l, .int a, .int b, .int c, .int e] 2 (.int (b / m)))) p = some (.lst [.ref l, .int a, .int (b / m), .int c, .int e]) := upd_same
        refine ⟨_, rfl, p, _, _, _, rfl, rfl, SqL.of hp1, at4, _, _, rfl, rfl, _, rfl, p, _, _, _, rfl, rfl, hp1, rfl, ?_⟩
        exact ⟨_, rfl, fin _ _ a (b / m) c (e - 1) (r0 _) (r1 _) ha ((but_upd _).trans (but_upd _)) upd_same⟩
      · refine ifF h2 ?_
        refine ⟨_, rfl, p, _, _, _, rfl, rfl, SqL.of hp, at3, _, rfl, p, _, _, _, rfl, rfl, SqL.of hp, at1, _, _, rfl, rfl, .inl ⟨by decide, by decide⟩, _, _, rfl, rfl, ?_⟩
        refine ⟨_, rfl, p, _, _, _, rfl, rfl, SqL.of hp, at1, _, rfl, p, _, _, _, rfl, rfl, SqL.of hp, at0, l, _, rfl, .inl hl, _, _, rfl, rfl, _, rfl, ?_⟩
        refine ite2 (fun h3 => ?r1) (fun h3 => ?r2)
        case' r1 =>
          have h3 : a < ((ns.map V.int).length : Int) := of_decide_eq_true h3
          rw [List.length_map] at h3
          have hat : (ns.map V.int)[a.toNat]? = some (.int (ns[a.toNat]'(by omega))) := by
            rw [List.getElem?_map, List.getElem?_eq_getElem (by omega)] <;> rfl
          refine ⟨_, rfl, p, _, _, _, rfl, rfl, SqL.of hp, at0, _, rfl, p, _, _, _, rfl, rfl, SqL.of hp, at1, l, _, _, _, rfl, rfl, hl, at_of (by omega) hat, ?_⟩
        all_goals
          refine ⟨_, rfl, p, _, _, _, rfl, rfl, SqL.of hp, at1, _, _, rfl, rfl, _, rfl, p, _, _, _, rfl, rfl, hp, rfl, ?_⟩
          have hp1 : upd H p (.lst (List.set [.ref l, .int a, .int b, .int c, .int e] 1 (.int (a + 1)))) p = some (.lst [.ref l, .int (a + 1), .int b, .int c, .int e]) := upd_same
          refine ⟨_, rfl, _, _, rfl, rfl, ⟨by decide, by decide, by decide⟩, _, _, rfl, rfl, _, rfl, ?_⟩
          refine ite2 (fun _ => ?_) (fun _ => ?_)
          · refine ⟨_, rfl, _, rfl, _, _, rfl, rfl, hdm _, _, rfl, p, _, _, _, rfl, rfl, hp1, rfl, ?_⟩
            refine ⟨_, rfl, p, _, _, _, rfl, rfl, upd_same, rfl, ?_⟩
            exact ⟨_, rfl, .inl ⟨_, rfl, _, rfl, _, _, rfl, rfl, hm, fin _ _ (a + 1) _ c 60 (r0 _) (r1 _) (by omega) ((but_upd _).trans ((but_upd _).trans (but_upd _))) upd_same⟩⟩
          · refine ⟨_, rfl, _, _, rfl, rfl, mulR (by decide) (by decide), _, rfl, p, _, _, _, rfl, rfl, SqL.of hp1, at1, _, _, rfl, rfl, mulR (by decide) (by decide), _, _, rfl, rfl, _, rfl, p, _, _, _, rfl, rfl, SqL.of hp1, at3, _, _, rfl, rfl, .inl ⟨_, rfl, _, _, rfl, rfl, (show (2147483647 : Int) ≠ 0 by decide), ?_⟩⟩
            have f0 : ∀ i : Int, -(2 ^ 64) < i.fmod 2147483647 := fun i => by have := Int.fmod_nonneg_of_pos i (show (0 : Int) < 2147483647 by decide); omega
            have f1 : ∀ i : Int, i.fmod 2147483647 < 2 ^ 64 := fun i => by have := Int.fmod_lt_of_pos i (show (0 : Int) < 2147483647 by decide); omega
            refine ⟨_, rfl, _, _, rfl, rfl, mulR (by decide) (by decide), _, rfl, _, rfl, _, _, rfl, rfl, .inl ⟨f0 _, f1 _⟩, _, _, rfl, rfl, _, _, rfl, rfl, .inl ⟨_, rfl, _, _, rfl, rfl, (show (2147483629 : Int) ≠ 0 by decide), _, rfl, p, _, _, _, rfl, rfl, hp1, rfl, ?_⟩⟩
            refine ⟨_, rfl, p, _, _, _, rfl, rfl, SqL.of upd_same, at3, _, _, rfl, rfl, ⟨by decide, by decide⟩, .inl ⟨_, rfl, _, rfl, _, _, rfl, rfl, hm, ?_⟩⟩
            exact fin _ _ (a + 1) b _ e (r0 _) (r1 _) (by omega) ((but_upd _).trans (but_upd _)) upd_same
    · refine ifF h1 (iteF ?_)
      refine ⟨_, rfl, p, _, _, _, rfl, rfl, SqL.of hp, at3, _, rfl, p, _, _, _, rfl, rfl, SqL.of hp, at1, _, _, rfl, rfl, .inl ⟨by decide, by decide⟩, _, _, rfl, rfl, ?_⟩
      refine ⟨_, rfl, p, _, _, _, rfl, rfl, SqL.of hp, at1, _, rfl, p, _, _, _, rfl, rfl, SqL.of hp, at0, l, _, rfl, .inl hl, _, _, rfl, rfl, _, rfl, ?_⟩
      refine ite2 (fun h3 => ?r3) (fun h3 => ?r4)
      case' r3 =>
        have h3 : a < ((ns.map V.int).length : Int) := of_decide_eq_true h3
        rw [List.length_map] at h3
        have hat : (ns.map V.int)[a.toNat]? = some (.int (ns[a.toNat]'(by omega))) := by
          rw [List.getElem?_map, List.getElem?_eq_getElem (by omega)] <;> rfl
        refine ⟨_, rfl, p, _, _, _, rfl, rfl, SqL.of hp, at0, _, rfl, p, _, _, _, rfl, rfl, SqL.of hp, at1, l, _, _, _, rfl, rfl, hl, at_of (by omega) hat, ?_⟩
      all_goals
        refine ⟨_, rfl, p, _, _, _, rfl, rfl, SqL.of hp, at1, _, _, rfl, rfl, _, rfl, p, _, _, _, rfl, rfl, hp, rfl, ?_⟩
        have hp1 : upd H p (.lst (List.set [.ref l, .int a, .int b, .int c, .int e] 1 (.int (a + 1)))) p = some (.lst [.ref l, .int (a + 1), .int b, .int c, .int e]) := upd_same
        refine ⟨_, rfl, _, _, rfl, rfl, ⟨by decide, by decide, by decide⟩, _, _, rfl, rfl, _, rfl, ?_⟩
        refine ite2 (fun _ => ?_) (fun _ => ?_)
        · refine ⟨_, rfl, _, rfl, _, _, rfl, rfl, hdm _, _, rfl, p, _, _, _, rfl, rfl, hp1, rfl, ?_⟩
          refine ⟨_, rfl, p, _, _, _, rfl, rfl, upd_same, rfl, ?_⟩
          exact ⟨_, rfl, .inl ⟨_, rfl, _, rfl, _, _, rfl, rfl, hm, fin _ _ (a + 1) _ c 60 (r0 _) (r1 _) (by omega) ((but_upd _).trans ((but_upd _).trans (but_upd _))) upd_same⟩⟩
        · refine ⟨_, rfl, _, _, rfl, rfl, mulR (by decide) (by decide), _, rfl, p, _, _, _, rfl, rfl, SqL.of hp1, at1, _, _, rfl, rfl, mulR (by decide) (by decide), _, _, rfl, rfl, _, rfl, p, _, _, _, rfl, rfl, SqL.of hp1, at3, _, _, rfl, rfl, .inl ⟨_, rfl, _, _, rfl, rfl, (show (2147483647 : Int) ≠ 0 by decide), ?_⟩⟩
          have f0 : ∀ i : Int, -(2 ^ 64) < i.fmod 2147483647 := fun i => by have := Int.fmod_nonneg_of_pos i (show (0 : Int) < 2147483647 by decide); omega
          have f1 : ∀ i : Int, i.fmod 2147483647 < 2 ^ 64 := fun i => by have := Int.fmod_lt_of_pos i (show (0 : Int) < 2147483647 by decide); omega
          refine ⟨_, rfl, _, _, rfl, rfl, mulR (by decide) (by decide), _, rfl, _, rfl, _, _, rfl, rfl, .inl ⟨f0 _, f1 _⟩, _, _, rfl, rfl, _, _, rfl, rfl, .inl ⟨_, rfl, _, _, rfl, rfl, (show (2147483629 : Int) ≠ 0 by decide), _, rfl, p, _, _, _, rfl, rfl, hp1, rfl, ?_⟩⟩
          refine ⟨_, rfl, p, _, _, _, rfl, rfl, SqL.of upd_same, at3, _, _, rfl, rfl, ⟨by decide, by decide⟩, .inl ⟨_, rfl, _, rfl, _, _, rfl, rfl, hm, ?_⟩⟩
          exact fin _ _ (a + 1) b _ e (r0 _) (r1 _) (by omega) ((but_upd _).trans (but_upd _)) upd_same
theorem at_mem {xs : List V} {r : Int} (h0 : 0 ≤ r) (h1 : r < xs.length) : ∃ v, atI xs r = some v ∧ v ∈ xs := by
  have hk : r.toNat < xs.length := by omega
  exact ⟨xs[r.toNat], at_of (by omega) (List.getElem?_eq_getElem hk), List.getElem_mem hk⟩
theorem StAt.ne {H : Hp} {p q : Addr} (h : StAt K l H p) (hq : H q = none) : q ≠ p := fun z => by
  obtain ⟨ns, a, b, c, e, h1, _⟩ := h
  rw [z, h1] at hq
  cases hq
theorem StAt.upd {H : Hp} {p q : Addr} {o : HO} (h : StAt K l H p) (hq : H q = none) : StAt K l (upd H q o) p := h.same (same_new hq _)
theorem But.tlS {p : Addr} {H H' : Hp} (b : But p H H') (h : StAt K l H p) : Tl H H' := fun a xs e => b _ _ (fun z => h.notup xs (by rw [← z]; exact e)) e
theorem scLNum : FnScope ["state", "number"] ["state"] (defScope sLNum) := ⟨rfl, rfl, rfl, by decide +kernel, rfl, by decide +kernel, by decide +kernel⟩
theorem ok_lnum {f fD : Addr} {fd fdD : FuncData} (F : Fun K "_law_number" "_law_number" sLNum f fd) (T : Txt K mg kw wo)
    (G_DR : FnOk P w K mg base CX0 1 fD fdD ["state", "many"] (spDraw K l)) (L_DR : Cal K mg "_law_draw" fD fdD ["state", "many"]) : FnOk P w K mg base CX0 2 f fd ["state"] (spNum K l) := by
  refine F.ok scLNum (fun vs H Q E h => ?_) (fun cdv A outer s H vs Q E hr h => ?_)
  · obtain ⟨p, rfl, _⟩ := h
    rfl
  · obtain ⟨p, rfl, S0, k⟩ := h
    refine ⟨_, (pss_cons (ps_set (i := 1) scLNum.nd rfl (Or.inl rfl) (pe_ix ix_list (pe_lst (pa_cons (pe_call G_DR hr rfl L_DR.g L_DR.k L_DR.b .nil pass0 (pa_cons (pv 0) (pa_cons pe_int pa_nil))) (pa_cons (pe_call G_DR hr rfl L_DR.g L_DR.k L_DR.b .nil pass0 (pa_cons (pv 0) (pa_cons (pe_op op_pow pe_int pe_int) pa_nil))) (pa_cons pe_int (pa_cons pe_int pa_nil))))) (pe_call G_DR hr rfl L_DR.g L_DR.k L_DR.b .nil pass0 (pa_cons (pv 0) (pa_cons pe_int pa_nil))) (fun _ _ => rfl)))
 (pss_cons (ps_if (pt_cmpR op_eq (pe_call G_DR hr rfl L_DR.g L_DR.k L_DR.b .nil pass0 (pa_cons (pv 0) (pa_cons pe_int pa_nil))) pe_int (nomark _))
 (pss_one (ps_ret (pe_un un_neg (pv 1))))
 pss_nil)
 (pss_one (ps_ret (pv 1))))), ?_⟩
    refine ⟨_, rfl, p, 20, rfl, S0, by decide, by decide, fun r1 H1 a0 a1 b1 S1 => ?_⟩
    refine ⟨_, rfl, _, _, rfl, rfl, ⟨by decide, by decide, by decide⟩, p, _, rfl, S1, by decide, by decide, fun r2 H2 c0 c1 b2 S2 => ?_⟩
    have c1' : r2 < 10000000000 := c1
    refine ⟨(by show 4 ≤ sizeLine; decide), fun q hq => ?_⟩
    have sq := same_new hq (.lst [.int r1, .int r2, .int 9999999999, .int 0])
    have hq2 := S2.ne hq
    refine ⟨_, rfl, p, 4, rfl, S2.upd hq, by decide, by decide, fun r3 H3 d0 d1 b3 S3 => ?_⟩
    obtain ⟨x, hx, hm⟩ : ∃ x : Int, atI [V.int r1, .int r2, .int 9999999999, .int 0] r3 = some (.int x) ∧ (0 ≤ x ∧ x < 10000000000) := by
      have : r3 = 0 ∨ r3 = 1 ∨ r3 = 2 ∨ r3 = 3 := by omega
      rcases this with rfl | rfl | rfl | rfl
      · exact ⟨r1, rfl, by omega⟩
      · exact ⟨r2, rfl, by omega⟩
      · exact ⟨9999999999, rfl, by decide⟩
      · exact ⟨0, rfl, by decide⟩
    refine ⟨q, _, _, _, rfl, rfl, SqL.of (b3 _ _ hq2 upd_same), hx, ?_⟩
    have B3 : But p H H3 := ((b1.trans b2).trans (Same.but sq)).trans b3
    refine ⟨_, rfl, p, 3, rfl, S3, by decide, by decide, fun r4 H4 _ _ b4 S4 => ?_⟩
    refine ⟨rfl, _, rfl, ite2 (fun _ => ?_) (fun _ => ?_)⟩
    · exact ⟨_, rfl, _, rfl, k _ H4 ⟨by omega, by omega⟩ (B3.trans b4) S4⟩
    · exact ⟨_, rfl, k _ H4 ⟨by omega, by omega⟩ (B3.trans b4) S4⟩
/-- a drawn name -/
def NameL (m : List Nat) : Prop := ∃ c r, m = c :: r ∧ c ∈ firsts ∧ (∀ x ∈ r, isL x = true) ∧ r.length ≤ 11
def spLName (K : PySem.W.Frag) (l : Addr) : Sp := fun vs H Q _ => ∃ p : Addr, vs = [.ref p] ∧ StAt K l H p ∧ ∀ m H', NameL m → But p H H' → StAt K l H' p → Q (.str (mk m)) H'
theorem firsts_s : ("gjkmqvxyz" : Str) = mk firsts := by decide +kernel
theorem low_s : ("abcdefghijklmnopqrstuvwxyz" : Str) = mk low.cps.toList := by rw [mk_of]; rfl
theorem at_nats {xs : List Nat} {r : Int} (h0 : 0 ≤ r) (h1 : r < xs.length) : ∃ c, atI (mk xs).cps.toList r = some c ∧ c ∈ xs := by
  have hj : r.toNat < xs.length := by omega
  refine ⟨xs[r.toNat], ?_, List.getElem_mem hj⟩
  rw [mk_l]
  have := atI_nat (List.getElem?_eq_getElem hj)
  rw [show ((r.toNat : Nat) : Int) = r by omega] at this
  exact this
theorem scLName : FnScope ["state", "letters", "name", "_law_turn"] ["state"] (defScope sLName) := ⟨rfl, rfl, rfl, by decide +kernel, rfl, by decide +kernel, by decide +kernel⟩
theorem ok_lname {f fD : Addr} {fd fdD : FuncData} (F : Fun K "_law_name" "_law_name" sLName f fd) (T : Txt K mg kw wo)
    (G_DR : FnOk P w K mg base CX0 1 fD fdD ["state", "many"] (spDraw K l)) (L_DR : Cal K mg "_law_draw" fD fdD ["state", "many"]) : FnOk P w K mg base CX0 2 f fd ["state"] (spLName K l) := by
  refine F.ok scLName (fun vs H Q E h => ?_) (fun cdv A outer s H vs Q E hr h => ?_)
  · obtain ⟨p, rfl, _⟩ := h
    rfl
  · obtain ⟨p, rfl, S0, k⟩ := h
    refine ⟨_, (pss_cons (ps_set (i := 1) scLName.nd rfl (Or.inl rfl) pe_str)
 (pss_cons (ps_set (i := 2) scLName.nd rfl (Or.inl rfl) (pe_ix ix_str pe_str (pe_call G_DR hr rfl L_DR.g L_DR.k L_DR.b .nil pass0 (pa_cons (pv 0) (pa_cons pe_int pa_nil))) (fun _ _ => rfl)))
 (pss_cons (ps_for PassesOwn.never rfl (pi_range1 rfl T.zrng (pa_cons (pe_call G_DR hr rfl L_DR.g L_DR.k L_DR.b .nil pass0 (pa_cons (pv 0) (pa_cons pe_int pa_nil))) pa_nil)) (pg_name (i := 3) scLName.nd rfl (Or.inl rfl))
 (pss_one (ps_set (i := 2) scLName.nd rfl (Or.inl rfl) (pe_op op_add_str (pv 2) (pe_ix ix_str (pv 1) (pe_call G_DR hr rfl L_DR.g L_DR.k L_DR.b .nil pass0 (pa_cons (pv 0) (pa_cons pe_int pa_nil))) (fun _ _ => rfl))))))
 (pss_one (ps_ret (pv 2)))))), ?_⟩
    refine ⟨_, rfl, p, 9, rfl, S0, by decide, by decide, fun r1 H1 a0 a1 b1 S1 => ?_⟩
    obtain ⟨c, hc, hcm⟩ := at_nats (xs := firsts) a0 (by show r1 < 9; exact a1)
    refine ⟨mk firsts, _, c, by rw [firsts_s], rfl, by rw [mk_len]; decide, hc, ?_⟩
    refine ⟨_, rfl, p, 12, rfl, S1, by decide, by decide, fun r2 H2 e0 e1 b2 S2 => ?_⟩
    refine ⟨r2, rfl, by omega, by omega, for_range (lo := 0) (n := r2.toNat)
      (fun i σ H' => ∃ (r : List Nat) (x3 : Option V), σ = [some (.ref p), some (.str "abcdefghijklmnopqrstuvwxyz"), some (.str (mk (c :: r))), x3] ∧ But p H H' ∧ StAt K l H' p ∧ (∀ x ∈ r, isL x = true) ∧ r.length = i) ?_ ?_ ?_⟩
    · exact ⟨[], none, rfl, b1.trans b2, S2, by simp, rfl⟩
    · rintro i σ H3 hi ⟨r, x3, rfl, b3, S3, hr3, hl3⟩
      refine ⟨_, rfl, _, rfl, _, rfl, p, 26, rfl, S3, by decide, by decide, fun r4 H4 f0 f1 b4 S4 => ?_⟩
      obtain ⟨d, hd, hdm⟩ := at_nats (xs := low.cps.toList) f0 (by rw [low_l]; exact f1)
      refine ⟨mk low.cps.toList, _, d, by rw [low_s], rfl, by rw [mk_len, low_l]; decide, hd, ?_⟩
      refine ⟨_, _, rfl, rfl, ?_, ?_⟩
      · rw [mk_len]
        show (c :: r).length + 1 ≤ sizeLine
        rw [List.length_cons]
        exact size_m (by omega)
      · refine ⟨r ++ [d], some (.int (0 + (i : Int))), ?_, b3.trans b4, S4, fun x hx => ?_, by rw [List.length_append, List.length_singleton, hl3]⟩
        · show [some (V.ref p), some (.str "abcdefghijklmnopqrstuvwxyz"), some (.str (mk (c :: r) ++ mk [d])), some (.int (0 + (i : Int)))] = _
          rw [mk_app]
          rfl
        · rcases List.mem_append.mp hx with hx | hx
          · exact hr3 x hx
          · rw [List.mem_singleton] at hx
            subst hx
            unfold isL
            exact decide_eq_true hdm
    · rintro σ H3 ⟨r, x3, rfl, b3, S3, hr3, hl3⟩
      exact ⟨_, rfl, k _ H3 ⟨c, r, rfl, hcm, hr3, by omega⟩ b3 S3⟩
end
end KQ
namespace KQ
open PySem PySem.Spec L2 RX TL
theorem StAt.upd2 {K : PySem.W.Frag} {l : Addr} {H H0 : Hp} {p p0 q : Addr} {o : HO} (h : StAt K l H p) (h0 : StAt K l H0 p0) (n : H0 q = none) (np : q ≠ p) : StAt K l (L2.upd H q o) p := by
  obtain ⟨ns, a, b, c, e, h1, h2, h3, h4⟩ := h
  obtain ⟨ns0, _, _, _, _, _, g2, _, _⟩ := h0
  have hp : L2.upd H q o p = some (.lst [.ref l, .int a, .int b, .int c, .int e]) := by rw [upd_ne (Ne.symm np)]; exact h1
  have go : l ≠ q → StAt K l (L2.upd H q o) p := fun nl => by
    refine ⟨ns, a, b, c, e, hp, ?_, h3, h4⟩
    rcases h2 with (h2 | ⟨u, h2⟩) | h2
    · exact .inl (.inl (by rw [upd_ne nl]; exact h2))
    · exact .inl (.inr ⟨u, by rw [upd_ne nl]; exact h2⟩)
    · exact .inr h2
  rcases g2 with (g2 | ⟨u, g2⟩) | g2
  · exact go (ne_of_none g2 n)
  · exact go (ne_of_none g2 n)
  · exact ⟨ns0, a, b, c, e, hp, .inr g2, h3, h4⟩
theorem any_sp {P : Program} {w : World} {K : PySem.W.Frag} {mg : Str → Option Value} {base : Heap} {n : Nat} {f : Addr} {fd : FuncData} {ps : List Str} {sp : Addr → Sp} (h : ∀ l, FnOk P w K mg base CX0 n f fd ps (sp l)) :
    FnOk P w K mg base CX0 n f fd ps (fun vs H Q E => ∃ l, sp l vs H Q E) :=
  ⟨fun vs H Q E ⟨l, q⟩ => (h l).1 vs H Q E q, fun A outer s H args us vs Q E a b c d ⟨l, q⟩ => (h l).2 A outer s H args us vs Q E a b c d q⟩
theorem But.upd {l p : Addr} {H H' : Hp} (s : But l H H') (n : H p = none) (o : HO) : But l H (L2.upd H' p o) := fun b u nb q => by rw [upd_ne (ne_of_none q n)]; exact s b u nb q
theorem But.free {K : PySem.W.Frag} {l p q : Addr} {H H' : Hp} (s : But p H H') (r : StAt K l H' p) (n : H' q = none) : H q = none := by
  cases e : H q with
  | none => rfl
  | some o =>
    by_cases z : q = p
    · exact absurd z (r.ne n)
    · rw [s q o z e] at n
      cases n
/-! ### how long a drawn line is -/
theorem nums_sum {ns : List Int} (h : ∀ n ∈ ns, small n) : ((ns.map numT).map (·.length)).sum ≤ 11 * ns.length := by
  induction ns with
  | nil => exact Nat.le_refl _
  | cons n ns ih =>
    have h1 := numT_len (h n (List.mem_cons_self ..))
    have h2 := ih fun x hx => h x (List.mem_cons_of_mem _ hx)
    show (numT n).length + ((ns.map numT).map (·.length)).sum ≤ 11 * (ns.length + 1)
    omega
theorem inp_len {p as : List Int} {m : List Nat} (hp : ∀ n ∈ p, small n) (ha : ∀ n ∈ as, small n) (l1 : p.length ≤ 4) (l2 : as.length ≤ 4) (l3 : m.length ≤ 12) : (lineOf (.inp p m as)).length ≤ 200 := by
  have s1 := nums_sum hp
  have s2 := nums_sum ha
  have hpl : (pathT p).length ≤ 50 := by
    unfold pathT
    split
    · decide
    · rename_i hne
      have := join_sum (s := 46) (ps := p.map numT) (fun z => hne (List.map_eq_nil_iff.mp z))
      rw [List.length_map] at this
      omega
  have := join_sum (s := 32) (ps := wordsOf (.inp p m as)) (by simp [wordsOf])
  have e : ((wordsOf (.inp p m as)).map (·.length)).sum = 5 + ((pathT p).length + (m.length + ((as.map numT).map (·.length)).sum)) := rfl
  have e2 : (wordsOf (.inp p m as)).length = as.length + 3 := by simp [wordsOf]
  unfold lineOf
  omega
theorem num_len {z : List Nat} {ns : List Int} (h : ∀ n ∈ ns, small n) (hz : isNum z ns.length = true) : (lineOf (.num z ns)).length ≤ 200 := by
  have s2 := nums_sum h
  have hh : z.length ≤ 7 ∧ ns.length ≤ 2 := by
    unfold isNum at hz
    simp only [Bool.or_eq_true, Bool.and_eq_true, decide_eq_true_eq] at hz
    rcases hz with ⟨rfl, h⟩ | ⟨rfl, h⟩
    · exact ⟨by decide, by omega⟩
    · exact ⟨by decide, by omega⟩
  have := join_sum (s := 32) (ps := wordsOf (.num z ns)) (by simp [wordsOf])
  have e : ((wordsOf (.num z ns)).map (·.length)).sum = z.length + ((ns.map numT).map (·.length)).sum := rfl
  have e2 : (wordsOf (.num z ns)).length = ns.length + 1 := by simp [wordsOf]
  unfold lineOf
  omega
def spEvent (K : PySem.W.Frag) (l : Addr) : Sp := fun vs H Q _ => ∃ p : Addr, vs = [.ref p] ∧ StAt K l H p ∧ ∀ v e H', EvOk e → (lineOf e).length ≤ 200 → But p H H' → StAt K l H' p → EvAt H' v e → Q v H'
def spBent (K : PySem.W.Frag) (l : Addr) : Sp := fun vs H Q _ => ∃ (p : Addr) (w : List Nat), vs = [.ref p, .str (mk w)] ∧ StAt K l H p ∧ w.length ≤ 200 ∧ ∀ (z : Str) H', z.length ≤ 1900 → But p H H' → StAt K l H' p → Q (.str z) H'
def spTold : Sp := fun vs H Q _ => ∃ w : List Nat, vs = [.str (mk w)] ∧ w.length ≤ 1900 ∧ match readEv w with
  | some e => ∀ H' v, Same H H' → EvAt H' v e → Q v H'
  | none => ∀ H', Same H H' → Q (.int 0) H'
section
variable {P : Program} {w : World} {K : PySem.W.Frag} {mg : Str → Option Value} {base : Heap} {C fI cc cda kw wo l : Addr}
theorem scEvent : FnScope ["state", "pick", "path", "args", "_law_turn"] ["state"] (defScope sEvent) := ⟨rfl, rfl, rfl, by decide +kernel, rfl, by decide +kernel, by decide +kernel⟩
theorem ok_event {f fD fN fM : Addr} {fd fdD fdN fdM : FuncData} (F : Fun K "_law_event" "_law_event" sEvent f fd) (T : Txt K mg kw wo)
    (G_DR : FnOk P w K mg base CX0 1 fD fdD ["state", "many"] (spDraw K l)) (L_DR : Cal K mg "_law_draw" fD fdD ["state", "many"])
    (G_NU : FnOk P w K mg base CX0 2 fN fdN ["state"] (spNum K l)) (L_NU : Cal K mg "_law_number" fN fdN ["state"])
    (G_NM : FnOk P w K mg base CX0 2 fM fdM ["state"] (spLName K l)) (L_NM : Cal K mg "_law_name" fM fdM ["state"]) : FnOk P w K mg base CX0 3 f fd ["state"] (spEvent K l) := by
  refine F.ok scEvent (fun vs H Q E h => ?_) (fun cdv A outer s H vs Q E hr h => ?_)
  · obtain ⟨p, rfl, _⟩ := h
    rfl
  · obtain ⟨p, rfl, S0, k⟩ := h
    have hr1 : Room 1 _ := hr.mono (by decide)
    refine ⟨_, (pss_cons (ps_set (i := 1) scEvent.nd rfl (Or.inl rfl) (pe_call G_DR hr1 rfl L_DR.g L_DR.k L_DR.b .nil pass0 (pa_cons (pv 0) (pa_cons pe_int pa_nil))))
 (pss_cons (ps_if (pt_cmpR op_eq (pv 1) pe_int (nomark _))
 (pss_cons (ps_set (i := 2) scEvent.nd rfl (Or.inl rfl) (pe_callTy call_tuple_of rfl T.ztuple boot_tuple0 (pa_cons (pe_lc (own := [("_law_turn", 4)]) (g := gName 4) (tt := tYes) rfl scEvent.nd (pi_range1 rfl T.zrng (pa_cons (pe_call G_DR hr1 rfl L_DR.g L_DR.k L_DR.b .nil pass0 (pa_cons (pv 0) (pa_cons pe_int pa_nil))) pa_nil)) (blkOk_by (own := [("_law_turn", 4)]) (N := ["state", "pick", "path", "args", "_law_turn"]) (sc := defScope sEvent) (by decide +kernel)) (fun _ _ _ _ _ => (pg_name (i := 4) scEvent.nd rfl (Or.inl rfl))) (fun _ _ _ _ _ => pts_nil) (fun _ _ _ _ _ => (pe_call G_NU hr rfl L_NU.g L_NU.k L_NU.b .nil pass0 (pa_cons (pv 0) pa_nil)))) pa_nil)))
 (pss_cons (ps_set (i := 3) scEvent.nd rfl (Or.inl rfl) (pe_callTy call_tuple_of rfl T.ztuple boot_tuple0 (pa_cons (pe_lc (own := [("_law_turn", 4)]) (g := gName 4) (tt := tYes) rfl scEvent.nd (pi_range1 rfl T.zrng (pa_cons (pe_call G_DR hr1 rfl L_DR.g L_DR.k L_DR.b .nil pass0 (pa_cons (pv 0) (pa_cons pe_int pa_nil))) pa_nil)) (blkOk_by (own := [("_law_turn", 4)]) (N := ["state", "pick", "path", "args", "_law_turn"]) (sc := defScope sEvent) (by decide +kernel)) (fun _ _ _ _ _ => (pg_name (i := 4) scEvent.nd rfl (Or.inl rfl))) (fun _ _ _ _ _ => pts_nil) (fun _ _ _ _ _ => (pe_call G_NU hr rfl L_NU.g L_NU.k L_NU.b .nil pass0 (pa_cons (pv 0) pa_nil)))) pa_nil)))
 (pss_one (ps_ret (pe_tup (pa_cons pe_str (pa_cons (pv 2) (pa_cons (pe_call G_NM hr rfl L_NM.g L_NM.k L_NM.b .nil pass0 (pa_cons (pv 0) pa_nil)) (pa_cons (pv 3) pa_nil)))))))))
 pss_nil)
 (pss_cons (ps_if (pt_cmpR op_eq (pv 1) pe_int (nomark _))
 (pss_one (ps_ret (pe_tup (pa_cons pe_str (pa_cons (pe_call G_NU hr rfl L_NU.g L_NU.k L_NU.b .nil pass0 (pa_cons (pv 0) pa_nil)) pa_nil)))))
 pss_nil)
 (pss_one (ps_ret (pe_tup (pa_cons pe_str (pa_cons (pe_call G_NU hr rfl L_NU.g L_NU.k L_NU.b .nil pass0 (pa_cons (pv 0) pa_nil)) (pa_cons (pe_call G_NU hr rfl L_NU.g L_NU.k L_NU.b .nil pass0 (pa_cons (pv 0) pa_nil)) pa_nil))))))))), ?_⟩
    refine ⟨_, rfl, p, 3, rfl, S0, by decide, by decide, fun r0 H0 _ _ b0 S1 => ?_⟩
    refine ⟨_, rfl, rfl, _, rfl, ite2 (fun _ => ?_) (fun _ => ?_)⟩
    · -- an input
      refine ⟨_, rfl, p, 5, rfl, S1, by decide, by decide, fun r1 H1 c0 c1 b1 S2 => ⟨r1, rfl, by omega, by omega, fun D hD => lc_range (lo := 0) (n := r1.toNat)
        (fun i H' => ∃ ns : List Int, But p H1 H' ∧ StAt K l H' p ∧ H' D = some (.lst (ns.map V.int)) ∧ ns.length = i ∧ ∀ n ∈ ns, small n) ?_ ?_ ?_⟩⟩
      · exact ⟨[], Same.but (same_new hD _), S2.upd hD, upd_same, rfl, by simp⟩
      · rintro i H' hi ⟨ns, b, S, h, hl, hs⟩
        have nD := S2.ne hD
        refine ⟨rfl, _, rfl, p, rfl, S, fun r H4 sr b4 S4 => ⟨_, b4 _ _ nD h, size_l (by rw [List.length_map]; omega), ns ++ [r], (b.trans b4).upd hD _, S4.upd2 S2 hD nD, by rw [List.map_append]; exact upd_same, by rw [List.length_append, List.length_singleton, hl], fun n hn => ?_⟩⟩
        rcases List.mem_append.mp hn with hn | hn
        · exact hs n hn
        · rw [List.mem_singleton] at hn
          rw [hn]
          exact sr
      · rintro H2 ⟨ps, b2, S3, h2, hl2, hs2⟩
        refine ⟨D, _, rfl, .inl ⟨SqL.of h2, fun t ht => ?_⟩⟩
        have P2 : IntsAt (upd H2 t (.tup (ps.map V.int))) (.ref t) ps := ⟨t, rfl, upd_same⟩
        have S4 := S3.upd (o := .tup (ps.map V.int)) ht
        have B4 : But p H (upd H2 t (.tup (ps.map V.int))) := ((b0.trans b1).trans b2).trans (Same.but (same_new ht _))
        clear hD
        generalize upd H2 t (.tup (ps.map V.int)) = H3 at P2 S4 B4 ⊢
        refine ⟨_, rfl, p, 5, rfl, S4, by decide, by decide, fun r2 H4 d0 d1 b4 S5 => ⟨r2, rfl, by omega, by omega, fun D2 hD2 => lc_range (lo := 0) (n := r2.toNat)
          (fun i H' => ∃ ns : List Int, But p H4 H' ∧ StAt K l H' p ∧ H' D2 = some (.lst (ns.map V.int)) ∧ ns.length = i ∧ ∀ n ∈ ns, small n) ?_ ?_ ?_⟩⟩
        · exact ⟨[], Same.but (same_new hD2 _), S5.upd hD2, upd_same, rfl, by simp⟩
        · rintro i H' hi ⟨ns, b, S, h, hl, hs⟩
          have nD := S5.ne hD2
          refine ⟨rfl, _, rfl, p, rfl, S, fun r H4 sr b4 S4 => ⟨_, b4 _ _ nD h, size_l (by rw [List.length_map]; omega), ns ++ [r], (b.trans b4).upd hD2 _, S4.upd2 S5 hD2 nD, by rw [List.map_append]; exact upd_same, by rw [List.length_append, List.length_singleton, hl], fun n hn => ?_⟩⟩
          rcases List.mem_append.mp hn with hn | hn
          · exact hs n hn
          · rw [List.mem_singleton] at hn
            rw [hn]
            exact sr
        · rintro H5 ⟨as, b5, S6, h5, hl5, hs5⟩
          refine ⟨D2, _, rfl, .inl ⟨SqL.of h5, fun t2 ht2 => ?_⟩⟩
          have A2 : IntsAt (upd H5 t2 (.tup (as.map V.int))) (.ref t2) as := ⟨t2, rfl, upd_same⟩
          have st := same_new ht2 (.tup (as.map V.int))
          have P3 : IntsAt (upd H5 t2 (.tup (as.map V.int))) (.ref t) ps := ((P2.tl ((b4.tlS S4))).tl (b5.tlS S5)).tl (Same.tl st)
          have S7 := S6.upd (o := .tup (as.map V.int)) ht2
          have B5 : But p H (upd H5 t2 (.tup (as.map V.int))) := ((B4.trans b4).trans b5).trans (Same.but st)
          generalize upd H5 t2 (.tup (as.map V.int)) = H6 at A2 P3 S7 B5 ⊢
          refine ⟨_, rfl, _, rfl, p, rfl, S7, fun m H7 hm b7 S8 => ⟨_, rfl, (by show 4 ≤ sizeLine; decide), fun t3 ht3 => ?_⟩⟩
          obtain ⟨c, r, rfl, hc, hr', hl'⟩ := hm
          have s3 := same_new ht3 (.tup [.str "input", .ref t, .str (mk (c :: r)), .ref t2])
          have t73 := (b7.tlS S7).trans (Same.tl s3)
          refine k _ (.inp ps (c :: r) as) _ ⟨hs2, name_ok hc hr' hl', hs5⟩ (inp_len hs2 hs5 (by omega) (by omega) (by rw [List.length_cons]; omega)) ((B5.trans b7).trans (Same.but s3)) (S8.upd ht3) ⟨t3, .ref t, .ref t2, rfl, upd_same, P3.tl t73, A2.tl t73⟩
    · refine ⟨_, rfl, rfl, _, rfl, ite2 (fun _ => ?_) (fun _ => ?_)⟩
      · refine ⟨_, rfl, p, rfl, S1, fun r1 H1 sr b1 S2 => ⟨(by show 2 ≤ sizeLine; decide), fun t ht => ?_⟩⟩
        have hz : isNum delL [r1].length = true := by show isNum delL 1 = true; decide
        have hs : ∀ n ∈ [r1], small n := fun n hn => by rw [List.mem_singleton] at hn; rw [hn]; exact sr
        exact k _ (.num delL [r1]) _ ⟨hz, hs⟩ (num_len hs hz) ((b0.trans b1).trans (Same.but (same_new ht _))) (S2.upd ht) ⟨t, rfl, by rw [← del_s]; exact upd_same⟩
      · refine ⟨_, rfl, p, rfl, S1, fun r1 H1 sr b1 S2 => ⟨_, rfl, p, rfl, S2, fun r2 H2 sr2 b2 S3 => ⟨(by show 3 ≤ sizeLine; decide), fun t ht => ?_⟩⟩⟩
        have hz : isNum ansL [r1, r2].length = true := by show isNum ansL 2 = true; decide
        have hs : ∀ n ∈ [r1, r2], small n := fun n hn => by
          rcases List.mem_cons.mp hn with rfl | hn
          · exact sr
          · rw [List.mem_singleton] at hn; rw [hn]; exact sr2
        exact k _ (.num ansL [r1, r2]) _ ⟨hz, hs⟩ (num_len hs hz) (((b0.trans b1).trans b2).trans (Same.but (same_new ht _))) (S3.upd ht) ⟨t, rfl, by rw [← ans_s]; exact upd_same⟩
theorem scBent : FnScope ["state", "line", "at", "char"] ["state", "line"] (defScope sBent) := ⟨rfl, rfl, rfl, by decide +kernel, rfl, by decide +kernel, by decide +kernel⟩
theorem one_of {r : Int} (h0 : 0 ≤ r) (h1 : r < 8) : ∃ c : Str, atI [V.str "0", .str "-", .str " ", .str ".", .str "a", .str "9", .str "A", .str "+"] r = some (.str c) ∧ c.length = 1 := by
  have : r = 0 ∨ r = 1 ∨ r = 2 ∨ r = 3 ∨ r = 4 ∨ r = 5 ∨ r = 6 ∨ r = 7 := by omega
  rcases this with rfl | rfl | rfl | rfl | rfl | rfl | rfl | rfl <;> exact ⟨_, rfl, by decide +kernel⟩
theorem ok_bent {f fD : Addr} {fd fdD : FuncData} (F : Fun K "_law_bent" "_law_bent" sBent f fd) (T : Txt K mg kw wo)
    (G_DR : FnOk P w K mg base CX0 1 fD fdD ["state", "many"] (spDraw K l)) (L_DR : Cal K mg "_law_draw" fD fdD ["state", "many"]) : FnOk P w K mg base CX0 2 f fd ["state", "line"] (spBent K l) := by
  refine F.ok scBent (fun vs H Q E h => ?_) (fun cdv A outer s H vs Q E hr h => ?_)
  · obtain ⟨p, w, rfl, _⟩ := h
    rfl
  · obtain ⟨p, w, rfl, S0, hw, k⟩ := h
    refine ⟨_, (pss_cons (ps_set (i := 2) scBent.nd rfl (Or.inl rfl) (pe_call G_DR hr rfl L_DR.g L_DR.k L_DR.b .nil pass0 (pa_cons (pv 0) (pa_cons (pe_op op_add (pe_callB call_len_str rfl T.zlen PySem.boot_len (pa_cons (pv 1) pa_nil)) pe_int) pa_nil))))
 (pss_cons (ps_set (i := 3) scBent.nd rfl (Or.inl rfl) (pe_ix ix_list (pe_lst (pa_cons pe_str (pa_cons pe_str (pa_cons pe_str (pa_cons pe_str (pa_cons pe_str (pa_cons pe_str (pa_cons pe_str (pa_cons pe_str pa_nil))))))))) (pe_call G_DR hr rfl L_DR.g L_DR.k L_DR.b .nil pass0 (pa_cons (pv 0) (pa_cons pe_int pa_nil))) (fun _ _ => rfl)))
 (pss_one (ps_ret (pe_ix ix_list (pe_lst (pa_cons (pe_op op_add_str (pe_op op_add_str (pe_slice sl_str (pv 1) po_none (po_some (pv 2))) (pv 3)) (pe_slice sl_str (pv 1) (po_some (pv 2)) po_none)) (pa_cons (pe_op op_add_str (pe_slice sl_str (pv 1) po_none (po_some (pv 2))) (pe_slice sl_str (pv 1) (po_some (pe_op op_add (pv 2) pe_int)) po_none)) (pa_cons (pe_op op_add_str (pe_op op_add_str (pe_slice sl_str (pv 1) po_none (po_some (pv 2))) (pv 3)) (pe_slice sl_str (pv 1) (po_some (pe_op op_add (pv 2) pe_int)) po_none)) pa_nil)))) (pe_call G_DR hr rfl L_DR.g L_DR.k L_DR.b .nil pass0 (pa_cons (pv 0) (pa_cons pe_int pa_nil))) (fun _ _ => rfl)))))), ?_⟩
    have hl : (mk w).length ≤ 200 := by rw [mk_len]; exact hw
    have hz : (mk w).length ≤ sizeLine := size_m (by omega)
    refine ⟨_, rfl, _, rfl, mk w, rfl, hz, _, _, rfl, rfl, p, _, rfl, S0, by omega, by omega, fun r1 H1 a0 a1 b1 S1 => ?_⟩
    refine ⟨(by show 8 ≤ sizeLine; decide), fun q hq => ?_⟩
    have sq := same_new hq (.lst [V.str "0", .str "-", .str " ", .str ".", .str "a", .str "9", .str "A", .str "+"])
    have S2 := S1.upd (o := .lst [V.str "0", .str "-", .str " ", .str ".", .str "a", .str "9", .str "A", .str "+"]) hq
    have nq := S1.ne hq
    refine ⟨_, rfl, p, 8, rfl, S2, by decide, by decide, fun r2 H3 c0 c1 b3 S3 => ?_⟩
    obtain ⟨c, hc, hc1⟩ := one_of c0 c1
    refine ⟨q, _, _, _, rfl, rfl, SqL.of (b3 _ _ nq upd_same), hc, ?_⟩
    have B3 : But p H H3 := (b1.trans (Same.but sq)).trans b3
    have x1 := cutS_length (mk w) none (some r1)
    have x2 := cutS_length (mk w) (some r1) none
    have x3 := cutS_length (mk w) (some (r1 + 1)) none
    refine ⟨_, rfl, _, rfl, r1, rfl, mk w, rfl, hz, _, rfl, _, _, rfl, rfl, size_m (by omega), _, rfl, _, rfl, r1, rfl, mk w, rfl, hz, _, _, rfl, rfl, size_m (by rw [app_len]; omega), ?_⟩
    refine ⟨_, rfl, _, rfl, r1, rfl, mk w, rfl, hz, _, rfl, _, rfl, _, _, rfl, rfl, _, rfl, mk w, rfl, hz, _, _, rfl, rfl, size_m (by omega), ?_⟩
    refine ⟨_, rfl, _, rfl, r1, rfl, mk w, rfl, hz, _, rfl, _, _, rfl, rfl, size_m (by omega), _, rfl, _, rfl, _, _, rfl, rfl, _, rfl, mk w, rfl, hz, _, _, rfl, rfl, size_m (by rw [app_len]; omega), (by show 3 ≤ sizeLine; decide), fun q2 hq2 => ?_⟩
    have nq2 := S3.ne hq2
    refine ⟨_, rfl, p, 3, rfl, S3.upd hq2, by decide, by decide, fun r3 H5 d0 d1 b5 S5 => ?_⟩
    have B5 : But p H H5 := (B3.trans (Same.but (same_new hq2 _))).trans b5
    have q5 := b5 _ _ nq2 upd_same
    have : r3 = 0 ∨ r3 = 1 ∨ r3 = 2 := by omega
    rcases this with rfl | rfl | rfl
    · exact ⟨q2, _, _, _, rfl, rfl, SqL.of q5, at0, k _ _ (by rw [app_len, app_len]; omega) B5 S5⟩
    · exact ⟨q2, _, _, _, rfl, rfl, SqL.of q5, at1, k _ _ (by rw [app_len]; omega) B5 S5⟩
    · exact ⟨q2, _, _, _, rfl, rfl, SqL.of q5, at2, k _ _ (by rw [app_len, app_len]; omega) B5 S5⟩
theorem scTold : FnScope ["line", "error"] ["line"] (defScope sTold) := ⟨rfl, rfl, rfl, by decide +kernel, rfl, by decide +kernel, by decide +kernel⟩
theorem ok_told {f fR : Addr} {fd fdR : FuncData} (F : Fun K "_law_told" "_law_told" sTold f fd) (T1 : Ex1 P K mg C fI cc cda "InvalidLine")
    (GR : FnOk P w K mg base (L2.CX P w) 5 fR fdR ["line"] (spRead C)) (LR : Cal K mg "read_event" fR fdR ["line"]) : FnOk P w K mg base CX0 6 f fd ["line"] spTold := by
  refine F.ok scTold (fun vs H Q E h => ?_) (fun cdv A outer s H vs Q E hr h => ?_)
  · obtain ⟨w, rfl, _⟩ := h
    rfl
  · obtain ⟨w, rfl, hl, k⟩ := h
    refine ⟨_, pss_one (ps_try_asF (i := 1) (tb := fun W => tRet (tCallS (spRead C) (WE W) (tCons (tVar 0) tNil))) (ts := fun a cls d => tRet (tXf a cls d C "number" (tVar 1))) rfl rfl scTold.nd rfl rfl ⟨rfl, by decide, Or.inl T1.gF⟩
      (fun W pn xe tk _ => pss_one (ps_ret (by exact (pe_callS GR hr rfl LR.g LR.k LR.b (fun σ => passAt tk σ) (by exact (pa_cons (pv 0) pa_nil))))))
      (fun a oe cls d pn hz hf => pss_one (ps_ret (by exact (pe_xf T1.xf T1.noR hz hf (pv 1)))))), ?_⟩
    refine ⟨_, rfl, w, rfl, hl, ?_⟩
    cases e : readEv w with
    | some ev =>
      rw [e] at k
      exact fun H' v s hv => k H' v s hv
    | none =>
      rw [e] at k
      intro dd H' s' nd hx
      refine ⟨T1.te, fun a na => ?_⟩
      exact ⟨_, rfl, rfl, rfl, dd, _, .int 0, rfl, hx, by simp [List.lookup], k H' s'⟩
end
end KQ
namespace KQ
open PySem PySem.Spec L2 RX TL
def spReadQ : Sp := fun vs H Q _ => ∃ (w : List Nat) (e : Ev), vs = [.str (mk w)] ∧ w.length ≤ 1900 ∧ readEv w = some e ∧ ∀ H' v, Same H H' → EvAt H' v e → Q v H'
theorem ok_readq {P : Program} {w : World} {K : PySem.W.Frag} {mg : Str → Option Value} {base : Heap} {C fR : Addr} {fd : FuncData} (G : FnOk P w K mg base (L2.CX P w) 5 fR fd ["line"] (spRead C)) : FnOk P w K mg base CX0 5 fR fd ["line"] spReadQ :=
  fn_quiet G fun vs H Q E ⟨w, e, e1, hl, hr, k⟩ => ⟨w, e1, hl, by rw [hr]; exact k⟩
def evD : Ev → PyData
  | .inp p m as => .tuple [.str "input", .tuple (p.map .int), .str (mk m), .tuple (as.map .int)]
  | .num z ns => .tuple (.str (mk z) :: ns.map .int)
theorem EvAt.dp {K : PySem.W.Frag} {H : Hp} {v : V} {e : Ev} (h : EvAt H v e) : Dp K H v (evD e) := by
  cases e with
  | inp p m as =>
    obtain ⟨a, pv', av, rfl, ha, hp, hav⟩ := h
    exact .tup (SqT.of ha) (.cons (.str _) (.cons hp.dp (.cons (.str _) (.cons hav.dp .nil))))
  | num z ns =>
    obtain ⟨a, rfl, ha⟩ := h
    exact .tup (SqT.of ha) (.cons (.str _) (ints_dpAll ns))
theorem lay_ints (ns : List Int) : PyData.canLayAll0 (ns.map .int) = true := by
  induction ns with
  | nil => rfl
  | cons n ns ih =>
    show (PyData.canLay0 (.int n) && PyData.canLayAll0 (ns.map .int)) = true
    rw [ih]; rfl
theorem dep_ints (ns : List Int) : PyData.depthAll (ns.map .int) = 0 := by
  induction ns with
  | nil => rfl
  | cons n ns ih =>
    show max 0 (PyData.depthAll (ns.map .int)) = 0
    rw [ih]; rfl
theorem str_lay {z : Str} (h : ∀ c ∈ z.cps.toList, c < 1114112) : PyData.canLay0 (.str z) = true := by
  show PyData.strOk z = true
  unfold PyData.strOk
  rw [← Array.all_toList, List.all_eq_true]
  exact fun c hc => decide_eq_true (h c hc)
theorem ev_shaped {e : Ev} (h : EvOk e) : SeqAt.shaped (evD e) = true := by
  unfold SeqAt.shaped
  cases e with
  | inp p m as =>
    obtain ⟨_, hm, _⟩ := h
    have l1 : PyData.canLay0 (.str (mk m)) = true := str_lay fun c hc => by
      unfold nameB at hm
      simp only [Bool.and_eq_true] at hm
      have := isL_iff.mp (List.all_eq_true.mp hm.2.2 c hc)
      omega
    have e1 : (evD (.inp p m as)).canLay0 = (PyData.canLay0 (.str "input") && (PyData.canLayAll0 (p.map .int) && (PyData.canLay0 (.str (mk m)) && (PyData.canLayAll0 (as.map .int) && true)))) := rfl
    have e2 : (evD (.inp p m as)).depth = max 0 (max (PyData.depthAll (p.map .int) + 1) (max 0 (max (PyData.depthAll (as.map .int) + 1) 0))) + 1 := rfl
    rw [e1, e2, l1, lay_ints, lay_ints, dep_ints, dep_ints]
    decide +kernel
  | num z ns =>
    obtain ⟨hz, _⟩ := h
    have l1 : PyData.canLay0 (.str (mk z)) = true := str_lay fun c hc => by
      rw [mk_l] at hc
      unfold isNum at hz
      simp only [Bool.or_eq_true, Bool.and_eq_true, decide_eq_true_eq] at hz
      rcases hz with ⟨rfl, _⟩ | ⟨rfl, _⟩
      · have : ∀ c ∈ delL, c < 1114112 := by decide
        exact this c hc
      · have : ∀ c ∈ ansL, c < 1114112 := by decide
        exact this c hc
    have e1 : (evD (.num z ns)).canLay0 = (PyData.canLay0 (.str (mk z)) && PyData.canLayAll0 (ns.map .int)) := rfl
    have e2 : (evD (.num z ns)).depth = max 0 (PyData.depthAll (ns.map .int)) + 1 := rfl
    rw [e1, e2, l1, lay_ints, dep_ints]
    rfl
def bads : List Str := ["", "input", "input main", "deliver", "deliver 1 2", "answer 1", "answer 1 2 3", "Deliver 1", "deliver 01",
  "deliver -0", "deliver +1", "deliver 1_0", "deliver ", " deliver 1", "input 0..1 go", "input 0. go",
  "input main abcdefghijklm", "input main Go", "input main go 12345678901", "input main go  1", "input Main go"]
theorem bads_eq : bads.map V.str = ([V.str "", .str "input", .str "input main", .str "deliver", .str "deliver 1 2", .str "answer 1", .str "answer 1 2 3", .str "Deliver 1", .str "deliver 01"] ++
    [V.str "deliver -0", .str "deliver +1", .str "deliver 1_0", .str "deliver ", .str " deliver 1", .str "input 0..1 go", .str "input 0. go"]) ++
    [V.str "input main abcdefghijklm", .str "input main Go", .str "input main go 12345678901", .str "input main go  1", .str "input Main go"] := rfl
theorem bads_no : ∀ z ∈ bads, (readEv z.cps.toList).isNone = true ∧ z.length ≤ 1900 := by decide +kernel
def spLaw (K : PySem.W.Frag) : Sp := fun vs H Q _ => ∃ (a : Addr) (ns : List Int), vs = [.ref a] ∧ SqL K H a (ns.map V.int) ∧ ∀ H', Q (.bl true) H'
theorem head_in {H : Hp} {v : V} {e : Ev} (h : EvAt H v e) (ok : EvOk e) : ∃ (a : Addr) (z : Str) (r : List V), v = .ref a ∧ H a = some (.tup (.str z :: r)) ∧ inV (.str z) [.str "input", .str "deliver", .str "answer"] = true := by
  cases e with
  | inp p m as =>
    obtain ⟨a, pv', av, rfl, ha, _⟩ := h
    exact ⟨a, _, _, rfl, ha, by decide +kernel⟩
  | num z ns =>
    obtain ⟨a, rfl, ha⟩ := h
    refine ⟨a, _, _, rfl, ha, ?_⟩
    obtain ⟨hz, _⟩ := ok
    unfold isNum at hz
    simp only [Bool.or_eq_true, Bool.and_eq_true, decide_eq_true_eq] at hz
    rcases hz with ⟨rfl, _⟩ | ⟨rfl, _⟩ <;> decide +kernel
section
variable {P : Program} {w : World} {K : PySem.W.Frag} {mg : Str → Option Value} {base : Heap} {C fI cc cda kw wo : Addr}
theorem scLaw : FnScope ["script", "state", "event", "line", "_law_turn", "bent", "told", "bad", "one"] ["script"] (defScope sLaw) := ⟨rfl, rfl, rfl, by decide +kernel, rfl, by decide +kernel, by decide +kernel⟩
theorem ok_law {f fST fEV fWR fDU fRD fBE fTO : Addr} {fd fdST fdEV fdWR fdDU fdRD fdBE fdTO : FuncData} (F : Fun K "law" "law" sLaw f fd) (T : Txt K mg kw wo)
    (G_ST : FnOk P w K mg base CX0 1 fST fdST ["script"] (spState K)) (L_ST : Cal K mg "_law_state" fST fdST ["script"])
    (G_EV : FnOk P w K mg base CX0 3 fEV fdEV ["state"] (fun vs H Q E => ∃ l, spEvent K l vs H Q E)) (L_EV : Cal K mg "_law_event" fEV fdEV ["state"])
    (G_WR : FnOk P w K mg base CX0 2 fWR fdWR ["event"] spWrite) (L_WR : Cal K mg "write_event" fWR fdWR ["event"])
    (G_DU : FnOk P w K mg base CX0 2 fDU fdDU ["event"] spWrite) (L_DU : Cal K mg "_law_due" fDU fdDU ["event"])
    (G_RD : FnOk P w K mg base CX0 5 fRD fdRD ["line"] spReadQ) (L_RD : Cal K mg "read_event" fRD fdRD ["line"])
    (G_BE : FnOk P w K mg base CX0 2 fBE fdBE ["state", "line"] (fun vs H Q E => ∃ l, spBent K l vs H Q E)) (L_BE : Cal K mg "_law_bent" fBE fdBE ["state", "line"])
    (G_TO : FnOk P w K mg base CX0 6 fTO fdTO ["line"] spTold) (L_TO : Cal K mg "_law_told" fTO fdTO ["line"]) : FnOk P w K mg base CX0 7 f fd ["script"] (spLaw K) := by
  refine F.ok scLaw (fun vs H Q E h => ?_) (fun cdv A outer s H vs Q E hr h => ?_)
  · obtain ⟨a, ns, rfl, _⟩ := h
    rfl
  · obtain ⟨a, ns, rfl, ha, k⟩ := h
    have hr1 : Room 1 _ := hr.mono (by decide)
    have hr2 : Room 2 _ := hr.mono (by decide)
    have hr3 : Room 3 _ := hr.mono (by decide)
    have hr5 : Room 5 _ := hr.mono (by decide)
    refine ⟨_, (pss_cons (ps_set (i := 1) scLaw.nd rfl (Or.inl rfl) (pe_call G_ST hr1 rfl L_ST.g L_ST.k L_ST.b .nil pass0 (pa_cons (pv 0) pa_nil)))
 (pss_cons (ps_set (i := 2) scLaw.nd rfl (Or.inl rfl) (pe_call G_EV hr3 rfl L_EV.g L_EV.k L_EV.b .nil pass0 (pa_cons (pv 1) pa_nil)))
 (pss_cons (ps_set (i := 3) scLaw.nd rfl (Or.inl rfl) (pe_call G_WR hr2 rfl L_WR.g L_WR.k L_WR.b .nil pass0 (pa_cons (pv 2) pa_nil)))
 (pss_cons (ps_if (PW.pt (pw_or (pt_cmpR op_ne (pv 3) (pe_call G_DU hr2 rfl L_DU.g L_DU.k L_DU.b .nil pass0 (pa_cons (pv 2) pa_nil)) (nomark _)) (pw_or1 (pt_cmpR (op_neD hr.units) (pe_call G_RD hr5 rfl L_RD.g L_RD.k L_RD.b .nil pass0 (pa_cons (pv 3) pa_nil)) (pv 2) (nomark _)))))
 (pss_one (ps_ret pe_bl))
 pss_nil)
 (pss_cons (ps_for PassesOwn.never rfl (pi_range1 rfl T.zrng (pa_cons pe_int pa_nil)) (pg_name (i := 4) scLaw.nd rfl (Or.inl rfl))
 (pss_cons (ps_set (i := 5) scLaw.nd rfl (Or.inl rfl) (pe_call G_BE hr2 rfl L_BE.g L_BE.k L_BE.b .nil pass0 (pa_cons (pv 1) (pa_cons (pv 3) pa_nil))))
 (pss_cons (ps_set (i := 6) scLaw.nd rfl (Or.inl rfl) (pe_call G_TO hr rfl L_TO.g L_TO.k L_TO.b .nil pass0 (pa_cons (pv 5) pa_nil)))
 (pss_one (ps_if (pt_val (pe_callB call_isi rfl T.zisi boot_isi (pa_cons (pv 6) (pa_cons (pe_bltn (v := .ty "tuple") rfl T.ztuple boot_tuple0 rfl) pa_nil))))
 (pss_one (ps_if (PW.pt (pw_or (pt_cmpR op_ne (pe_call G_WR hr2 rfl L_WR.g L_WR.k L_WR.b .nil pass0 (pa_cons (pv 6) pa_nil)) (pv 5) (nomark _)) (pw_or1 (pt_cmpR op_notIn_seq (pe_ix ix_tup (pv 6) pe_int (fun _ _ => rfl)) (pe_lst (pa_cons pe_str (pa_cons pe_str (pa_cons pe_str pa_nil)))) (by rfl)))))
 (pss_one (ps_ret pe_bl))
 pss_nil))
 (pss_one (ps_if (PW.pt (pw_or (pt_cmpR op_ne (pv 6) pe_int (nomark _)) (pw_or1 (pt_val (pe_callB call_isi rfl T.zisi boot_isi (pa_cons (pv 6) (pa_cons (pe_bltn (v := .ty "bool") rfl T.zbool boot_bool0 rfl) pa_nil)))))))
 (pss_one (ps_ret pe_bl))
 pss_nil)))))))
 (pss_cons (ps_set (i := 7) scLaw.nd rfl (Or.inl rfl) (pe_lst (pa_cons pe_str (pa_cons pe_str (pa_cons pe_str (pa_cons pe_str (pa_cons pe_str (pa_cons pe_str (pa_cons pe_str (pa_cons pe_str (pa_cons pe_str pa_nil)))))))))))
 (pss_cons (ps_set (i := 7) scLaw.nd rfl (Or.inl rfl) (pe_op op_cat (pv 7) (pe_lst (pa_cons pe_str (pa_cons pe_str (pa_cons pe_str (pa_cons pe_str (pa_cons pe_str (pa_cons pe_str (pa_cons pe_str pa_nil))))))))))
 (pss_cons (ps_set (i := 7) scLaw.nd rfl (Or.inl rfl) (pe_op op_cat (pv 7) (pe_lst (pa_cons pe_str (pa_cons pe_str (pa_cons pe_str (pa_cons pe_str (pa_cons pe_str pa_nil))))))))
 (pss_one (ps_ret (pe_callB (cr_all rfl) rfl T.zall boot_all0 (pa_cons (pe_lc (own := [("one", 8)]) (g := gName 8) (tt := tYes) rfl scLaw.nd (pi_list (pv 7)) (blkOk_by (own := [("one", 8)]) (N := ["script", "state", "event", "line", "_law_turn", "bent", "told", "bad", "one"]) (sc := defScope sLaw) (by decide +kernel)) (fun _ _ _ _ _ => (pg_name (i := 8) scLaw.nd rfl (Or.inl rfl))) (fun _ _ _ _ _ => pts_nil) (fun _ _ _ _ _ => (pe_cmpR op_eq (pe_call G_TO hr rfl L_TO.g L_TO.k L_TO.b .nil pass0 (pa_cons (pv 8) pa_nil)) pe_int (nomark _)))) pa_nil)))))))))))), ?_⟩
    refine ⟨_, rfl, a, ns, rfl, ha, fun p L H1 s1 np S1 => ?_⟩
    refine ⟨_, rfl, L, p, rfl, S1, fun v e H2 ok hlen b2 S2 hv => ?_⟩
    refine ⟨_, rfl, v, e, rfl, hv, ok, by omega, fun H3 s3 => ?_⟩
    refine ⟨_, rfl, _, rfl, v, e, rfl, hv.tl (Same.tl s3), ok, by omega, fun H4 s4 => ⟨rfl, _, rfl, ifNF rfl ?_⟩⟩
    refine ⟨_, rfl, lineOf e, e, rfl, by omega, read_line ok, fun H5 v5 s5 hv5 => ?_⟩
    have s35 := (s3.trans s4).trans s5
    refine ⟨_, rfl, evD e, evD e, hv5.dp, (hv.tl (Same.tl s35)).dp, ev_shaped ok, ev_shaped ok, _, rfl, ?_⟩
    rw [SeqAt.eqv_refl _ (SeqAt.canLay_of_shaped (ev_shaped ok))]
    refine iteF ?_
    have S5 := S2.same s35
    refine ⟨6, rfl, by decide, by decide, for_range (lo := 0) (n := 6)
      (fun i σ H' => ∃ x4 x5 x6 : Option V, σ = [some (.ref a), some (.ref p), some v, some (.str (mk (lineOf e))), x4, x5, x6, none, none] ∧ StAt K L H' p) ⟨none, none, none, rfl, S5⟩ ?_ ?_⟩
    · rintro i σ H6 hi ⟨x4, x5, x6, rfl, S6⟩
      refine ⟨_, rfl, _, rfl, L, p, lineOf e, rfl, S6, hlen, fun z H7 hz b7 S7 => ?_⟩
      obtain ⟨w', rfl⟩ : ∃ w', z = mk w' := ⟨_, (mk_of z).symm⟩
      rw [mk_len] at hz
      refine ⟨_, rfl, w', rfl, hz, ?_⟩
      cases er : readEv w' with
      | none =>
        intro H8 s8
        refine ⟨_, rfl, _, _, _, _, false, rfl, .ty "tuple", .base (.int 0), kit_ty (show kitB "int" "tuple" = some false by decide +kernel), _, rfl, iteF ?_⟩
        refine ⟨_, rfl, rfl, _, rfl, ifNF rfl ⟨_, rfl, _, _, _, _, false, rfl, .ty "bool", .base (.int 0), kit_ty (show kitB "int" "bool" = some false by decide +kernel), _, rfl, iteF ?_⟩⟩
        exact ⟨_, _, _, rfl, S7.same s8⟩
      | some ev =>
        obtain ⟨eb, okb⟩ := read_back er
        intro H8 v8 s8 hv8
        obtain ⟨a8, z8, r8, rfl, h8, hin⟩ := head_in hv8 okb
        refine ⟨_, rfl, _, _, _, _, true, rfl, .ty "tuple", .base (.tup h8), kit_ty (show kitB "tuple" "tuple" = some true by decide +kernel), _, rfl, iteT ?_⟩
        refine ⟨_, rfl, _, ev, rfl, hv8, okb, by rw [eb]; omega, fun H9 s9 => ⟨_, rfl, rfl, _, rfl, ifNF (by rw [eb]) ?_⟩⟩
        refine ⟨_, rfl, a8, _, _, _, rfl, rfl, SqT.of (s9 _ _ h8), at0, (by show 3 ≤ sizeLine; decide), fun q hq => ?_⟩
        refine ⟨q, _, rfl, .inl (SqL.of upd_same), rfl, rfl, _, rfl, ?_⟩
        show if (!inV (.str z8) [.str "input", .str "deliver", .str "answer"]) = true then _ else _
        rw [hin]
        exact iteF ⟨_, _, _, rfl, (S7.same (s8.trans s9)).upd hq⟩
    · rintro σ H6 ⟨x4, x5, x6, rfl, S6⟩
      refine ⟨(by show 9 ≤ sizeLine; decide), fun q1 hq1 => ?_⟩
      refine ⟨_, rfl, (by show 7 ≤ sizeLine; decide), fun q2 hq2 => ⟨q1, q2, _, _, rfl, rfl, same_new hq2 _ _ _ upd_same, upd_same, (by show 9 + 7 ≤ sizeLine; decide), fun q3 hq3 => ?_⟩⟩
      refine ⟨_, rfl, (by show 5 ≤ sizeLine; decide), fun q4 hq4 => ⟨q3, q4, _, _, rfl, rfl, same_new hq4 _ _ _ upd_same, upd_same, (by show 16 + 5 ≤ sizeLine; decide), fun q5 hq5 => ?_⟩⟩
      refine ⟨_, rfl, q5, rfl, ⟨_, SqL.of upd_same⟩, fun D hD => ?_⟩
      have nD : q5 ≠ D := fun z => by rw [← z, upd_same] at hD; cases hD
      refine lc_list (K := K) (a := q5) (xs := bads.map V.str) (fun i H' => H' q5 = some (.lst (bads.map V.str)) ∧ H' D = some (.lst ((List.replicate i true).map V.bl))) ⟨by rw [upd_ne nD, bads_eq]; exact upd_same, upd_same⟩ (fun i H' _ ⟨h, _⟩ => SqL.of h) ?_ ?_
      · rintro i x H7 hx ⟨h5, hD7⟩
        obtain ⟨z, hz, rfl⟩ : ∃ z, z ∈ bads ∧ x = .str z := by
          obtain ⟨z, hz, e⟩ := List.mem_map.mp (List.mem_of_getElem? hx)
          exact ⟨z, hz, e.symm⟩
        have hi : i < 21 := (List.getElem?_eq_some_iff.mp hx).1
        obtain ⟨n1, n2⟩ := bads_no z hz
        refine ⟨rfl, _, rfl, z.cps.toList, (by rw [mk_of]; rfl), by rw [Array.length_toList]; exact n2, ?_⟩
        rw [Option.isNone_iff_eq_none.mp n1]
        intro H8 s8
        refine ⟨rfl, _, s8 _ _ hD7, ?_, by rw [upd_ne nD]; exact s8 _ _ h5, ?_⟩
        · rw [List.length_map, List.length_replicate]
          exact size_l (by omega)
        · rw [List.replicate_succ', List.map_append]
          exact upd_same
      · rintro H7 ⟨h5, hD7⟩
        refine ⟨D, _, rfl, SqL.of hD7, ?_⟩
        rw [show (List.replicate (bads.map V.str).length true).all id = true by rfl]
        exact k H7
end
end KQ
namespace KQ
open PySem PySem.Spec L2 RX TL
def txOf : List Value → Option (List Str)
  | [] => some []
  | .str z _ :: r => (txOf r).map (z :: ·)
  | _ => none
theorem vals_of : ∀ {us : List Value} {zs : List Str}, txOf us = some zs → Vals (zs.map V.str) us
  | [], zs, h => by cases h; exact .nil
  | .str z t :: r, zs, h => by
    cases e : txOf r with
    | none => unfold txOf at h; rw [e] at h; cases h
    | some y =>
      unfold txOf at h
      rw [e] at h
      cases h
      exact .cons ⟨_, rfl⟩ (vals_of e)
  | .ref _ :: _, _, h => by cases h
  | .int _ _ :: _, _, h => by cases h
theorem kw_of {K : PySem.W.Frag} {kw : Addr} {dd : Option Addr} {its : Array Value} {n : Nat} {sl : Array (Option Value)} (lk : K.lookup kw = some ⟨.type "tuple", dd, .seq its n, sl⟩) (h : txOf its.toList = some keys) (H : Hp) : SqT K H kw (keys.map V.str) :=
  .inr ⟨_, its, n, lk, rfl, rfl, by
    have this : (keys.map V.str).length = its.toList.length := (vals_of h).length
    have this2 : (keys.map V.str).length = its.size := this.trans Array.length_toList
    rw [List.length_map] at this2
    have e : keys.length = 23 := by decide
    have q : 23 ≤ sizeLine := by decide
    omega, vals_of h⟩
theorem wd_of {K : PySem.W.Frag} {w : World} {wo : Addr} {h1 h2 : Int} {t1 t2 u1 u2 : Tok} {n : Nat}
    (lw : K.lookup wo = some ⟨.type "dict", none, .dict #[⟨h1, .str "deliver" t1, .int 2 u1⟩, ⟨h2, .str "answer" t2, .int 3 u2⟩] n, #[]⟩) (e1 : h1 = PyData.keyHash w.params "deliver") (e2 : h2 = PyData.keyHash w.params "answer") (lo : (wo == sysModules) = false) : Wd K w wo := by
  refine ⟨_, n, ⟨lw, ⟨⟨_, _, rfl, e1⟩, ⟨_, _, rfl, e2⟩, trivial⟩, lo⟩, fun z => ?_⟩
  unfold PySem.W.nsIn
  rw [lw]
  unfold wV
  by_cases c1 : z = delL
  · subst c1
    refine ⟨some (.int 2 u1), ?_, by rw [if_pos rfl]; exact ⟨_, rfl⟩⟩
    rw [← del_s]
    rfl
  · by_cases c2 : z = ansL
    · subst c2
      refine ⟨some (.int 3 u2), ?_, by rw [if_neg (by decide), if_pos rfl]; exact ⟨_, rfl⟩⟩
      rw [← ans_s]
      rfl
    · refine ⟨none, ?_, by rw [if_neg c1, if_neg c2]; rfl⟩
      have f1 : (("deliver" : Str) == mk z) = false := by
        rw [del_s]
        exact beq_false_of_ne fun e => c1 (mk_inj.mp e).symm
      have f2 : (("answer" : Str) == mk z) = false := by
        rw [ans_s]
        exact beq_false_of_ne fun e => c2 (mk_inj.mp e).symm
      have f : List.find? (fun x : DictEntry => x.key.isStr (mk z)) [⟨h1, .str "deliver" t1, .int 2 u1⟩, ⟨h2, .str "answer" t2, .int 3 u2⟩] = none := by
        rw [List.find?_cons_of_neg, List.find?_cons_of_neg]
        · rfl
        · show ¬ (("answer" : Str) == mk z) = true
          rw [f2]; decide
        · show ¬ (("deliver" : Str) == mk z) = true
          rw [f1]; decide
      show (match List.find? (fun x : DictEntry => x.key.isStr (mk z)) [⟨h1, .str "deliver" t1, .int 2 u1⟩, ⟨h2, .str "answer" t2, .int 3 u2⟩] with
        | some e => some (some e.val)
        | none => if ([⟨h1, .str "deliver" t1, .int 2 u1⟩, ⟨h2, .str "answer" t2, .int 3 u2⟩] : List DictEntry).any (fun x => x.refKey) = true then none else some none) = some none
      rw [f]
      rfl
end KQ
namespace KQ
open PySem PySem.Spec L2 RX
theorem exm_own {K : PySem.W.Frag} {S : Addr} (h1 : PySem.W.subIn K (.ref S) (.type "BaseException") = some true) (h2 : PySem.W.isClsIn K S = true) (h3 : PySem.W.typeIn K (.ref S) = some (.type "type")) (h4 : PySem.W.subIn K (.ref S) (.ref S) = some true) :
    PySem.W.exmOne K (.ref S) (.ref S) = some true := by
  have e1 : (PySem.W.subIn K (.ref S) (.type "BaseException") == some true) = true := by rw [h1] <;> rfl
  have e2 : ((PySem.W.clsIn K S).isSome && PySem.W.typeIn K (.ref S) == some (.type "type")) = true := by
    have q : (PySem.W.clsIn K S).isSome = true := h2
    rw [q, h3] <;> rfl
  show (if (PySem.W.subIn K (.ref S) (.type "BaseException") == some true) = true then (if ((PySem.W.clsIn K S).isSome && PySem.W.typeIn K (.ref S) == some (.type "type")) = true then PySem.W.subIn K (.ref S) (.ref S) else none) else none) = some true
  rw [if_pos e1, if_pos e2]
  exact h4
theorem ks_of {K : PySem.W.Frag} {C N R : Addr} {nm q n : Str} {bs bm : List Value} {sn : List Str} {sub : List Value} {ab : Bool} {col : Option Bool} {dd : Option Addr} {m0 m1 m2 m3 m5 : Option Value} {cR : Value} {dR : Option Addr} {cdR : ClassData} {sR : Array (Option Value)} {r : Option (Option Value)}
    (xL : K.lookup C = some (excClassObj nm q C N bs bm true sn sub ab col dd m0 m1 m2 m3 m5 "ValueError.__new__")) (xR : K.lookup R = some ⟨cR, dR, .cls cdR, sR⟩) (mR : cdR.mro = bm) (iR : PySem.W.findIn K (.ref R) n = r) : PySem.W.ks_superIn K C C n = r := by
  have hcl : PySem.W.clsIn K C = some { name := nm, bases := bs, mro := .ref C :: bm, ns := N, qualname := q, hasDict := true, slotNames := sn, subclasses := sub, abstract := ab, collection := col, hasDel := false } := by unfold PySem.W.clsIn; rw [xL] <;> rfl
  have e : ((Value.ref C :: bm).dropWhile (· != Value.ref C)).drop 1 = bm := by simp [List.dropWhile]
  have f : PySem.W.findIn K (.ref R) n = PySem.W.alongIn K n bm := by
    rw [← mR]
    show (match K.lookup R with | some ⟨_, _, .cls cd, _⟩ => PySem.W.alongIn K n cd.mro | _ => none) = _
    rw [xR]
  unfold PySem.W.ks_superIn
  rw [hcl]
  show PySem.W.alongIn K n (((Value.ref C :: bm).dropWhile (· != Value.ref C)).drop 1) = r
  rw [e, ← f]
  exact iR
theorem all_mk {P : Program} {w : World} {K : PySem.W.Frag} {h : Heap} {mg : Str → Option Value} {fa R C_1 f0_1 cc_1 cda_1 N_1 f_IN f_NO f_NS f_PO f_WP f_WR f_RD f_RI f_RN f_ST f_DR f_NU f_NM f_EV f_DU f_TO f_BE f_LAW kw wo : Addr} (X : K.In h) (G : h.Ns mainGlobals mg) (hfa : mg "law" = some (.ref fa))
    {cR : Value} {dR : Option Addr} {cdR : ClassData} {sR : Array (Option Value)}
    {nm_1 q_1 file_1 : Str} {bs_1 bm_1 sub_1 : List Value} {sn_1 : List Str} {ab_1 : Bool} {col_1 : Option Bool} {dd_1 cld_1 cdd_1 od0_1 an0_1 : Option Addr} {m0_1 m1_1 m2_1 m3_1 m5_1 : Option Value} {cl_1 ccl_1 oc0_1 kV0_1 dc0_1 pm0_1 ct0_1 : Value} {csl_1 ccs_1 sl0_1 : Array (Option Value)} {vs_1 : Array Value} {tf_1 : Nat}
    {t_L : Nat}
    {t_N : Nat}
    {t_D : Nat}
    {t_M : Nat}
    {t_P : Nat}
    {ddK : Option Addr} {itK : Array Value} {nK : Nat} {slK : Array (Option Value)}
    {h1 h2 : Int} {t1 t2 u1 u2 : Tok} {nW : Nat}
    {od_IN an_IN : Option Addr} {sl_IN : Array (Option Value)} {oc_IN kV_IN dc_IN pm_IN cd_IN ct_IN : Value}
    {od_NO an_NO : Option Addr} {sl_NO : Array (Option Value)} {oc_NO kV_NO dc_NO pm_NO cd_NO ct_NO : Value}
    {od_NS an_NS : Option Addr} {sl_NS : Array (Option Value)} {oc_NS kV_NS dc_NS pm_NS cd_NS ct_NS : Value}
    {od_PO an_PO : Option Addr} {sl_PO : Array (Option Value)} {oc_PO kV_PO dc_PO pm_PO cd_PO ct_PO : Value}
    {od_WP an_WP : Option Addr} {sl_WP : Array (Option Value)} {oc_WP kV_WP dc_WP pm_WP cd_WP ct_WP : Value}
    {od_WR an_WR : Option Addr} {sl_WR : Array (Option Value)} {oc_WR kV_WR dc_WR pm_WR cd_WR ct_WR : Value}
    {od_RD an_RD : Option Addr} {sl_RD : Array (Option Value)} {oc_RD kV_RD dc_RD pm_RD cd_RD ct_RD : Value}
    {od_RI an_RI : Option Addr} {sl_RI : Array (Option Value)} {oc_RI kV_RI dc_RI pm_RI cd_RI ct_RI : Value}
    {od_RN an_RN : Option Addr} {sl_RN : Array (Option Value)} {oc_RN kV_RN dc_RN pm_RN cd_RN ct_RN : Value}
    {od_ST an_ST : Option Addr} {sl_ST : Array (Option Value)} {oc_ST kV_ST dc_ST pm_ST cd_ST ct_ST : Value}
    {od_DR an_DR : Option Addr} {sl_DR : Array (Option Value)} {oc_DR kV_DR dc_DR pm_DR cd_DR ct_DR : Value}
    {od_NU an_NU : Option Addr} {sl_NU : Array (Option Value)} {oc_NU kV_NU dc_NU pm_NU cd_NU ct_NU : Value}
    {od_NM an_NM : Option Addr} {sl_NM : Array (Option Value)} {oc_NM kV_NM dc_NM pm_NM cd_NM ct_NM : Value}
    {od_EV an_EV : Option Addr} {sl_EV : Array (Option Value)} {oc_EV kV_EV dc_EV pm_EV cd_EV ct_EV : Value}
    {od_DU an_DU : Option Addr} {sl_DU : Array (Option Value)} {oc_DU kV_DU dc_DU pm_DU cd_DU ct_DU : Value}
    {od_TO an_TO : Option Addr} {sl_TO : Array (Option Value)} {oc_TO kV_TO dc_TO pm_TO cd_TO ct_TO : Value}
    {od_BE an_BE : Option Addr} {sl_BE : Array (Option Value)} {oc_BE kV_BE dc_BE pm_BE cd_BE ct_BE : Value}
    {od_LAW an_LAW : Option Addr} {sl_LAW : Array (Option Value)} {oc_LAW kV_LAW dc_LAW pm_LAW cd_LAW ct_LAW : Value}
    (aR : PySem.W.nsIn K mainGlobals "RetroactError" = some (some (.ref R)))
    (xR : K.lookup R = some ⟨cR, dR, .cls cdR, sR⟩)
    (iR : PySem.W.findIn K (.ref R) "__init__" = some (some (.builtin "ValueError.__init__")))
    (tp : (P.main.scope.names.lookup ("super" : Str)).isSome = false)
    (oq : PySem.W.nsIn K cStatics "thirdparty.any" = some none)
    (zsup : PySem.W.nsIn K mainGlobals "super" = some none)
    (aC_1 : PySem.W.nsIn K mainGlobals "InvalidLine" = some (some (.ref C_1)))
    (xL_1 : K.lookup C_1 = some (excClassObj nm_1 q_1 C_1 N_1 bs_1 bm_1 true sn_1 sub_1 ab_1 col_1 dd_1 m0_1 m1_1 m2_1 m3_1 m5_1 "ValueError.__new__"))
    (bv_1 : PySem.HandSPX.refsVE bm_1 = true)
    (sa_1 : PySem.W.findIn K (.ref C_1) "__setattr__" = some (some (.builtin "object.__setattr__")))
    (eC_1 : PySem.W.subIn K (.ref C_1) (.type "BaseException") = some true)
    (tC_1 : PySem.W.typeIn K (.ref C_1) = some (.type "type"))
    (kC_1 : PySem.W.keepIn K (.ref C_1) = true)
    (nR_1 : PySem.W.findIn K (.ref C_1) "number" = some none)
    (iC_1 : PySem.W.findIn K (.ref C_1) "__init__" = some (some (.ref f0_1)))
    (tI_1 : PySem.W.typeIn K (.ref f0_1) = some (.type "function"))
    (l0_1 : K.lookup f0_1 = some ⟨oc0_1, od0_1, .func (PySem.W.ksFn "__init__" "InvalidLine.__init__" (defArgs sInit) (defBody sInit) (defScope sInit) .none kV0_1 dc0_1 pm0_1 an0_1 (.ref cda_1) ct0_1 cc_1), sl0_1⟩)
    (c0_1 : PySem.W.codeIn K (.ref cda_1) "InvalidLine.__init__" = true)
    (xc_1 : K.lookup cc_1 = some ⟨cl_1, cld_1, .cell (some (.ref C_1)), csl_1⟩)
    (xd_1 : K.lookup cda_1 = some ⟨ccl_1, cdd_1, .fields vs_1, ccs_1⟩)
    (xv_1 : vs_1[2]? = some (.str file_1 tf_1))
    (xf_1 : ((P.main.file : Str) == file_1) = true)
    (se_1 : PySem.W.mroIn K C_1 (.ref C_1) = some true)
    (mR_1 : cdR.mro = bm_1)
    (vE_1 : PySem.W.subIn K (.ref C_1) (.type "ValueError") = some true)
    (ga_1 : PySem.W.findIn K (.ref C_1) "__getattribute__" = some (some (.builtin "BaseException.__getattribute__")))
    (gg_1 : PySem.W.findIn K (.ref C_1) "__getattr__" = some none)
    (hC_1 : PySem.W.hasDictIn K C_1 = true)
    (ic_1 : PySem.W.isClsIn K C_1 = true)
    (sC_1 : PySem.W.subIn K (.ref C_1) (.ref C_1) = some true)
    (z_isinstance : PySem.W.nsIn K mainGlobals "isinstance" = some none)
    (z_int : PySem.W.nsIn K mainGlobals "int" = some none)
    (z_bool : PySem.W.nsIn K mainGlobals "bool" = some none)
    (z_str : PySem.W.nsIn K mainGlobals "str" = some none)
    (z_len : PySem.W.nsIn K mainGlobals "len" = some none)
    (z_list : PySem.W.nsIn K mainGlobals "list" = some none)
    (z_tuple : PySem.W.nsIn K mainGlobals "tuple" = some none)
    (z_range : PySem.W.nsIn K mainGlobals "range" = some none)
    (z_all : PySem.W.nsIn K mainGlobals "all" = some none)
    (g_L : PySem.W.nsIn K mainGlobals "SMALL_LETTERS" = some (some (.str low t_L)))
    (g_N : PySem.W.nsIn K mainGlobals "LONGEST_NAME" = some (some (.int 12 t_N)))
    (g_D : PySem.W.nsIn K mainGlobals "DIGITS" = some (some (.str dig t_D)))
    (g_M : PySem.W.nsIn K mainGlobals "MOST_DIGITS" = some (some (.int 10 t_M)))
    (g_P : PySem.W.nsIn K mainGlobals "MAIN_PATH" = some (some (.str "main" t_P)))
    (gKw : PySem.W.nsIn K mainGlobals "KEY_WORDS" = some (some (.ref kw)))
    (xKw : K.lookup kw = some ⟨.type "tuple", ddK, .seq itK nK, slK⟩)
    (vKw : txOf itK.toList = some keys)
    (gWo : PySem.W.nsIn K mainGlobals "WORDS" = some (some (.ref wo)))
    (xWo : K.lookup wo = some ⟨.type "dict", none, .dict #[⟨h1, .str "deliver" t1, .int 2 u1⟩, ⟨h2, .str "answer" t2, .int 3 u2⟩] nW, #[]⟩)
    (e1W : h1 = PyData.keyHash w.params "deliver")
    (e2W : h2 = PyData.keyHash w.params "answer")
    (loW : (wo == sysModules) = false)
    (a_IN : PySem.W.nsIn K mainGlobals "is_name" = some (some (.ref f_IN)))
    (l_IN : K.lookup f_IN = some ⟨oc_IN, od_IN, .func (PySem.W.fnOf "is_name" "is_name" (defArgs sName) (defBody sName) (defScope sName) .none kV_IN dc_IN pm_IN an_IN cd_IN ct_IN), sl_IN⟩)
    (c_IN : PySem.W.codeIn K cd_IN "is_name" = true)
    (k_IN : PySem.W.keepIn K (.ref f_IN) = true)
    (a_NO : PySem.W.nsIn K mainGlobals "number_of" = some (some (.ref f_NO)))
    (l_NO : K.lookup f_NO = some ⟨oc_NO, od_NO, .func (PySem.W.fnOf "number_of" "number_of" (defArgs sNumO) (defBody sNumO) (defScope sNumO) .none kV_NO dc_NO pm_NO an_NO cd_NO ct_NO), sl_NO⟩)
    (c_NO : PySem.W.codeIn K cd_NO "number_of" = true)
    (k_NO : PySem.W.keepIn K (.ref f_NO) = true)
    (a_NS : PySem.W.nsIn K mainGlobals "numbers_of" = some (some (.ref f_NS)))
    (l_NS : K.lookup f_NS = some ⟨oc_NS, od_NS, .func (PySem.W.fnOf "numbers_of" "numbers_of" (defArgs sNumsO) (defBody sNumsO) (defScope sNumsO) .none kV_NS dc_NS pm_NS an_NS cd_NS ct_NS), sl_NS⟩)
    (c_NS : PySem.W.codeIn K cd_NS "numbers_of" = true)
    (k_NS : PySem.W.keepIn K (.ref f_NS) = true)
    (a_PO : PySem.W.nsIn K mainGlobals "path_of" = some (some (.ref f_PO)))
    (l_PO : K.lookup f_PO = some ⟨oc_PO, od_PO, .func (PySem.W.fnOf "path_of" "path_of" (defArgs sPathO) (defBody sPathO) (defScope sPathO) .none kV_PO dc_PO pm_PO an_PO cd_PO ct_PO), sl_PO⟩)
    (c_PO : PySem.W.codeIn K cd_PO "path_of" = true)
    (k_PO : PySem.W.keepIn K (.ref f_PO) = true)
    (a_WP : PySem.W.nsIn K mainGlobals "write_path" = some (some (.ref f_WP)))
    (l_WP : K.lookup f_WP = some ⟨oc_WP, od_WP, .func (PySem.W.fnOf "write_path" "write_path" (defArgs sWPath) (defBody sWPath) (defScope sWPath) .none kV_WP dc_WP pm_WP an_WP cd_WP ct_WP), sl_WP⟩)
    (c_WP : PySem.W.codeIn K cd_WP "write_path" = true)
    (k_WP : PySem.W.keepIn K (.ref f_WP) = true)
    (a_WR : PySem.W.nsIn K mainGlobals "write_event" = some (some (.ref f_WR)))
    (l_WR : K.lookup f_WR = some ⟨oc_WR, od_WR, .func (PySem.W.fnOf "write_event" "write_event" (defArgs sWrite) (defBody sWrite) (defScope sWrite) .none kV_WR dc_WR pm_WR an_WR cd_WR ct_WR), sl_WR⟩)
    (c_WR : PySem.W.codeIn K cd_WR "write_event" = true)
    (k_WR : PySem.W.keepIn K (.ref f_WR) = true)
    (a_RD : PySem.W.nsIn K mainGlobals "read_event" = some (some (.ref f_RD)))
    (l_RD : K.lookup f_RD = some ⟨oc_RD, od_RD, .func (PySem.W.fnOf "read_event" "read_event" (defArgs sRead) (defBody sRead) (defScope sRead) .none kV_RD dc_RD pm_RD an_RD cd_RD ct_RD), sl_RD⟩)
    (c_RD : PySem.W.codeIn K cd_RD "read_event" = true)
    (k_RD : PySem.W.keepIn K (.ref f_RD) = true)
    (a_RI : PySem.W.nsIn K mainGlobals "_read_input" = some (some (.ref f_RI)))
    (l_RI : K.lookup f_RI = some ⟨oc_RI, od_RI, .func (PySem.W.fnOf "_read_input" "_read_input" (defArgs sRI) (defBody sRI) (defScope sRI) .none kV_RI dc_RI pm_RI an_RI cd_RI ct_RI), sl_RI⟩)
    (c_RI : PySem.W.codeIn K cd_RI "_read_input" = true)
    (k_RI : PySem.W.keepIn K (.ref f_RI) = true)
    (a_RN : PySem.W.nsIn K mainGlobals "_read_numbers" = some (some (.ref f_RN)))
    (l_RN : K.lookup f_RN = some ⟨oc_RN, od_RN, .func (PySem.W.fnOf "_read_numbers" "_read_numbers" (defArgs sRN) (defBody sRN) (defScope sRN) .none kV_RN dc_RN pm_RN an_RN cd_RN ct_RN), sl_RN⟩)
    (c_RN : PySem.W.codeIn K cd_RN "_read_numbers" = true)
    (k_RN : PySem.W.keepIn K (.ref f_RN) = true)
    (a_ST : PySem.W.nsIn K mainGlobals "_law_state" = some (some (.ref f_ST)))
    (l_ST : K.lookup f_ST = some ⟨oc_ST, od_ST, .func (PySem.W.fnOf "_law_state" "_law_state" (defArgs sState) (defBody sState) (defScope sState) .none kV_ST dc_ST pm_ST an_ST cd_ST ct_ST), sl_ST⟩)
    (c_ST : PySem.W.codeIn K cd_ST "_law_state" = true)
    (k_ST : PySem.W.keepIn K (.ref f_ST) = true)
    (a_DR : PySem.W.nsIn K mainGlobals "_law_draw" = some (some (.ref f_DR)))
    (l_DR : K.lookup f_DR = some ⟨oc_DR, od_DR, .func (PySem.W.fnOf "_law_draw" "_law_draw" (defArgs sDraw) (defBody sDraw) (defScope sDraw) .none kV_DR dc_DR pm_DR an_DR cd_DR ct_DR), sl_DR⟩)
    (c_DR : PySem.W.codeIn K cd_DR "_law_draw" = true)
    (k_DR : PySem.W.keepIn K (.ref f_DR) = true)
    (a_NU : PySem.W.nsIn K mainGlobals "_law_number" = some (some (.ref f_NU)))
    (l_NU : K.lookup f_NU = some ⟨oc_NU, od_NU, .func (PySem.W.fnOf "_law_number" "_law_number" (defArgs sLNum) (defBody sLNum) (defScope sLNum) .none kV_NU dc_NU pm_NU an_NU cd_NU ct_NU), sl_NU⟩)
    (c_NU : PySem.W.codeIn K cd_NU "_law_number" = true)
    (k_NU : PySem.W.keepIn K (.ref f_NU) = true)
    (a_NM : PySem.W.nsIn K mainGlobals "_law_name" = some (some (.ref f_NM)))
    (l_NM : K.lookup f_NM = some ⟨oc_NM, od_NM, .func (PySem.W.fnOf "_law_name" "_law_name" (defArgs sLName) (defBody sLName) (defScope sLName) .none kV_NM dc_NM pm_NM an_NM cd_NM ct_NM), sl_NM⟩)
    (c_NM : PySem.W.codeIn K cd_NM "_law_name" = true)
    (k_NM : PySem.W.keepIn K (.ref f_NM) = true)
    (a_EV : PySem.W.nsIn K mainGlobals "_law_event" = some (some (.ref f_EV)))
    (l_EV : K.lookup f_EV = some ⟨oc_EV, od_EV, .func (PySem.W.fnOf "_law_event" "_law_event" (defArgs sEvent) (defBody sEvent) (defScope sEvent) .none kV_EV dc_EV pm_EV an_EV cd_EV ct_EV), sl_EV⟩)
    (c_EV : PySem.W.codeIn K cd_EV "_law_event" = true)
    (k_EV : PySem.W.keepIn K (.ref f_EV) = true)
    (a_DU : PySem.W.nsIn K mainGlobals "_law_due" = some (some (.ref f_DU)))
    (l_DU : K.lookup f_DU = some ⟨oc_DU, od_DU, .func (PySem.W.fnOf "_law_due" "_law_due" (defArgs sDue) (defBody sDue) (defScope sDue) .none kV_DU dc_DU pm_DU an_DU cd_DU ct_DU), sl_DU⟩)
    (c_DU : PySem.W.codeIn K cd_DU "_law_due" = true)
    (k_DU : PySem.W.keepIn K (.ref f_DU) = true)
    (a_TO : PySem.W.nsIn K mainGlobals "_law_told" = some (some (.ref f_TO)))
    (l_TO : K.lookup f_TO = some ⟨oc_TO, od_TO, .func (PySem.W.fnOf "_law_told" "_law_told" (defArgs sTold) (defBody sTold) (defScope sTold) .none kV_TO dc_TO pm_TO an_TO cd_TO ct_TO), sl_TO⟩)
    (c_TO : PySem.W.codeIn K cd_TO "_law_told" = true)
    (k_TO : PySem.W.keepIn K (.ref f_TO) = true)
    (a_BE : PySem.W.nsIn K mainGlobals "_law_bent" = some (some (.ref f_BE)))
    (l_BE : K.lookup f_BE = some ⟨oc_BE, od_BE, .func (PySem.W.fnOf "_law_bent" "_law_bent" (defArgs sBent) (defBody sBent) (defScope sBent) .none kV_BE dc_BE pm_BE an_BE cd_BE ct_BE), sl_BE⟩)
    (c_BE : PySem.W.codeIn K cd_BE "_law_bent" = true)
    (k_BE : PySem.W.keepIn K (.ref f_BE) = true)
    (a_LAW : PySem.W.nsIn K mainGlobals "law" = some (some (.ref f_LAW)))
    (l_LAW : K.lookup f_LAW = some ⟨oc_LAW, od_LAW, .func (PySem.W.fnOf "law" "law" (defArgs sLaw) (defBody sLaw) (defScope sLaw) .none kV_LAW dc_LAW pm_LAW an_LAW cd_LAW ct_LAW), sl_LAW⟩)
    (c_LAW : PySem.W.codeIn K cd_LAW "law" = true)
    (k_LAW : PySem.W.keepIn K (.ref f_LAW) = true) :
    ∃ fd : FuncData, (∀ (s : Shared) (u : Value), BindsTo s fd ⟨[u], []⟩ [("script", u)]) ∧ ∀ base : Heap, K.In base → base.Ns mainGlobals mg → FnOk P w K mg base CX0 7 fa fd ["script"] (spLaw K) := by
  have e := hfa.symm.trans (PySem.W.mg_of X G a_LAW)
  cases e
  have zz : ∀ {x : Str}, PySem.W.nsIn K mainGlobals x = some none → mg x = none := fun e => PySem.W.mg_none_of X G e
  have T1 : Ex1 P K mg C_1 f0_1 cc_1 cda_1 "InvalidLine" :=
    { su := { ox := ⟨⟨nm_1, q_1, N_1, bs_1, bm_1, sn_1, sub_1, ab_1, col_1, dd_1, m0_1, m1_1, m2_1, m3_1, m5_1, xL_1, bv_1⟩, sa_1, eC_1, tC_1, kC_1⟩, cell := ⟨_, _, _, xc_1⟩, code := ⟨_, _, _, _, _, _, xd_1, xv_1, xf_1⟩, self := se_1, sup := zz zsup, top := tp, opq := oq, ini := ks_of xL_1 xR mR_1 iR, vE := vE_1 }, noR := nR_1, iC := iC_1, tI := tI_1, gF := PySem.W.mg_of X G aC_1, xf := ⟨ga_1, gg_1, eC_1, hC_1⟩, te := exm_own eC_1 ic_1 tC_1 sC_1 }
  have bE_1 : Binds K (PySem.W.ksFn "__init__" "InvalidLine.__init__" (defArgs sInit) (defBody sInit) (defScope sInit) .none kV0_1 dc0_1 pm0_1 an0_1 (.ref cda_1) ct0_1 cc_1) ["self", "number"] [] := .all fun us hl => match us, hl with | [_, _], _ => rfl
  have F_IN := fun_mk (st := sName) l_IN c_IN k_IN
  have L_IN : Cal K mg "is_name" _ _ ["text"] := ⟨PySem.W.mg_of X G a_IN, k_IN, F_IN.binds fun _ _ _ _ _ _ us hl => match us, hl with | [_], _ => rfl⟩
  have F_NO := fun_mk (st := sNumO) l_NO c_NO k_NO
  have L_NO : Cal K mg "number_of" _ _ ["word"] := ⟨PySem.W.mg_of X G a_NO, k_NO, F_NO.binds fun _ _ _ _ _ _ us hl => match us, hl with | [_], _ => rfl⟩
  have F_NS := fun_mk (st := sNumsO) l_NS c_NS k_NS
  have L_NS : Cal K mg "numbers_of" _ _ ["words"] := ⟨PySem.W.mg_of X G a_NS, k_NS, F_NS.binds fun _ _ _ _ _ _ us hl => match us, hl with | [_], _ => rfl⟩
  have F_PO := fun_mk (st := sPathO) l_PO c_PO k_PO
  have L_PO : Cal K mg "path_of" _ _ ["word"] := ⟨PySem.W.mg_of X G a_PO, k_PO, F_PO.binds fun _ _ _ _ _ _ us hl => match us, hl with | [_], _ => rfl⟩
  have F_WP := fun_mk (st := sWPath) l_WP c_WP k_WP
  have L_WP : Cal K mg "write_path" _ _ ["path"] := ⟨PySem.W.mg_of X G a_WP, k_WP, F_WP.binds fun _ _ _ _ _ _ us hl => match us, hl with | [_], _ => rfl⟩
  have F_WR := fun_mk (st := sWrite) l_WR c_WR k_WR
  have L_WR : Cal K mg "write_event" _ _ ["event"] := ⟨PySem.W.mg_of X G a_WR, k_WR, F_WR.binds fun _ _ _ _ _ _ us hl => match us, hl with | [_], _ => rfl⟩
  have F_RD := fun_mk (st := sRead) l_RD c_RD k_RD
  have L_RD : Cal K mg "read_event" _ _ ["line"] := ⟨PySem.W.mg_of X G a_RD, k_RD, F_RD.binds fun _ _ _ _ _ _ us hl => match us, hl with | [_], _ => rfl⟩
  have F_RI := fun_mk (st := sRI) l_RI c_RI k_RI
  have L_RI : Cal K mg "_read_input" _ _ ["words"] := ⟨PySem.W.mg_of X G a_RI, k_RI, F_RI.binds fun _ _ _ _ _ _ us hl => match us, hl with | [_], _ => rfl⟩
  have F_RN := fun_mk (st := sRN) l_RN c_RN k_RN
  have L_RN : Cal K mg "_read_numbers" _ _ ["words"] := ⟨PySem.W.mg_of X G a_RN, k_RN, F_RN.binds fun _ _ _ _ _ _ us hl => match us, hl with | [_], _ => rfl⟩
  have F_ST := fun_mk (st := sState) l_ST c_ST k_ST
  have L_ST : Cal K mg "_law_state" _ _ ["script"] := ⟨PySem.W.mg_of X G a_ST, k_ST, F_ST.binds fun _ _ _ _ _ _ us hl => match us, hl with | [_], _ => rfl⟩
  have F_DR := fun_mk (st := sDraw) l_DR c_DR k_DR
  have L_DR : Cal K mg "_law_draw" _ _ ["state", "many"] := ⟨PySem.W.mg_of X G a_DR, k_DR, F_DR.binds fun _ _ _ _ _ _ us hl => match us, hl with | [_, _], _ => rfl⟩
  have F_NU := fun_mk (st := sLNum) l_NU c_NU k_NU
  have L_NU : Cal K mg "_law_number" _ _ ["state"] := ⟨PySem.W.mg_of X G a_NU, k_NU, F_NU.binds fun _ _ _ _ _ _ us hl => match us, hl with | [_], _ => rfl⟩
  have F_NM := fun_mk (st := sLName) l_NM c_NM k_NM
  have L_NM : Cal K mg "_law_name" _ _ ["state"] := ⟨PySem.W.mg_of X G a_NM, k_NM, F_NM.binds fun _ _ _ _ _ _ us hl => match us, hl with | [_], _ => rfl⟩
  have F_EV := fun_mk (st := sEvent) l_EV c_EV k_EV
  have L_EV : Cal K mg "_law_event" _ _ ["state"] := ⟨PySem.W.mg_of X G a_EV, k_EV, F_EV.binds fun _ _ _ _ _ _ us hl => match us, hl with | [_], _ => rfl⟩
  have F_DU := fun_mk (st := sDue) l_DU c_DU k_DU
  have L_DU : Cal K mg "_law_due" _ _ ["event"] := ⟨PySem.W.mg_of X G a_DU, k_DU, F_DU.binds fun _ _ _ _ _ _ us hl => match us, hl with | [_], _ => rfl⟩
  have F_TO := fun_mk (st := sTold) l_TO c_TO k_TO
  have L_TO : Cal K mg "_law_told" _ _ ["line"] := ⟨PySem.W.mg_of X G a_TO, k_TO, F_TO.binds fun _ _ _ _ _ _ us hl => match us, hl with | [_], _ => rfl⟩
  have F_BE := fun_mk (st := sBent) l_BE c_BE k_BE
  have L_BE : Cal K mg "_law_bent" _ _ ["state", "line"] := ⟨PySem.W.mg_of X G a_BE, k_BE, F_BE.binds fun _ _ _ _ _ _ us hl => match us, hl with | [_, _], _ => rfl⟩
  have F_LAW := fun_mk (st := sLaw) l_LAW c_LAW k_LAW
  refine ⟨PySem.W.fnOf "law" "law" (defArgs sLaw) (defBody sLaw) (defScope sLaw) .none kV_LAW dc_LAW pm_LAW an_LAW cd_LAW ct_LAW, fun s u => .of_eq rfl, fun base _ _ => ?_⟩
  have T : Txt K mg kw wo := { zisi := zz z_isinstance, zint := zz z_int, zbool := zz z_bool, zstr := zz z_str, zlen := zz z_len, zlist := zz z_list, ztuple := zz z_tuple, zrng := zz z_range, zall := zz z_all, gKw := PySem.W.mg_of X G gKw, kKw := kw_of xKw vKw, gLow := ⟨_, PySem.W.mg_of X G g_L⟩, gLn := ⟨_, PySem.W.mg_of X G g_N⟩, gDi := ⟨_, PySem.W.mg_of X G g_D⟩, gMd := ⟨_, PySem.W.mg_of X G g_M⟩, gMp := ⟨_, PySem.W.mg_of X G g_P⟩, gWo := PySem.W.mg_of X G gWo }
  have W : Wd K w wo := wd_of xWo e1W e2W loW
  have GI := ok_init (w := w) (base := base) T1 l0_1 c0_1
  have G_IN := ok_name (P := P) (w := w) (base := base) F_IN T
  have G_NO := ok_numo (P := P) (w := w) (base := base) F_NO T
  have G_NS := ok_numso F_NS T G_NO L_NO
  have G_PO := ok_patho F_PO T G_NS L_NS
  have G_WP := ok_wpath (P := P) (w := w) (base := base) F_WP T
  have G_WR := ok_write F_WR T G_WP L_WP
  have G_RI := ok_ri F_RI T G_IN L_IN G_PO L_PO G_NS L_NS
  have G_RN := ok_rn F_RN T W G_NS L_NS
  have G_RD := ok_read F_RD T T1 GI bE_1 G_RI L_RI G_RN L_RN
  have G_ST := ok_state (P := P) (w := w) (base := base) F_ST T
  have G_DR := fun l => ok_draw (P := P) (w := w) (base := base) (l := l) F_DR T
  have G_NU := fun l => ok_lnum F_NU T (G_DR l) L_DR
  have G_NM := fun l => ok_lname F_NM T (G_DR l) L_DR
  have G_EV := any_sp fun l => ok_event F_EV T (G_DR l) L_DR (G_NU l) L_NU (G_NM l) L_NM
  have G_BE := any_sp fun l => ok_bent F_BE T (G_DR l) L_DR
  have G_DU := ok_due (P := P) (w := w) (base := base) F_DU T
  have G_TO := ok_told F_TO T1 G_RD L_RD
  exact ok_law F_LAW T G_ST L_ST G_EV L_EV G_WR L_WR G_DU L_DU (ok_readq G_RD) L_RD G_BE L_BE G_TO L_TO
theorem walk {l : PySem.W.OpenLaw} {q : Program} {loose : List Str} {XP : (Str → Option Value) → Heap → Prop} {YP : World → Heap → Prop} {d : DefRec} {K : Params → PySem.W.Frag} (hn : l.most = some 63) (hdf : d.params.defaults = [])
    (hY : ∀ (w : World) (h : Heap), YP w h → (K w.params).In h)
    (F : ∀ (w : World) (mg : Str → Option Value) (fa : Addr) (h : Heap), (K w.params).In h → h.Ns mainGlobals mg → mg d.name = some (.ref fa) →
      ∃ fd : FuncData, (∀ (s : Shared) (u : Value), BindsTo s fd ⟨[u], []⟩ [("script", u)]) ∧ ∀ base : Heap, (K w.params).In base → base.Ns mainGlobals mg → FnOk l.prog w (K w.params) mg base CX0 7 fa fd ["script"] (spLaw (K w.params))) :
    PySem.W.WalkO q loose XP YP l.row.toRowW d [] (fun f vs => PySem.call f vs) :=
  L2.walk_of (n := 63) (k := 7) (x := "script") (CX := fun _ => CX0) (sp := fun w => spLaw (K w.params)) hn (by decide) hdf ⟨rfl, by decide, by decide⟩ hY F (fun _ _ a ns hl _ hS => ⟨a, ns, rfl, hS, fun _ => rfl⟩) fun _ _ _ _ _ z => z
end KQ
open PySem PySem.W PyProof.Rows
set_option maxRecDepth 100000 in
set_option maxHeartbeats 0 in
theorem PySem.Challenge.cw_retroact_k19_events_as_lines_holds : PySem.Challenge.rw_retroact_k19_events_as_lines.Holds := by
  w_on; o_law; k_head; (case hw => w_witness2)
  k_fill
  refine KQ.walk (l := PySem.Challenge.rw_retroact_k19_events_as_lines) rfl rfl (fun w h Y => PySem.W.kIn_of Y) ?F
  case F =>
    intro w mg fa h KX G hmg
    refine' KQ.all_mk KX G hmg ?aR ?xR ?iR ?tp ?oq ?zsup ?aC_1 ?xL_1 ?bv_1 ?sa_1 ?eC_1 ?tC_1 ?kC_1 ?nR_1 ?iC_1 ?tI_1 ?l0_1 ?c0_1 ?xc_1 ?xd_1 ?xv_1 ?xf_1 ?se_1 ?mR_1 ?vE_1 ?ga_1 ?gg_1 ?hC_1 ?ic_1 ?sC_1 ?z_isinstance ?z_int ?z_bool ?z_str ?z_len ?z_list ?z_tuple ?z_range ?z_all ?g_L ?g_N ?g_D ?g_M ?g_P ?gKw ?xKw ?vKw ?gWo ?xWo ?e1W ?e2W ?loW ?a_IN ?l_IN ?c_IN ?k_IN ?a_NO ?l_NO ?c_NO ?k_NO ?a_NS ?l_NS ?c_NS ?k_NS ?a_PO ?l_PO ?c_PO ?k_PO ?a_WP ?l_WP ?c_WP ?k_WP ?a_WR ?l_WR ?c_WR ?k_WR ?a_RD ?l_RD ?c_RD ?k_RD ?a_RI ?l_RI ?c_RI ?k_RI ?a_RN ?l_RN ?c_RN ?k_RN ?a_ST ?l_ST ?c_ST ?k_ST ?a_DR ?l_DR ?c_DR ?k_DR ?a_NU ?l_NU ?c_NU ?k_NU ?a_NM ?l_NM ?c_NM ?k_NM ?a_EV ?l_EV ?c_EV ?k_EV ?a_DU ?l_DU ?c_DU ?k_DU ?a_TO ?l_TO ?c_TO ?k_TO ?a_BE ?l_BE ?c_BE ?k_BE ?a_LAW ?l_LAW ?c_LAW ?k_LAW
    (case aR => k_is)
    (case xR => k_is)
    (case iR => k_is)
    (case tp => decide +kernel)
    (case oq => k_is)
    (case zsup => k_is)
    (case aC_1 => k_is)
    (case xL_1 => k_is)
    (case bv_1 => decide +kernel)
    (case sa_1 => k_is)
    (case eC_1 => k_is)
    (case tC_1 => k_is)
    (case kC_1 => k_is)
    (case nR_1 => k_is)
    (case iC_1 => k_is)
    (case tI_1 => k_is)
    (case l0_1 => k_is)
    (case c0_1 => k_is)
    (case xc_1 => k_is)
    (case xd_1 => k_is)
    (case xv_1 => rfl)
    (case xf_1 => decide +kernel)
    (case se_1 => k_is)
    (case mR_1 => rfl)
    (case vE_1 => k_is)
    (case ga_1 => k_is)
    (case gg_1 => k_is)
    (case hC_1 => k_is)
    (case ic_1 => k_is)
    (case sC_1 => first | rfl | k_is)
    (case z_isinstance => k_is)
    (case z_int => k_is)
    (case z_bool => k_is)
    (case z_str => k_is)
    (case z_len => k_is)
    (case z_list => k_is)
    (case z_tuple => k_is)
    (case z_range => k_is)
    (case z_all => k_is)
    (case g_L => k_is)
    (case g_N => k_is)
    (case g_D => k_is)
    (case g_M => k_is)
    (case g_P => k_is)
    (case gKw => k_is)
    (case xKw => k_is)
    (case vKw => rfl)
    (case gWo => k_is)
    (case xWo => k_is)
    (case e1W => rfl)
    (case e2W => rfl)
    (case loW => decide +kernel)
    (case a_IN => k_is)
    (case l_IN => k_is)
    (case c_IN => k_is)
    (case k_IN => k_is)
    (case a_NO => k_is)
    (case l_NO => k_is)
    (case c_NO => k_is)
    (case k_NO => k_is)
    (case a_NS => k_is)
    (case l_NS => k_is)
    (case c_NS => k_is)
    (case k_NS => k_is)
    (case a_PO => k_is)
    (case l_PO => k_is)
    (case c_PO => k_is)
    (case k_PO => k_is)
    (case a_WP => k_is)
    (case l_WP => k_is)
    (case c_WP => k_is)
    (case k_WP => k_is)
    (case a_WR => k_is)
    (case l_WR => k_is)
    (case c_WR => k_is)
    (case k_WR => k_is)
    (case a_RD => k_is)
    (case l_RD => k_is)
    (case c_RD => k_is)
    (case k_RD => k_is)
    (case a_RI => k_is)
    (case l_RI => k_is)
    (case c_RI => k_is)
    (case k_RI => k_is)
    (case a_RN => k_is)
    (case l_RN => k_is)
    (case c_RN => k_is)
    (case k_RN => k_is)
    (case a_ST => k_is)
    (case l_ST => k_is)
    (case c_ST => k_is)
    (case k_ST => k_is)
    (case a_DR => k_is)
    (case l_DR => k_is)
    (case c_DR => k_is)
    (case k_DR => k_is)
    (case a_NU => k_is)
    (case l_NU => k_is)
    (case c_NU => k_is)
    (case k_NU => k_is)
    (case a_NM => k_is)
    (case l_NM => k_is)
    (case c_NM => k_is)
    (case k_NM => k_is)
    (case a_EV => k_is)
    (case l_EV => k_is)
    (case c_EV => k_is)
    (case k_EV => k_is)
    (case a_DU => k_is)
    (case l_DU => k_is)
    (case c_DU => k_is)
    (case k_DU => k_is)
    (case a_TO => k_is)
    (case l_TO => k_is)
    (case c_TO => k_is)
    (case k_TO => k_is)
    (case a_BE => k_is)
    (case l_BE => k_is)
    (case c_BE => k_is)
    (case k_BE => k_is)
    (case a_LAW => k_is)
    (case l_LAW => k_is)
    (case c_LAW => k_is)
    (case k_LAW => k_is)
#print axioms PySem.Challenge.cw_retroact_k19_events_as_lines_holds
