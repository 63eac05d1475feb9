import PyProof.Rows.All
import Wide.All
import OpenK.AllK
import Wide.FinOn
import KE.KExcSuper
import HandS.ForSpec
import HandS.ExcInit
import HandS.Nested
import HandS.FStr
import HandS.ForMost
import HandS.Zip
import HandS.Walk
import HandS.CallLocal
import HandS.CallSlots
import HandS.DeepEq
import HandS.TryMany
import HandS.ExcField
import HandS.IsInst
import HandS.DictComp
import HandS.Style
import HandS.Star
import HandS.Deep
import PySem.Challenge.RW_retroact_k30_prices_of_deeds
set_option Elab.async false
set_option linter.all false
set_option maxRecDepth 100000
set_option maxHeartbeats 4000000
namespace RX
open PySem PySem.Spec PyProof.Rows L2 LamX NdefX
open PySem.W (kxs_mw KxsAt)
/-! ### the bound built-in __init__ of an exception that is being made, called -/
section
variable {prog : Program} {w : World} {A : Around} {E : Value → Shared → Prop} {h : Heap} {g : Array GenState} {d : Drawn} {t : Nat} {os : OsState}
variable {nm q : Str} {C N : Addr} {bs bm : List Value} {hdct : Bool} {sn : List Str} {sub : List Value} {ab : Bool} {col : Option Bool} {dd : Option Addr} {k0 k1 k2 k3 k5 : Option Value}
theorem call_mw {u e t0 : Addr} {rest : List Value} {Q : Value → Shared → Prop}
    (hC : h.get? C = some (excClassObj nm q C N bs bm hdct sn sub ab col dd k0 k1 k2 k3 k5 "ValueError.__new__")) (he : h.get? e = some (HandSPX.excO C t0)) (hu : h.get? u = some (kxs_mw "ValueError.__init__" e)) (hrest : rest.length ≤ sizeLine)
    (hq : ∀ h' t1, (∀ b o, b ≠ e → h.get? b = some o → h'.get? b = some o) → h'.get? e = some (HandSPX.excO C t1) → Q .none ⟨h', g, d, t, os⟩) :
    wpAny (model prog w) A (call (.ref u) rest) Q E ⟨h, g, d, t, os⟩ := by
  refine wpAny_call (codeAny_of_tree ?_)
  show wpAny _ A.in1 (callAny (.ref u) ⟨rest, []⟩) _ _ _
  simp only [callAny]
  refine wpAny_bind (wpAny_load hu ?_)
  simp only [kxs_mw, show (Value.type "method-wrapper" == Value.type "method" || Value.type "method-wrapper" == Value.type "builtin_function_or_method" || Value.type "method-wrapper" == Value.type "method-wrapper") = true by decide, if_true]
  refine W.KFB.if_so (by decide) ?_
  refine wpAny_bind (W.check_bound_init F.excBase_ValueError.toExcCallFacts hC he rfl ?_)
  refine wpAny_bind (wpAny_pure (wpAny_pure ?_))
  refine ⟨Code.quiet_builtin _ (by decide +kernel), codeAny_builtin F.excBase_ValueError.initEntry ?_⟩
  rw [Around.under_plainId F.excBase_ValueError.init.plain _]
  wp_walk
  refine hq _ h.objs.size (fun b o hb ho => ?_) ?_
  · rw [Heap.get?_update_other _ _ (Ne.symm hb)]
    exact Heap.get?_push_of_some _ ho
  · rw [Heap.get?_update_self _ (Heap.get?_push_of_some _ he) rfl]
    rfl
end
/-- what the written part says of the class for super().__init__ -/
structure SupC (prog : Program) (K : PySem.W.Frag) (mg : Str → Option Value) (C cc cda : Addr) : Prop where
  ox : OexC K C
  cell : ∃ cl cld csl, K.lookup cc = some ⟨cl, cld, .cell (some (.ref C)), csl⟩
  code : ∃ ccl cdd vs ccs file tf, K.lookup cda = some ⟨ccl, cdd, .fields vs, ccs⟩ ∧ vs[2]? = some (.str file tf) ∧ ((prog.main.file : Str) == file) = true
  self : PySem.W.mroIn K C (.ref C) = some true
  sup : mg "super" = none
  top : (prog.main.scope.names.lookup ("super" : Str)).isSome = false
  opq : PySem.W.nsIn K cStatics "thirdparty.any" = some none
  ini : PySem.W.ks_superIn K C C "__init__" = some (some (.builtin "ValueError.__init__"))
  vE : PySem.W.subIn K (.ref C) (.type "ValueError") = some true
theorem startF_head {N : List Str} {a : Addr} {vs : List V} {ws : List (Option V)} : (startF N (.ref a :: vs) ws)[0]? = some (some (.ref a)) := rfl

section
variable {CX : CXT} {P : Program} {w : World} {K : PySem.W.Frag} {mg : Str → Option Value} {base : Heap} {N ps : List Str} {fI cc cda C : Addr} {k : Nat} {sp : Sp}
  {nm qual : Str} {params : Arguments} {body rest : List Stmt} {scope : Scope} {kV doc pm ct oc : Value} {an od : Option Addr} {osl : Array (Option Value)} {e : Expr} {p0 p1 p2 p3 p4 : Pos} {ar : Arg}
abbrev supF (nm qual : Str) (params : Arguments) (body : List Stmt) (scope : Scope) (cc cda : Addr) : NF := ⟨nm, qual, params, body, scope, [("__class__", cc)], cda⟩
theorem fn_super (T : SupC P K mg C cc cda) (S : NScope N ps ["__class__"] scope) (hbd : body = .Expr (.Call (.Attribute (.Call (.Name "super" p0) [] [] p1) "__init__" p2) [e] [] p3) p4 :: rest)
    (lk : K.lookup fI = some ⟨oc, od, .func (PySem.W.ksFn nm qual params body scope .none kV doc pm an (.ref cda) ct cc), osl⟩) (hcd : PySem.W.codeIn K (.ref cda) qual = true)
    (hks : scope.names.lookup ("super" : Str) = some .globalImplicit) (hp : (params.posonlyargs ++ params.args).head? = some ar) (hps : ps.head? = some ar.arg)
    (len : ∀ vs H Q E, sp vs H Q E → vs.length = ps.length)
    (hst : ∀ env : Env, starEach [e] env = (false, eval e env) :: starEach [] env)
    (hev : ∀ L : Addr, ∃ pl : Sem Bool, eval (.Call (.Attribute (.Call (.Name "super" p0) [] [] p1) "__init__" p2) [e] [] p3) (envF (supF nm qual params body scope cc cda) fI L) = (do
      let ov ← attributeBase (.Call (.Name "super" p0) [] [] p1) "__init__" (envF (supF nm qual params body scope cc cda) fI L) (eval (.Call (.Name "super" p0) [] [] p1) (envF (supF nm qual params body scope cc cda) fI L))
      standAt p2.atName
      let (f, first) ← holding [ov] (getMethod ov "__init__" pl)
      callWith p3 f first (backTo p3 (starEach [e] (envF (supF nm qual params body scope cc cda) fI L))) []))
    (hbody : ∀ (A : Around) (outer : List Env) (s : Shared) (H : Hp) (vs : List V) (Q : VK) (E : XK), Room k (A.deeper (envF (supF nm qual params body scope cc cda) fI s.heap.objs.size)) → sp vs H Q E →
      ∃ (a : Addr) (vr : List V) (te : TE) (t : TS), vs = .ref a :: vr ∧ H a = some (exo a C none) ∧ PE (ncx CX P w K mg base N (supF nm qual params body scope cc cda) fI A outer s H E) e te ∧
        PSs (ncx CX P w K mg base N (supF nm qual params body scope cc cda) fI A outer s H E) rest t ∧
        te (startF N vs [none]) H (fun x H1 => ([x] : List V).length = 1 ∧ H1 a = some (exo a C none) ∧ t { nx := fun _ H' => Q .non H', rt := Q } (startF N vs [none]) H1)) :
    FnOk P w K mg base CX (k + 1) fI (PySem.W.ksFn nm qual params body scope .none kV doc pm an (.ref cda) ct cc) ps sp := by
  refine ⟨len, fun A outer s H args us vs Q E hr e0 hb r hsp => ?_⟩
  have hl := len _ _ _ _ hsp
  have X : K.In s.heap := e0.mod.kin.keeps fun b o q => (e0.bs b o q).1
  have lim : s.heap.NoLimit := e0.mod.nolimit.keeps fun b o q => (e0.bs b o q).1
  obtain ⟨cl, cld, csl, hcell⟩ := T.cell
  obtain ⟨ccl, cdd, vsA, ccs, file, tf, hcode, hvs, hfile⟩ := T.code
  obtain ⟨cn, cq, cN, cbs, cbm, csn, csub, cab, ccol, cdd0, k0, k1, k2, k3, k5, hC, hbm⟩ := T.ox.cls
  have hclsC : PySem.W.clsIn K C = some { name := cn, bases := cbs, mro := .ref C :: cbm, ns := cN, qualname := cq, hasDict := true, slotNames := csn, subclasses := csub, abstract := cab, collection := ccol, hasDel := false } := by unfold PySem.W.clsIn; rw [hC] <;> rfl
  refine PySem.ks_codeAny_call_defAt (fd := PySem.W.ksFn nm qual params _ scope .none kV doc pm an (.ref cda) ct cc) (binds := ps.zip us) hr.depth (X _ _ lk) rfl lim (PySem.W.codeRec_of X hcd) rfl hb S.nocell (fun ⟨n, _⟩ hy => S.par n (List.of_mem_zip hy).1) (fun h₁ hns kp => ?_) S.co S.gen S.kind
  obtain ⟨a, vr, te, t, rfl, hexo, hpe, hss, hq⟩ := hbody A outer s H vs Q E (hr.deeper _) hsp
  have ocell : s.heap.get? cc = some ⟨cl, cld, .cell (some (.ref C)), csl⟩ := X _ _ hcell
  have CA : CellsAt (supF nm qual params body scope cc cda).cl ["__class__"] [none] s.heap H := by
    have one : ∀ {y : Str} {c : Addr}, List.lookup y [(("__class__" : Str), cc)] = some c → y = "__class__" ∧ c = cc := fun {y c} z => by
      by_cases hy : y = ("__class__" : Str)
      · subst hy
        simp [List.lookup] at z
        exact ⟨rfl, z.symm⟩
      · have : (y == ("__class__" : Str)) = false := by simpa using hy
        simp [List.lookup, this] at z
    refine ⟨rfl, fun y c z => ?_, fun x y c z1 z2 => ?_, fun i y hy => ?_⟩
    · obtain ⟨_, rfl⟩ := one z
      exact ⟨(e0.bs _ _ (e0.mod.kin _ _ hcell)).2, _, _, ocell, rfl⟩
    · rw [(one z1).1, (one z2).1]
    · refine ⟨cc, ?_, fun v hv => ?_⟩
      · have : y = "__class__" := by
          cases i with
          | zero => simpa using hy.symm
          | succ i => simp at hy
        subst this
        simp [List.lookup]
      · cases i with
        | zero => simp at hv
        | succ i => simp at hv
  have I : Inv (ncx CX P w K mg base N (supF nm qual params body scope cc cda) fI A outer s H E) [] (startF N (.ref a :: vr) [none]) H { s with heap := h₁, toks := s.toks + (ps.zip us).length } :=
    inv_startN S hr.hd e0 hl r CA hns kp
  have ha0 : (startF N (.ref a :: vr) [none])[0]? = some (some (.ref a)) := rfl
  have hN0 : N[0]? = some ar.arg := by
    have e1 : ps[0]? = some ar.arg := by rw [← List.head?_eq_getElem?]; exact hps
    have hlt : 0 < ps.length := (List.getElem?_eq_some_iff.mp e1).1
    have e2 : (ps ++ [("__class__" : Str)])[0]? = some ar.arg := by rw [List.getElem?_append_left hlt]; exact e1
    rw [← S.pre, List.getElem?_take_of_lt (by omega)] at e2
    exact e2
  have hka : scope.names.lookup ar.arg = some .local := S.par _ (List.mem_of_mem_head? hps)
  obtain ⟨m, hn, hl2⟩ := id I.loc
  obtain ⟨ua, ra, la⟩ := hl2 0 ar.arg (.ref a) hN0 ha0 (.inl hka)
  obtain rfl : ua = Value.ref a := ra
  have hma : m ar.arg = some (.ref a) := by
    rcases la with ⟨_, z⟩ | ⟨z, _⟩
    · exact z
    · have hka' : scope.names.lookup ar.arg = some .cell ∨ scope.names.lookup ar.arg = some .free := z
      rw [hka] at hka'
      rcases hka' with z | z <;> cases z
  obtain ⟨mb, hb1, hb2⟩ := I.mod.blt
  obtain ⟨t1, hoa⟩ := exo_at I.hok hexo
  have XI := I.kIn
  show PySem.wpAt (model P w) (A.deeper (envF (supF nm qual params body scope cc cda) fI s.heap.objs.size)) (.func body (envF (supF nm qual params body scope cc cda) fI s.heap.objs.size)) (execs body (envF (supF nm qual params body scope cc cda) fI s.heap.objs.size)) _ (ncx CX P w K mg base N (supF nm qual params body scope cc cda) fI A outer s H E).xe _
  have hex : execs body (envF (supF nm qual params body scope cc cda) fI s.heap.objs.size) = execs (.Expr (.Call (.Attribute (.Call (.Name "super" p0) [] [] p1) "__init__" p2) [e] [] p3) p4 :: rest) (envF (supF nm qual params body scope cc cda) fI s.heap.objs.size) := by rw [← hbd]
  rw [hex]
  obtain ⟨pl, hevL⟩ := hev s.heap.objs.size
  refine ks_wpAt_execs_cons (ks_wpAt_Expr_any (ks_wpAt_MethodCall (pl := pl) ?_ hevL) I.quiet)
  refine ks_wpAt_super_base hks (S.frk _ List.mem_cons_self) rfl rfl (XI _ _ lk) rfl hp rfl (XI _ _ hcode) rfl hvs hfile T.top ?_
  refine PySem.W.ks_loadName_global S.kind hks (Calls.loadGlobal_builtin (I.mod.glob.keeps I.bk) T.sup (hb1.keeps I.bk) ((hb2 _ (by decide)).trans Boot.super) ⟨rfl, ?_⟩)
  refine wpAny_loadName_free S.kind (S.frk _ List.mem_cons_self) rfl ⟨_, XI _ _ hcell, rfl⟩ ?_
  refine wpAny_loadName_local S.kind hka hn hma ?_
  have hD1 : h₁.get? C = some (excClassObj cn cq C cN cbs cbm true csn csub cab ccol cdd0 k0 k1 k2 k3 k5 "ValueError.__new__") := XI _ _ hC
  refine ks_wpAny_isType_cls hD1 rfl ⟨rfl, ?_⟩
  refine ks_wpAny_call_super hD1 rfl hoa rfl (fun c z => by cases z) (PySem.W.looks_mroIn XI T.self) (fun h2 hso k2 => ?_)
  have I2 : Inv (ncx CX P w K mg base N (supF nm qual params body scope cc cda) fI A outer s H E) [] (startF N (.ref a :: vr) [none]) H { s with heap := h2, toks := s.toks + (ps.zip us).length } := I.kept (t' := s.toks + (ps.zip us).length) k2
  have hs12 : h₁.objs.size < h2.objs.size := Heap.lt_size hso
  have IA : PySem.W.InstAt h2 a (HandSPX.excO C t1) C none := ⟨k2 _ _ hoa, rfl, rfl, trivial⟩
  have hI2 : PySem.W.Looks (model P w) h2 (isInstance (.ref a) (.type "ValueError")) true := IA.type.andThen (PySem.W.looks_subIn I2.kIn T.vE)
  have hini : PySem.W.alongIn K "__init__" ((((Value.ref C :: cbm)).dropWhile (· != .ref C)).drop 1) = some (some (.builtin "ValueError.__init__")) := by
    have z := T.ini
    unfold PySem.W.ks_superIn at z
    rw [hclsC] at z
    exact z
  refine PySem.W.kxs_getMethod PySem.W.kxs_ValueError hso (PySem.W.looks_opaque I2.kIn T.opq) (l₀ := .ref C :: cbm) ((PySem.W.looks_clsIn I2.kIn hclsC).andThen .now) rfl I2.kIn hini hI2 (PySem.W.ks_ne I2.kIn IA hclsC) (by decide) ?_
  have hu3 : (h2.push (kxs_mw "ValueError.__init__" a)).get? h2.objs.size = some (kxs_mw "ValueError.__init__" a) := Heap.get?_push_size _ rfl
  have I3 : Inv (ncx CX P w K mg base N (supF nm qual params body scope cc cda) fI A outer s H E) [] (startF N (.ref a :: vr) [none]) H { s with heap := h2.push (kxs_mw "ValueError.__init__" a), toks := s.toks + (ps.zip us).length + 1 } :=
    I2.kept (t' := s.toks + (ps.zip us).length + 1) (fun b o z => Heap.get?_push_of_some _ z)
  have I4 : Inv (ncx CX P w K mg base N (supF nm qual params body scope cc cda) fI A outer s H E) [(h2.objs.size, kxs_mw "ValueError.__init__" a)] (startF N (.ref a :: vr) [none]) H { s with heap := h2.push (kxs_mw "ValueError.__init__" a), toks := s.toks + (ps.zip us).length + 1 } :=
    I3.pins_of fun p hp => by
      have hp' : p = (h2.objs.size, kxs_mw "ValueError.__init__" a) := by simpa using hp
      subst hp'
      exact ⟨hu3, I2.hok.fresh (Nat.le_refl _), Nat.ne_of_gt I2.lt, I2.nofs (Nat.le_refl _), fun v z => by cases z⟩
  have hargs := (pa_cons hpe pa_nil (hs := hst _)).run p3 [(h2.objs.size, kxs_mw "ValueError.__init__" a)] { s with heap := h2.push (kxs_mw "ValueError.__init__" a), toks := s.toks + (ps.zip us).length + 1 } (startF N (.ref a :: vr) [none]) H (fun vs H1 => vs.length = 1 ∧ H1 a = some (exo a C none) ∧ t { nx := fun _ H' => Q .non H', rt := Q } (startF N (.ref a :: vr) [none]) H1) I4 hq
  have hst' : starEach [e] (ncx CX P w K mg base N (supF nm qual params body scope cc cda) fI A outer s H E).env = (false, eval e (envF (supF nm qual params body scope cc cda) fI s.heap.objs.size)) :: starEach [] (envF (supF nm qual params body scope cc cda) fI s.heap.objs.size) := hst _
  rw [hst'] at hargs
  rw [hst]
  refine PySem.W.kxs_callWith (i := "ValueError.__init__") (x := a) rfl ?_
  refine Calls.evalArgs_plain ?_
  refine thn hargs fun us' s5 hh => ?_
  obtain ⟨vs5, H5, I5, r5, hl5, he5, hq5⟩ := hh
  obtain ⟨hmw5, _⟩ := I5.pin _ (List.mem_append_right _ List.mem_cons_self)
  refine ⟨hmw5, ?_⟩
  obtain ⟨t5, ho5⟩ := exo_at I5.hok he5
  obtain ⟨hp5, g5, dr5, tk5, os5⟩ := s5
  have hlen5 : us'.length ≤ sizeLine := by
    rw [← Paired.length r5, hl5, sizeLine_eq]
    decide
  refine call_mw (t0 := t5) (I5.kIn _ _ hC) ho5 hmw5 hlen5 fun h6 t6 k6 hx6 => ?_
  have J := I5.write (t' := tk5) (x := a) (e := a) (o := exo a C none) (h' := h6) (by rw [he5]; exact True.intro) (.inl rfl) k6 ⟨_, hx6⟩ (exo_ok hx6)
  have eu : upd H5 a (exo a C none) = H5 := by
    funext b
    by_cases hb : b = a
    · rw [hb, upd_same, he5]
    · rw [upd_ne hb]
  rw [eu] at J
  refine PySem.wpAt_of_wpAny (wpAny_mono (hss.run _ _ _ _ _ J hq5) (fun fl s' hs => ?_) fun e s' hs => hs)
  have fin : ∀ {σ' : L2.St} {H' : Hp} {v : V} {u : Value}, Inv (ncx CX P w K mg base N (supF nm qual params body scope cc cda) fI A outer s H E) [(h2.objs.size, kxs_mw "ValueError.__init__" a)] σ' H' s' → L2.RelV v u → Q v H' → CE outer P w H s Q u s' :=
    fun {σ' H' v u} J rv q => ⟨v, H', J.os, J.bare, J.base, J.hok, rv, q⟩
  cases fl with
  | ret u =>
    obtain ⟨v, σ', H', J, rv, q⟩ := hs
    exact fin J rv q
  | next =>
    obtain ⟨σ', H', J, q⟩ := hs
    exact fin (v := V.non) (u := Value.none) J rfl q
  | brk =>
    obtain ⟨_, _, _, q⟩ := hs
    exact False.elim q
  | cont =>
    obtain ⟨_, _, _, q⟩ := hs
    exact False.elim q
end
end RX
namespace RX
open PySem PySem.Spec PyProof.Rows L2
/-! ### try .. except C as n: suite, further clauses behind it: every exception of the body is the first clause's -/
def wAsF (K : PySem.W.Frag) (c : Value) (i : Nat) (ts : Addr → Value → Option Addr → TS) (D : Ends) : WX := fun cls d σ H =>
  PySem.W.exmOne K cls c = some true ∧ ∀ a, H a = none → ts a cls d { nx := fun σ' H' => D.nx (σ'.set i none) H', rt := D.rt, bk := fun σ' H' => D.bk (σ'.set i none) H', ct := fun σ' H' => D.ct (σ'.set i none) H' } (σ.set i (some (.ref a))) H
section
variable {X : Cx} {x n : Str} {c : Value} {i : Nat} {body suite : List Stmt} {b₀ : Stmt} {np pos pos' : Pos} {hds : List ExceptHandler} {tb : WX → TS} {ts : Addr → Value → Option Addr → TS}
theorem ps_try_asF (hs : X.stack = X.env :: X.outer) (hf : X.env.frame = some X.env.locals) (hN : X.N.Nodup) (hi : X.N[i]? = some n) (hln : X.env.kindOf n = some .local) (hc : Names X x c) 
    (hb : ∀ (W : WX) (pn : List (Addr × Obj)) (xe : Value → Shared → Prop), Takes (X.tr pn xe) W → PassesOwn (model X.prog X.w) X.A X.env xe → PSs (X.tr pn xe) body (tb W))
    (hsu : ∀ (a : Addr) (oe : Obj) (cls : Value) (d : Option Addr) (pn : List (Addr × Obj)), Zc cls d oe → (∃ vs, oe.data = .fields vs) → PSs (X.suite a ((a, oe) :: pn)) (b₀ :: suite) (ts a cls d)) :
    PS X (.Try body (.ExceptHandler (some (.Name x np)) (some n) (b₀ :: suite) pos' :: hds) [] [] pos) (fun D σ H => tb (wAsF X.K c i ts D) D σ H) := by
  refine ⟨fun pins s σ H D I h => ?_⟩
  have ok := I.ok
  have hfr : X.A.frames = some (X.env :: X.outer) := by rw [ok.frames, hs]
  have hloc : Loc X.env.scope n := .inl hln
  refine wpAny_Try_except ?_
  refine wpAny_mono ((hb (wAsF X.K c i ts D) (X.pn ++ pins) (fun e s₁ => wpAny (model X.prog X.w) X.A (noteFrame e X.env) (fun _ s₂ => wpAny (model X.prog X.w) X.A (setFlight e none) (fun _ s₃ =>
    wpAny (model X.prog X.w) X.A (handleBy e X.env (.ExceptHandler (some (.Name x np)) (some n) (b₀ :: suite) pos' :: hds)) (SP X pins D) X.xe s₃) X.xe s₂) X.xe s₁) (fun u s' xx => ?_) PassesOwn.looking).run [] s σ H D (I.toTry _) h) (fun f s1 hsp => ?_) (fun e s1 he => he)
  · -- the catch
    obtain ⟨a, B, sI, pins', σ', H', cls, d, rfl, J', nb, up, sky, na, os, ag, hb1, hyes⟩ := xx
    have J : Inv X pins σ' H' sI := J'.ofTry ok
    have sky' : Sky B (X.env :: X.outer) a (Zc cls d) X.env.locals s'.heap := by rw [← hs]; exact sky
    show wpAny (model X.prog X.w) X.A (noteFrame (.ref a) X.env) _ _ _
    refine Sky.land Zc.steady hfr hf sky' fun h3 fl3 up3 => ?_
    have J3 : Inv X pins σ' H' { s' with heap := h3 } := J.landed nb fl3.1 (up.trans up3) os ag
    obtain ⟨oe3, vs3, he3, hz3, hd3⟩ := fl3.there
    have notFr : ∀ {h : Heap} {o : Obj} {vs : Array Value}, h.FunFrames B (X.env :: X.outer) → h.get? a = some o → o.data = .fields vs → a ∉ frs (X.env :: X.outer) := fun {h o vs} ff e dd hm => by
      obtain ⟨_, o', e', hnf⟩ := ff.mem hm
      rw [e] at e'; cases e'
      exact hnf _ dd
    have nfr := notFr fl3.2.2.1 he3 hd3
    have nL : a ≠ X.env.locals := fun z => nfr (List.mem_filterMap.mpr ⟨X.env, List.mem_cons_self, by rw [hf, z]⟩)
    have nF : a ∉ X.fs := fun hm => by
      obtain ⟨e, he, q⟩ := List.mem_filterMap.mp hm
      exact nfr (List.mem_filterMap.mpr ⟨e, List.mem_cons_of_mem _ he, q⟩)
    have S3 := J3.suite he3 hd3 na nL nF
    refine wpAny_handleBy_cons (codeAny_handlers_test ?_) (by intro q; cases q)
    have LT : PySem.W.Looks (model X.prog X.w) h3 (typeOf (.ref a)) cls := fun A Q E s k q => wpAny_typeOf_ref (k _ _ he3) (by rw [hz3.1]; exact q)
    have LM := PySem.W.exm_one (M := model X.prog X.w) (J3.kIn) LT hb1
    have test : ∀ {Q : Value → Shared → Prop} {E : Value → Shared → Prop}, Q c { s' with heap := h3 } → wpAny (model X.prog X.w) (X.A.mark (some (.ref a))) (eval (.Name x np) X.env) Q E { s' with heap := h3 } := fun {Q E} q => by
      obtain ⟨hg, hdbg, hm | ⟨hm, hv, hnn⟩⟩ := hc
      · exact ld_glob (X := X.suite a ((a, oe3) :: (X.pn ++ pins))) S3 hg hm q hdbg
      · exact ld_blt (X := X.suite a ((a, oe3) :: (X.pn ++ pins))) S3 hg hm hv q hnn hdbg
    refine test (LM.here ?_)
    refine codeAny_handlers_suite_as ?_
    refine HandSPX.lands_againZ fl3 fun h4 fl4 up4 => ?_
    have J4 : Inv X pins σ' H' { s' with heap := h4 } := J.landed nb fl4.1 ((up.trans up3).trans up4) os ag
    obtain ⟨oe4, vs4, he4, hz4, hd4⟩ := fl4.there
    have S4 := J4.suite he4 hd4 na nL nF
    refine store_ok (X := X.suite a ((a, oe4) :: (X.pn ++ pins))) (v := .ref a) S4 hN hi hloc rfl (fun s5 S5 => ?_) (.inr hln)
    refine wpAny_mono ((hsu a oe4 cls d (X.pn ++ pins) hz4 ⟨_, hd4⟩).run [] s5 _ H' _ S5 (hyes a na)) (fun f s6 hsp => ?_) (fun _ _ z => False.elim z)
    have end_ : ∀ {σ6 : L2.St} {H6 : Hp} {Q : Shared → Prop}, Inv (X.suite a ((a, oe4) :: (X.pn ++ pins))) [] σ6 H6 s6 → (∀ s7, Inv X pins (σ6.set i none) H6 s7 → Q s7) →
        wpAny (model X.prog X.w) X.A (do bindName X.env n .none; unbindBehindTheSuite X.env n pos') (fun _ s7 => Q s7) X.xe s6 := fun {σ6 H6 Q} S6 hq => gone_ok (S6.unsuite ok) hN hi hln hq
    cases f with
    | next =>
      obtain ⟨σ6, H6, S6, q6⟩ := hsp
      exact end_ S6 fun s7 J7 => ⟨_, _, J7, q6⟩
    | brk =>
      obtain ⟨σ6, H6, S6, q6⟩ := hsp
      exact end_ S6 fun s7 J7 => ⟨_, _, J7, q6⟩
    | cont =>
      obtain ⟨σ6, H6, S6, q6⟩ := hsp
      exact end_ S6 fun s7 J7 => ⟨_, _, J7, q6⟩
    | ret u =>
      obtain ⟨v6, σ6, H6, S6, r6, q6⟩ := hsp
      exact end_ S6 fun s7 J7 => ⟨_, _, _, J7, r6, q6⟩
  · cases f with
    | next =>
      obtain ⟨σ', H', J', q⟩ := hsp
      exact wpAny_execs_nil ⟨σ', H', J'.ofTry ok, q⟩
    | brk =>
      obtain ⟨σ', H', J', q⟩ := hsp
      exact ⟨σ', H', J'.ofTry ok, q⟩
    | cont =>
      obtain ⟨σ', H', J', q⟩ := hsp
      exact ⟨σ', H', J'.ofTry ok, q⟩
    | ret u =>
      obtain ⟨v, σ', H', J', r, q⟩ := hsp
      exact ⟨v, σ', H', J'.ofTry ok, r, q⟩
end
end RX
namespace RX
open PySem PySem.Spec PyProof.Rows L2
section
variable {prog : Program} {w : World} {A : Around} {E : Value → Shared → Prop} {s : Shared}
/-- min of two texts -/
theorem min_two_strs {a b : Str} {t u : Tok} {Q : Value → Shared → Prop} (hh : A.handled = none)
    (h : ∀ h' tk, (∀ c o, s.heap.get? c = some o → h'.get? c = some o) → Q (if b.cps.toList < a.cps.toList then .str b u else .str a t) { s with heap := h', toks := tk }) :
    wpAny (model prog w) A (call (.builtin "min") [.str a t, .str b u]) Q E s := by
  let its : Array Value := #[.str a t, .str b u]
  have hT : (s.heap.push { cls := .type "tuple", data := .seq its }).IsTuple s.heap.objs.size its := ⟨_, Heap.get?_push_size _ rfl, rfl, 0, rfl⟩
  refine PySem.call_min_two (wpAny_pyIter_tuple hT ?_)
  have hsz : (s.heap.push { cls := .type "tuple", data := .seq its }).objs.size = s.heap.objs.size + 1 := Heap.size_push ..
  have cmp : CmpOf prog w A.in1 .Lt (fun j v => its[j]? = some v) (fun i j => decide ((if i = 0 then a else b).cps.toList < (if j = 0 then a else b).cps.toList)) := by
    have one : ∀ {i : Nat} {v : Value}, its[i]? = some v → ∃ tk, v = .str (if i = 0 then a else b) tk := fun {i v} e => by
      match i, e with
      | 0, e => exact ⟨t, by simpa [its] using e.symm⟩
      | 1, e => exact ⟨u, by simpa [its] using e.symm⟩
      | n + 2, e => simp [its] at e
    intro i j vi vj s Q E hi hj h
    obtain ⟨t1, rfl⟩ := one hi
    obtain ⟨t2, rfl⟩ := one hj
    exact richCompare_gives (op := .Lt) (typeIs_str s _ t1) (typeIs_str s _ t2) F.slot_str_lt F.entry_str_lt (F.args_str_lt_2 _ _) (gives_str_lt _ _ t1 t2) (fun x => nomatch x) h
  refine ⟨_, [_, s.heap.objs.size], [_], _, _, _, _, rfl, Walks.tuple (A := A.in1) hh _ s.heap.objs.size (by rw [hsz]; exact Nat.ne_of_lt (Nat.lt_succ_self _)) its,
    ⟨⟨_, Heap.get?_push_size _ rfl, rfl, rfl⟩, hT.push _⟩, fun c hc => ?_, by simp [its], cmp, fun v h' tk hP hk => ?_⟩
  · show c < ((s.heap.push _).push _).objs.size
    rw [Heap.size_push, hsz]
    rcases List.mem_cons.mp hc with rfl | hc
    · rw [hsz]; exact Nat.lt_succ_self _
    · rcases List.mem_cons.mp hc with rfl | hc
      · exact Nat.lt_succ_of_lt (Nat.lt_succ_self _)
      · cases hc
  · have hold : ∀ c o, s.heap.get? c = some o → h'.get? c = some o := fun c o e => by
      refine hk c o (fun hm => ?_) (Heap.get?_push_of_some _ (Heap.get?_push_of_some _ e))
      rcases List.mem_cons.mp hm with e1 | hm
      · have := Heap.lt_size e; rw [e1, hsz] at this; exact Nat.lt_irrefl _ (Nat.lt_of_succ_lt this)
      · cases hm
    have := h h' tk hold
    have hv : v = if b.cps.toList < a.cps.toList then Value.str b u else Value.str a t := by
      by_cases hba : b.cps.toList < a.cps.toList
      · have e : argBest (fun i j => decide ((if i = 0 then a else b).cps.toList < (if j = 0 then a else b).cps.toList)) 1 = 1 := by simp [argBest, hba]
        have hP' : its[1]? = some v := by rw [← e]; exact hP
        rw [if_pos hba]
        simpa [its] using hP'.symm
      · have e : argBest (fun i j => decide ((if i = 0 then a else b).cps.toList < (if j = 0 then a else b).cps.toList)) 1 = 0 := by simp [argBest, hba]
        have hP' : its[0]? = some v := by rw [← e]; exact hP
        rw [if_neg hba]
        simpa [its] using hP'.symm
    rw [hv]; exact this
end
/-- min of two texts -/
theorem call_min2S {X : Cx} (hc : X.calm = true) : CallR X (.builtin "min") (fun xs H Q => ∃ i j, xs = [.str i, .str j] ∧ Q (.str (if j.cps.toList < i.cps.toList then j else i)) H) := by
  intro pins s σ H xs us Q I r h
  obtain ⟨i, j, rfl, q⟩ := h
  obtain ⟨u, w', rfl, ⟨t, rfl⟩, ⟨t', rfl⟩⟩ := vals2 r
  refine min_two_strs (I.ok.hd hc) fun h' tk k => ⟨_, H, I.kept k, ?_, q⟩
  by_cases hj : j.cps.toList < i.cps.toList
  · rw [if_pos hj, if_pos hj]; exact ⟨_, rfl⟩
  · rw [if_neg hj, if_neg hj]; exact ⟨_, rfl⟩
/-- zip of two tuples, walked -/
theorem walk_zipT {K : PySem.W.Frag} {a b : Addr} {xs ys : List V} {n : Nat} (hn : n = min xs.length ys.length) : Walk (RZ.ItzT K a b) n (fun H => SqT K H a xs ∧ SqT K H b ys) (YPair (fun i => xs[i]?) (fun i => ys[i]?)) := by
  subst hn
  refine ⟨fun i _ hi q => ?_, fun _ q => ⟨xs, ys, q.1, q.2, by omega⟩, fun i H v H' _ q y => ?_⟩
  · have h1 : i < xs.length := by omega
    have h2 : i < ys.length := by omega
    exact ⟨xs, ys, xs[i], ys[i], q.1, q.2, by simp [h1], by simp [h2]⟩
  · obtain ⟨T, x, z, h1, h2, h3, h4, h5⟩ := y
    exact ⟨T, x, z, h1, h2, h3, h4 xs q.1, h5 ys q.2⟩
end RX
namespace RX
open PySem PySem.Spec PyProof.Rows L2
/-- a def that may raise, at promises under which it doesn't -/
theorem fn_quiet {P : Program} {w : World} {K : PySem.W.Frag} {mg : Str → Option Value} {base : Heap} {k : Nat} {f : Addr} {fd : FuncData} {ps : List Str} {sp sp' : Sp} (F : FnOk P w K mg base (L2.CX P w) k f fd ps sp)
    (h : ∀ vs H Q E, sp' vs H Q E → sp vs H Q (fun _ _ _ => False)) : FnOk P w K mg base CX0 k f fd ps sp' := by
  refine ⟨fun vs H Q E q => F.len _ _ _ _ (h _ _ _ _ q), fun A outer s H args us vs Q E hr e0 hb r q => ?_⟩
  refine codeAny_mono (F.run A outer s H args us vs Q (fun _ _ _ => False) hr e0 hb r (h _ _ _ _ q)) fun r s' hq => ?_
  cases r with
  | ok fl => cases fl <;> exact hq
  | error e =>
    have hq' : L2.CX P w outer H s (fun _ _ _ => False) e s' := hq
    unfold L2.CX at hq'
    simp at hq'
section
variable {X : Cx} {CX : CXT} {k i : Nat} {f C : Addr} {fd : FuncData} {ps : List Str} {sp : Sp} {E : L2.St → XK} {x : Str} {p pos : Pos} {e : Expr} {es : List Expr} {t : TA}
/-- C(e, ..) whose __init__ may raise, the wish at the caller's slots -/
def tMakeS (C : Addr) (sp : Sp) (E : L2.St → XK) (t : TA) : TE := fun σ H Q => t σ H fun vs H1 => ∀ x dx, H1 x = none → H1 dx = none → dx ≠ x → sp (.ref x :: vs) (upd (upd H1 dx (.own x)) x (.ins C dx [])) (fun v H2 => v = .non ∧ Q (.ref x) H2) (E σ)
theorem run_makeS {pins : List (Addr × Obj)} {σ : L2.St} {H : Hp} {s : Shared} {Q : VK} {us : List Value} {vs : List V} (M : Mk X.K C f) (F : FnOk X.prog X.w X.K X.mg X.base CX k f fd ps sp) (hr : Room (k + 1) X.A) (hb : Binds X.K fd ps [])
    (hx : PassesAt CX X σ (E σ)) (I : Inv X pins σ H s) (r : Vals vs us)
    (h : ∀ x dx, H x = none → H dx = none → dx ≠ x → sp (.ref x :: vs) (upd (upd H dx (.own x)) x (.ins C dx [])) (fun v H2 => v = .non ∧ Q (.ref x) H2) (E σ)) :
    wpAny (model X.prog X.w) X.A (call (.ref C) us) (EP X pins σ Q) X.xe s := by
  have hq := h (s.heap.objs.size + 1) s.heap.objs.size (I.hok.fresh (Nat.le_succ _)) (I.hok.fresh (Nat.le_refl _)) (Nat.ne_of_lt (Nat.lt_succ_self _))
  have I2 := Inv.made (C := C) I
  have r2 : Vals (V.ref (s.heap.objs.size + 1) :: vs) (Value.ref (s.heap.objs.size + 1) :: us) := .cons rfl r
  have hl : (Value.ref (s.heap.objs.size + 1) :: us).length = ps.length := by
    have e := r2.length
    rw [F.len _ _ _ _ hq] at e
    exact e.symm
  have b := hb _ (Value.ref (s.heap.objs.size + 1) :: us) I2.kIn (by rw [List.append_nil]; exact hl)
  rw [List.append_nil] at b
  refine wpAny_call (make_map (f := f) I.kIn M.makes M.init (beq_iff_eq.mp M.fn) (codeAny_mono (F.run _ X.stack _ _ ⟨Value.ref (s.heap.objs.size + 1) :: us, []⟩ (Value.ref (s.heap.objs.size + 1) :: us) _ _ (E σ) (hr.make C us [])
    (I2.env0.make C us []) b r2 hq) fun r s' hq' => ?_))
  cases r with
  | error e => exact hx pins _ _ e s' I2 hq'
  | ok fl =>
    cases fl with
    | ret u =>
      obtain ⟨v, H', I3, rv, ev, q3⟩ := I2.after hq'
      subst ev
      exact ⟨rv, ⟨V.ref (s.heap.objs.size + 1), H', I3, rfl, q3⟩⟩
    | next => exact False.elim hq'
    | brk => exact False.elim hq'
    | cont => exact False.elim hq'
theorem pe_makeS (M : Mk X.K C f) (F : FnOk X.prog X.w X.K X.mg X.base CX k f fd ps sp) (hr : Room (k + 1) X.A) (hg : Gl X x) (hm : X.mg x = some (.ref C)) (hb : Binds X.K fd ps []) (hx : ∀ σ, PassesAt CX X σ (E σ))
    (ha : PA X (e :: es) t) (hdb : (x == ("__debug__" : Str)) = false := by decide) (he : starEach (e :: es) X.env = (false, eval e X.env) :: starEach es X.env := by rfl) (hpl : (backTo pos (starEach es X.env)).any (·.1) = false := by rfl) :
    PE X (.Call (.Name x p) (e :: es) [] pos) (tMakeS C sp E t) := by
  refine ⟨fun pins s σ H Q I h => ?_⟩
  refine wpAny_Call_Name_kw (ld_glob I hg hm ?_ hdb)
  refine PySem.W.callWith_K (h₀ := X.base) I.ok.mod.kin M.kp (thn (ha.run pos pins s σ H _ I h) fun us s1 ⟨vs, H1, I1, r, q⟩ => ⟨I1.kIn, ?_⟩) he hpl
  exact run_makeS M F hr hb (hx σ) I1 r q
/-- a local that holds a def which may raise, the wish at the caller's slots -/
def tCallLS (i : Nat) (f : Addr) (sp : Sp) (E : L2.St → XK) (t : TA) : TE := fun σ H Q => σ[i]? = some (some (.ref f)) ∧ t σ H fun vs H1 => sp vs H1 Q (E σ)
theorem pe_callLS (F : FnOk X.prog X.w X.K X.mg X.base CX k f fd ps sp) (hr : Room k X.A) (hN : X.N[i]? = some x) (hv : Vis X.env.scope x) (hk : PySem.W.keepIn X.K (.ref f) = true) (hb : Binds X.K fd ps []) (hx : ∀ σ, PassesAt CX X σ (E σ)) (ha : PA X (e :: es) t)
    (hdb : (x == ("__debug__" : Str)) = false := by decide) (hcd : (x == ("__classdict__" : Str)) = false := by decide)
    (he : starEach (e :: es) X.env = (false, eval e X.env) :: starEach es X.env := by rfl) (hpl : (backTo pos (starEach es X.env)).any (·.1) = false := by rfl) : PE X (.Call (.Name x p) (e :: es) [] pos) (tCallLS i f sp E t) := by
  refine ⟨fun pins s σ H Q I h => ?_⟩
  obtain ⟨hs, ht⟩ := h
  refine wpAny_Call_Name_kw (thn ((pe_var (pos := p) hN hv hdb hcd).run pins s σ H (fun v H1 => v = .ref f ∧ H1 = H) I ⟨.ref f, hs, rfl, rfl⟩) fun u s1 ⟨v, H1, I1, r1, q1⟩ => ?_)
  obtain ⟨rfl, rfl⟩ := q1
  cases r1
  refine PySem.W.callWith_K (h₀ := X.base) I.ok.mod.kin hk (thn (ha.run pos pins s1 σ _ _ I1 ht) fun us s2 ⟨vs, H2, I2, r, q⟩ => ⟨I2.kIn, ?_⟩) he hpl
  exact run_fnS F hr hb (hx σ) I2 r q
end
end RX
namespace RX
open PySem PySem.Spec PyProof.Rows L2
/-- two dicts of the same keys whose values are equal data -/
def rEqDD (K : PySem.W.Frag) : R2 := fun x y H Q => ∃ a b ks ls, x = .ref a ∧ y = .ref b ∧ H a = some (.dK ks) ∧ H b = some (.dK ls) ∧ ks.length = ls.length ∧
  (∀ p ∈ ks, ∃ u d e, valV ls p.1 = some u ∧ Dp K H p.2 d ∧ Dp K H u e ∧ SeqAt.shaped d = true ∧ SeqAt.shaped e = true ∧ PyData.eqv d e = true) ∧ Q (.bl true) H
theorem op_eqDD {X : Cx} (hu : X.A.units + 66 < cLine) : OpR X (compareOp .Eq) (rEqDD X.K) := by
  intro pins s σ H x y v u Q I rx ry h
  obtain ⟨a, b, ks, ls, rfl, rfl, ha, hb, hl, hp, q⟩ := h
  refine eqR_run I (A := X.A) (F := fun x y => ∃ d e, Dp X.K H x d ∧ Dp X.K H y e ∧ SeqAt.shaped d = true ∧ SeqAt.shaped e = true ∧ PyData.eqv d e = true) (by omega) ?_
    (.inr ⟨a, b, ks, ls, rfl, rfl, ha, hb, hl, fun p hm => ?_⟩) rx ry _ _ ⟨.bl true, H, I, rfl, q⟩
  · rintro x y v u ⟨d, e, hd, he, sd, se, hq⟩ r1 r2
    obtain ⟨as, q1⟩ := Dp.reads I d x v hd r1
    obtain ⟨bs, q2⟩ := Dp.reads I e y u he r2
    have z := SeqAt.eqAt_reads d e X.A.in1 s v u as bs q1 q2 (SeqAt.canLay_of_shaped sd) (SeqAt.canLay_of_shaped se) (by
      have h1 := SeqAt.depth_of_shaped sd
      have h2 : min d.depth e.depth ≤ d.depth := Nat.min_le_left _ _
      show X.A.units + 1 + _ < _
      omega)
    rw [hq] at z
    exact z.eqP
  · obtain ⟨u, d, e, h1, h2⟩ := hp p hm
    exact ⟨u, h1, d, e, h2⟩
end RX
namespace KP
open PySem PySem.Spec L2 RX
/-! ### the text -/
def top (i : Nat) : Stmt := PySem.Challenge.pw_retroact_k30_prices_of_deeds.main.body.getD i (.Pass ⟨0, 0, 0, 0⟩)
abbrev sIP : Stmt := inClass (top 2) 0
abbrev sUE : Stmt := inClass (top 3) 0
abbrev sPInit : Stmt := inClass (top 6) 0
abbrev sUndo : Stmt := top 7
abbrev sDo : Stmt := top 8
abbrev sChg : Stmt := top 9
abbrev sChk : Stmt := top 10
abbrev sAre : Stmt := top 11
abbrev sIs : Stmt := top 12
abbrev sMix : Stmt := top 14
abbrev sNums : Stmt := top 15
abbrev sTake : Stmt := top 16
abbrev sCall : Stmt := top 17
abbrev sCalls : Stmt := top 18
abbrev sPrice : Stmt := top 19
abbrev sPrices : Stmt := top 20
abbrev sLChg : Stmt := top 21
abbrev sRef : Stmt := top 22
abbrev sUnk : Stmt := top 23
abbrev sLaw : Stmt := top 24
theorem boot_isi : bootBuiltins "isinstance" = some (.builtin "isinstance") := by decide +kernel
theorem boot_int0 : bootBuiltins "int" = some (.type "int") := by decide +kernel
theorem boot_bool0 : bootBuiltins "bool" = some (.type "bool") := by decide +kernel
theorem boot_list0 : bootBuiltins "list" = some (.type "list") := by decide +kernel
theorem boot_tuple0 : bootBuiltins "tuple" = some (.type "tuple") := by decide +kernel
theorem boot_dict0 : bootBuiltins "dict" = some (.type "dict") := by decide +kernel
theorem boot_all0 : bootBuiltins "all" = some (.builtin "all") := by decide +kernel
theorem boot_sum0 : bootBuiltins "sum" = some (.builtin "sum") := by decide +kernel
theorem boot_min0 : bootBuiltins "min" = some (.builtin "min") := by decide +kernel
theorem boot_sorted0 : bootBuiltins "sorted" = some (.builtin "sorted") := by decide +kernel
/-! ### the mathematics -/
inductive Ef | pay | ship | tell
  deriving DecidableEq
def Ef.s : Ef → Str
  | .pay => "pay" | .ship => "ship" | .tell => "tell"
def Ef.n : Ef → Nat
  | .pay => 1 | .ship => 2 | .tell => 0
theorem Ef.inj : ∀ {a b : Ef}, a.s = b.s → a = b := by
  intro a b h
  cases a <;> cases b <;> first | rfl | exact absurd h (by decide +kernel)
theorem Ef.ne {a b : Ef} (h : a ≠ b) : a.s ≠ b.s := fun z => h (Ef.inj z)
structure Pr where
  u : Int
  d : Int
  c : Option (Int × Int)
structure Cl where
  e : Ef
  as : List Int
def isB (n : Int) : Bool := decide (0 ≤ n) && decide (n ≤ 1000000)
def prB (p : Pr) : Bool := (isB p.u && isB p.d) && (match p.c with | none => true | some (b, e) => isB b && isB e)
abbrev Ps := List (Ef × Pr)
def look : Ps → Ef → Option Pr
  | [], _ => none
  | (f, p) :: r, e => if f = e then some p else look r e
/-- the first that is not as described -/
def badOf : Ps → Option Ef
  | [] => none
  | (f, p) :: r => if prB p = true then badOf r else some f
def unkOf (ps : Ps) : List Cl → Option Ef
  | [] => none
  | c :: r => match look ps c.e with | none => some c.e | some _ => unkOf ps r
def absI (i : Int) : Int := if i < 0 then -i else i
def dist (xs ys : List Int) : Int := ((xs.zip ys).map fun p => absI (p.1 - p.2)).sum
def chgV (p : Pr) (c1 c2 : Cl) : V := match p.c with
  | none => .non
  | some (b, e) => if c1.e = c2.e then .int (b + e * dist c1.as c2.as) else .non
/-! ### heaps and tests -/
def But (p : Addr) (H H' : Hp) : Prop := ∀ b o, b ≠ p → H b = some o → H' b = some o
/-- what is no list stays -/
def Nl (H H' : Hp) : Prop := ∀ b o, (∀ xs, o ≠ .lst xs) → H b = some o → H' b = some o
def Row (H : Hp) (l : Addr) : Prop := ∃ ns : List Int, H l = some (.lst (ns.map V.int)) ∧ ns.length ≤ 10000
theorem But.refl (p : Addr) (H : Hp) : But p H H := fun _ _ _ h => h
theorem Same.but {p : Addr} {H H' : Hp} (s : Same H H') : But p H H' := fun b o _ h => s b o h
theorem Same.nl {H H' : Hp} (s : Same H H') : Nl H H' := fun b o _ h => s b o h
theorem But.trans {p : Addr} {H H1 H2 : Hp} (a : But p H H1) (b : But p H1 H2) : But p H H2 := fun c o n h => b c o n (a c o n h)
theorem Nl.trans {H H1 H2 : Hp} (a : Nl H H1) (b : Nl H1 H2) : Nl H H2 := fun c o n h => b c o n (a c o n h)
theorem But.nl {p : Addr} {H H' : Hp} (s : But p H H') (r : Row H p) : Nl H H' := fun b o n h => s b o (fun z => by
  obtain ⟨ns, r, _⟩ := r
  rw [z, r] at h
  cases h
  exact n _ rfl) h
theorem same_new {H : Hp} {p : Addr} (h : H p = none) (o : HO) : Same H (upd H p o) := fun b u q => by rw [upd_ne (ne_of_none q h)]; exact q
theorem but_upd {p : Addr} {H : Hp} (o : HO) : But p H (upd H p o) := fun b u n q => by rw [upd_ne n]; exact q
theorem Same.upd {H H' : Hp} {p : Addr} (s : Same H H') (n : H p = none) (o : HO) : Same H (upd H' p o) := fun b u q => by rw [upd_ne (ne_of_none q n)]; exact s b u q
theorem Row.same {H H' : Hp} {l : Addr} (s : Same H H') (r : Row H l) : Row H' l := by
  obtain ⟨ns, h, n⟩ := r
  exact ⟨ns, s _ _ h, n⟩
theorem ifT {c : Prop} [Decidable c] {A B : Prop} (h : c) (k : A) : if decide c = true then A else B := by rw [decide_eq_true h]; exact iteT k
theorem ifF {c : Prop} [Decidable c] {A B : Prop} (h : ¬ c) (k : B) : if decide c = true then A else B := by rw [decide_eq_false h]; exact iteF k
theorem ifNT {c : Prop} [Decidable c] {A B : Prop} (h : ¬ c) (k : A) : if (!decide c) = true then A else B := by rw [decide_eq_false h]; exact iteT k
theorem ifNF {c : Prop} [Decidable c] {A B : Prop} (h : c) (k : B) : if (!decide c) = true then A else B := by rw [decide_eq_true h]; exact iteF k
theorem int_eq {i j : Int} : (V.int i = V.int j) ↔ i = j := ⟨fun h => V.int.inj h, fun h => by rw [h]⟩
theorem str_eq {i j : Str} : (V.str i = V.str j) ↔ i = j := ⟨fun h => V.str.inj h, fun h => by rw [h]⟩
theorem size_m {n : Nat} (h : n ≤ 1000000) : n ≤ sizeLine := Nat.le_trans h (by decide)
theorem size_l {n : Nat} (h : n ≤ 100000) : n < sizeLine := Nat.lt_of_le_of_lt h (by decide)
theorem at0 {x : V} {r : List V} : atI (x :: r) 0 = some x := atI_nat (j := 0) rfl
theorem at1 {x y : V} {r : List V} : atI (x :: y :: r) 1 = some y := atI_nat (j := 1) rfl
theorem at2 {x y z : V} {r : List V} : atI (x :: y :: z :: r) 2 = some z := atI_nat (j := 2) rfl
/-! ### what stands in the heap -/
def ChAt (H : Hp) (v : V) : Option (Int × Int) → Prop
  | none => v = .non
  | some (b, e) => ∃ t, v = .ref t ∧ H t = some (.tup [.int b, .int e])
def PrAt (H : Hp) (v : V) (p : Pr) : Prop := ∃ a cv, v = .ref a ∧ H a = some (.tup [.int p.u, .int p.d, cv]) ∧ ChAt H cv p.c
inductive PsAt (H : Hp) : List (Key × V) → Ps → Prop
  | nil : PsAt H [] []
  | cons {v : V} {kvs : List (Key × V)} {e : Ef} {p : Pr} {ps : Ps} (h : PrAt H v p) (r : PsAt H kvs ps) : PsAt H ((.inr e.s, v) :: kvs) ((e, p) :: ps)
def dInts (ns : List Int) : List PyData := ns.map .int
def KeyAt (H : Hp) (v : V) (d : PyData) : Prop := ∃ (a p : Addr) (ns : List Int) (n : Int), v = .ref a ∧ H a = some (.tup [.ref p, .int n]) ∧ H p = some (.tup (ns.map V.int)) ∧ d = .tuple [.tuple (dInts ns), .int n]
def ClAt (H : Hp) (v : V) (c : Cl) : Prop := ∃ (a g : Addr) (kv : V) (d : PyData), v = .ref a ∧ H a = some (.tup [kv, .str c.e.s, .ref g]) ∧ KeyAt H kv d ∧ H g = some (.tup (c.as.map V.int)) ∧ c.as.length = c.e.n
inductive Cls (H : Hp) : List V → List Cl → Prop
  | nil : Cls H [] []
  | cons {v : V} {vs : List V} {c : Cl} {cs : List Cl} (h : ClAt H v c) (r : Cls H vs cs) : Cls H (v :: vs) (c :: cs)
def PricesAt (H : Hp) (C : Addr) (v : V) (ps : Ps) : Prop := ∃ (a dx d : Addr) (kvs : List (Key × V)), v = .ref a ∧ H a = some (.ins C dx [("effects", .ref d)]) ∧ H d = some (.dK kvs) ∧ PsAt H kvs ps
theorem tupNl {ys : List V} : ∀ xs, HO.tup ys ≠ .lst xs := fun _ z => by cases z
theorem Nl.t {H H' : Hp} {a : Addr} {xs : List V} (s : Nl H H') (h : H a = some (.tup xs)) : H' a = some (.tup xs) := s a _ tupNl h
theorem ChAt.nl {H H' : Hp} {v : V} {c : Option (Int × Int)} (s : Nl H H') (h : ChAt H v c) : ChAt H' v c := by
  cases c with
  | none => exact h
  | some c => obtain ⟨t, e, h⟩ := h; exact ⟨t, e, s.t h⟩
theorem PrAt.nl {H H' : Hp} {v : V} {p : Pr} (s : Nl H H') (h : PrAt H v p) : PrAt H' v p := by
  obtain ⟨a, cv, e, h, q⟩ := h
  exact ⟨a, cv, e, s.t h, q.nl s⟩
theorem PsAt.nl {H H' : Hp} {kvs : List (Key × V)} {ps : Ps} (s : Nl H H') (h : PsAt H kvs ps) : PsAt H' kvs ps := by
  induction h with
  | nil => exact .nil
  | cons h _ ih => exact .cons (h.nl s) ih
theorem KeyAt.nl {H H' : Hp} {v : V} {d : PyData} (s : Nl H H') (h : KeyAt H v d) : KeyAt H' v d := by
  obtain ⟨a, p, ns, n, e, h1, h2, ed⟩ := h
  exact ⟨a, p, ns, n, e, s.t h1, s.t h2, ed⟩
theorem ClAt.nl {H H' : Hp} {v : V} {c : Cl} (s : Nl H H') (h : ClAt H v c) : ClAt H' v c := by
  obtain ⟨a, g, kv, d, e, h1, h2, h3, h4⟩ := h
  exact ⟨a, g, kv, d, e, s.t h1, h2.nl s, s.t h3, h4⟩
theorem Cls.nl {H H' : Hp} {vs : List V} {cs : List Cl} (s : Nl H H') (h : Cls H vs cs) : Cls H' vs cs := by
  induction h with
  | nil => exact .nil
  | cons h _ ih => exact .cons (h.nl s) ih
theorem PricesAt.nl {H H' : Hp} {C : Addr} {v : V} {ps : Ps} (s : Nl H H') (h : PricesAt H C v ps) : PricesAt H' C v ps := by
  obtain ⟨a, dx, d, kvs, e, h1, h2, h3⟩ := h
  exact ⟨a, dx, d, kvs, e, s _ _ (fun _ z => by cases z) h1, s _ _ (fun _ z => by cases z) h2, h3.nl s⟩
theorem PsAt.look_some {H : Hp} {kvs : List (Key × V)} {ps : Ps} (h : PsAt H kvs ps) {e : Ef} {p : Pr} (k : look ps e = some p) : ∃ v, valV kvs (Sum.inr e.s : Key) = some v ∧ PrAt H v p := by
  induction h with
  | nil => cases k
  | @cons v kvs f q ps h _ ih =>
    unfold look at k
    by_cases z : f = e
    · rw [if_pos z] at k
      cases k
      subst z
      exact ⟨v, valV_pos (p := ((Sum.inr f.s : Key), v)) rfl, h⟩
    · rw [if_neg z] at k
      obtain ⟨u, h1, h2⟩ := ih k
      exact ⟨u, (valV_neg (p := ((Sum.inr f.s : Key), v)) (fun y => z (Ef.inj (Sum.inr.inj y)))).trans h1, h2⟩
theorem PsAt.look_none {H : Hp} {kvs : List (Key × V)} {ps : Ps} (h : PsAt H kvs ps) {e : Ef} (k : look ps e = none) : valV kvs (Sum.inr e.s : Key) = none := by
  induction h with
  | nil => rfl
  | @cons v kvs f q ps h _ ih =>
    unfold look at k
    by_cases z : f = e
    · rw [if_pos z] at k
      cases k
    · rw [if_neg z] at k
      exact (valV_neg (p := ((Sum.inr f.s : Key), v)) (fun y => z (Ef.inj (Sum.inr.inj y)))).trans (ih k)
theorem PsAt.keys {H : Hp} {kvs : List (Key × V)} {ps : Ps} (h : PsAt H kvs ps) : kvs.map (·.1) = (ps.map fun p => p.1.s).map Sum.inr := by
  induction h with
  | nil => rfl
  | cons _ _ ih => rw [List.map_cons, List.map_cons, List.map_cons, ih]
/-! ### the keys' order -/
def Nm (ps : Ps) : Prop := ps.map (·.1) = [] ∨ ps.map (·.1) = [.pay] ∨ ps.map (·.1) = [.pay, .ship, .tell]
theorem sorted_one {ps : Ps} (h : Nm ps) {ys : List Str} (p : ys.Perm (ps.map fun p => p.1.s)) (s : PyProof.Rows.sortedS ys = true) : ys = ps.map fun p => p.1.s := by
  have e : (ps.map fun p => p.1.s) = (ps.map (·.1)).map Ef.s := by rw [List.map_map]; rfl
  rw [e] at p ⊢
  rcases h with h | h | h
  · rw [h] at p ⊢
    exact List.perm_nil.mp p
  · rw [h] at p ⊢
    exact List.perm_singleton.mp p
  · rw [h] at p ⊢
    have hl := p.length_eq
    match ys, hl with
    | [a, b, c], _ =>
      have m : ∀ x ∈ [a, b, c], x = "pay" ∨ x = "ship" ∨ x = "tell" := fun x hx => by
        have := p.subset hx
        simpa [Ef.s] using this
      have nd : [a, b, c].Nodup := p.nodup_iff.mpr (by decide +kernel)
      have ha := m a (by simp)
      have hb := m b (by simp)
      have hc := m c (by simp)
      rcases ha with rfl | rfl | rfl <;> rcases hb with rfl | rfl | rfl <;> rcases hc with rfl | rfl | rfl <;> first | rfl | exact absurd s (by decide +kernel) | exact absurd nd (by decide +kernel)
/-! ### promises -/
def Fl (C : Addr) (H : Hp) (E : XK) (r : Str) : Prop := ∀ d H', Same H H' → H d = none → H' d = some (.xd [("name", .str r)]) → E (.ref C) (some d) H'
theorem Fl.same {C : Addr} {H H1 : Hp} {E : XK} {r : Str} (s : Same H H1) (f : Fl C H E r) : Fl C H1 E r := fun d H' s' n h => f d H' (s.trans s') (s.free n) h
def spEInit (C : Addr) : Sp := fun vs H Q _ => ∃ (a : Addr) (z : Str), vs = [.ref a, .str z] ∧ H a = some (exo a C none) ∧ z.length ≤ 100 ∧ ∀ d, H d = none → d ≠ a → Q .non (upd (upd H d (exd d [("name", .str z)])) a (exo a C (some d)))
def spIs : Sp := fun vs H Q _ => ∃ n : Int, vs = [.int n] ∧ Q (.bl (isB n)) H
def spAre : Sp := fun vs H Q _ => ∃ v p, vs = [v] ∧ PrAt H v p ∧ ∀ H', Same H H' → Q (.bl (prB p)) H'
def spPInit (CP CI : Addr) : Sp := fun vs H Q E => ∃ (a dx d : Addr) (kvs : List (Key × V)) (ps : Ps), vs = [.ref a, .ref d] ∧ H a = some (.ins CP dx []) ∧ H d = some (.dK kvs) ∧ PsAt H kvs ps ∧ Nm ps ∧ match badOf ps with
  | none => ∀ H' d', But a H H' → H d' = none → H' d' = some (.dK kvs) → H' a = some (.ins CP dx [("effects", .ref d')]) → Q .non H'
  | some e => Fl CI H E e.s
def spChk (K : PySem.W.Frag) (CP CU : Addr) : Sp := fun vs H Q E => ∃ (v : V) (l : Addr) (us : List V) (cs : List Cl) (ps : Ps), vs = [v, .ref l] ∧ PricesAt H CP v ps ∧ SqL K H l us ∧ Cls H us cs ∧ match unkOf ps cs with
  | none => ∀ H', Same H H' → Q .non H'
  | some e => Fl CU H E e.s
def spUndo (CP CU : Addr) : Sp := fun vs H Q E => ∃ (v cv : V) (c : Cl) (ps : Ps), vs = [v, cv] ∧ PricesAt H CP v ps ∧ ClAt H cv c ∧ match look ps c.e with
  | none => Fl CU H E c.e.s
  | some p => ∀ H', Same H H' → Q (.int p.u) H'
def spDo (CP CU : Addr) : Sp := fun vs H Q E => ∃ (v cv : V) (c : Cl) (ps : Ps), vs = [v, cv] ∧ PricesAt H CP v ps ∧ ClAt H cv c ∧ match look ps c.e with
  | none => Fl CU H E c.e.s
  | some p => ∀ H', Same H H' → Q (.int p.d) H'
def spChg (CP CU : Addr) : Sp := fun vs H Q E => ∃ (v v1 v2 : V) (c1 c2 : Cl) (ps : Ps), vs = [v, v1, v2] ∧ PricesAt H CP v ps ∧ ClAt H v1 c1 ∧ ClAt H v2 c2 ∧ (∀ p, look ps c1.e = some p → prB p = true) ∧ match unkOf ps [c1, c2] with
  | some e => Fl CU H E e.s
  | none => ∀ p, look ps c1.e = some p → ∀ H', Same H H' → Q (chgV p c1 c2) H'
def spMix : Sp := fun vs H Q _ => ∃ n k : Int, vs = [.int n, .int k] ∧ ∀ r, Q (.int r) H
def spNums (K : PySem.W.Frag) : Sp := fun vs H Q _ => ∃ (a : Addr) (ns : List Int) (c : Int), vs = [.ref a, .int c] ∧ SqL K H a (ns.map V.int) ∧ ns.length ≤ 63 ∧ 0 ≤ c ∧ c ≤ 1000 ∧ ∀ H' p, Same H H' → H p = none → Row H' p → Q (.ref p) H'
def spTake : Sp := fun vs H Q _ => ∃ (l : Addr) (b : Int), vs = [.ref l, .int b] ∧ 0 < b ∧ Row H l ∧ ∀ r H', 0 ≤ r → r < b → But l H H' → Row H' l → Q (.int r) H'
def spCalls : Sp := fun vs H Q _ => ∃ (l : Addr) (m : Int), vs = [.ref l, .int m] ∧ Row H l ∧ 0 ≤ m ∧ m ≤ 50 ∧ ∀ p us cs H', But l H H' → Row H' l → H p = none → H' p = some (.lst us) → Cls H' us cs → (cs.length : Int) ≤ m → Q (.ref p) H'
def spPrice : Sp := fun vs H Q _ => ∃ l : Addr, vs = [.ref l] ∧ Row H l ∧ ∀ v p H', But l H H' → Row H' l → PrAt H' v p → prB p = true → Q v H'
def spPrices : Sp := fun vs H Q _ => ∃ l : Addr, vs = [.ref l] ∧ Row H l ∧ ∀ d kvs p1 p2 p3 H', But l H H' → Row H' l → H d = none → H' d = some (.dK kvs) → PsAt H' kvs [(.pay, p1), (.ship, p2), (.tell, p3)] → prB p1 = true → prB p2 = true → prB p3 = true → Q (.ref d) H'
def spLChg : Sp := fun vs H Q _ => ∃ (d : Addr) (kvs : List (Key × V)) (ps : Ps) (v1 v2 : V) (c1 c2 : Cl) (p : Pr), vs = [.ref d, v1, v2] ∧ H d = some (.dK kvs) ∧ PsAt H kvs ps ∧ ClAt H v1 c1 ∧ ClAt H v2 c2 ∧ look ps c1.e = some p ∧ prB p = true ∧ ∀ H', Same H H' → Q (chgV p c1 c2) H'
def refV : Option Ef → V
  | none => .non
  | some e => .str e.s
def spRef : Sp := fun vs H Q _ => ∃ (d : Addr) (kvs : List (Key × V)) (ps : Ps), vs = [.ref d] ∧ H d = some (.dK kvs) ∧ PsAt H kvs ps ∧ Nm ps ∧ ∀ H', Same H H' → Q (refV (badOf ps)) H'
def spUnk (f2 f3 : Addr) : Sp := fun vs H Q _ => ∃ (v1 v2 : V) (c1 c2 : Cl), (vs = [.ref f2, v1, .non] ∨ (vs = [.ref f3, v1, v2] ∧ ClAt H v2 c2)) ∧ ClAt H v1 c1 ∧ ∀ H', Same H H' → Q (.bl true) H'
/-- what the written part says of an own exception -/
structure Ex1 (P : Program) (K : PySem.W.Frag) (mg : Str → Option Value) (C fI cc cda : Addr) (x : Str) : Prop where
  su : SupC P K mg C cc cda
  noR : PySem.W.findIn K (.ref C) "name" = some none
  iC : PySem.W.findIn K (.ref C) "__init__" = some (some (.ref fI))
  tI : PySem.W.typeIn K (.ref fI) = some (.type "function")
  gF : mg x = some (.ref C)
  xf : XfC K C
  te : PySem.W.exmOne K (.ref C) (.ref C) = some true
structure Txt (K : PySem.W.Frag) (mg : Str → Option Value) : Prop where
  zisi : mg "isinstance" = none
  zint : mg "int" = none
  zbool : mg "bool" = none
  zlen : mg "len" = none
  zlist : mg "list" = none
  ztuple : mg "tuple" = none
  zdict : mg "dict" = none
  zrng : mg "range" = none
  zall : mg "all" = none
  zsum : mg "sum" = none
  zmin : mg "min" = none
  zabs : mg "abs" = none
  zzip : mg "zip" = none
  zsorted : mg "sorted" = none
  gG : ∃ t, mg "GREATEST_PRICE" = some (.int 1000000 t)
structure Cal (K : PySem.W.Frag) (mg : Str → Option Value) (x : Str) (f : Addr) (fd : FuncData) (ps : List Str) : Prop where
  g : mg x = some (.ref f)
  k : PySem.W.keepIn K (.ref f) = true
  b : Binds K fd ps []
section
variable {P : Program} {w : World} {K : PySem.W.Frag} {mg : Str → Option Value} {base : Heap} {N : List Str} {qual : Str} {scope : Scope} {f : Addr} {cd : Value} {A : Around} {outer : List PySem.Env} {s : Shared} {H : Hp} {E : XK}
theorem passX : Passes (L2.CX P w) (cxOf (L2.CX P w) P w K mg base N qual scope f cd A outer s H E) E := passes_call (takes_of rfl rfl rfl rfl) (fun _ _ _ _ h => h)
theorem takesX : Takes (cxOf (L2.CX P w) P w K mg base N qual scope f cd A outer s H E) (fun cls d _ H => E cls d H) := takes_of rfl rfl rfl rfl
end
end KP
namespace KP
open PySem PySem.Spec L2 RX
section
variable {P : Program} {w : World} {K : PySem.W.Frag} {mg : Str → Option Value} {base : Heap} {C fI cc cda : Addr}
theorem nsIP : NdefX.NScope ["self", "name", "__class__"] ["self", "name"] ["__class__"] (defScope sIP) := NdefX.nscope_by (by decide +kernel)
theorem nsUE : NdefX.NScope ["self", "name", "__class__"] ["self", "name"] ["__class__"] (defScope sUE) := NdefX.nscope_by (by decide +kernel)
theorem ok_ip {oc kV doc pm ct : Value} {od an : Option Addr} {osl : Array (Option Value)} (T : Ex1 P K mg C fI cc cda "InvalidPrices")
    (lk : K.lookup fI = some ⟨oc, od, .func (PySem.W.ksFn "__init__" "InvalidPrices.__init__" (defArgs sIP) (defBody sIP) (defScope sIP) .none kV doc pm an (.ref cda) ct cc), osl⟩) (hcd : PySem.W.codeIn K (.ref cda) "InvalidPrices.__init__" = true) :
    FnOk P w K mg base CX0 1 fI (PySem.W.ksFn "__init__" "InvalidPrices.__init__" (defArgs sIP) (defBody sIP) (defScope sIP) .none kV doc pm an (.ref cda) ct cc) ["self", "name"] (spEInit C) := by
  refine fn_super T.su nsIP rfl lk hcd rfl rfl rfl (fun vs H Q E h => ?_) (fun _ => rfl) (fun L => ⟨_, rfl⟩) (fun A outer s H vs Q E hr h => ?_)
  · obtain ⟨a, z, rfl, _⟩ := h
    rfl
  · obtain ⟨a, z, rfl, ha, hz, k⟩ := h
    refine ⟨a, [.str z], _, _, rfl, ha, pe_joined (.cons pe_str (.cons (pe_fmt (pv 1)) .nil)), pss_one (ps_ost (pv 0) (pv 1)), ?_⟩
    have l1 : (Str.empty ++ ("invalid prices: " : Str)).length ≤ sizeLine := by decide +kernel
    refine ⟨_, rfl, l1, _, rfl, .inl ⟨z, rfl, size_m (by omega), z, rfl, ?_, rfl, ha, _, rfl, _, rfl, a, C, rfl, T.su.ox, T.noR, .inl ⟨ha, fun d hd hda => k d hd hda⟩⟩⟩
    refine size_m ?_
    have e : ((Str.empty ++ ("invalid prices: " : Str)) ++ z).length = (Str.empty ++ ("invalid prices: " : Str)).length + z.length := by
      show (_ ++ _ : Array Nat).size = _
      simp [Str.length]
    rw [e]
    have : (Str.empty ++ ("invalid prices: " : Str)).length = 16 := by decide +kernel
    omega
theorem ok_ue {oc kV doc pm ct : Value} {od an : Option Addr} {osl : Array (Option Value)} (T : Ex1 P K mg C fI cc cda "UnknownEffect")
    (lk : K.lookup fI = some ⟨oc, od, .func (PySem.W.ksFn "__init__" "UnknownEffect.__init__" (defArgs sUE) (defBody sUE) (defScope sUE) .none kV doc pm an (.ref cda) ct cc), osl⟩) (hcd : PySem.W.codeIn K (.ref cda) "UnknownEffect.__init__" = true) :
    FnOk P w K mg base CX0 1 fI (PySem.W.ksFn "__init__" "UnknownEffect.__init__" (defArgs sUE) (defBody sUE) (defScope sUE) .none kV doc pm an (.ref cda) ct cc) ["self", "name"] (spEInit C) := by
  refine fn_super T.su nsUE rfl lk hcd rfl rfl rfl (fun vs H Q E h => ?_) (fun _ => rfl) (fun L => ⟨_, rfl⟩) (fun A outer s H vs Q E hr h => ?_)
  · obtain ⟨a, z, rfl, _⟩ := h
    rfl
  · obtain ⟨a, z, rfl, ha, hz, k⟩ := h
    refine ⟨a, [.str z], _, _, rfl, ha, pe_joined (.cons pe_str (.cons (pe_fmt (pv 1)) .nil)), pss_one (ps_ost (pv 0) (pv 1)), ?_⟩
    have l1 : (Str.empty ++ ("unknown effect: " : Str)).length ≤ sizeLine := by decide +kernel
    refine ⟨_, rfl, l1, _, rfl, .inl ⟨z, rfl, size_m (by omega), z, rfl, ?_, rfl, ha, _, rfl, _, rfl, a, C, rfl, T.su.ox, T.noR, .inl ⟨ha, fun d hd hda => k d hd hda⟩⟩⟩
    refine size_m ?_
    have e : ((Str.empty ++ ("unknown effect: " : Str)) ++ z).length = (Str.empty ++ ("unknown effect: " : Str)).length + z.length := by
      show (_ ++ _ : Array Nat).size = _
      simp [Str.length]
    rw [e]
    have : (Str.empty ++ ("unknown effect: " : Str)).length = 16 := by decide +kernel
    omega
/-- raise X(z) -/
theorem fl_mk {E : XK} {H : Hp} {e : Ef} (f : Fl C H E e.s) : ∀ a, H a = none → spEInit C (.ref a :: ([.str e.s] ++ [])) (upd H a (exo a C none))
    (fun v H2 => v = .non ∧ ∃ (d : Addr) (fs : List (Str × V)), H2 a = some (exo a C (some d)) ∧ H2 d = some (exd d fs) ∧ H d = none ∧ E (.ref C) (some d) (upd (del H2 a) d (.xd fs))) (fun _ _ _ => False) := by
  intro a ha
  refine ⟨a, e.s, rfl, upd_same, by cases e <;> decide +kernel, fun d hd hda => ⟨rfl, d, [("name", .str e.s)], upd_same, by rw [upd_ne hda, upd_same], ?_, ?_⟩⟩
  · rw [upd_ne hda] at hd
    exact hd
  · rw [upd_ne hda] at hd
    refine f d _ (fun b o hb => ?_) hd upd_same
    have nb : b ≠ d := ne_of_none hb hd
    have na : b ≠ a := ne_of_none hb ha
    rw [upd_ne nb, del_ne na, upd_ne na, upd_ne nb, upd_ne na]
    exact hb
theorem passF {X : Cx} : Passes CX0 X (fun _ _ _ => False) := fun _ _ _ _ _ _ _ h => h.elim
/-! ### one price, three prices -/
theorem scIs : FnScope ["number"] ["number"] (defScope sIs) := ⟨rfl, rfl, rfl, by decide +kernel, rfl, by decide +kernel, by decide +kernel⟩
theorem ok_is {f : Addr} {fd : FuncData} (F : Fun K "_is_price" "_is_price" sIs f fd) (T : Txt K mg) : FnOk P w K mg base CX0 1 f fd ["number"] spIs := by
  refine F.ok scIs (fun vs H Q E h => ?_) (fun cdv A outer s H vs Q E hr h => ?_)
  · obtain ⟨n, rfl, _⟩ := h
    rfl
  · obtain ⟨n, rfl, q⟩ := h
    obtain ⟨tg, gG⟩ := T.gG
    refine ⟨_, (pss_cons (ps_if (PW.pt (pw_or (pt_not (pt_val (pe_callB call_isi rfl T.zisi boot_isi (pa_cons (pv 0) (pa_cons (pe_bltn (v := .ty "int") rfl T.zint boot_int0 rfl) pa_nil))))) (pw_or1 (pt_val (pe_callB call_isi rfl T.zisi boot_isi (pa_cons (pv 0) (pa_cons (pe_bltn (v := .ty "bool") rfl T.zbool boot_bool0 rfl) pa_nil)))))))
 (pss_one (ps_ret pe_bl))
 pss_nil)
 (pss_one (ps_ret (pe_chain op_le op_le pe_int (pv 0) (pe_glob (v := .int 1000000) rfl gG ⟨_, rfl⟩))))), ?_⟩
    refine ⟨_, rfl, _, _, _, _, true, rfl, .ty "int", .base (.int n), kit_ty (show kitB "int" "int" = some true by decide +kernel), _, rfl, ?_⟩
    refine iteF ?_
    refine ⟨_, rfl, _, _, _, _, false, rfl, .ty "bool", .base (.int n), kit_ty (show kitB "int" "bool" = some false by decide +kernel), _, rfl, ?_⟩
    refine iteF ?_
    refine ⟨_, rfl, _, _, rfl, rfl, _, rfl, ?_⟩
    unfold isB at q
    by_cases h1 : 0 ≤ n
    · rw [decide_eq_true h1] at q
      exact ifT h1 ⟨_, _, rfl, rfl, q⟩
    · rw [decide_eq_false h1] at q
      exact ifF h1 q
theorem scAre : FnScope ["numbers", "undo", "do", "change", "number"] ["numbers"] (defScope sAre) := ⟨rfl, rfl, rfl, by decide +kernel, rfl, by decide +kernel, by decide +kernel⟩
theorem ok_are {f fI : Addr} {fd fdI : FuncData} (F : Fun K "_are_prices" "_are_prices" sAre f fd) (T : Txt K mg)
    (G_IP : FnOk P w K mg base CX0 1 fI fdI ["number"] spIs) (L_IP : Cal K mg "_is_price" fI fdI ["number"]) : FnOk P w K mg base CX0 2 f fd ["numbers"] spAre := by
  refine F.ok scAre (fun vs H Q E h => ?_) (fun cdv A outer s H vs Q E hr h => ?_)
  · obtain ⟨v, p, rfl, _⟩ := h
    rfl
  · obtain ⟨v, p, rfl, ⟨a, cv, rfl, ha, hc⟩, k⟩ := h
    refine ⟨_, (pss_cons (ps_if (pt_cmpR op_ne (pe_callB call_len_seq rfl T.zlen PySem.boot_len (pa_cons (pv 0) pa_nil)) pe_int (nomark _))
 (pss_one (ps_ret pe_bl))
 pss_nil)
 (pss_cons (ps_asg (pv 0) (pg_tup rfl (pgs_cons (pg_name (i := 1) scAre.nd rfl (Or.inl rfl)) (pgs_cons (pg_name (i := 2) scAre.nd rfl (Or.inl rfl)) (pgs_cons (pg_name (i := 3) scAre.nd rfl (Or.inl rfl)) pgs_nil)))))
 (pss_cons (ps_if (pt_cmpR op_isN (pv 3) pe_non (nomark _))
 (pss_one (ps_ret (pe_and (pe_call G_IP hr rfl L_IP.g L_IP.k L_IP.b .nil pass0 (pa_cons (pv 1) pa_nil)) (pe_one (pe_call G_IP hr rfl L_IP.g L_IP.k L_IP.b .nil pass0 (pa_cons (pv 2) pa_nil))))))
 pss_nil)
 (pss_cons (ps_if (PW.pt (pw_or (pt_not (pt_val (pe_callB call_isi rfl T.zisi boot_isi (pa_cons (pv 3) (pa_cons (pe_bltn (v := .ty "tuple") rfl T.ztuple boot_tuple0 rfl) pa_nil))))) (pw_or1 (pt_cmpR op_ne (pe_callB call_len_seq rfl T.zlen PySem.boot_len (pa_cons (pv 3) pa_nil)) pe_int (nomark _)))))
 (pss_one (ps_ret pe_bl))
 pss_nil)
 (pss_one (ps_ret (pe_callB (cr_all rfl) rfl T.zall boot_all0 (pa_cons (pe_lc (own := [("number", 4)]) (g := gName 4) (tt := tYes) rfl scAre.nd (pi_tup (pe_tup (pa_cons (pv 1) (pa_cons (pv 2) (StX.pa_star (pv 3) pa_nil))))) (blkOk_by (own := [("number", 4)]) (N := ["numbers", "undo", "do", "change", "number"]) (sc := defScope sAre) (by decide +kernel)) (fun _ _ _ _ _ => (pg_name (i := 4) scAre.nd rfl (Or.inl rfl))) (fun _ _ _ _ _ => pts_nil) (fun _ _ _ _ _ => (pe_call G_IP hr rfl L_IP.g L_IP.k L_IP.b .nil pass0 (pa_cons (pv 4) pa_nil)))) pa_nil)))))))), ?_⟩
    refine ⟨_, rfl, a, _, rfl, .inr (SqT.of ha), rfl, _, rfl, ifNF rfl ?_⟩
    refine ⟨_, rfl, a, _, rfl, SqT.of ha, rfl, _, _, rfl, _, _, rfl, _, _, rfl, rfl, ?_⟩
    obtain ⟨pu, pd, pc⟩ := p
    have kk := k H (Same.refl H)
    cases pc with
    | none =>
      cases hc
      refine ⟨_, rfl, rfl, _, rfl, ifT rfl ?_⟩
      refine ⟨_, rfl, _, rfl, _, rfl, ?_⟩
      have e : prB ⟨pu, pd, none⟩ = (isB pu && isB pd) := by unfold prB; rw [Bool.and_true]
      rw [e] at kk
      cases hu : isB pu with
      | true =>
        rw [hu] at kk
        exact iteT ⟨_, rfl, _, rfl, kk⟩
      | false =>
        rw [hu] at kk
        exact iteF kk
    | some be =>
      obtain ⟨b, e⟩ := be
      obtain ⟨t, rfl, ht⟩ := hc
      refine ⟨_, rfl, rfl, _, rfl, ifF (by intro z; cases z) ?_⟩
      refine ⟨_, rfl, _, _, _, _, true, rfl, .ty "tuple", .base (.tup ht), kit_ty (show kitB "tuple" "tuple" = some true by decide +kernel), _, rfl, ?_⟩
      refine iteF ?_
      refine ⟨_, rfl, t, _, rfl, .inr (SqT.of ht), rfl, _, rfl, ifNF rfl ?_⟩
      refine ⟨_, rfl, _, rfl, _, rfl, t, _, rfl, .inl (SqT.of ht), (by show 4 ≤ sizeLine; decide), fun q hq => ?_⟩
      refine ⟨q, rfl, ⟨_, SqT.of upd_same⟩, fun D hD => ?_⟩
      have hDq : D ≠ q := fun z => by rw [z, upd_same] at hD; cases hD
      have hD0 : H D = none := by rw [upd_ne hDq] at hD; exact hD
      refine lc_tup (K := K) (a := q) (xs := [pu, pd, b, e].map V.int) (fun i H' => Same H H' ∧ H' q = some (.tup ([pu, pd, b, e].map V.int)) ∧ H' D = some (.lst ((([pu, pd, b, e].take i).map isB).map V.bl))) ⟨Same.upd (same_new hq _) hD0 _, by rw [upd_ne (Ne.symm hDq)]; exact upd_same, upd_same⟩ (fun i H' _ ⟨_, h, _⟩ => SqT.of h) ?_ ?_
      · rintro i x H1 hx ⟨s1, hq1, hD1⟩
        obtain ⟨z, hz, rfl⟩ : ∃ z, [pu, pd, b, e][i]? = some z ∧ x = .int z := by
          rw [List.getElem?_map] at hx
          cases q : [pu, pd, b, e][i]? with
          | none => rw [q] at hx; cases hx
          | some z => rw [q] at hx; exact ⟨z, rfl, (Option.some.inj hx).symm⟩
        refine ⟨rfl, _, rfl, z, rfl, _, hD1, ?_, Same.upd s1 hD0 _, by rw [upd_ne (Ne.symm hDq)]; exact hq1, ?_⟩
        · rw [List.length_map, List.length_map, List.length_take]
          exact Nat.lt_of_le_of_lt (Nat.min_le_right _ _) (by show 4 < sizeLine; decide)
        · rw [List.take_succ, hz, List.map_append, List.map_append]
          exact upd_same
      · rintro H1 ⟨s1, _, hD1⟩
        refine ⟨D, _, rfl, SqL.of hD1, ?_⟩
        have q := k H1 s1
        have e1 : ((([pu, pd, b, e].take ([pu, pd, b, e].map V.int).length).map isB).all id) = prB ⟨pu, pd, some (b, e)⟩ := by
          show (isB pu && (isB pd && (isB b && (isB e && true)))) = ((isB pu && isB pd) && (isB b && isB e))
          cases isB pu <;> cases isB pd <;> cases isB b <;> cases isB e <;> rfl
        rw [e1]
        exact q
end
end KP
namespace KP
open PySem PySem.Spec L2 RX
theorem mulL {i j : Int} (h0 : -(2 ^ 64) < i) (h1 : i < 2 ^ 64) : CMul i j := .inl ⟨h0, h1⟩
theorem mulR {i j : Int} (h0 : -(2 ^ 64) < j) (h1 : j < 2 ^ 64) : CMul i j := .inr ⟨h0, h1⟩
theorem ints_snoc {ds : List Int} {z : Int} : ds.map V.int ++ [.int z] = (ds ++ [z]).map V.int := by rw [List.map_append]; rfl
section
variable {P : Program} {w : World} {K : PySem.W.Frag} {mg : Str → Option Value} {base : Heap}
theorem scMix : FnScope ["number", "k"] ["number", "k"] (defScope sMix) := ⟨rfl, rfl, rfl, by decide +kernel, rfl, by decide +kernel, by decide +kernel⟩
theorem ok_mix {f : Addr} {fd : FuncData} (F : Fun K "_law_mix" "_law_mix" sMix f fd) (T : Txt K mg) : FnOk P w K mg base CX0 1 f fd ["number", "k"] spMix := by
  refine F.ok scMix (fun vs H Q E h => ?_) (fun cdv A outer s H vs Q E hr h => ?_)
  · obtain ⟨n, k, rfl, _⟩ := h
    rfl
  · obtain ⟨n, k, rfl, q⟩ := h
    refine ⟨_, (pss_one (ps_ret (pe_op op_modN (pe_op op_mul (pe_op op_modN (pe_callTy call_int1 rfl T.zint boot_int0 (pa_cons (pe_op op_mul (pe_op op_add (pe_op op_add (pe_op op_modN (pe_callTy call_int1 rfl T.zint boot_int0 (pa_cons (pv 0) pa_nil)) pe_int) (pe_op op_mul pe_int (pv 1))) pe_int) pe_int) pa_nil)) pe_int) pe_int) pe_int))), ?_⟩
    refine ⟨_, rfl, .inl ⟨n, rfl, _, _, rfl, rfl, (show (1000003 : Int) ≠ 0 by decide), ?_⟩⟩
    refine ⟨_, rfl, _, _, rfl, rfl, mulL (by decide) (by decide), _, _, rfl, rfl, _, _, rfl, rfl, _, _, rfl, rfl, mulR (by decide) (by decide), .inl ⟨_, rfl, _, _, rfl, rfl, (show (1000033 : Int) ≠ 0 by decide), _, _, rfl, rfl, mulR (by decide) (by decide), _, _, rfl, rfl, (show (998244353 : Int) ≠ 0 by decide), q _⟩⟩
theorem scTake : FnScope ["row", "bound"] ["row", "bound"] (defScope sTake) := ⟨rfl, rfl, rfl, by decide +kernel, rfl, by decide +kernel, by decide +kernel⟩
theorem ok_take {f : Addr} {fd : FuncData} (F : Fun K "_law_take" "_law_take" sTake f fd) (T : Txt K mg) : FnOk P w K mg base CX0 1 f fd ["row", "bound"] spTake := by
  refine F.ok scTake (fun vs H Q E h => ?_) (fun cdv A outer s H vs Q E hr h => ?_)
  · obtain ⟨p, m, rfl, _⟩ := h
    rfl
  · obtain ⟨p, m, rfl, hm0, ⟨ns, hp, hn⟩, k⟩ := h
    refine ⟨_, (pss_cons (ps_if (pt_not (pt_truth (pv 0) (by intro _; rfl)))
 (pss_one (ps_ret pe_int))
 pss_nil)
 (pss_one (ps_ret (pe_op op_modN (pe_callTy call_int1 rfl T.zint boot_int0 (pa_cons (pe_bm0 PySem.F.plainAttrs_list PySem.F.slot_list_pop PySem.F.type_list_pop mt_pop (pv 0)) pa_nil)) (pv 1))))), ?_⟩
    refine ⟨_, rfl, !(ns.map V.int).isEmpty, .inl ⟨_, SqL.of hp, rfl⟩, ?_⟩
    by_cases h0 : ns = []
    · subst h0
      refine iteT ?_
      exact k 0 H (Int.le_refl 0) hm0 (But.refl p H) ⟨[], hp, by decide⟩
    · have e : (ns.map V.int).isEmpty = false := by
        cases ns with
        | nil => exact absurd rfl h0
        | cons _ _ => rfl
      rw [e]
      refine iteF ?_
      have hl : ns.length - 1 < ns.length := by have := List.length_pos_iff.mpr h0; omega
      refine ⟨_, rfl, .inl ⟨rfl, _, SqL.of hp⟩, p, _, .int (ns[ns.length - 1]), rfl, rfl, hp, by rw [List.length_map, List.getElem?_map, List.getElem?_eq_getElem hl]; rfl, ?_⟩
      refine .inl ⟨_, rfl, _, rfl, _, _, rfl, rfl, by omega, ?_⟩
      refine k _ _ (Int.fmod_nonneg_of_pos _ hm0) (Int.fmod_lt_of_pos _ hm0) (but_upd _) ⟨ns.dropLast, ?_, by rw [List.length_dropLast]; omega⟩
      rw [← List.map_dropLast]
      exact upd_same
theorem cut_len {xs : List V} {a b : Option Int} : (cutV xs a b).length ≤ xs.length := by
  unfold cutV
  exact Nat.le_trans (List.length_take_le' _ _) (by rw [List.length_drop]; omega)
theorem cut_mem {xs : List V} {a b : Option Int} {x : V} (h : x ∈ cutV xs a b) : x ∈ xs := by
  unfold cutV at h
  exact List.mem_of_mem_drop (List.mem_of_mem_take h)
theorem scNums : FnScope ["script", "count", "row", "base", "cell", "rest", "k"] ["script", "count"] (defScope sNums) := ⟨rfl, rfl, rfl, by decide +kernel, rfl, by decide +kernel, by decide +kernel⟩
theorem ok_nums {f fM : Addr} {fd fdM : FuncData} (F : Fun K "_law_numbers" "_law_numbers" sNums f fd) (T : Txt K mg)
    (G_MX : FnOk P w K mg base CX0 1 fM fdM ["number", "k"] spMix) (L_MX : Cal K mg "_law_mix" fM fdM ["number", "k"]) : FnOk P w K mg base CX0 2 f fd ["script", "count"] (spNums K) := by
  refine F.ok scNums (fun vs H Q E h => ?_) (fun cdv A outer s H vs Q E hr h => ?_)
  · obtain ⟨a, ns, c, rfl, _⟩ := h
    rfl
  · obtain ⟨a, ns, c, rfl, ha, h63, hc0, hc1, k⟩ := h
    refine ⟨_, (pss_cons (ps_set (i := 2) scNums.nd rfl (Or.inl rfl) (pe_lst pa_nil))
 (pss_cons (ps_set (i := 3) scNums.nd rfl (Or.inl rfl) pe_int)
 (pss_cons (ps_for PassesOwn.never rfl (pi_list (pe_slice sl_list (pv 0) po_none (po_some pe_int))) (pg_name (i := 4) scNums.nd rfl (Or.inl rfl))
 (pss_cons (ps_set (i := 3) scNums.nd rfl (Or.inl rfl) (pe_op op_add (pv 3) (pv 4)))
 (pss_one (ps_if (pt_cmpR op_ge (pv 4) pe_int (nomark _))
 (pss_cons (ps_set (i := 5) scNums.nd rfl (Or.inl rfl) (pv 4))
 (pss_one (ps_for PassesOwn.never rfl (pi_range1 rfl T.zrng (pa_cons pe_int pa_nil)) (pg_name (i := 6) scNums.nd rfl (Or.inl rfl))
 (pss_cons (ps_expr (pe_bm PySem.F.plainAttrs_list PySem.F.slot_list_append PySem.F.type_list_append mt_append (pv 2) (pa_cons (pe_op op_modN (pe_callTy call_int1 rfl T.zint boot_int0 (pa_cons (pv 5) pa_nil)) pe_int) pa_nil)))
 (pss_cons (ps_set (i := 5) scNums.nd rfl (Or.inl rfl) (pe_op op_fdivN (pv 5) pe_int))
 (pss_one (ps_if (pt_cmpR op_eq (pv 5) pe_int (nomark _))
 (pss_one ps_break)
 pss_nil)))))))
 (pss_one (ps_expr (pe_bm PySem.F.plainAttrs_list PySem.F.slot_list_append PySem.F.type_list_append mt_append (pv 2) (pa_cons (pe_call G_MX hr rfl L_MX.g L_MX.k L_MX.b .nil pass0 (pa_cons (pe_call G_MX hr rfl L_MX.g L_MX.k L_MX.b .nil pass0 (pa_cons (pv 4) (pa_cons pe_int pa_nil))) (pa_cons pe_int pa_nil))) pa_nil))))))))
 (pss_cons (ps_for PassesOwn.never rfl (pi_range1 rfl T.zrng (pa_cons (pv 1) pa_nil)) (pg_name (i := 6) scNums.nd rfl (Or.inl rfl))
 (pss_one (ps_expr (pe_bm PySem.F.plainAttrs_list PySem.F.slot_list_append PySem.F.type_list_append mt_append (pv 2) (pa_cons (pe_call G_MX hr rfl L_MX.g L_MX.k L_MX.b .nil pass0 (pa_cons (pe_call G_MX hr rfl L_MX.g L_MX.k L_MX.b .nil pass0 (pa_cons (pe_op op_add (pv 3) (pe_op op_mul pe_int (pv 6))) (pa_cons (pe_op op_add pe_int (pv 6)) pa_nil))) (pa_cons pe_int pa_nil))) pa_nil)))))
 (pss_cons (ps_expr (pe_bm0 PySem.F.plainAttrs_list PySem.F.slot_list_reverse PySem.F.type_list_reverse mt_reverse (pv 2)))
 (pss_one (ps_ret (pv 2)))))))), ?_⟩
    refine ⟨(by show 0 ≤ sizeLine; decide), fun D hD => ?_⟩
    have app : ∀ {H1 : Hp} {ds : List Int} (z : Int), Same H H1 → H1 D = some (.lst (ds.map V.int)) → Same H (upd H1 D (.lst (ds.map V.int ++ [.int z]))) ∧ upd H1 D (.lst (ds.map V.int ++ [.int z])) D = some (.lst ((ds ++ [z]).map V.int)) := fun z s h =>
      ⟨Same.upd s hD _, by rw [ints_snoc]; exact upd_same⟩
    refine ⟨_, rfl, 63, rfl, a, _, rfl, (same_new hD _).seq ha, fun L hL => ?_⟩
    have hLD : L ≠ D := fun z => by rw [z, upd_same] at hL; cases hL
    have hL0 : H L = none := by rw [upd_ne hLD] at hL; exact hL
    generalize hx : cutV (ns.map V.int) none (some 63) = xs
    have xl : xs.length ≤ 63 := by rw [← hx]; exact Nat.le_trans cut_len (by rw [List.length_map]; exact h63)
    have xi : ∀ x ∈ xs, ∃ z, x = V.int z := fun x h => by
      rw [← hx] at h
      obtain ⟨z, _, rfl⟩ := List.mem_map.mp (cut_mem h)
      exact ⟨z, rfl⟩
    refine ⟨L, rfl, ⟨_, SqL.of upd_same⟩, for_list (K := K) (a := L) (xs := xs)
      (fun i σ H' => ∃ (ds : List Int) (b : Int) (x4 x5 x6 : Option V), σ = [some (.ref a), some (.int c), some (.ref D), some (.int b), x4, x5, x6] ∧ Same H H' ∧ H' L = some (.lst xs) ∧ H' D = some (.lst (ds.map V.int)) ∧ ds.length ≤ 60 * i)
      ⟨[], 0, none, none, none, rfl, Same.upd (same_new hD _) hL0 _, upd_same, by rw [upd_ne (Ne.symm hLD)]; exact upd_same, Nat.le_refl _⟩ (fun i σ H' _ ⟨_, _, _, _, _, _, _, h, _⟩ => SqL.of h) ?_ ?_⟩
    · rintro i x σ H1 hxi ⟨ds, b, x4, x5, x6, rfl, s1, hL1, h1, hds⟩
      have hi : i < 63 := by
        have := (List.getElem?_eq_some_iff.mp hxi).1
        omega
      obtain ⟨z, rfl⟩ := xi _ (List.mem_of_getElem? hxi)
      refine ⟨_, rfl, _, rfl, _, _, rfl, rfl, ?_⟩
      refine ⟨_, rfl, _, _, rfl, rfl, _, rfl, ?_⟩
      refine ite2 (fun _ => ?_) (fun _ => ?_)
      · refine ⟨_, rfl, ?_⟩
        refine ⟨60, rfl, by decide, by decide, for_range (lo := 0) (n := 60)
          (fun j σ H' => ∃ (ds' : List Int) (q' : Int) (x6 : Option V), σ = [some (.ref a), some (.int c), some (.ref D), some (.int (b + z)), some (.int z), some (.int q'), x6] ∧ Same H H' ∧ H' L = some (.lst xs) ∧ H' D = some (.lst (ds'.map V.int)) ∧ ds'.length ≤ 60 * i + j) ?_ ?_ ?_⟩
        · exact ⟨_, _, _, rfl, s1, hL1, h1, hds⟩
        · rintro j σ H2 hj ⟨ds', q', y6, rfl, s2, hL2, h2, hl2⟩
          refine ⟨_, rfl, .inl ⟨rfl, _, SqL.of h2⟩, _, rfl, .inl ⟨_, rfl, _, _, rfl, rfl, (show (840 : Int) ≠ 0 by decide), D, _, _, rfl, rfl, h2, size_l (by rw [List.length_map]; omega), ?_⟩⟩
          obtain ⟨s3, h3⟩ := app (q'.fmod 840) s2 h2
          refine ⟨_, rfl, _, _, rfl, rfl, ⟨by decide, by decide⟩, ?_⟩
          have fin : ∀ x6 : Option V, ∃ (ds' : List Int) (q' : Int) (y : Option V), [some (V.ref a), some (.int c), some (.ref D), some (.int (b + z)), some (.int z), some (.int q'), x6] = [some (V.ref a), some (.int c), some (.ref D), some (.int (b + z)), some (.int z), some (.int q'), y] ∧ True := fun x6 => ⟨[], 0, x6, rfl, trivial⟩
          have hl3 : (ds' ++ [q'.fmod 840]).length ≤ 60 * i + (j + 1) := by rw [List.length_append, List.length_singleton]; omega
          have hLf : (upd H2 D (.lst (ds'.map V.int ++ [.int (q'.fmod 840)]))) L = some (.lst xs) := by rw [upd_ne hLD]; exact hL2
          refine ⟨_, rfl, rfl, _, rfl, ?_⟩
          refine ite2 (fun _ => ?_) (fun _ => ?_)
          · exact ⟨_, _, _, _, _, rfl, s3, hLf, h3, by omega⟩
          · exact ⟨_, _, _, rfl, s3, hLf, h3, hl3⟩
        · rintro σ H2 ⟨ds', q', y6, rfl, s2, hL2, h2, hl2⟩
          exact ⟨_, _, _, _, _, rfl, s2, hL2, h2, by omega⟩
      · refine ⟨_, rfl, .inl ⟨rfl, _, SqL.of h1⟩, _, rfl, _, _, rfl, fun r1 => ⟨_, _, rfl, fun r2 => ?_⟩⟩
        refine ⟨D, _, _, rfl, rfl, h1, size_l (by rw [List.length_map]; omega), ?_⟩
        obtain ⟨s3, h3⟩ := app r2 s1 h1
        exact ⟨_, _, _, _, _, rfl, s3, by rw [upd_ne hLD]; exact hL1, h3, by rw [List.length_append, List.length_singleton]; omega⟩
    · rintro σ H1 ⟨ds, b, x4, x5, x6, rfl, s1, hL1, h1, hds⟩
      refine ⟨_, rfl, c, rfl, by omega, by omega, for_range (lo := 0) (n := c.toNat)
          (fun j σ H' => ∃ (ds' : List Int) (x6 : Option V), σ = [some (.ref a), some (.int c), some (.ref D), some (.int b), x4, x5, x6] ∧ Same H H' ∧ H' D = some (.lst (ds'.map V.int)) ∧ ds'.length ≤ 60 * 63 + j) ?_ ?_ ?_⟩
      · exact ⟨_, _, rfl, s1, h1, by omega⟩
      · rintro j σ H2 hj ⟨ds', y6, rfl, s2, h2, hl2⟩
        have hj' : j < 1000 := by omega
        refine ⟨_, rfl, .inl ⟨rfl, _, SqL.of h2⟩, _, rfl, _, rfl, _, _, rfl, rfl, mulL (by decide) (by decide), _, _, rfl, rfl, _, rfl, _, _, rfl, rfl, _, _, rfl, fun r1 => ⟨_, _, rfl, fun r2 => ?_⟩⟩
        refine ⟨D, _, _, rfl, rfl, h2, size_l (by rw [List.length_map]; omega), ?_⟩
        obtain ⟨s3, h3⟩ := app r2 s2 h2
        exact ⟨_, _, rfl, s3, h3, by rw [List.length_append, List.length_singleton]; omega⟩
      · rintro σ H2 ⟨ds', y6, rfl, s2, h2, hl2⟩
        refine ⟨_, rfl, .inl ⟨rfl, _, SqL.of h2⟩, D, _, rfl, rfl, h2, ?_⟩
        refine ⟨_, rfl, k _ D (Same.upd s2 hD _) hD ⟨ds'.reverse, ?_, by rw [List.length_reverse]; omega⟩⟩
        rw [List.map_reverse]
        exact upd_same
end
end KP
namespace KP
open PySem PySem.Spec L2 RX
theorem rest_first {c : TT} {A B : TS} {D : Ends} {σ : St} {H : Hp} (I : St → Hp → Prop) (h1 : ∀ σ' H', I σ' H' → D.nx σ' H') (h2 : (∀ σ' H', I σ' H' → D.nx σ' H') → tIfS c A B D σ H) : tIfS c A B D σ H := h2 h1
theorem But.upd {l p : Addr} {H H' : Hp} (s : But l H H') (n : H p = none) (o : HO) : But l H (upd H' p o) := fun b u nb q => by rw [upd_ne (ne_of_none q n)]; exact s b u nb q
theorem But.free {l p : Addr} {H H' : Hp} (s : But l H H') (r : Row H' l) (n : H' p = none) : H p = none := by
  cases e : H p with
  | none => rfl
  | some o =>
    by_cases z : p = l
    · subst z
      obtain ⟨ns, h, _⟩ := r
      rw [h] at n
      cases n
    · rw [s p o z e] at n
      cases n
theorem merge3 {v1 v2 v3 : V} : mergeK ([] : List (Key × V)) [(.inr "pay", v1), (.inr "ship", v2), (.inr "tell", v3)] = [(.inr "pay", v1), (.inr "ship", v2), (.inr "tell", v3)] := by
  have n1 : ¬ (Sum.inr ("pay" : Str) : Key) = Sum.inr ("ship" : Str) := by decide +kernel
  have n2 : ¬ (Sum.inr ("pay" : Str) : Key) = Sum.inr ("tell" : Str) := by decide +kernel
  have n3 : ¬ (Sum.inr ("ship" : Str) : Key) = Sum.inr ("tell" : Str) := by decide +kernel
  unfold mergeK putK
  simp only [List.foldl_cons, List.foldl_nil, List.any_nil, List.any_cons, List.nil_append, List.cons_append, decide_eq_false n1, decide_eq_false n2, decide_eq_false n3, Bool.or_false, Bool.false_eq_true, if_false]
theorem Nl.put {H : Hp} {d : Addr} {o : HO} (h : ∀ o', H d = some o' → ∃ kvs, o' = .dK kvs) : ∀ (a : Addr) (xs : List V), H a = some (.tup xs) → upd H d o a = some (.tup xs) := fun a xs e => by
  rw [upd_ne (fun z => by
    obtain ⟨kvs, q⟩ := h _ (z ▸ e)
    cases q)]
  exact e
/-- tuples stay -/
def Tl (H H' : Hp) : Prop := ∀ a xs, H a = some (.tup xs) → H' a = some (.tup xs)
theorem Nl.tl {H H' : Hp} (s : Nl H H') : Tl H H' := fun _ _ h => s.t h
theorem ChAt.tl {H H' : Hp} {v : V} {c : Option (Int × Int)} (s : Tl H H') (h : ChAt H v c) : ChAt H' v c := by
  cases c with
  | none => exact h
  | some c => obtain ⟨t, e, h⟩ := h; exact ⟨t, e, s _ _ h⟩
theorem PrAt.tl {H H' : Hp} {v : V} {p : Pr} (s : Tl H H') (h : PrAt H v p) : PrAt H' v p := by
  obtain ⟨a, cv, e, h, q⟩ := h
  exact ⟨a, cv, e, s _ _ h, q.tl s⟩
theorem PsAt.tl {H H' : Hp} {kvs : List (Key × V)} {ps : Ps} (s : Tl H H') (h : PsAt H kvs ps) : PsAt H' kvs ps := by
  induction h with
  | nil => exact .nil
  | cons h _ ih => exact .cons (h.tl s) ih
theorem KeyAt.tl {H H' : Hp} {v : V} {d : PyData} (s : Tl H H') (h : KeyAt H v d) : KeyAt H' v d := by
  obtain ⟨a, p, ns, n, e, h1, h2, ed⟩ := h
  exact ⟨a, p, ns, n, e, s _ _ h1, s _ _ h2, ed⟩
theorem ClAt.tl {H H' : Hp} {v : V} {c : Cl} (s : Tl H H') (h : ClAt H v c) : ClAt H' v c := by
  obtain ⟨a, g, kv, d, e, h1, h2, h3, h4⟩ := h
  exact ⟨a, g, kv, d, e, s _ _ h1, h2.tl s, s _ _ h3, h4⟩
theorem Cls.tl {H H' : Hp} {vs : List V} {cs : List Cl} (s : Tl H H') (h : Cls H vs cs) : Cls H' vs cs := by
  induction h with
  | nil => exact .nil
  | cons h _ ih => exact .cons (h.tl s) ih
theorem Row.upd {H : Hp} {l p : Addr} (r : Row H l) (n : H p = none) (o : HO) : Row (upd H p o) l := r.same (same_new n o)
theorem Row.ne {H : Hp} {l p : Addr} (r : Row H l) (n : H p = none) : l ≠ p := fun z => by
  obtain ⟨ns, h, _⟩ := r
  rw [z, n] at h
  cases h
theorem isB_of {n b : Int} (h0 : 0 ≤ n) (h1 : n < b) (hb : b ≤ 1000) : isB n = true := by
  unfold isB
  rw [decide_eq_true h0, decide_eq_true (by omega : n ≤ 1000000)]
  rfl
section
variable {P : Program} {w : World} {K : PySem.W.Frag} {mg : Str → Option Value} {base : Heap}
theorem scPrice : FnScope ["row", "change"] ["row"] (defScope sPrice) := ⟨rfl, rfl, rfl, by decide +kernel, rfl, by decide +kernel, by decide +kernel⟩
theorem ok_price {f fT : Addr} {fd fdT : FuncData} (F : Fun K "_law_price" "_law_price" sPrice f fd) (T : Txt K mg)
    (G_TK : FnOk P w K mg base CX0 1 fT fdT ["row", "bound"] spTake) (L_TK : Cal K mg "_law_take" fT fdT ["row", "bound"]) : FnOk P w K mg base CX0 2 f fd ["row"] spPrice := by
  refine F.ok scPrice (fun vs H Q E h => ?_) (fun cdv A outer s H vs Q E hr h => ?_)
  · obtain ⟨l, rfl, _⟩ := h
    rfl
  · obtain ⟨l, rfl, R0, k⟩ := h
    refine ⟨_, (pss_cons (ps_set (i := 1) scPrice.nd rfl (Or.inl rfl) pe_non)
 (pss_cons (ps_if (pt_cmpR op_gt (pe_call G_TK hr rfl L_TK.g L_TK.k L_TK.b .nil pass0 (pa_cons (pv 0) (pa_cons pe_int pa_nil))) pe_int (nomark _))
 (pss_one (ps_set (i := 1) scPrice.nd rfl (Or.inl rfl) (pe_tup (pa_cons (pe_call G_TK hr rfl L_TK.g L_TK.k L_TK.b .nil pass0 (pa_cons (pv 0) (pa_cons pe_int pa_nil))) (pa_cons (pe_call G_TK hr rfl L_TK.g L_TK.k L_TK.b .nil pass0 (pa_cons (pv 0) (pa_cons pe_int pa_nil))) pa_nil)))))
 pss_nil)
 (pss_one (ps_ret (pe_tup (pa_cons (pe_call G_TK hr rfl L_TK.g L_TK.k L_TK.b .nil pass0 (pa_cons (pv 0) (pa_cons pe_int pa_nil))) (pa_cons (pe_call G_TK hr rfl L_TK.g L_TK.k L_TK.b .nil pass0 (pa_cons (pv 0) (pa_cons pe_int pa_nil))) (pa_cons (pv 1) pa_nil)))))))), ?_⟩
    dsimp only [tSeq, tAsg, tC, gName]
    refine rest_first (fun σ' H' => ∃ (cv : V) (c : Option (Int × Int)), σ' = [some (.ref l), some cv] ∧ But l H H' ∧ Row H' l ∧ ChAt H' cv c ∧ ∀ b e, c = some (b, e) → isB b = true ∧ isB e = true) ?_ (fun rest => ?_)
    · rintro σ' H1 ⟨cv, c, rfl, b1, R1, hc, hb⟩
      refine ⟨_, rfl, _, 9, rfl, by decide, R1, fun r2 H2 h20 h21 b2 R2 => ⟨_, rfl, _, 9, rfl, by decide, R2, fun r3 H3 h30 h31 b3 R3 => ?_⟩⟩
      refine ⟨_, rfl, (by show 3 ≤ sizeLine; decide), fun t ht => ?_⟩
      refine k _ ⟨r2, r3, c⟩ _ ((b1.trans (b2.trans b3)).trans (Same.but (same_new ht _))) (R3.upd ht _) ⟨t, cv, rfl, upd_same, (hc.nl ((b2.trans b3).nl R1)).nl (Same.nl (same_new ht _))⟩ ?_
      unfold prB
      rw [isB_of h20 h21 (by decide), isB_of h30 h31 (by decide)]
      cases c with
      | none => rfl
      | some be =>
        obtain ⟨x, y⟩ := be
        obtain ⟨e1, e2⟩ := hb x y rfl
        show (true && true && (isB x && isB y)) = true
        rw [e1, e2]
        rfl
    · refine ⟨_, rfl, l, 4, rfl, by decide, R0, fun r H1 h0 h1 b1 R1 => ?_⟩
      refine ⟨_, _, rfl, rfl, _, rfl, ite2 (fun _ => ?_) (fun _ => ?_)⟩
      · refine ⟨_, rfl, _, 4, rfl, by decide, R1, fun r2 H2 h20 h21 b2 R2 => ⟨_, rfl, _, 3, rfl, by decide, R2, fun r3 H3 h30 h31 b3 R3 => ?_⟩⟩
        refine ⟨(by show 2 ≤ sizeLine; decide), fun t ht => ?_⟩
        refine rest _ _ ⟨_, some (r2, r3), rfl, (b1.trans (b2.trans b3)).trans (Same.but (same_new ht _)), R3.upd ht _, ⟨t, rfl, upd_same⟩, ?_⟩
        rintro b e h
        cases h
        exact ⟨isB_of h20 h21 (by decide), isB_of h30 h31 (by decide)⟩
      · exact rest _ _ ⟨.non, none, rfl, b1, R1, rfl, fun _ _ h => by cases h⟩
theorem scPrices : FnScope ["row"] ["row"] (defScope sPrices) := ⟨rfl, rfl, rfl, by decide +kernel, rfl, by decide +kernel, by decide +kernel⟩
theorem ok_prices {f fR : Addr} {fd fdR : FuncData} (F : Fun K "_law_prices" "_law_prices" sPrices f fd) (T : Txt K mg)
    (G_PR : FnOk P w K mg base CX0 2 fR fdR ["row"] spPrice) (L_PR : Cal K mg "_law_price" fR fdR ["row"]) : FnOk P w K mg base CX0 3 f fd ["row"] spPrices := by
  refine F.ok scPrices (fun vs H Q E h => ?_) (fun cdv A outer s H vs Q E hr h => ?_)
  · obtain ⟨l, rfl, _⟩ := h
    rfl
  · obtain ⟨l, rfl, R0, k⟩ := h
    refine ⟨_, (pss_one (ps_ret (pe_disp (pps_cons pe_str (pe_call G_PR hr rfl L_PR.g L_PR.k L_PR.b .nil pass0 (pa_cons (pv 0) pa_nil)) (pps_cons pe_str (pe_call G_PR hr rfl L_PR.g L_PR.k L_PR.b .nil pass0 (pa_cons (pv 0) pa_nil)) (pps_cons pe_str (pe_call G_PR hr rfl L_PR.g L_PR.k L_PR.b .nil pass0 (pa_cons (pv 0) pa_nil)) pps_nil))) (by rfl) (by rfl) (fun z => by cases z) (by decide)))), ?_⟩
    intro d hd
    have s0 := same_new hd (.dK [])
    have nd := R0.ne hd
    refine ⟨_, rfl, l, rfl, R0.upd hd _, fun v1 p1 H1 b1 R1 a1 o1 => ⟨_, rfl, l, rfl, R1, fun v2 p2 H2 b2 R2 a2 o2 => ⟨_, rfl, l, rfl, R2, fun v3 p3 H3 b3 R3 a3 o3 => ?_⟩⟩⟩
    have hd3 : H3 d = some (.dK []) := b3 _ _ (Ne.symm nd) (b2 _ _ (Ne.symm nd) (b1 _ _ (Ne.symm nd) upd_same))
    refine ⟨hd3, [(.inr "pay", v1), (.inr "ship", v2), (.inr "tell", v3)], rfl, (by show 3 ≤ 15; decide), ?_⟩
    rw [merge3]
    have nl3 : Tl H3 (upd H3 d (.dK [(.inr "pay", v1), (.inr "ship", v2), (.inr "tell", v3)])) := Nl.put fun o' h => ⟨[], by rw [hd3] at h; exact (Option.some.inj h).symm⟩
    refine k d _ p1 p2 p3 _ (fun b o nb h => ?_) ?_ hd upd_same (.cons (e := .pay) ((a1.nl ((b2.trans b3).nl R1)).tl nl3) (.cons (e := .ship) ((a2.nl (b3.nl R2)).tl nl3) (.cons (e := .tell) (a3.tl nl3) .nil))) o1 o2 o3
    · rw [upd_ne (ne_of_none h hd)]
      exact b3 _ _ nb (b2 _ _ nb (b1 _ _ nb (s0 _ _ h)))
    · obtain ⟨ns, h, n⟩ := R3
      exact ⟨ns, by rw [upd_ne nd]; exact h, n⟩
end
end KP
namespace KP
open PySem PySem.Spec L2 RX
theorem lay_ints : ∀ ns : List Int, PyData.canLayAll0 (dInts ns) = true
  | [] => rfl
  | n :: ns => by
    show (PyData.canLay0 (.int n) && PyData.canLayAll0 (dInts ns)) = true
    rw [lay_ints ns]
    rfl
theorem dep_ints : ∀ ns : List Int, PyData.depthAll (dInts ns) = 0
  | [] => rfl
  | n :: ns => by
    show max 0 (PyData.depthAll (dInts ns)) = 0
    rw [dep_ints ns]
    rfl
theorem KeyAt.lay {H : Hp} {v : V} {d : PyData} (h : KeyAt H v d) : d.canLay0 = true ∧ d.depth ≤ 4 := by
  obtain ⟨a, p, ns, n, _, _, _, rfl⟩ := h
  refine ⟨?_, ?_⟩
  · show ((PyData.canLayAll0 (dInts ns)) && (PyData.canLay0 (.int n) && true)) = true
    rw [lay_ints]
    rfl
  · show max (PyData.depthAll (dInts ns) + 1) (max 0 0) + 1 ≤ 4
    rw [dep_ints ns]
    decide
theorem KeyAt.dp {K : PySem.W.Frag} {H : Hp} {v : V} {d : PyData} (h : KeyAt H v d) : Dp K H v d := by
  obtain ⟨a, p, ns, n, rfl, h1, h2, rfl⟩ := h
  refine .tup (SqT.of h1) (.cons (.tup (SqT.of h2) ?_) (.cons (.int n) .nil))
  have go : ∀ ns : List Int, DpAll K H (ns.map V.int) (dInts ns) := fun ns => by
    induction ns with
    | nil => exact .nil
    | cons n ns ih => exact .cons (.int n) ih
  exact go ns
inductive Keys (H : Hp) : List V → List PyData → Prop
  | nil : Keys H [] []
  | cons {v : V} {vs : List V} {d : PyData} {ds : List PyData} (h : KeyAt H v d) (r : Keys H vs ds) : Keys H (v :: vs) (d :: ds)
theorem Keys.tl {H H' : Hp} {vs : List V} {ds : List PyData} (s : Tl H H') (h : Keys H vs ds) : Keys H' vs ds := by
  induction h with
  | nil => exact .nil
  | cons h _ ih => exact .cons (h.tl s) ih
theorem Keys.dp {K : PySem.W.Frag} {H : Hp} {vs : List V} {ds : List PyData} (h : Keys H vs ds) : DpAll K H vs ds := by
  induction h with
  | nil => exact .nil
  | cons h _ ih => exact .cons h.dp ih
theorem Keys.lay {H : Hp} {vs : List V} {ds : List PyData} (h : Keys H vs ds) : PyData.canLayAll0 ds = true ∧ PyData.depthAll ds ≤ 4 := by
  induction h with
  | nil => exact ⟨rfl, Nat.zero_le _⟩
  | @cons v vs d ds h _ ih =>
    obtain ⟨a1, a2⟩ := h.lay
    obtain ⟨b1, b2⟩ := ih
    refine ⟨?_, ?_⟩
    · show (d.canLay0 && PyData.canLayAll0 ds) = true
      rw [a1, b1]
      rfl
    · show max d.depth (PyData.depthAll ds) ≤ 4
      omega
theorem Keys.shaped {H : Hp} {vs : List V} {ds : List PyData} (h : Keys H vs ds) : SeqAt.shaped (.list ds) = true := by
  obtain ⟨a, b⟩ := h.lay
  unfold SeqAt.shaped
  have e : PyData.depth (.list ds) ≤ 64 := by
    show PyData.depthAll ds + 1 ≤ 64
    omega
  show (PyData.canLayAll0 ds && _) = true
  rw [a, decide_eq_true e]
  rfl
theorem KeyAt.shaped {H : Hp} {v : V} {d : PyData} (h : KeyAt H v d) : SeqAt.shaped d = true := by
  obtain ⟨a, b⟩ := h.lay
  unfold SeqAt.shaped
  rw [a, decide_eq_true (show d.depth ≤ 64 by omega)]
  rfl
def spCall : Sp := fun vs H Q _ => ∃ (l ks : Addr) (us : List V) (ds : List PyData), vs = [.ref l, .ref ks] ∧ Row H l ∧ ks ≠ l ∧ H ks = some (.lst us) ∧ us.length ≤ 100 ∧ Keys H us ds ∧ ∀ v c H', But l H H' → Row H' l → ClAt H' v c → Q v H'
theorem effs (r : Int) (h0 : 0 ≤ r) (h1 : r < 3) : ∃ e : Ef, atI [V.str "pay", .str "ship", .str "tell"] r = some (.str e.s) := by
  have : r = 0 ∨ r = 1 ∨ r = 2 := by omega
  rcases this with rfl | rfl | rfl
  · exact ⟨.pay, rfl⟩
  · exact ⟨.ship, rfl⟩
  · exact ⟨.tell, rfl⟩
section
variable {P : Program} {w : World} {K : PySem.W.Frag} {mg : Str → Option Value} {base : Heap}
theorem scCall : FnScope ["row", "keys", "key", "effect"] ["row", "keys"] (defScope sCall) := ⟨rfl, rfl, rfl, by decide +kernel, rfl, by decide +kernel, by decide +kernel⟩
theorem ok_call {f fT : Addr} {fd fdT : FuncData} (F : Fun K "_law_call" "_law_call" sCall f fd) (T : Txt K mg)
    (G_TK : FnOk P w K mg base CX0 1 fT fdT ["row", "bound"] spTake) (L_TK : Cal K mg "_law_take" fT fdT ["row", "bound"]) : FnOk P w K mg base CX0 2 f fd ["row", "keys"] spCall := by
  refine F.ok scCall (fun vs H Q E h => ?_) (fun cdv A outer s H vs Q E hr h => ?_)
  · obtain ⟨l, ks, us, ds, rfl, _⟩ := h
    rfl
  · obtain ⟨l, ks, us, ds, rfl, R0, nkl, hks, hlen, hk, k⟩ := h
    have hu65 : ∀ {A : Around}, Room 1 A → A.units + 65 < cLine := fun r => by have := r.un; omega
    refine ⟨_, (pss_cons (ps_set (i := 2) scCall.nd rfl (Or.inl rfl) (pe_tup (pa_cons (pe_tup pa_nil) (pa_cons (pe_call G_TK hr rfl L_TK.g L_TK.k L_TK.b .nil pass0 (pa_cons (pv 0) (pa_cons pe_int pa_nil))) pa_nil))))
 (pss_cons (ps_if (pt_cmpR op_eq (pe_call G_TK hr rfl L_TK.g L_TK.k L_TK.b .nil pass0 (pa_cons (pv 0) (pa_cons pe_int pa_nil))) pe_int (nomark _))
 (pss_one (ps_set (i := 2) scCall.nd rfl (Or.inl rfl) (pe_tup (pa_cons (pe_tup (pa_cons (pe_call G_TK hr rfl L_TK.g L_TK.k L_TK.b .nil pass0 (pa_cons (pv 0) (pa_cons pe_int pa_nil))) pa_nil)) (pa_cons (pe_call G_TK hr rfl L_TK.g L_TK.k L_TK.b .nil pass0 (pa_cons (pv 0) (pa_cons pe_int pa_nil))) pa_nil)))))
 pss_nil)
 (pss_cons (ps_if (pt_cmpR (op_inD (hu65 hr)) (pv 2) (pv 1) (by rfl))
 (pss_one (ps_set (i := 2) scCall.nd rfl (Or.inl rfl) (pe_tup (pa_cons (pe_tup (pa_cons pe_int (pa_cons (pe_callB call_len_seq rfl T.zlen PySem.boot_len (pa_cons (pv 1) pa_nil)) pa_nil))) (pa_cons (pe_op op_add pe_int (pe_callB call_len_seq rfl T.zlen PySem.boot_len (pa_cons (pv 1) pa_nil))) pa_nil)))))
 pss_nil)
 (pss_cons (ps_set (i := 3) scCall.nd rfl (Or.inl rfl) (pe_ix ix_list (pe_lst (pa_cons pe_str (pa_cons pe_str (pa_cons pe_str pa_nil)))) (pe_call G_TK hr rfl L_TK.g L_TK.k L_TK.b .nil pass0 (pa_cons (pv 0) (pa_cons pe_int pa_nil))) (fun _ _ => rfl)))
 (pss_cons (ps_if (pt_cmpR op_eq (pv 3) pe_str (nomark _))
 (pss_one (ps_ret (pe_tup (pa_cons (pv 2) (pa_cons (pv 3) (pa_cons (pe_tup pa_nil) pa_nil))))))
 pss_nil)
 (pss_cons (ps_if (pt_cmpR op_eq (pv 3) pe_str (nomark _))
 (pss_one (ps_ret (pe_tup (pa_cons (pv 2) (pa_cons (pv 3) (pa_cons (pe_tup (pa_cons (pe_op op_sub (pe_call G_TK hr rfl L_TK.g L_TK.k L_TK.b .nil pass0 (pa_cons (pv 0) (pa_cons pe_int pa_nil))) pe_int) pa_nil)) pa_nil))))))
 pss_nil)
 (pss_one (ps_ret (pe_tup (pa_cons (pv 2) (pa_cons (pv 3) (pa_cons (pe_tup (pa_cons (pe_call G_TK hr rfl L_TK.g L_TK.k L_TK.b .nil pass0 (pa_cons (pv 0) (pa_cons pe_int pa_nil))) (pa_cons (pe_call G_TK hr rfl L_TK.g L_TK.k L_TK.b .nil pass0 (pa_cons (pv 0) (pa_cons pe_int pa_nil))) pa_nil))) pa_nil)))))))))))), ?_⟩
    refine ⟨(by show 0 ≤ sizeLine; decide), fun e he => ?_⟩
    have s1 := same_new he (.tup [])
    refine ⟨_, rfl, l, 9, rfl, by decide, R0.upd he _, fun r1 H1 _ _ b1 R1 => ⟨(by show 2 ≤ sizeLine; decide), fun t ht => ?_⟩⟩
    have he1 : H1 e = some (.tup []) := b1 _ _ (R0.ne he).symm upd_same
    have B1 : But l H (upd H1 t (.tup [.ref e, .int r1])) := ((Same.but s1).trans b1).trans (Same.but (same_new ht _))
    have K1 : KeyAt (upd H1 t (.tup [.ref e, .int r1])) (.ref t) (.tuple [.tuple (dInts []), .int r1]) := ⟨t, e, [], r1, rfl, upd_same, same_new ht _ _ _ he1, rfl⟩
    have R1' := R1.upd ht (.tup [.ref e, .int r1])
    generalize upd H1 t (.tup [.ref e, .int r1]) = H2 at B1 K1 R1' ⊢
    clear R1 he1 ht b1
    dsimp only [tSeq, tAsg, tC, gName]
    refine rest_first (fun σ' H' => ∃ (kv : V) (d : PyData), σ' = [some (.ref l), some (.ref ks), some kv, none] ∧ But l H H' ∧ Row H' l ∧ KeyAt H' kv d) ?_ (fun rest => ?_)
    · rintro σ' H3 ⟨kv, d, rfl, B3, R3, K3⟩
      dsimp only [tSeq]
      refine rest_first (fun σ' H' => ∃ (kv : V) (d : PyData), σ' = [some (.ref l), some (.ref ks), some kv, none] ∧ But l H H' ∧ Row H' l ∧ KeyAt H' kv d) ?_ (fun rest => ?_)
      · rintro σ' H4 ⟨kv, d, rfl, B4, R4, K4⟩
        refine ⟨(by show 3 ≤ sizeLine; decide), fun q hq => ⟨_, rfl, l, 3, rfl, by decide, R4.upd hq _, fun r6 H6 h60 h61 b6 R6 => ?_⟩⟩
        have hq6 := b6 _ _ (R4.ne hq).symm upd_same
        obtain ⟨e, he6⟩ := effs r6 h60 h61
        refine ⟨q, _, _, _, rfl, rfl, SqL.of hq6, he6, ?_⟩
        have B6 : But l H H6 := (B4.trans (Same.but (same_new hq _))).trans b6
        have K6 : KeyAt H6 kv d := (K4.nl (Same.nl (same_new hq _))).nl (b6.nl (R4.upd hq _))
        refine ⟨_, rfl, rfl, _, rfl, ite2 (fun c1 => ?_) (fun c1 => ?_)⟩
        · have ee : e = .tell := Ef.inj (str_eq.mp (of_decide_eq_true c1))
          subst ee
          refine ⟨_, rfl, _, rfl, (by show 0 ≤ sizeLine; decide), fun g hg => ⟨(by show 3 ≤ sizeLine; decide), fun t ht => ?_⟩⟩
          have ng := same_new hg (.tup [])
          have nt := same_new ht (.tup [kv, .str Ef.tell.s, .ref g])
          exact k _ ⟨.tell, []⟩ _ ((B6.trans (Same.but ng)).trans (Same.but nt)) ((R6.upd hg _).upd ht _) ⟨t, g, kv, d, rfl, upd_same, (K6.nl (Same.nl ng)).nl (Same.nl nt), nt _ _ upd_same, rfl⟩
        · refine ⟨_, rfl, rfl, _, rfl, ite2 (fun c2 => ?_) (fun c2 => ?_)⟩
          · have ee : e = .pay := Ef.inj (str_eq.mp (of_decide_eq_true c2))
            subst ee
            refine ⟨_, rfl, _, rfl, _, rfl, l, 9, rfl, by decide, R6, fun r7 H7 _ _ b7 R7 => ⟨_, _, rfl, rfl, (by show 1 ≤ sizeLine; decide), fun g hg => ⟨(by show 3 ≤ sizeLine; decide), fun t ht => ?_⟩⟩⟩
            have ng := same_new hg (.tup [.int (r7 - 2)])
            have nt := same_new ht (.tup [kv, .str Ef.pay.s, .ref g])
            exact k _ ⟨.pay, [r7 - 2]⟩ _ (((B6.trans b7).trans (Same.but ng)).trans (Same.but nt)) ((R7.upd hg _).upd ht _) ⟨t, g, kv, d, rfl, upd_same, ((K6.nl (b7.nl R6)).nl (Same.nl ng)).nl (Same.nl nt), nt _ _ upd_same, rfl⟩
          · have ee : e = .ship := by
              cases e with
              | pay => exact absurd (by decide +kernel) c2
              | ship => rfl
              | tell => exact absurd (by decide +kernel) c1
            subst ee
            refine ⟨_, rfl, _, rfl, _, rfl, l, 4, rfl, by decide, R6, fun r7 H7 _ _ b7 R7 => ⟨_, rfl, l, 6, rfl, by decide, R7, fun r8 H8 _ _ b8 R8 => ⟨(by show 2 ≤ sizeLine; decide), fun g hg => ⟨(by show 3 ≤ sizeLine; decide), fun t ht => ?_⟩⟩⟩⟩
            have ng := same_new hg (.tup [.int r7, .int r8])
            have nt := same_new ht (.tup [kv, .str Ef.ship.s, .ref g])
            exact k _ ⟨.ship, [r7, r8]⟩ _ ((((B6.trans b7).trans b8).trans (Same.but ng)).trans (Same.but nt)) ((R8.upd hg _).upd ht _) ⟨t, g, kv, d, rfl, upd_same, ((K6.nl ((b7.trans b8).nl R6)).nl (Same.nl ng)).nl (Same.nl nt), nt _ _ upd_same, rfl⟩
      · have hks3 : H3 ks = some (.lst us) := B3 _ _ nkl hks
        have hk3 : Keys H3 us ds := hk.tl ((B3.nl R0).tl)
        refine ⟨_, rfl, _, rfl, d, ds, K3.dp, .lst (SqL.of hks3) hk3.dp, K3.shaped, hk3.shaped, _, rfl, ite2 (fun _ => ?_) (fun _ => ?_)⟩
        · refine ⟨_, rfl, _, us, rfl, .inl (SqL.of hks3), (by show 2 ≤ sizeLine; decide), fun p hp => ?_⟩
          refine ⟨_, rfl, _, us, rfl, .inl (SqL.of (same_new hp _ _ _ hks3)), _, _, rfl, rfl, (by show 2 ≤ sizeLine; decide), fun t ht => ?_⟩
          exact rest _ _ ⟨.ref t, _, rfl, (B3.trans (Same.but (same_new hp _))).trans (Same.but (same_new ht _)), (R3.upd hp _).upd ht _, t, p, [1, (us.length : Int)], _, rfl, upd_same, same_new ht _ _ _ upd_same, rfl⟩
        · exact rest _ _ ⟨kv, d, rfl, B3, R3, K3⟩
    · refine ⟨_, rfl, l, 3, rfl, by decide, R1', fun r2 H3 _ _ b3 R3 => ?_⟩
      refine ⟨rfl, _, rfl, ite2 (fun _ => ?_) (fun _ => ?_)⟩
      · refine ⟨_, rfl, l, 2, rfl, by decide, R3, fun r4 H4 _ _ b4 R4 => ⟨(by show 1 ≤ sizeLine; decide), fun p hp => ?_⟩⟩
        refine ⟨_, rfl, l, 4, rfl, by decide, R4.upd hp _, fun r5 H5 _ _ b5 R5 => ⟨(by show 2 ≤ sizeLine; decide), fun t ht => ?_⟩⟩
        have hp5 : H5 p = some (.tup [.int r4]) := b5 _ _ (R4.ne hp).symm upd_same
        exact rest _ _ ⟨.ref t, _, rfl, (((B1.trans (b3.trans b4)).trans (Same.but (same_new hp _))).trans b5).trans (Same.but (same_new ht _)), R5.upd ht _, t, p, [r4], r5, rfl, upd_same, same_new ht _ _ _ hp5, rfl⟩
      · exact rest _ _ ⟨.ref t, _, rfl, B1.trans b3, R3, K1.nl (b3.nl R1')⟩
end
end KP
namespace KP
open PySem PySem.Spec L2 RX
theorem Cls.snoc {H : Hp} {us : List V} {cs : List Cl} {v : V} {c : Cl} (h : Cls H us cs) (q : ClAt H v c) : Cls H (us ++ [v]) (cs ++ [c]) := by
  induction h with
  | nil => exact .cons q .nil
  | cons a _ ih => exact .cons a ih
theorem Cls.len {H : Hp} {us : List V} {cs : List Cl} (h : Cls H us cs) : us.length = cs.length := by
  induction h with
  | nil => rfl
  | cons a _ ih => rw [List.length_cons, List.length_cons, ih]
theorem Cls.get {H : Hp} {us : List V} {cs : List Cl} (h : Cls H us cs) : ∀ {i : Nat} {v : V}, us[i]? = some v → ∃ c, cs[i]? = some c ∧ ClAt H v c := by
  induction h with
  | nil => intro i v q; simp at q
  | cons a _ ih =>
    intro i v q
    cases i with
    | zero => exact ⟨_, rfl, by cases q; exact a⟩
    | succ i => exact ih q
theorem Keys.snoc {H : Hp} {us : List V} {ds : List PyData} {v : V} {d : PyData} (h : Keys H us ds) (q : KeyAt H v d) : Keys H (us ++ [v]) (ds ++ [d]) := by
  induction h with
  | nil => exact .cons q .nil
  | cons a _ ih => exact .cons a ih
theorem upd_tl {H : Hp} {D : Addr} {xs : List V} {o : HO} (h : H D = some (.lst xs)) : Tl H (upd H D o) := fun a ys e => by
  rw [upd_ne (fun z => by rw [z, h] at e; cases e)]
  exact e
section
variable {P : Program} {w : World} {K : PySem.W.Frag} {mg : Str → Option Value} {base : Heap}
theorem scCalls : FnScope ["row", "most", "calls", "k", "call"] ["row", "most"] (defScope sCalls) := ⟨rfl, rfl, rfl, by decide +kernel, rfl, by decide +kernel, by decide +kernel⟩
theorem ok_calls {f fT fC : Addr} {fd fdT fdC : FuncData} (F : Fun K "_law_calls" "_law_calls" sCalls f fd) (T : Txt K mg)
    (G_TK : FnOk P w K mg base CX0 1 fT fdT ["row", "bound"] spTake) (L_TK : Cal K mg "_law_take" fT fdT ["row", "bound"])
    (G_CA : FnOk P w K mg base CX0 2 fC fdC ["row", "keys"] spCall) (L_CA : Cal K mg "_law_call" fC fdC ["row", "keys"]) : FnOk P w K mg base CX0 3 f fd ["row", "most"] spCalls := by
  refine F.ok scCalls (fun vs H Q E h => ?_) (fun cdv A outer s H vs Q E hr h => ?_)
  · obtain ⟨l, m, rfl, _⟩ := h
    rfl
  · obtain ⟨l, m, rfl, R0, hm0, hm1, k⟩ := h
    have hr1 : Room 1 _ := hr.mono (by decide)
    refine ⟨_, (pss_cons (ps_set (i := 2) scCalls.nd rfl (Or.inl rfl) (pe_lst pa_nil))
 (pss_cons (ps_for PassesOwn.never rfl (pi_range1 rfl T.zrng (pa_cons (pe_call G_TK hr1 rfl L_TK.g L_TK.k L_TK.b .nil pass0 (pa_cons (pv 0) (pa_cons (pe_op op_add (pv 1) pe_int) pa_nil))) pa_nil)) (pg_name (i := 3) scCalls.nd rfl (Or.inl rfl))
 (pss_one (ps_expr (pe_bm PySem.F.plainAttrs_list PySem.F.slot_list_append PySem.F.type_list_append mt_append (pv 2) (pa_cons (pe_call G_CA hr rfl L_CA.g L_CA.k L_CA.b .nil pass0 (pa_cons (pv 0) (pa_cons (pe_lc (own := [("call", 4)]) (g := gName 4) (tt := tYes) rfl scCalls.nd (pi_list (pv 2)) (blkOk_by (own := [("call", 4)]) (N := ["row", "most", "calls", "k", "call"]) (sc := defScope sCalls) (by decide +kernel)) (fun _ _ _ _ _ => (pg_name (i := 4) scCalls.nd rfl (Or.inl rfl))) (fun _ _ _ _ _ => pts_nil) (fun _ _ _ _ _ => (pe_ix (ix_tup : IxR _ (rIxT K)) (pv 4) pe_int (fun _ _ => rfl)))) pa_nil))) pa_nil)))))
 (pss_one (ps_ret (pv 2))))), ?_⟩
    refine ⟨(by show 0 ≤ sizeLine; decide), fun D hD => ?_⟩
    have nD := R0.ne hD
    refine ⟨_, rfl, _, rfl, _, _, rfl, rfl, l, m + 1, rfl, by omega, R0.upd hD _, fun r H1 h0 h1 b1 R1 => ?_⟩
    have hD1 : H1 D = some (.lst []) := b1 _ _ nD.symm upd_same
    refine ⟨r, rfl, by omega, by omega, for_range (lo := 0) (n := r.toNat)
      (fun i σ H' => ∃ (us : List V) (cs : List Cl) (x3 : Option V), σ = [some (.ref l), some (.int m), some (.ref D), x3, none] ∧ But l H H' ∧ Row H' l ∧ H' D = some (.lst us) ∧ Cls H' us cs ∧ cs.length = i) ?_ ?_ ?_⟩
    · exact ⟨[], [], none, rfl, (Same.but (same_new hD _)).trans b1, R1, hD1, .nil, rfl⟩
    · rintro i σ H2 hi ⟨us, cs, x3, rfl, b2, R2, hD2, hcs, hl⟩
      have hlen := hcs.len
      refine ⟨_, rfl, .inl ⟨rfl, _, SqL.of hD2⟩, _, rfl, _, rfl, D, rfl, ⟨_, SqL.of hD2⟩, fun L hL => lc_list (K := K) (a := D) (xs := us)
        (fun j H' => ∃ (ks : List V) (ds : List PyData), Same H2 H' ∧ H' L = some (.lst ks) ∧ Keys H' ks ds ∧ ks.length = j) ⟨[], [], same_new hL _, upd_same, .nil, rfl⟩ (fun j H' _ ⟨_, _, s, _⟩ => SqL.of (s _ _ hD2)) ?_ ?_⟩
      · rintro j x H3 hx ⟨ks, ds, s3, hL3, hk3, hj⟩
        obtain ⟨c, _, a, g, kv, d, rfl, ha, hkv, _⟩ := hcs.get hx
        have hjl : j < us.length := (List.getElem?_eq_some_iff.mp hx).1
        refine ⟨rfl, _, rfl, a, _, _, _, rfl, rfl, SqT.of (s3 _ _ ha), at0, _, hL3, size_l (by omega), ks ++ [kv], ds ++ [d], Same.upd s3 hL _, upd_same, ?_, by rw [List.length_append, List.length_singleton, hj]⟩
        exact (hk3.snoc (hkv.nl (Same.nl s3))).tl (upd_tl hL3)
      · rintro H3 ⟨ks, ds, s3, hL3, hk3, hj⟩
        have hLl : L ≠ l := fun z => by
          obtain ⟨ns, h, _⟩ := R2
          rw [z, h] at hL
          cases hL
        refine ⟨l, L, ks, ds, rfl, R2.same s3, hLl, hL3, by omega, hk3, fun v c H4 b4 R4 hc => ?_⟩
        have hD4 : H4 D = some (.lst us) := b4 _ _ nD.symm (s3 _ _ hD2)
        refine ⟨D, _, _, rfl, rfl, hD4, size_l (by omega), ?_⟩
        have ut := upd_tl (o := .lst (us ++ [v])) hD4
        have bl : But l H H4 := (b2.trans (Same.but s3)).trans b4
        refine ⟨us ++ [v], cs ++ [c], _, rfl, fun b o nb q => ?_, ?_, upd_same, (((hcs.nl (Same.nl s3)).nl (b4.nl (R2.same s3))).snoc hc).tl ut, by rw [List.length_append, List.length_singleton, hl]⟩
        · rw [upd_ne (ne_of_none q hD)]
          exact bl _ _ nb q
        · obtain ⟨ns, h, n⟩ := R4
          exact ⟨ns, by rw [upd_ne nD]; exact h, n⟩
    · rintro σ H2 ⟨us, cs, x3, rfl, b2, R2, hD2, hcs, hl⟩
      exact ⟨_, rfl, k D us cs H2 b2 R2 hD hD2 hcs (by omega)⟩
end
end KP
namespace KP
open PySem PySem.Spec L2 RX
/-- what the written part says of the class Prices -/
structure PrC (K : PySem.W.Frag) (mg : Str → Option Value) (CP fP : Addr) : Prop where
  cl : L2.Cls K CP
  nF : NoAttr K CP "effects"
  mkr : Mk K CP fP
  g : mg "Prices" = some (.ref CP)
theorem unk_drop {ps : Ps} {cs : List Cl} {i : Nat} {c : Cl} (h : cs[i]? = some c) : unkOf ps (cs.drop i) = (match look ps c.e with | none => some c.e | some _ => unkOf ps (cs.drop (i + 1))) := by
  obtain ⟨hi, he⟩ := List.getElem?_eq_some_iff.mp h
  rw [List.drop_eq_getElem_cons hi, he]
  rfl
section
variable {P : Program} {w : World} {K : PySem.W.Frag} {mg : Str → Option Value} {base : Heap} {CP fP CU fU cU dU CI fI cI dI : Addr}
theorem scChk : FnScope ["prices", "calls", "_", "effect"] ["prices", "calls"] (defScope sChk) := ⟨rfl, rfl, rfl, by decide +kernel, rfl, by decide +kernel, by decide +kernel⟩
theorem ok_chk {f : Addr} {fd fdU : FuncData} (F : Fun K "check_effects" "check_effects" sChk f fd) (PC : PrC K mg CP fP) (TU : Ex1 P K mg CU fU cU dU "UnknownEffect")
    (GU : FnOk P w K mg base CX0 1 fU fdU ["self", "name"] (spEInit CU)) (bU : Binds K fdU ["self", "name"] []) : FnOk P w K mg base (L2.CX P w) 3 f fd ["prices", "calls"] (spChk K CP CU) := by
  refine F.okX scChk (fun vs H Q E h => ?_) (fun cdv A outer s H vs Q E hr h => ?_)
  · obtain ⟨v, l, us, cs, ps, rfl, _⟩ := h
    rfl
  · obtain ⟨v, l, us, cs, ps, rfl, ⟨a, dx, d, kvs, rfl, hA, hD, hps⟩, hl, hcs, k⟩ := h
    have hu := hu_of hr
    refine ⟨_, (pss_one (ps_for (passes_of rfl) rfl (pi_list (pv 1)) (pg_tup rfl (pgs_cons (pg_name (i := 2) scChk.nd rfl (Or.inl rfl)) (pgs_cons (pg_name (i := 3) scChk.nd rfl (Or.inl rfl)) (pgs_cons (pg_name (i := 2) scChk.nd rfl (Or.inl rfl)) pgs_nil))))
 (pss_one (ps_if (pt_cmp (pc_dnotin hu (pv 3) (pe_fld (pv 0) rfl)))
 (pss_one (ps_raise rfl takesX (pmk_oex TU.su.ox TU.iC TU.tI GU hr bU .nil passF rfl TU.gF (pa_cons (pv 3) pa_nil))))
 pss_nil)))), ?_⟩
    refine ⟨_, rfl, l, rfl, ⟨_, hl⟩, for_list (K := K) (a := l) (xs := us) (fun i σ H' => ∃ x2 x3 : Option V, σ = [some (.ref a), some (.ref l), x2, x3] ∧ Same H H' ∧ unkOf ps (cs.drop i) = unkOf ps cs)
      ⟨none, none, rfl, Same.refl H, rfl⟩ (fun i σ H' _ ⟨_, _, _, s, _⟩ => s.seq hl) ?_ ?_⟩
    · rintro i x σ H1 hx ⟨x2, x3, rfl, s1, hun⟩
      obtain ⟨c, hc, b, g, kv, dd, rfl, hb, _⟩ := hcs.get hx
      rw [unk_drop hc] at hun
      refine ⟨b, _, rfl, SqT.of (s1 _ _ hb), rfl, _, _, rfl, _, _, rfl, _, _, rfl, rfl, ?_⟩
      refine ⟨_, rfl, _, rfl, a, CP, dx, _, .ref d, rfl, s1 _ _ hA, PC.cl, PC.nF, rfl, ?_⟩
      have q := DGet.k (k := (Sum.inr c.e.s : Key)) (s1 _ _ hD)
      cases hlk : look ps c.e with
      | none =>
        rw [hps.look_none hlk] at q
        rw [hlk] at hun
        rw [← hun] at k
        exact ⟨d, none, rfl, q, _, rfl, iteT ⟨_, rfl, (by show 1 ≤ 1000; decide), fl_mk (Fl.same s1 k)⟩⟩
      | some p =>
        obtain ⟨v', e1, _⟩ := hps.look_some hlk
        rw [e1] at q
        rw [hlk] at hun
        exact ⟨d, some v', rfl, q, _, rfl, iteF ⟨_, _, rfl, s1, hun⟩⟩
    · rintro σ H1 ⟨x2, x3, rfl, s1, hun⟩
      have e : cs.drop us.length = [] := by rw [hcs.len, List.drop_length]
      rw [e] at hun
      rw [← hun] at k
      exact k H1 s1
theorem scUndo : FnScope ["prices", "call"] ["prices", "call"] (defScope sUndo) := ⟨rfl, rfl, rfl, by decide +kernel, rfl, by decide +kernel, by decide +kernel⟩
theorem scDo : FnScope ["prices", "call"] ["prices", "call"] (defScope sDo) := ⟨rfl, rfl, rfl, by decide +kernel, rfl, by decide +kernel, by decide +kernel⟩
theorem unk_one {ps : Ps} {c : Cl} : unkOf ps [c] = (match look ps c.e with | none => some c.e | some _ => none) := rfl
theorem ok_undo {f fC : Addr} {fd fdC : FuncData} (F : Fun K "undo_cost" "undo_cost" sUndo f fd) (PC : PrC K mg CP fP)
    (G_CE : FnOk P w K mg base (L2.CX P w) 3 fC fdC ["prices", "calls"] (spChk K CP CU)) (L_CE : Cal K mg "check_effects" fC fdC ["prices", "calls"]) : FnOk P w K mg base (L2.CX P w) 4 f fd ["prices", "call"] (spUndo CP CU) := by
  refine F.okX scUndo (fun vs H Q E h => ?_) (fun cdv A outer s H vs Q E hr h => ?_)
  · obtain ⟨v, cv, c, ps, rfl, _⟩ := h
    rfl
  · obtain ⟨v, cv, c, ps, rfl, hP, hc, k⟩ := h
    have hu := hu_of hr
    refine ⟨_, (pss_cons (ps_expr (pe_call G_CE hr rfl L_CE.g L_CE.k L_CE.b .nil passX (pa_cons (pv 0) (pa_cons (pe_lst (pa_cons (pv 1) pa_nil)) pa_nil))))
 (pss_one (ps_ret (pe_ix ix_tup (pe_dget hu (pe_fld (pv 0) rfl) (pe_ix ix_tup (pv 1) pe_int (fun _ _ => rfl)) (fun _ _ => rfl)) pe_int (fun _ _ => rfl))))), ?_⟩
    refine ⟨_, rfl, _, rfl, (by show 1 ≤ sizeLine; decide), fun q hq => ?_⟩
    have sq := same_new hq (.lst [cv])
    refine ⟨v, q, [cv], [c], ps, rfl, hP.nl (Same.nl sq), SqL.of upd_same, .cons (hc.nl (Same.nl sq)) .nil, ?_⟩
    rw [unk_one]
    cases hlk : look ps c.e with
    | none =>
      rw [hlk] at k
      exact Fl.same sq k
    | some p =>
      rw [hlk] at k
      intro H1 s1
      have s2 := sq.trans s1
      obtain ⟨a, dx, d, kvs, rfl, hA, hD, hps⟩ := hP
      obtain ⟨b, g, kv, dd, rfl, hb, _⟩ := hc
      obtain ⟨v', e1, t, ch, rfl, ht, _⟩ := hps.look_some hlk
      have q := DGet.k (k := (Sum.inr c.e.s : Key)) (s2 _ _ hD)
      rw [e1] at q
      exact ⟨_, rfl, a, CP, dx, _, .ref d, rfl, s2 _ _ hA, PC.cl, PC.nF, rfl, _, rfl, b, _, _, _, rfl, rfl, SqT.of (s2 _ _ hb), at1, d, _, rfl, q, t, _, _, _, rfl, rfl, SqT.of (s2 _ _ ht), at0, k H1 s2⟩
theorem ok_do {f fC : Addr} {fd fdC : FuncData} (F : Fun K "do_cost" "do_cost" sDo f fd) (PC : PrC K mg CP fP)
    (G_CE : FnOk P w K mg base (L2.CX P w) 3 fC fdC ["prices", "calls"] (spChk K CP CU)) (L_CE : Cal K mg "check_effects" fC fdC ["prices", "calls"]) : FnOk P w K mg base (L2.CX P w) 4 f fd ["prices", "call"] (spDo CP CU) := by
  refine F.okX scDo (fun vs H Q E h => ?_) (fun cdv A outer s H vs Q E hr h => ?_)
  · obtain ⟨v, cv, c, ps, rfl, _⟩ := h
    rfl
  · obtain ⟨v, cv, c, ps, rfl, hP, hc, k⟩ := h
    have hu := hu_of hr
    refine ⟨_, (pss_cons (ps_expr (pe_call G_CE hr rfl L_CE.g L_CE.k L_CE.b .nil passX (pa_cons (pv 0) (pa_cons (pe_lst (pa_cons (pv 1) pa_nil)) pa_nil))))
 (pss_one (ps_ret (pe_ix ix_tup (pe_dget hu (pe_fld (pv 0) rfl) (pe_ix ix_tup (pv 1) pe_int (fun _ _ => rfl)) (fun _ _ => rfl)) pe_int (fun _ _ => rfl))))), ?_⟩
    refine ⟨_, rfl, _, rfl, (by show 1 ≤ sizeLine; decide), fun q hq => ?_⟩
    have sq := same_new hq (.lst [cv])
    refine ⟨v, q, [cv], [c], ps, rfl, hP.nl (Same.nl sq), SqL.of upd_same, .cons (hc.nl (Same.nl sq)) .nil, ?_⟩
    rw [unk_one]
    cases hlk : look ps c.e with
    | none =>
      rw [hlk] at k
      exact Fl.same sq k
    | some p =>
      rw [hlk] at k
      intro H1 s1
      have s2 := sq.trans s1
      obtain ⟨a, dx, d, kvs, rfl, hA, hD, hps⟩ := hP
      obtain ⟨b, g, kv, dd, rfl, hb, _⟩ := hc
      obtain ⟨v', e1, t, ch, rfl, ht, _⟩ := hps.look_some hlk
      have q := DGet.k (k := (Sum.inr c.e.s : Key)) (s2 _ _ hD)
      rw [e1] at q
      exact ⟨_, rfl, a, CP, dx, _, .ref d, rfl, s2 _ _ hA, PC.cl, PC.nF, rfl, _, rfl, b, _, _, _, rfl, rfl, SqT.of (s2 _ _ hb), at1, d, _, rfl, q, t, _, _, _, rfl, rfl, SqT.of (s2 _ _ ht), at1, k H1 s2⟩
end
end KP
namespace KP
open PySem PySem.Spec L2 RX
def dz (xs ys : List Int) : List Int := (xs.zip ys).map fun p => absI (p.1 - p.2)
theorem dist_dz (xs ys : List Int) : dist xs ys = (dz xs ys).sum := rfl
theorem boot_abs0 : bootBuiltins "abs" = some (.builtin "abs") := by decide +kernel
theorem dz_get {xs ys : List Int} {i : Nat} {x y : Int} (hx : xs[i]? = some x) (hy : ys[i]? = some y) : (dz xs ys)[i]? = some (absI (x - y)) := by
  unfold dz
  have e : (xs.zip ys)[i]? = some (x, y) := List.getElem?_zip_eq_some.mpr ⟨hx, hy⟩
  rw [List.getElem?_map, e]
  rfl
theorem dz_len (xs ys : List Int) : (dz xs ys).length = min xs.length ys.length := by
  unfold dz
  rw [List.length_map, List.length_zip]
theorem int_get {ns : List Int} {i : Nat} {x : V} (h : (ns.map V.int)[i]? = some x) : ∃ n, ns[i]? = some n ∧ x = .int n := by
  rw [List.getElem?_map] at h
  cases q : ns[i]? with
  | none => rw [q] at h; cases h
  | some n => rw [q] at h; exact ⟨n, rfl, (Option.some.inj h).symm⟩
theorem isB_mul {n : Int} (h : isB n = true) {j : Int} : CMul n j := by
  unfold isB at h
  have h1 := of_decide_eq_true (Bool.and_eq_true_iff.mp h).1
  have h2 := of_decide_eq_true (Bool.and_eq_true_iff.mp h).2
  exact mulL (by omega) (by omega)
theorem prB_some {u d b e : Int} (h : prB ⟨u, d, some (b, e)⟩ = true) : isB b = true ∧ isB e = true := by
  unfold prB at h
  exact Bool.and_eq_true_iff.mp (Bool.and_eq_true_iff.mp h).2
theorem Cl.small {c : Cl} (h : c.as.length = c.e.n) : c.as.length ≤ 2 := by
  rw [h]
  cases c.e <;> decide
theorem str_deq (a b : Ef) : decide (V.str a.s = V.str b.s) = decide (a = b) := decide_eq_decide.mpr ⟨fun h => Ef.inj (str_eq.mp h), fun h => by rw [h]⟩
section
variable {P : Program} {w : World} {K : PySem.W.Frag} {mg : Str → Option Value} {base : Heap} {CP fP CU fU cU dU CI fI cI dI : Addr}
theorem scChg : FnScope ["prices", "first", "second", "change", "base", "each", "number", "other"] ["prices", "first", "second"] (defScope sChg) := ⟨rfl, rfl, rfl, by decide +kernel, rfl, by decide +kernel, by decide +kernel⟩
theorem unk_two {ps : Ps} {c1 c2 : Cl} : unkOf ps [c1, c2] = (match look ps c1.e with | none => some c1.e | some _ => match look ps c2.e with | none => some c2.e | some _ => none) := rfl
theorem ok_chg {f fC : Addr} {fd fdC : FuncData} (F : Fun K "change_cost" "change_cost" sChg f fd) (T : Txt K mg) (PC : PrC K mg CP fP)
    (G_CE : FnOk P w K mg base (L2.CX P w) 3 fC fdC ["prices", "calls"] (spChk K CP CU)) (L_CE : Cal K mg "check_effects" fC fdC ["prices", "calls"]) : FnOk P w K mg base (L2.CX P w) 4 f fd ["prices", "first", "second"] (spChg CP CU) := by
  refine F.okX scChg (fun vs H Q E h => ?_) (fun cdv A outer s H vs Q E hr h => ?_)
  · obtain ⟨v, v1, v2, c1, c2, ps, rfl, _⟩ := h
    rfl
  · obtain ⟨v, v1, v2, c1, c2, ps, rfl, hP, hc1, hc2, hok, k⟩ := h
    have hu := hu_of hr
    refine ⟨_, (pss_cons (ps_expr (pe_call G_CE hr rfl L_CE.g L_CE.k L_CE.b .nil passX (pa_cons (pv 0) (pa_cons (pe_lst (pa_cons (pv 1) (pa_cons (pv 2) pa_nil))) pa_nil))))
 (pss_cons (ps_set (i := 3) scChg.nd rfl (Or.inl rfl) (pe_ix ix_tup (pe_dget hu (pe_fld (pv 0) rfl) (pe_ix ix_tup (pv 1) pe_int (fun _ _ => rfl)) (fun _ _ => rfl)) pe_int (fun _ _ => rfl)))
 (pss_cons (ps_if (PW.pt (pw_or (pt_cmpR op_isN (pv 3) pe_non (nomark _)) (pw_or1 (pt_cmpR op_ne (pe_ix ix_tup (pv 1) pe_int (fun _ _ => rfl)) (pe_ix ix_tup (pv 2) pe_int (fun _ _ => rfl)) (nomark _)))))
 (pss_one (ps_ret pe_non))
 pss_nil)
 (pss_cons (ps_asg (pv 3) (pg_tup rfl (pgs_cons (pg_name (i := 4) scChg.nd rfl (Or.inl rfl)) (pgs_cons (pg_name (i := 5) scChg.nd rfl (Or.inl rfl)) pgs_nil))))
 (pss_one (ps_ret (pe_op op_add (pv 4) (pe_op op_mul (pv 5) (pe_callB (cr_sum rfl) rfl T.zsum boot_sum0 (pa_cons (pe_lc (own := [("number", 6), ("other", 7)]) (g := gTup K 2 (gCons (gName 6) (gCons (gName 7) gNil))) (tt := tYes) rfl scChg.nd (RZ.pi_zipA rfl T.zzip (pa_cons (pe_ix ix_tup (pv 1) pe_int (fun _ _ => rfl)) (pa_cons (pe_ix ix_tup (pv 2) pe_int (fun _ _ => rfl)) pa_nil))) (blkOk_by (own := [("number", 6), ("other", 7)]) (N := ["prices", "first", "second", "change", "base", "each", "number", "other"]) (sc := defScope sChg) (by decide +kernel)) (fun _ _ _ _ _ => (pg_tup rfl (pgs_cons (pg_name (i := 6) scChg.nd rfl (Or.inl rfl)) (pgs_cons (pg_name (i := 7) scChg.nd rfl (Or.inl rfl)) pgs_nil)))) (fun _ _ _ _ _ => pts_nil) (fun _ _ _ _ _ => (pe_callB call_abs rfl T.zabs boot_abs0 (pa_cons (pe_op op_sub (pv 6) (pv 7)) pa_nil)))) pa_nil)))))))))), ?_⟩
    refine ⟨_, rfl, _, rfl, _, rfl, (by show 2 ≤ sizeLine; decide), fun q hq => ?_⟩
    have sq := same_new hq (.lst [v1, v2])
    refine ⟨v, q, [v1, v2], [c1, c2], ps, rfl, hP.nl (Same.nl sq), SqL.of upd_same, .cons (hc1.nl (Same.nl sq)) (.cons (hc2.nl (Same.nl sq)) .nil), ?_⟩
    cases hun : unkOf ps [c1, c2] with
    | some e =>
      rw [hun] at k
      exact Fl.same sq k
    | none =>
      rw [hun] at k
      intro H1 s1
      have s2 := sq.trans s1
      obtain ⟨a, dx, d, kvs, rfl, hA, hD, hps⟩ := hP
      obtain ⟨b, g, kv, dd, rfl, hb, _, hg, hlen1⟩ := hc1
      obtain ⟨b2, g2, kv2, dd2, rfl, hb2, _, hg2, hlen2⟩ := hc2
      obtain ⟨p, hlk⟩ : ∃ p, look ps c1.e = some p := by
        rw [unk_two] at hun
        cases hlk : look ps c1.e with
        | none => rw [hlk] at hun; cases hun
        | some p => exact ⟨p, rfl⟩
      have hpr := hok p hlk
      have k := k p hlk
      obtain ⟨v', e1, t, ch, rfl, ht, hch⟩ := hps.look_some hlk
      have q := DGet.k (k := (Sum.inr c1.e.s : Key)) (s2 _ _ hD)
      rw [e1] at q
      refine ⟨_, rfl, a, CP, dx, _, .ref d, rfl, s2 _ _ hA, PC.cl, PC.nF, rfl, _, rfl, b, _, _, _, rfl, rfl, SqT.of (s2 _ _ hb), at1, d, _, rfl, q, t, _, _, _, rfl, rfl, SqT.of (s2 _ _ ht), at2, ?_⟩
      obtain ⟨pu, pd, pc⟩ := p
      cases pc with
      | none =>
        cases hch
        exact ⟨_, rfl, rfl, _, rfl, ifT rfl (iteT (k H1 s2))⟩
      | some be =>
        obtain ⟨pb, pe⟩ := be
        obtain ⟨tc, rfl, htc⟩ := hch
        obtain ⟨ib, ie⟩ := prB_some hpr
        have kk : ∀ H', Same H H' → Q (if c1.e = c2.e then V.int (pb + pe * dist c1.as c2.as) else .non) H' := k
        refine ⟨_, rfl, rfl, _, rfl, ifF (by intro z; cases z) ?_⟩
        refine ⟨_, rfl, b, _, _, _, rfl, rfl, SqT.of (s2 _ _ hb), at1, _, rfl, b2, _, _, _, rfl, rfl, SqT.of (s2 _ _ hb2), at1, rfl, _, rfl, ?_⟩
        by_cases hee : c1.e = c2.e
        · rw [if_pos hee] at kk
          refine ifNF (by rw [hee]) ?_
          refine ⟨_, rfl, tc, _, rfl, SqT.of (s2 _ _ htc), rfl, _, _, rfl, _, _, rfl, rfl, ?_⟩
          refine ⟨_, rfl, _, rfl, _, rfl, b, _, _, _, rfl, rfl, SqT.of (s2 _ _ hb), at2, _, rfl, b2, _, _, _, rfl, rfl, SqT.of (s2 _ _ hb2), at2, g, g2, _, _, rfl, .inr ⟨SqT.of (s2 _ _ hg), SqT.of (s2 _ _ hg2), fun D hD => ?_⟩⟩
          refine lc_it (walk_zipT (K := K) (n := (dz c1.as c2.as).length) (by rw [dz_len, List.length_map, List.length_map])) (fun i H' => Same H1 H' ∧ H' D = some (.lst (((dz c1.as c2.as).take i).map V.int))) ⟨same_new hD _, upd_same⟩ (fun i H' _ ⟨s, _⟩ => ⟨SqT.of (s _ _ (s2 _ _ hg)), SqT.of (s _ _ (s2 _ _ hg2))⟩) ?_ ?_
          · rintro i x H2 H3 hi ⟨s3, hD3⟩ ⟨U, x1, y1, rfl, hU, rfl, hx, hy⟩
            obtain ⟨n, hn, rfl⟩ := int_get hx
            obtain ⟨m, hm, rfl⟩ := int_get hy
            have sU := same_new hU (.tup [.int n, .int m])
            refine ⟨U, _, rfl, SqT.of upd_same, rfl, _, _, rfl, _, _, rfl, rfl, rfl, _, rfl, _, rfl, _, _, rfl, rfl, _, rfl, _, sU _ _ hD3, ?_, Same.upd (s3.trans sU) hD _, ?_⟩
            · refine size_l ?_
              rw [List.length_map, List.length_take]
              have := Cl.small hlen1
              rw [dz_len] at hi ⊢
              omega
            · rw [List.take_succ, dz_get hn hm, List.map_append]
              exact upd_same
          · rintro H2 ⟨s3, hD3⟩
            rw [List.take_length] at hD3
            exact ⟨D, _, rfl, SqL.of hD3, _, _, rfl, rfl, isB_mul ie, _, _, rfl, rfl, kk H2 (s2.trans s3)⟩
        · rw [if_neg hee] at kk
          exact ifNT (fun z => hee (Ef.inj (str_eq.mp z))) (kk H1 s2)
theorem scLChg : FnScope ["prices", "first", "second", "base", "total", "k"] ["prices", "first", "second"] (defScope sLChg) := ⟨rfl, rfl, rfl, by decide +kernel, rfl, by decide +kernel, by decide +kernel⟩
theorem ok_lchg {f : Addr} {fd : FuncData} (F : Fun K "_law_change" "_law_change" sLChg f fd) (T : Txt K mg) : FnOk P w K mg base CX0 1 f fd ["prices", "first", "second"] spLChg := by
  refine F.ok scLChg (fun vs H Q E h => ?_) (fun cdv A outer s H vs Q E hr h => ?_)
  · obtain ⟨d, kvs, ps, v1, v2, c1, c2, p, rfl, _⟩ := h
    rfl
  · obtain ⟨d, kvs, ps, v1, v2, c1, c2, p, rfl, hD, hps, hc1, hc2, hlk, hpr, k⟩ := h
    have hu := hu_of hr
    refine ⟨_, (pss_cons (ps_set (i := 3) scLChg.nd rfl (Or.inl rfl) (pe_ix ix_tup (pe_dget hu (pv 0) (pe_ix ix_tup (pv 1) pe_int (fun _ _ => rfl)) (fun _ _ => rfl)) pe_int (fun _ _ => rfl)))
 (pss_cons (ps_if (PW.pt (pw_or (pt_cmpR op_ne (pe_ix ix_tup (pv 1) pe_int (fun _ _ => rfl)) (pe_ix ix_tup (pv 2) pe_int (fun _ _ => rfl)) (nomark _)) (pw_or1 (pt_cmpR op_isN (pv 3) pe_non (nomark _)))))
 (pss_one (ps_ret pe_non))
 pss_nil)
 (pss_cons (ps_set (i := 4) scLChg.nd rfl (Or.inl rfl) (pe_ix ix_tup (pv 3) pe_int (fun _ _ => rfl)))
 (pss_cons (ps_for PassesOwn.never rfl (pi_range1 rfl T.zrng (pa_cons (pe_callB call_len_seq rfl T.zlen PySem.boot_len (pa_cons (pe_ix ix_tup (pv 1) pe_int (fun _ _ => rfl)) pa_nil)) pa_nil)) (pg_name (i := 5) scLChg.nd rfl (Or.inl rfl))
 (pss_one (ps_set (i := 4) scLChg.nd rfl (Or.inl rfl) (pe_op op_add (pv 4) (pe_op op_mul (pe_ix ix_tup (pv 3) pe_int (fun _ _ => rfl)) (pe_callB call_abs rfl T.zabs boot_abs0 (pa_cons (pe_op op_sub (pe_ix ix_tup (pe_ix ix_tup (pv 1) pe_int (fun _ _ => rfl)) (pv 5) (fun _ _ => rfl)) (pe_ix ix_tup (pe_ix ix_tup (pv 2) pe_int (fun _ _ => rfl)) (pv 5) (fun _ _ => rfl))) pa_nil)))))))
 (pss_one (ps_ret (pv 4))))))), ?_⟩
    obtain ⟨b, g, kv, dd, rfl, hb, _, hg, hlen1⟩ := hc1
    obtain ⟨b2, g2, kv2, dd2, rfl, hb2, _, hg2, hlen2⟩ := hc2
    obtain ⟨v', e1, t, ch, rfl, ht, hch⟩ := hps.look_some hlk
    have q := DGet.k (k := (Sum.inr c1.e.s : Key)) hD
    rw [e1] at q
    refine ⟨_, rfl, _, rfl, b, _, _, _, rfl, rfl, SqT.of hb, at1, d, _, rfl, q, t, _, _, _, rfl, rfl, SqT.of ht, at2, ?_⟩
    refine ⟨_, rfl, b, _, _, _, rfl, rfl, SqT.of hb, at1, _, rfl, b2, _, _, _, rfl, rfl, SqT.of hb2, at1, rfl, _, rfl, ?_⟩
    obtain ⟨pu, pd, pc⟩ := p
    by_cases hee : c1.e = c2.e
    · refine ifNF (by rw [hee]) ?_
      cases pc with
      | none =>
        cases hch
        exact ⟨_, rfl, rfl, _, rfl, ifT rfl (k H (Same.refl H))⟩
      | some be =>
        obtain ⟨pb, pe⟩ := be
        obtain ⟨tc, rfl, htc⟩ := hch
        obtain ⟨ib, ie⟩ := prB_some hpr
        have kk : ∀ H', Same H H' → Q (if c1.e = c2.e then V.int (pb + pe * dist c1.as c2.as) else .non) H' := k
        rw [if_pos hee] at kk
        refine ⟨_, rfl, rfl, _, rfl, ifF (by intro z; cases z) ?_⟩
        refine ⟨_, rfl, tc, _, _, _, rfl, rfl, SqT.of htc, at0, ?_⟩
        have hl12 : c2.as.length = c1.as.length := by rw [hlen1, hlen2, hee]
        have hs := Cl.small hlen1
        refine ⟨_, rfl, b, _, _, _, rfl, rfl, SqT.of hb, at2, g, _, rfl, .inr (SqT.of hg), _, rfl, ?_, ?_, ?_⟩
        · rw [List.length_map]; omega
        · rw [List.length_map]; omega
        rw [show (((c1.as.map V.int).length : Nat) : Int).toNat = c1.as.length by rw [List.length_map]; rfl]
        refine for_range (lo := 0) (n := c1.as.length)
          (fun i σ H' => ∃ x5 : Option V, σ = [some (.ref d), some (.ref b), some (.ref b2), some (.ref tc), some (.int (pb + pe * ((dz c1.as c2.as).take i).sum)), x5] ∧ H' = H) ?_ ?_ ?_
        · refine ⟨none, ?_, rfl⟩
          rw [List.take_zero, List.sum_nil, Int.mul_zero, Int.add_zero]
          rfl
        · rintro i σ H1 hi ⟨x5, rfl, rfl⟩
          have h1 : c1.as[i]? = some c1.as[i] := List.getElem?_eq_getElem hi
          have h2 : c2.as[i]? = some (c2.as[i]'(by omega)) := List.getElem?_eq_getElem (by omega)
          generalize c1.as[i] = n at h1
          generalize c2.as[i]'(by omega) = m at h2
          have a1 : atI (c1.as.map V.int) (0 + (i : Int)) = some (.int n) := by rw [Int.zero_add]; exact atI_nat (by rw [List.getElem?_map, h1]; rfl)
          have a2 : atI (c2.as.map V.int) (0 + (i : Int)) = some (.int m) := by rw [Int.zero_add]; exact atI_nat (by rw [List.getElem?_map, h2]; rfl)
          refine ⟨_, rfl, _, rfl, tc, _, _, _, rfl, rfl, SqT.of htc, at1, _, rfl, b, _, _, _, rfl, rfl, SqT.of hb, at2, _, rfl, g, _, _, _, rfl, rfl, SqT.of hg, a1, _, rfl, b2, _, _, _, rfl, rfl, SqT.of hb2, at2, _, rfl, g2, _, _, _, rfl, rfl, SqT.of hg2, a2, _, _, rfl, rfl, _, rfl, _, _, rfl, rfl, isB_mul ie, _, _, rfl, rfl, ?_⟩
          refine ⟨some (.int (0 + (i : Int))), ?_, rfl⟩
          have e : pb + pe * ((dz c1.as c2.as).take (i + 1)).sum = pb + pe * ((dz c1.as c2.as).take i).sum + pe * (if n - m < 0 then -(n - m) else n - m) := by
            rw [List.take_succ, dz_get h1 h2, List.sum_append]
            show pb + pe * (_ + (absI (n - m) + 0)) = _
            rw [Int.add_zero, Int.mul_add, Int.add_assoc]
            rfl
          rw [e]
          rfl
        · rintro σ H1 ⟨x5, rfl, rfl⟩
          refine ⟨_, rfl, ?_⟩
          have e : (dz c1.as c2.as).take c1.as.length = dz c1.as c2.as := List.take_of_length_le (by rw [dz_len]; omega)
          rw [e]
          exact kk _ (Same.refl _)
    · refine ifNT (fun z => hee (Ef.inj (str_eq.mp z))) (iteT ?_)
      have e : chgV ⟨pu, pd, pc⟩ c1 c2 = .non := by
        cases pc with
        | none => rfl
        | some be => exact if_neg hee
      rw [e] at k
      exact k H (Same.refl H)
end
end KP
namespace KP
open PySem PySem.Spec L2 RX
theorem bad_drop {ps : Ps} {i : Nat} {e : Ef} {p : Pr} (h : ps[i]? = some (e, p)) : badOf (ps.drop i) = if prB p = true then badOf (ps.drop (i + 1)) else some e := by
  obtain ⟨hi, he⟩ := List.getElem?_eq_some_iff.mp h
  rw [List.drop_eq_getElem_cons hi, he]
  rfl
theorem nm_look {ps : Ps} (n : Nm ps) {i : Nat} {e : Ef} {p : Pr} (h : ps[i]? = some (e, p)) : look ps e = some p := by
  rcases n with n | n | n
  · have : ps = [] := List.map_eq_nil_iff.mp n
    subst this
    simp at h
  · match ps, n with
    | [(e1, p1)], n =>
      match i, h with
      | 0, h =>
        cases h
        unfold look
        rw [if_pos rfl]
  · match ps, n with
    | [(e1, p1), (e2, p2), (e3, p3)], n =>
      simp at n
      obtain ⟨rfl, rfl, rfl⟩ := n
      match i, h with
      | 0, h => cases h; rfl
      | 1, h => cases h; rfl
      | 2, h => cases h; rfl
section
variable {P : Program} {w : World} {K : PySem.W.Frag} {mg : Str → Option Value} {base : Heap} {CP fP CU fU cU dU CI fI cI dI : Addr}
theorem scPInit : FnScope ["self", "effects", "name"] ["self", "effects"] (defScope sPInit) := ⟨rfl, rfl, rfl, by decide +kernel, rfl, by decide +kernel, by decide +kernel⟩
theorem ok_pinit {fA : Addr} {fd fdA fdI : FuncData} (F : Fun K "__init__" "Prices.__init__" sPInit fP fd) (T : Txt K mg) (PC : PrC K mg CP fP) (TI : Ex1 P K mg CI fI cI dI "InvalidPrices")
    (GI : FnOk P w K mg base CX0 1 fI fdI ["self", "name"] (spEInit CI)) (bI : Binds K fdI ["self", "name"] [])
    (G_AP : FnOk P w K mg base CX0 2 fA fdA ["numbers"] spAre) (L_AP : Cal K mg "_are_prices" fA fdA ["numbers"]) : FnOk P w K mg base (L2.CX P w) 3 fP fd ["self", "effects"] (spPInit CP CI) := by
  refine F.okX scPInit (fun vs H Q E h => ?_) (fun cdv A outer s H vs Q E hr h => ?_)
  · obtain ⟨a, dx, d, kvs, ps, rfl, _⟩ := h
    rfl
  · obtain ⟨a, dx, d, kvs, ps, rfl, hA, hD, hps, hn, k⟩ := h
    have hu := hu_of hr
    refine ⟨_, (pss_cons (ps_for (passes_of rfl) rfl (pi_list (pe_callB (call_sortedD rfl) rfl T.zsorted boot_sorted0 (pa_cons (pv 1) pa_nil))) (pg_name (i := 2) scPInit.nd rfl (Or.inl rfl))
 (pss_one (ps_if (pt_not (pt_val (pe_call G_AP hr rfl L_AP.g L_AP.k L_AP.b .nil pass0 (pa_cons (pe_dget hu (pv 1) (pv 2) (fun _ _ => rfl)) pa_nil))))
 (pss_one (ps_raise rfl takesX (pmk_oex TI.su.ox TI.iC TI.tI GI hr bI .nil passF rfl TI.gF (pa_cons (pv 2) pa_nil))))
 pss_nil)))
 (pss_one (ps_fld (pv 0) (pe_callTy call_dictD rfl T.zdict boot_dict0 (pa_cons (pv 1) pa_nil)) rfl))), ?_⟩
    have h64 : (ps.map fun p => p.1.s).length < 64 := by
      have e : (ps.map fun p => p.1.s).length = (ps.map (·.1)).length := by rw [List.length_map, List.length_map]
      rw [e]
      rcases hn with h | h | h <;> rw [h] <;> decide
    refine ⟨_, rfl, d, kvs, _, rfl, .inl hD, hps.keys, h64, fun ys p hperm hs hp => ?_⟩
    have hy := sorted_one hn hperm hs
    subst hy
    have sp := same_new hp (.lst ((ps.map fun p => p.1.s).map V.str))
    refine ⟨p, rfl, ⟨_, SqL.of upd_same⟩, for_list (K := K) (a := p) (xs := (ps.map fun p => p.1.s).map V.str)
      (fun i σ H' => ∃ x2 : Option V, σ = [some (.ref a), some (.ref d), x2] ∧ Same H H' ∧ H' p = some (.lst ((ps.map fun p => p.1.s).map V.str)) ∧ badOf (ps.drop i) = badOf ps)
      ⟨none, rfl, sp, upd_same, rfl⟩ (fun i σ H' _ ⟨_, _, _, h, _⟩ => SqL.of h) ?_ ?_⟩
    · rintro i x σ H1 hx ⟨x2, rfl, s1, h1, hb⟩
      obtain ⟨e, pr, hi, rfl⟩ : ∃ e pr, ps[i]? = some (e, pr) ∧ x = .str e.s := by
        rw [List.getElem?_map, List.getElem?_map] at hx
        cases q : ps[i]? with
        | none => rw [q] at hx; cases hx
        | some ep => rw [q] at hx; exact ⟨ep.1, ep.2, rfl, (Option.some.inj hx).symm⟩
      rw [bad_drop hi] at hb
      obtain ⟨v', e1, hpr⟩ := hps.look_some (nm_look hn hi)
      have q := DGet.k (k := (Sum.inr e.s : Key)) (s1 _ _ hD)
      rw [e1] at q
      refine ⟨_, rfl, _, rfl, d, v', rfl, q, v', pr, rfl, hpr.nl (Same.nl s1), fun H2 s2 => ⟨_, rfl, ?_⟩⟩
      cases hB : prB pr with
      | true =>
        rw [hB, if_pos rfl] at hb
        exact iteF ⟨_, rfl, s1.trans s2, s2 _ _ h1, hb⟩
      | false =>
        rw [hB, if_neg (by decide)] at hb
        rw [← hb] at k
        exact iteT ⟨_, rfl, (by show 1 ≤ 1000; decide), fl_mk (Fl.same (s1.trans s2) k)⟩
    · rintro σ H1 ⟨x2, rfl, s1, h1, hb⟩
      have e : ps.drop ((ps.map fun p => p.1.s).map V.str).length = [] := by rw [List.length_map, List.length_map, List.drop_length]
      rw [e] at hb
      rw [← hb] at k
      refine ⟨_, rfl, d, kvs, rfl, .inl (s1 _ _ hD), fun d' hd' => ?_⟩
      have s2 := same_new hd' (.dK kvs)
      refine ⟨_, rfl, a, CP, dx, [], rfl, s2 _ _ (s1 _ _ hA), PC.cl, PC.nF, (by show 0 < 1000; decide), ?_⟩
      have nd : d' ≠ a := fun z => by rw [z, s1 _ _ hA] at hd'; cases hd'
      exact k _ d' (((Same.but s1).trans (Same.but s2)).trans (but_upd _)) (s1.free hd') (by rw [upd_ne nd]; exact upd_same) upd_same
end
end KP
namespace KP
open PySem PySem.Spec L2 RX
theorem same_made {H : Hp} {x dx : Addr} {o1 o2 : HO} (hx : H x = none) (hdx : H dx = none) : Same H (upd (upd H dx o1) x o2) := Same.upd (same_new hdx _) hx _
section
variable {P : Program} {w : World} {K : PySem.W.Frag} {mg : Str → Option Value} {base : Heap} {CP fP CU fU cU dU CI fI cI dI : Addr}
theorem scRef : FnScope ["effects", "error"] ["effects"] (defScope sRef) := ⟨rfl, rfl, rfl, by decide +kernel, rfl, by decide +kernel, by decide +kernel⟩
theorem ok_ref {f : Addr} {fd fdP : FuncData} (F : Fun K "_law_refused" "_law_refused" sRef f fd) (PC : PrC K mg CP fP) (TI : Ex1 P K mg CI fI cI dI "InvalidPrices")
    (GP : FnOk P w K mg base (L2.CX P w) 3 fP fdP ["self", "effects"] (spPInit CP CI)) (bP : Binds K fdP ["self", "effects"] []) : FnOk P w K mg base CX0 5 f fd ["effects"] spRef := by
  refine F.ok scRef (fun vs H Q E h => ?_) (fun cdv A outer s H vs Q E hr h => ?_)
  · obtain ⟨d, kvs, ps, rfl, _⟩ := h
    rfl
  · obtain ⟨d, kvs, ps, rfl, hD, hps, hn, k⟩ := h
    refine ⟨_, pss_cons (ps_try_asF (i := 1) (tb := fun W => tDrop (tMakeS CP (spPInit CP CI) (WE W) (tCons (tVar 0) tNil))) (ts := fun a cls d => tRet (tXf a cls d CI "name" (tVar 1))) rfl rfl scRef.nd rfl rfl ⟨rfl, by decide, Or.inl TI.gF⟩
      (fun W pn xe tk _ => pss_one (ps_expr (by exact (pe_makeS PC.mkr GP hr rfl PC.g bP (fun σ => passAt tk σ) (by exact (pa_cons (pv 0) pa_nil))))))
      (fun a oe cls d pn hz hf => pss_one (ps_ret (by exact (pe_xf TI.xf TI.noR hz hf (pv 1)))))) (pss_one (ps_ret pe_non)), ?_⟩
    refine ⟨_, rfl, fun x dx hx hdx ne => ?_⟩
    have sm := same_made (o1 := .own x) (o2 := .ins CP dx []) hx hdx
    refine ⟨x, dx, d, kvs, ps, rfl, upd_same, sm _ _ hD, hps.nl (Same.nl sm), hn, ?_⟩
    cases hb : badOf ps with
    | none =>
      rw [hb] at k
      intro H1 d' b1 nd' hd' hx'
      refine ⟨rfl, k H1 (fun b o q => b1 _ _ (ne_of_none q hx) (sm _ _ q))⟩
    | some e =>
      rw [hb] at k
      intro dd H' s' nd hxd
      refine ⟨TI.te, fun a na => ?_⟩
      exact ⟨_, rfl, rfl, rfl, dd, _, .str e.s, rfl, hxd, by simp [List.lookup], k H' (sm.trans s')⟩
def spP0 (CP : Addr) : Sp := fun vs H Q _ => ∃ (a dx d : Addr), vs = [.ref a, .ref d] ∧ H a = some (.ins CP dx []) ∧ H d = some (.dK []) ∧ ∀ H' d', But a H H' → H d' = none → H' d' = some (.dK []) → H' a = some (.ins CP dx [("effects", .ref d')]) → Q .non H'
theorem ok_p0 {fdP : FuncData} (GP : FnOk P w K mg base (L2.CX P w) 3 fP fdP ["self", "effects"] (spPInit CP CI)) : FnOk P w K mg base CX0 3 fP fdP ["self", "effects"] (spP0 CP) :=
  fn_quiet GP fun vs H Q E ⟨a, dx, d, e, hA, hD, k⟩ => ⟨a, dx, d, [], [], e, hA, hD, .nil, .inl rfl, k⟩
theorem scUnk : FnScope ["call", "first", "second", "error"] ["call", "first", "second"] (defScope sUnk) := ⟨rfl, rfl, rfl, by decide +kernel, rfl, by decide +kernel, by decide +kernel⟩
theorem ok_unk {f f2 f3 : Addr} {fd fdP fd2 fd3 : FuncData} {sp2 : Sp} (F : Fun K "_law_unknown" "_law_unknown" sUnk f fd) (PC : PrC K mg CP fP) (TU : Ex1 P K mg CU fU cU dU "UnknownEffect")
    (GP : FnOk P w K mg base CX0 3 fP fdP ["self", "effects"] (spP0 CP)) (bP : Binds K fdP ["self", "effects"] [])
    (G2 : FnOk P w K mg base (L2.CX P w) 4 f2 fd2 ["prices", "call"] sp2) (k2 : PySem.W.keepIn K (.ref f2) = true) (b2 : Binds K fd2 ["prices", "call"] [])
    (h2 : ∀ v cv c H Q E, PricesAt H CP v [] → ClAt H cv c → Fl CU H E c.e.s → sp2 [v, cv] H Q E)
    (G3 : FnOk P w K mg base (L2.CX P w) 4 f3 fd3 ["prices", "first", "second"] (spChg CP CU)) (k3 : PySem.W.keepIn K (.ref f3) = true) (b3 : Binds K fd3 ["prices", "first", "second"] []) : FnOk P w K mg base CX0 5 f fd ["call", "first", "second"] (spUnk f2 f3) := by
  refine F.ok scUnk (fun vs H Q E h => ?_) (fun cdv A outer s H vs Q E hr h => ?_)
  · obtain ⟨v1, v2, c1, c2, h | ⟨h, _⟩, _⟩ := h
    · rw [h]; rfl
    · rw [h]; rfl
  · obtain ⟨v1, v2, c1, c2, hvs, hc1, k⟩ := h
    refine ⟨_, pss_cons (ps_try_asF (i := 3)
        (tb := fun W => tIfS (tTest (tOp (fun x y H Q => y = V.non ∧ Q (.bl (decide (x = V.non))) H) (tVar 2) (tC .non))) (tDrop (tCallLS 0 f2 sp2 (WE W) (tCons (tMake CP (spP0 CP) [] E0 (tCons tDNewK tNil)) (tCons (tVar 1) tNil)))) (tDrop (tCallLS 0 f3 (spChg CP CU) (WE W) (tCons (tMake CP (spP0 CP) [] E0 (tCons tDNewK tNil)) (tCons (tVar 1) (tCons (tVar 2) tNil))))))
        (ts := fun a cls d => tRet (tOp rEq (tXf a cls d CU "name" (tVar 3)) (tOp (rIxT K) (tVar 1) (tC (.int 1))))) rfl rfl scUnk.nd rfl rfl ⟨rfl, by decide, Or.inl TU.gF⟩
      (fun W pn xe tk _ => pss_one (ps_if (by exact (pt_cmpR op_isN (pv 2) pe_non (nomark _)))
        (pss_one (ps_expr (by exact (pe_callLS (i := 0) G2 hr rfl (.inl rfl) k2 b2 (fun σ => passAt tk σ) (by exact (pa_cons (pe_make PC.mkr GP hr rfl PC.g bP .nil pass0 (pa_cons pe_dnewK pa_nil)) (pa_cons (pv 1) pa_nil)))))))
        (pss_one (ps_expr (by exact (pe_callLS (i := 0) G3 hr rfl (.inl rfl) k3 b3 (fun σ => passAt tk σ) (by exact (pa_cons (pe_make PC.mkr GP hr rfl PC.g bP .nil pass0 (pa_cons pe_dnewK pa_nil)) (pa_cons (pv 1) (pa_cons (pv 2) pa_nil))))))))))
      (fun a oe cls d pn hz hf => pss_one (ps_ret (by exact (pe_cmpR op_eq (pe_xf TU.xf TU.noR hz hf (pv 3)) (pe_ix ix_tup (pv 1) pe_int (fun _ _ => rfl)) (nomark _)))))) (pss_one (ps_ret pe_bl)), ?_⟩
    have suite : ∀ {H1 : Hp} {v2' : V} {f' : Addr}, Same H H1 → ∀ (dd : Addr) (H' : Hp), Same H1 H' → H1 dd = none → H' dd = some (.xd [("name", .str c1.e.s)]) → ∀ a, H' a = none →
        tRet (tOp rEq (tXf a (.ref CU) (some dd) CU "name" (tVar 3)) (tOp (rIxT K) (tVar 1) (tC (.int 1)))) { nx := fun σ' H' => (fun σ H => tRet (tC (.bl false)) { nx := fun _ H' => Q .non H', rt := Q } σ H) (σ'.set 3 none) H', rt := Q, bk := fun σ' H' => False, ct := fun σ' H' => False } ([some (.ref f'), some v1, some v2', some (.ref a)]) H' := by
      intro H1 v2' f' sH dd H' s' nd hxd a na
      obtain ⟨b, g, kv, d, rfl, hb, _⟩ := hc1
      refine ⟨_, rfl, rfl, rfl, dd, _, .str c1.e.s, rfl, hxd, by simp [List.lookup], _, rfl, b, _, _, _, rfl, rfl, SqT.of (s' _ _ (sH _ _ hb)), at1, rfl, ?_⟩
      rw [decide_eq_true rfl]
      exact k H' (sH.trans s')
    rcases hvs with rfl | ⟨rfl, hc2⟩
    · refine ⟨_, rfl, rfl, _, rfl, ifT rfl ⟨rfl, fun d hd x dx hx hdx ne => ?_⟩⟩
      have sd := same_new hd (.dK [])
      have sm := same_made (o1 := .own x) (o2 := .ins CP dx []) hx hdx
      refine ⟨x, dx, d, rfl, upd_same, sm _ _ upd_same, fun H1 d' b1 nd' hd' hx' => ⟨rfl, _, rfl, ?_⟩⟩
      have sH1 : Same H H1 := fun b o q => b1 _ _ (ne_of_none (sd _ _ q) hx) (sm _ _ (sd _ _ q))
      refine h2 _ _ c1 _ _ _ ⟨x, dx, d', [], rfl, hx', hd', .nil⟩ (hc1.nl (Same.nl sH1)) fun dd H' s' nd hxd => ⟨TU.te, fun a na => ?_⟩
      exact suite sH1 dd H' s' nd hxd a na
    · have nv : v2 ≠ .non := by
        obtain ⟨b, g, kv, d, rfl, _⟩ := hc2
        intro z
        cases z
      refine ⟨_, rfl, rfl, _, rfl, ifF nv ⟨rfl, fun d hd x dx hx hdx ne => ?_⟩⟩
      have sd := same_new hd (.dK [])
      have sm := same_made (o1 := .own x) (o2 := .ins CP dx []) hx hdx
      refine ⟨x, dx, d, rfl, upd_same, sm _ _ upd_same, fun H1 d' b1 nd' hd' hx' => ⟨rfl, _, rfl, _, rfl, ?_⟩⟩
      have sH1 : Same H H1 := fun b o q => b1 _ _ (ne_of_none (sd _ _ q) hx) (sm _ _ (sd _ _ q))
      refine ⟨_, _, _, c1, c2, [], rfl, ⟨x, dx, d', [], rfl, hx', hd', .nil⟩, hc1.nl (Same.nl sH1), hc2.nl (Same.nl sH1), (fun p z => nomatch z), ?_⟩
      show Fl CU H1 _ c1.e.s
      intro dd H' s' nd hxd
      exact ⟨TU.te, fun a na => suite sH1 dd H' s' nd hxd a na⟩
end
end KP
namespace KP
open PySem PySem.Spec L2 RX
/-! ### promises where nothing is raised -/
def spPQ (CP : Addr) : Sp := fun vs H Q _ => ∃ (a dx d : Addr) (kvs : List (Key × V)) (ps : Ps), vs = [.ref a, .ref d] ∧ H a = some (.ins CP dx []) ∧ H d = some (.dK kvs) ∧ PsAt H kvs ps ∧ Nm ps ∧ badOf ps = none ∧
  ∀ H' d', But a H H' → H d' = none → H' d' = some (.dK kvs) → H' a = some (.ins CP dx [("effects", .ref d')]) → Q .non H'
def spUndoQ (CP : Addr) : Sp := fun vs H Q _ => ∃ (v cv : V) (c : Cl) (ps : Ps) (p : Pr), vs = [v, cv] ∧ PricesAt H CP v ps ∧ ClAt H cv c ∧ look ps c.e = some p ∧ ∀ H', Same H H' → Q (.int p.u) H'
def spDoQ (CP : Addr) : Sp := fun vs H Q _ => ∃ (v cv : V) (c : Cl) (ps : Ps) (p : Pr), vs = [v, cv] ∧ PricesAt H CP v ps ∧ ClAt H cv c ∧ look ps c.e = some p ∧ ∀ H', Same H H' → Q (.int p.d) H'
def spChgQ (CP : Addr) : Sp := fun vs H Q _ => ∃ (v v1 v2 : V) (c1 c2 : Cl) (ps : Ps) (p p2 : Pr), vs = [v, v1, v2] ∧ PricesAt H CP v ps ∧ ClAt H v1 c1 ∧ ClAt H v2 c2 ∧ look ps c1.e = some p ∧ look ps c2.e = some p2 ∧ prB p = true ∧ ∀ H', Same H H' → Q (chgV p c1 c2) H'
section
variable {P : Program} {w : World} {K : PySem.W.Frag} {mg : Str → Option Value} {base : Heap} {CP fP CU CI fU fD fC : Addr} {fd : FuncData}
theorem ok_pq (G : FnOk P w K mg base (L2.CX P w) 3 fP fd ["self", "effects"] (spPInit CP CI)) : FnOk P w K mg base CX0 3 fP fd ["self", "effects"] (spPQ CP) :=
  fn_quiet G fun vs H Q E ⟨a, dx, d, kvs, ps, e, hA, hD, hps, hn, hb, k⟩ => ⟨a, dx, d, kvs, ps, e, hA, hD, hps, hn, by rw [hb]; exact k⟩
theorem ok_undoq (G : FnOk P w K mg base (L2.CX P w) 4 fU fd ["prices", "call"] (spUndo CP CU)) : FnOk P w K mg base CX0 4 fU fd ["prices", "call"] (spUndoQ CP) :=
  fn_quiet G fun vs H Q E ⟨v, cv, c, ps, p, e, h1, h2, hl, k⟩ => ⟨v, cv, c, ps, e, h1, h2, by rw [hl]; exact k⟩
theorem ok_doq (G : FnOk P w K mg base (L2.CX P w) 4 fD fd ["prices", "call"] (spDo CP CU)) : FnOk P w K mg base CX0 4 fD fd ["prices", "call"] (spDoQ CP) :=
  fn_quiet G fun vs H Q E ⟨v, cv, c, ps, p, e, h1, h2, hl, k⟩ => ⟨v, cv, c, ps, e, h1, h2, by rw [hl]; exact k⟩
theorem ok_chgq (G : FnOk P w K mg base (L2.CX P w) 4 fC fd ["prices", "first", "second"] (spChg CP CU)) : FnOk P w K mg base CX0 4 fC fd ["prices", "first", "second"] (spChgQ CP) :=
  fn_quiet G fun vs H Q E ⟨v, v1, v2, c1, c2, ps, p, p2, e, h0, h1, h2, l1, l2, hp, k⟩ => ⟨v, v1, v2, c1, c2, ps, e, h0, h1, h2, (fun q hq => by rw [l1] at hq; cases hq; exact hp), by
    rw [unk_two, l1]
    dsimp only
    rw [l2]
    dsimp only
    intro q hq
    have z : p = q := Option.some.inj hq
    rw [← z]
    exact k⟩
end
/-! ### values -/
theorem scal_chg (p : Pr) (c1 c2 : Cl) : scal (chgV p c1 c2) (chgV p c1 c2) = true := by
  unfold chgV
  cases p.c with
  | none => rfl
  | some be =>
    dsimp only
    split <;> rfl
def prD (p : Pr) : PyData := .tuple [.int p.u, .int p.d, match p.c with | none => .none | some (b, e) => .tuple [.int b, .int e]]
theorem prD_shaped (p : Pr) : SeqAt.shaped (prD p) = true := by
  obtain ⟨u, d, c⟩ := p
  cases c with
  | none => rfl
  | some be => rfl
theorem PrAt.dp {K : PySem.W.Frag} {H : Hp} {v : V} {p : Pr} (h : PrAt H v p) : Dp K H v (prD p) := by
  obtain ⟨a, cv, rfl, ha, hc⟩ := h
  obtain ⟨u, d, c⟩ := p
  refine .tup (SqT.of ha) (.cons (.int u) (.cons (.int d) (.cons ?_ .nil)))
  cases c with
  | none => cases hc; exact .non
  | some be =>
    obtain ⟨b, e⟩ := be
    obtain ⟨t, rfl, ht⟩ := hc
    exact .tup (SqT.of ht) (.cons (.int b) (.cons (.int e) .nil))
theorem prD_eqv (p : Pr) : PyData.eqv (prD p) (prD p) = true := SeqAt.eqv_refl _ (SeqAt.canLay_of_shaped (prD_shaped p))
/-! ### the three effects -/
abbrev ps3 (p1 p2 p3 : Pr) : Ps := [(.pay, p1), (.ship, p2), (.tell, p3)]
abbrev kv3 (v1 v2 v3 : V) : List (Key × V) := [(.inr "pay", v1), (.inr "ship", v2), (.inr "tell", v3)]
theorem inv3 {H : Hp} {kvs : List (Key × V)} {p1 p2 p3 : Pr} (h : PsAt H kvs (ps3 p1 p2 p3)) : ∃ v1 v2 v3, kvs = kv3 v1 v2 v3 ∧ PrAt H v1 p1 ∧ PrAt H v2 p2 ∧ PrAt H v3 p3 := by
  cases h with
  | cons h1 r =>
    cases r with
    | cons h2 r =>
      cases r with
      | cons h3 r =>
        cases r
        exact ⟨_, _, _, rfl, h1, h2, h3⟩
theorem at3 {H : Hp} {v1 v2 v3 : V} {p1 p2 p3 : Pr} (h1 : PrAt H v1 p1) (h2 : PrAt H v2 p2) (h3 : PrAt H v3 p3) : PsAt H (kv3 v1 v2 v3) (ps3 p1 p2 p3) := .cons (e := .pay) h1 (.cons (e := .ship) h2 (.cons (e := .tell) h3 .nil))
theorem look3 {p1 p2 p3 : Pr} (o1 : prB p1 = true) (o2 : prB p2 = true) (o3 : prB p3 = true) (e : Ef) : ∃ p, look (ps3 p1 p2 p3) e = some p ∧ prB p = true := by
  cases e
  · exact ⟨p1, rfl, o1⟩
  · exact ⟨p2, rfl, o2⟩
  · exact ⟨p3, rfl, o3⟩
def sel {α : Type} (e f : Ef) (x y : α) : α := if e = f then x else y
theorem put3 (e : Ef) (v v1 v2 v3 : V) : putK (kv3 v1 v2 v3) (.inr e.s) v = kv3 (sel e .pay v v1) (sel e .ship v v2) (sel e .tell v v3) := by
  have n1 : ¬ (Sum.inr ("pay" : Str) : Key) = Sum.inr ("ship" : Str) := by decide +kernel
  have n2 : ¬ (Sum.inr ("pay" : Str) : Key) = Sum.inr ("tell" : Str) := by decide +kernel
  have n3 : ¬ (Sum.inr ("ship" : Str) : Key) = Sum.inr ("tell" : Str) := by decide +kernel
  have m1 := fun z => n1 (Eq.symm z)
  have m2 := fun z => n2 (Eq.symm z)
  have m3 := fun z => n3 (Eq.symm z)
  cases e
  · show putK (kv3 v1 v2 v3) (.inr "pay") v = kv3 v v2 v3
    unfold putK kv3
    simp only [List.any_cons, List.any_nil, List.map_cons, List.map_nil, decide_eq_true, Bool.true_or, if_true, if_neg m1, if_neg m2]
  · show putK (kv3 v1 v2 v3) (.inr "ship") v = kv3 v1 v v3
    unfold putK kv3
    simp only [List.any_cons, List.any_nil, List.map_cons, List.map_nil, decide_eq_true, Bool.true_or, Bool.or_true, if_true, if_neg n1, if_neg m3]
  · show putK (kv3 v1 v2 v3) (.inr "tell") v = kv3 v1 v2 v
    unfold putK kv3
    simp only [List.any_cons, List.any_nil, List.map_cons, List.map_nil, decide_eq_true, Bool.true_or, Bool.or_true, if_true, if_neg n2, if_neg n3]
theorem selAt {H : Hp} {e f : Ef} {v w : V} {p q : Pr} (h1 : PrAt H v p) (h2 : PrAt H w q) : PrAt H (sel e f v w) (sel e f p q) := by
  unfold sel
  split
  · exact h1
  · exact h2
theorem bad_cons {f : Ef} {p : Pr} {r : Ps} : badOf ((f, p) :: r) = if prB p = true then badOf r else some f := rfl
theorem bad_one {p1 p2 p3 pb : Pr} (o1 : prB p1 = true) (o2 : prB p2 = true) (o3 : prB p3 = true) (ob : prB pb = false) (e : Ef) : badOf (ps3 (sel e .pay pb p1) (sel e .ship pb p2) (sel e .tell pb p3)) = some e := by
  cases e
  · show badOf [(.pay, pb), (.ship, p2), (.tell, p3)] = _
    rw [bad_cons, if_neg (by rw [ob]; decide)]
  · show badOf [(.pay, p1), (.ship, pb), (.tell, p3)] = _
    rw [bad_cons, if_pos o1, bad_cons, if_neg (by rw [ob]; decide)]
  · show badOf [(.pay, p1), (.ship, p2), (.tell, pb)] = _
    rw [bad_cons, if_pos o1, bad_cons, if_pos o2, bad_cons, if_neg (by rw [ob]; decide)]
theorem bad_none {p1 p2 p3 : Pr} (o1 : prB p1 = true) (o2 : prB p2 = true) (o3 : prB p3 = true) : badOf (ps3 p1 p2 p3) = none := by
  rw [bad_cons, if_pos o1, bad_cons, if_pos o2, bad_cons, if_pos o3]
  rfl
/-- the two that are made wrong -/
theorem idx3 (r : Int) (h0 : 0 ≤ r) (h1 : r < 3) : ∃ e f : Ef, atI [V.str "pay", .str "ship", .str "tell"] r = some (.str e.s) ∧ atI [V.str "pay", .str "ship", .str "tell"] ((r + 1).fmod 3) = some (.str f.s) ∧
    ∀ {p1 p2 p3 pb : Pr}, prB p1 = true → prB p2 = true → prB p3 = true → prB pb = false →
      badOf (ps3 (sel f .pay pb (sel e .pay pb p1)) (sel f .ship pb (sel e .ship pb p2)) (sel f .tell pb (sel e .tell pb p3))) = some (if f.s.cps.toList < e.s.cps.toList then f else e) := by
  have : r = 0 ∨ r = 1 ∨ r = 2 := by omega
  rcases this with rfl | rfl | rfl
  · refine ⟨.pay, .ship, rfl, rfl, fun {p1 p2 p3 pb} o1 o2 o3 ob => ?_⟩
    rw [if_neg (by decide +kernel)]
    show badOf [(.pay, pb), (.ship, pb), (.tell, p3)] = _
    rw [bad_cons, if_neg (by rw [ob]; decide)]
  · refine ⟨.ship, .tell, rfl, rfl, fun {p1 p2 p3 pb} o1 o2 o3 ob => ?_⟩
    rw [if_neg (by decide +kernel)]
    show badOf [(.pay, p1), (.ship, pb), (.tell, pb)] = _
    rw [bad_cons, if_pos o1, bad_cons, if_neg (by rw [ob]; decide)]
  · refine ⟨.tell, .pay, rfl, rfl, fun {p1 p2 p3 pb} o1 o2 o3 ob => ?_⟩
    rw [if_pos (by decide +kernel)]
    show badOf [(.pay, pb), (.ship, p2), (.tell, pb)] = _
    rw [bad_cons, if_neg (by rw [ob]; decide)]
theorem nm3 {p1 p2 p3 : Pr} : Nm (ps3 p1 p2 p3) := .inr (.inr rfl)
end KP
set_option maxHeartbeats 8000000
namespace KP
open PySem PySem.Spec L2 RX
def spLaw (K : PySem.W.Frag) : Sp := fun vs H Q _ => ∃ (a : Addr) (ns : List Int), vs = [.ref a] ∧ SqL K H a (ns.map V.int) ∧ ns.length ≤ 63 ∧ ∀ H', Q (.bl true) H'
section
variable {P : Program} {w : World} {K : PySem.W.Frag} {mg : Str → Option Value} {base : Heap} {CP fP CU fI cI dI CI fU fD fC : Addr}
theorem scLaw : FnScope ["script", "row", "effects", "prices", "there", "here", "first", "second", "names", "bad", "k", "wrong"] ["script"] (defScope sLaw) := ⟨rfl, rfl, rfl, by decide +kernel, rfl, by decide +kernel, by decide +kernel⟩
theorem ok_law {f fNS fPS fCS fLC fTK fRF fUK : Addr} {fd fdNS fdPS fdCS fdLC fdTK fdRF fdUK fdP fdU fdD fdC : FuncData} (F : Fun K "law" "law" sLaw f fd) (T : Txt K mg) (PC : PrC K mg CP fP)
    (GP : FnOk P w K mg base CX0 3 fP fdP ["self", "effects"] (spPQ CP)) (bP : Binds K fdP ["self", "effects"] [])
    (G_UN : FnOk P w K mg base CX0 4 fU fdU ["prices", "call"] (spUndoQ CP)) (L_UN : Cal K mg "undo_cost" fU fdU ["prices", "call"])
    (G_DO : FnOk P w K mg base CX0 4 fD fdD ["prices", "call"] (spDoQ CP)) (L_DO : Cal K mg "do_cost" fD fdD ["prices", "call"])
    (G_CH : FnOk P w K mg base CX0 4 fC fdC ["prices", "first", "second"] (spChgQ CP)) (L_CH : Cal K mg "change_cost" fC fdC ["prices", "first", "second"])
    (G_NS : FnOk P w K mg base CX0 2 fNS fdNS ["script", "count"] (spNums K)) (L_NS : Cal K mg "_law_numbers" fNS fdNS ["script", "count"])
    (G_PS : FnOk P w K mg base CX0 3 fPS fdPS ["row"] spPrices) (L_PS : Cal K mg "_law_prices" fPS fdPS ["row"])
    (G_CS : FnOk P w K mg base CX0 3 fCS fdCS ["row", "most"] spCalls) (L_CS : Cal K mg "_law_calls" fCS fdCS ["row", "most"])
    (G_LC : FnOk P w K mg base CX0 1 fLC fdLC ["prices", "first", "second"] spLChg) (L_LC : Cal K mg "_law_change" fLC fdLC ["prices", "first", "second"])
    (G_TK : FnOk P w K mg base CX0 1 fTK fdTK ["row", "bound"] spTake) (L_TK : Cal K mg "_law_take" fTK fdTK ["row", "bound"])
    (G_RF : FnOk P w K mg base CX0 5 fRF fdRF ["effects"] spRef) (L_RF : Cal K mg "_law_refused" fRF fdRF ["effects"])
    (G_U1 : FnOk P w K mg base CX0 5 fUK fdUK ["call", "first", "second"] (spUnk fU fC)) (G_U2 : FnOk P w K mg base CX0 5 fUK fdUK ["call", "first", "second"] (spUnk fD fC)) (L_UK : Cal K mg "_law_unknown" fUK fdUK ["call", "first", "second"]) :
    FnOk P w K mg base CX0 6 f fd ["script"] (spLaw K) := by
  refine F.ok scLaw (fun vs H Q E h => ?_) (fun cdv A outer s H vs Q E hr h => ?_)
  · obtain ⟨a, ns, rfl, _⟩ := h
    rfl
  · obtain ⟨a, ns, rfl, ha, h63, k⟩ := h
    have hu := hu_of hr
    have hr1 : Room 1 _ := hr.mono (by decide)
    have hr2 : Room 2 _ := hr.mono (by decide)
    have hr3 : Room 3 _ := hr.mono (by decide)
    have hr4 : Room 4 _ := hr.mono (by decide)
    have hu66 : ∀ {A : Around}, Room 5 A → A.units + 66 < cLine := fun r => by have := r.un; omega
    refine ⟨_, (pss_cons (ps_set (i := 1) scLaw.nd rfl (Or.inl rfl) (pe_call G_NS hr2 rfl L_NS.g L_NS.k L_NS.b .nil pass0 (pa_cons (pv 0) (pa_cons pe_int pa_nil))))
 (pss_cons (ps_set (i := 2) scLaw.nd rfl (Or.inl rfl) (pe_call G_PS hr3 rfl L_PS.g L_PS.k L_PS.b .nil pass0 (pa_cons (pv 1) pa_nil)))
 (pss_cons (ps_set (i := 3) scLaw.nd rfl (Or.inl rfl) (pe_make PC.mkr GP hr4 rfl PC.g bP .nil pass0 (pa_cons (pv 2) pa_nil)))
 (pss_cons (ps_par (i := 4) (j := 5) (by rfl) scLaw.nd rfl rfl (by decide) rfl rfl (pa_cons (pe_call G_CS hr3 rfl L_CS.g L_CS.k L_CS.b .nil pass0 (pa_cons (pv 1) (pa_cons pe_int pa_nil))) (pa_cons (pe_call G_CS hr3 rfl L_CS.g L_CS.k L_CS.b .nil pass0 (pa_cons (pv 1) (pa_cons pe_int pa_nil))) pa_nil)) (by rfl))
 (pss_cons (ps_for PassesOwn.never rfl (pi_list (pv 4)) (pg_name (i := 6) scLaw.nd rfl (Or.inl rfl))
 (pss_cons (ps_if (PW.pt (pw_or (pt_cmpR op_ne (pe_call G_UN hr4 rfl L_UN.g L_UN.k L_UN.b .nil pass0 (pa_cons (pv 3) (pa_cons (pv 6) pa_nil))) (pe_ix ix_tup (pe_dget hu (pv 2) (pe_ix ix_tup (pv 6) pe_int (fun _ _ => rfl)) (fun _ _ => rfl)) pe_int (fun _ _ => rfl)) (nomark _)) (pw_or1 (pt_cmpR op_ne (pe_call G_DO hr4 rfl L_DO.g L_DO.k L_DO.b .nil pass0 (pa_cons (pv 3) (pa_cons (pv 6) pa_nil))) (pe_ix ix_tup (pe_dget hu (pv 2) (pe_ix ix_tup (pv 6) pe_int (fun _ _ => rfl)) (fun _ _ => rfl)) pe_int (fun _ _ => rfl)) (nomark _)))))
 (pss_one (ps_ret pe_bl))
 pss_nil)
 (pss_cons (ps_if (PW.pt (pw_or (pt_not (pt_val (pe_call G_U1 hr rfl L_UK.g L_UK.k L_UK.b .nil pass0 (pa_cons (pe_glob (v := .ref fU) rfl L_UN.g rfl) (pa_cons (pv 6) (pa_cons pe_non pa_nil)))))) (pw_or1 (pt_not (pt_val (pe_call G_U2 hr rfl L_UK.g L_UK.k L_UK.b .nil pass0 (pa_cons (pe_glob (v := .ref fD) rfl L_DO.g rfl) (pa_cons (pv 6) (pa_cons pe_non pa_nil)))))))))
 (pss_one (ps_ret pe_bl))
 pss_nil)
 (pss_cons (ps_for PassesOwn.never rfl (pi_list (pv 5)) (pg_name (i := 7) scLaw.nd rfl (Or.inl rfl))
 (pss_one (ps_if (pt_cmpR op_ne (pe_call G_CH hr4 rfl L_CH.g L_CH.k L_CH.b .nil pass0 (pa_cons (pv 3) (pa_cons (pv 6) (pa_cons (pv 7) pa_nil)))) (pe_call G_LC hr1 rfl L_LC.g L_LC.k L_LC.b .nil pass0 (pa_cons (pv 2) (pa_cons (pv 6) (pa_cons (pv 7) pa_nil)))) (nomark _))
 (pss_one (ps_ret pe_bl))
 pss_nil)))
 (pss_one (ps_if (pt_not (pt_val (pe_call G_U1 hr rfl L_UK.g L_UK.k L_UK.b .nil pass0 (pa_cons (pe_glob (v := .ref fC) rfl L_CH.g rfl) (pa_cons (pv 6) (pa_cons (pv 6) pa_nil))))))
 (pss_one (ps_ret pe_bl))
 pss_nil))))))
 (pss_cons (ps_set (i := 8) scLaw.nd rfl (Or.inl rfl) (pe_lst (pa_cons pe_str (pa_cons pe_str (pa_cons pe_str pa_nil)))))
 (pss_cons (ps_set (i := 9) scLaw.nd rfl (Or.inl rfl) (pe_ix ix_list (pe_lst (pa_cons (pe_tup (pa_cons (pe_un un_neg pe_int) (pa_cons pe_int (pa_cons pe_non pa_nil)))) (pa_cons (pe_tup (pa_cons pe_int (pa_cons pe_int (pa_cons pe_non pa_nil)))) (pa_cons (pe_tup (pa_cons pe_int (pa_cons pe_int (pa_cons (pe_tup (pa_cons (pe_un un_neg pe_int) (pa_cons pe_int pa_nil))) pa_nil)))) (pa_cons (pe_tup (pa_cons pe_int (pa_cons pe_int (pa_cons (pe_tup (pa_cons pe_int (pa_cons pe_int pa_nil))) pa_nil)))) pa_nil))))) (pe_call G_TK hr1 rfl L_TK.g L_TK.k L_TK.b .nil pass0 (pa_cons (pv 1) (pa_cons pe_int pa_nil))) (fun _ _ => rfl)))
 (pss_cons (ps_set (i := 10) scLaw.nd rfl (Or.inl rfl) (pe_call G_TK hr1 rfl L_TK.g L_TK.k L_TK.b .nil pass0 (pa_cons (pv 1) (pa_cons pe_int pa_nil))))
 (pss_cons (ps_set (i := 11) scLaw.nd rfl (Or.inl rfl) (pe_callTy call_dictD rfl T.zdict boot_dict0 (pa_cons (pv 2) pa_nil)))
 (pss_cons (ps_dput hu (pv 11) (pe_ix ix_list (pv 8) (pv 10) (fun _ _ => rfl)) (pv 9) rfl)
 (pss_cons (ps_if (pt_cmpR op_ne (pe_call G_RF hr rfl L_RF.g L_RF.k L_RF.b .nil pass0 (pa_cons (pv 11) pa_nil)) (pe_ix ix_list (pv 8) (pv 10) (fun _ _ => rfl)) (nomark _))
 (pss_one (ps_ret pe_bl))
 pss_nil)
 (pss_cons (ps_dput hu (pv 11) (pe_ix ix_list (pv 8) (pe_op op_modN (pe_callTy call_int1 rfl T.zint boot_int0 (pa_cons (pe_op op_add (pv 10) pe_int) pa_nil)) pe_int) (fun _ _ => rfl)) (pv 9) rfl)
 (pss_cons (ps_if (PW.pt (pw_or (pt_cmpR op_ne (pe_call G_RF hr rfl L_RF.g L_RF.k L_RF.b .nil pass0 (pa_cons (pv 11) pa_nil)) (pe_callB (call_min2S rfl) rfl T.zmin boot_min0 (pa_cons (pe_ix ix_list (pv 8) (pv 10) (fun _ _ => rfl)) (pa_cons (pe_ix ix_list (pv 8) (pe_op op_modN (pe_callTy call_int1 rfl T.zint boot_int0 (pa_cons (pe_op op_add (pv 10) pe_int) pa_nil)) pe_int) (fun _ _ => rfl)) pa_nil))) (nomark _)) (pw_or1 (pt_cmpR op_notN (pe_call G_RF hr rfl L_RF.g L_RF.k L_RF.b .nil pass0 (pa_cons (pv 2) pa_nil)) pe_non (nomark _)))))
 (pss_one (ps_ret pe_bl))
 pss_nil)
 (pss_cons (ps_dput hu (pv 2) pe_str (pe_tup (pa_cons pe_int (pa_cons pe_int (pa_cons pe_non pa_nil)))) rfl)
 (pss_one (ps_ret (pe_and (pe_cmpR (op_eqD hr.units) (pe_dget hu (pe_fld (pv 3) rfl) pe_str (fun _ _ => rfl)) (pe_dget hu (pv 2) pe_str (fun _ _ => rfl)) (nomark _)) (pe_one (pe_cmpR (op_eqDD (hu66 hr)) (pe_fld (pe_make PC.mkr GP hr4 rfl PC.g bP .nil pass0 (pa_cons (pe_disp (pps_cons pe_str (pe_tup (pa_cons pe_int (pa_cons pe_int (pa_cons pe_non pa_nil)))) pps_nil) (by rfl) (by rfl) (fun z => by cases z) (by decide)) pa_nil)) rfl) (pe_disp (pps_cons pe_str (pe_tup (pa_cons pe_int (pa_cons pe_int (pa_cons pe_non pa_nil)))) pps_nil) (by rfl) (by rfl) (fun z => by cases z) (by decide)) (nomark _)))))))))))))))))))), ?_⟩
    refine ⟨_, rfl, a, ns, 70, rfl, ha, h63, by decide, by decide, fun H1 l s1 nl R1 => ?_⟩
    refine ⟨_, rfl, l, rfl, R1, fun d kvs p1 p2 p3 H2 b2 R2 nd hD2 hps2 o1 o2 o3 => ?_⟩
    obtain ⟨v1, v2, v3, rfl, a1, a2, a3⟩ := inv3 hps2
    refine ⟨_, rfl, fun x dx hx hdx ne => ?_⟩
    have sm := same_made (o1 := .own x) (o2 := .ins CP dx []) hx hdx
    refine ⟨x, dx, d, _, ps3 p1 p2 p3, rfl, upd_same, sm _ _ hD2, hps2.nl (Same.nl sm), nm3, bad_none o1 o2 o3, fun H3 dp b3 ndp hDp hX => ⟨rfl, ?_⟩⟩
    have s3 : Same H2 H3 := fun b o q => b3 _ _ (ne_of_none q hx) (sm _ _ q)
    have ndp2 : dp ≠ d := fun z => by rw [z, sm _ _ hD2] at ndp; cases ndp
    have R3 := R2.same s3
    have hD3 := s3 _ _ hD2
    have hps3 := hps2.nl (Same.nl s3)
    clear ndp b3 sm ne hx hdx
    refine ⟨_, rfl, l, 4, rfl, R3, by decide, by decide, fun q4 us4 cs4 H4 b4 R4 n4 h4 c4 l4 => ⟨_, rfl, l, 4, rfl, R4, by decide, by decide, fun q5 us5 cs5 H5 b5 R5 n5 h5 c5 l5 => ?_⟩⟩
    have nel : ∀ {b : Addr} {o : HO}, H3 b = some o → (∀ xs, o ≠ .lst xs) → b ≠ l := fun {b o} h n z => by
      obtain ⟨ns', h', _⟩ := R3
      rw [z, h'] at h
      cases h
      exact n _ rfl
    have hD5 : H5 d = some (.dK (kv3 v1 v2 v3)) := b5 _ _ (nel hD3 (fun _ z => nomatch z)) (b4 _ _ (nel hD3 (fun _ z => nomatch z)) hD3)
    have hp5 : H5 dp = some (.dK (kv3 v1 v2 v3)) := b5 _ _ (nel hDp (fun _ z => nomatch z)) (b4 _ _ (nel hDp (fun _ z => nomatch z)) hDp)
    have hX5 : H5 x = some (.ins CP dx [("effects", .ref dp)]) := b5 _ _ (nel hX (fun _ z => nomatch z)) (b4 _ _ (nel hX (fun _ z => nomatch z)) hX)
    have t5 : Tl H3 H5 := ((b4.nl R3).trans (b5.nl R4)).tl
    have hps5 := hps3.tl t5
    have c45 : Cls H5 us4 cs4 := c4.nl (b5.nl R4)
    have h45 : H5 q4 = some (.lst us4) := b5 _ _ (fun z => by
      obtain ⟨ns', h', _⟩ := R3
      rw [z, h'] at n4
      cases n4) h4
    have n5l : q5 ≠ l := fun z => by
      obtain ⟨ns', h', _⟩ := R4
      rw [z, h'] at n5
      cases n5
    have n4l : q4 ≠ l := fun z => by
      obtain ⟨ns', h', _⟩ := R3
      rw [z, h'] at n4
      cases n4
    clear t5 nel b5 b4 hps3 hD3 hX hDp R3 s3 R4 h4 c4 n4 n5 b2 R2 R1 hD2 hps2 a1 a2 a3
    have L3 := look3 o1 o2 o3
    -- the two loops
    refine ⟨_, _, rfl, _, rfl, q4, rfl, ⟨_, SqL.of h45⟩, for_list (K := K) (a := q4) (xs := us4)
      (fun i σ H' => ∃ x6 x7 : Option V, σ = [some (.ref a), some (.ref l), some (.ref d), some (.ref x), some (.ref q4), some (.ref q5), x6, x7, none, none, none, none] ∧ Same H5 H') ⟨none, none, rfl, Same.refl _⟩ (fun i σ H' _ ⟨_, _, _, s⟩ => SqL.of (s _ _ h45)) ?_ ?_⟩
    · rintro i y σ H6 hy ⟨x6, x7, rfl, s6⟩
      obtain ⟨c, _, hc0⟩ := c45.get hy
      have hc := hc0.nl (Same.nl s6)
      have PA6 : PricesAt H6 CP (.ref x) (ps3 p1 p2 p3) := ⟨x, dx, dp, _, rfl, s6 _ _ hX5, s6 _ _ hp5, hps5.nl (Same.nl s6)⟩
      obtain ⟨p, hlk, hpr⟩ := L3 c.e
      obtain ⟨v', e1, t, ch, rfl, ht, _⟩ := (hps5.nl (Same.nl s6)).look_some hlk
      have hc' := hc
      obtain ⟨b, g, kv, dd, rfl, hb, _⟩ := hc'
      have qd : ∀ {H' : Hp}, Same H6 H' → DGet H' d (kV (Sum.inr c.e.s)) (some (.ref t)) := fun s => by
        have q := DGet.k (k := (Sum.inr c.e.s : Key)) (s _ _ (s6 _ _ hD5))
        rw [e1] at q
        exact q
      refine ⟨_, rfl, _, rfl, _, _, c, _, p, rfl, PA6, hc, hlk, fun H7 s7 => ⟨_, rfl, _, rfl, b, _, _, _, rfl, rfl, SqT.of (s7 _ _ hb), at1, d, _, rfl, qd s7, t, _, _, _, rfl, rfl, SqT.of (s7 _ _ ht), at0, rfl, _, rfl, ifNF rfl ?_⟩⟩
      refine ⟨_, rfl, _, rfl, _, _, c, _, p, rfl, PA6.nl (Same.nl s7), hc.nl (Same.nl s7), hlk, fun H8 s8 => ⟨_, rfl, _, rfl, b, _, _, _, rfl, rfl, SqT.of ((s7.trans s8) _ _ hb), at1, d, _, rfl, qd (s7.trans s8), t, _, _, _, rfl, rfl, SqT.of ((s7.trans s8) _ _ ht), at1, rfl, _, rfl, ifNF rfl ?_⟩⟩
      have s68 := s7.trans s8
      refine ⟨_, rfl, _, .non, c, c, .inl rfl, hc.nl (Same.nl s68), fun H9 s9 => ⟨_, rfl, iteF ⟨_, rfl, _, .non, c, c, .inl rfl, hc.nl (Same.nl (s68.trans s9)), fun H10 s10 => ⟨_, rfl, iteF ?_⟩⟩⟩⟩
      have s610 := (s68.trans s9).trans s10
      have s510 := s6.trans s610
      refine ⟨_, rfl, q5, rfl, ⟨_, SqL.of (s510 _ _ h5)⟩, for_list (K := K) (a := q5) (xs := us5)
        (fun j σ H' => ∃ x7 : Option V, σ = [some (.ref a), some (.ref l), some (.ref d), some (.ref x), some (.ref q4), some (.ref q5), some (.ref b), x7, none, none, none, none] ∧ Same H10 H') ⟨_, rfl, Same.refl _⟩ (fun j σ H' _ ⟨_, _, s⟩ => SqL.of (s _ _ (s510 _ _ h5))) ?_ ?_⟩
      · rintro j z σ H11 hz ⟨x7, rfl, s11⟩
        obtain ⟨c2, _, hc20⟩ := c5.get hz
        have s6b := s610.trans s11
        have s5b := s510.trans s11
        have hc2 := hc20.nl (Same.nl s5b)
        obtain ⟨p', hlk2, _⟩ := L3 c2.e
        refine ⟨_, rfl, _, rfl, _, rfl, _, _, _, c, c2, _, p, p', rfl, PA6.nl (Same.nl s6b), hc.nl (Same.nl s6b), hc2, hlk, hlk2, hpr, fun H12 s12 => ?_⟩
        have s5c := s5b.trans s12
        have s6c := s6b.trans s12
        refine ⟨_, rfl, _, rfl, _, rfl, d, _, _, _, _, c, c2, p, rfl, s5c _ _ hD5, hps5.nl (Same.nl s5c), hc.nl (Same.nl s6c), hc20.nl (Same.nl s5c), hlk, hpr, fun H13 s13 => ⟨scal_chg _ _ _, _, rfl, ifNF rfl ⟨_, rfl, (s11.trans s12).trans s13⟩⟩⟩
      · rintro σ H11 ⟨x7, rfl, s11⟩
        have s6b := s610.trans s11
        refine ⟨_, rfl, _, rfl, _, _, c, c, .inr ⟨rfl, hc.nl (Same.nl s6b)⟩, hc.nl (Same.nl s6b), fun H12 s12 => ⟨_, rfl, iteF ⟨_, _, rfl, ((s510.trans s11).trans s12)⟩⟩⟩
    · rintro σ H6 ⟨x6, x7, rfl, s6⟩
      refine ⟨(by show 3 ≤ sizeLine; decide), fun nl hnl => ?_⟩
      have t0 := s6.trans (same_new hnl (.lst [V.str "pay", .str "ship", .str "tell"]))
      have R7 := (R5.same s6).upd hnl (.lst [V.str "pay", .str "ship", .str "tell"])
      have N7 : (upd H6 nl (.lst [V.str "pay", .str "ship", .str "tell"])) nl = some (.lst [V.str "pay", .str "ship", .str "tell"]) := upd_same
      have nll : nl ≠ l := ((R5.same s6).ne hnl).symm
      clear hnl
      generalize upd H6 nl (.lst [V.str "pay", .str "ship", .str "tell"]) = H7 at t0 R7 N7 ⊢
      clear s6 c45 h45 h5 c5
      -- the four that are bad
      refine ⟨_, rfl, (by show 3 ≤ sizeLine; decide), fun t1 ht1 => ?_⟩
      have A1 : PrAt (upd H7 t1 (.tup [.int (-1), .int 0, .non])) (.ref t1) ⟨-1, 0, none⟩ := ⟨t1, .non, rfl, upd_same, rfl⟩
      have z1 := same_new ht1 (.tup [.int (-1), .int 0, .non])
      clear ht1
      generalize upd H7 t1 (.tup [.int (-1), .int 0, .non]) = G1 at A1 z1 ⊢
      refine ⟨(by show 3 ≤ sizeLine; decide), fun t2 ht2 => ?_⟩
      have A2 : PrAt (upd G1 t2 (.tup [.int 0, .int 1000001, .non])) (.ref t2) ⟨0, 1000001, none⟩ := ⟨t2, .non, rfl, upd_same, rfl⟩
      have z2 := same_new ht2 (.tup [.int 0, .int 1000001, .non])
      clear ht2
      generalize upd G1 t2 (.tup [.int 0, .int 1000001, .non]) = G2 at A2 z2 ⊢
      refine ⟨_, rfl, (by show 2 ≤ sizeLine; decide), fun u3 hu3 => ⟨(by show 3 ≤ sizeLine; decide), fun t3 ht3 => ?_⟩⟩
      have A3 : PrAt (upd (upd G2 u3 (.tup [.int (-1), .int 0])) t3 (.tup [.int 0, .int 0, .ref u3])) (.ref t3) ⟨0, 0, some (-1, 0)⟩ := ⟨t3, .ref u3, rfl, upd_same, u3, rfl, same_new ht3 _ _ _ upd_same⟩
      have z3 := (same_new hu3 (.tup [.int (-1), .int 0])).trans (same_new ht3 (.tup [.int 0, .int 0, .ref u3]))
      clear ht3 hu3
      generalize upd (upd G2 u3 (.tup [.int (-1), .int 0])) t3 (.tup [.int 0, .int 0, .ref u3]) = G3 at A3 z3 ⊢
      refine ⟨(by show 2 ≤ sizeLine; decide), fun u4 hu4 => ⟨(by show 3 ≤ sizeLine; decide), fun t4 ht4 => ?_⟩⟩
      have A4 : PrAt (upd (upd G3 u4 (.tup [.int 0, .int 1000001])) t4 (.tup [.int 0, .int 0, .ref u4])) (.ref t4) ⟨0, 0, some (0, 1000001)⟩ := ⟨t4, .ref u4, rfl, upd_same, u4, rfl, same_new ht4 _ _ _ upd_same⟩
      have z4 := (same_new hu4 (.tup [.int 0, .int 1000001])).trans (same_new ht4 (.tup [.int 0, .int 0, .ref u4]))
      clear ht4 hu4
      generalize upd (upd G3 u4 (.tup [.int 0, .int 1000001])) t4 (.tup [.int 0, .int 0, .ref u4]) = G4 at A4 z4 ⊢
      refine ⟨(by show 4 ≤ sizeLine; decide), fun bl hbl => ?_⟩
      have z5 := same_new hbl (.lst [.ref t1, .ref t2, .ref t3, .ref t4])
      have B5 : (upd G4 bl (.lst [.ref t1, .ref t2, .ref t3, .ref t4])) bl = some (.lst [.ref t1, .ref t2, .ref t3, .ref t4]) := upd_same
      have bll : bl ≠ l := ((R7.same (((z1.trans z2).trans z3).trans z4)).ne hbl).symm
      have zz : Same H7 (upd G4 bl (.lst [.ref t1, .ref t2, .ref t3, .ref t4])) := (((z1.trans z2).trans z3).trans z4).trans z5
      clear hbl
      generalize upd G4 bl (.lst [.ref t1, .ref t2, .ref t3, .ref t4]) = G5 at z5 B5 zz ⊢
      have bad4 : ∀ r : Int, 0 ≤ r → r < 4 → ∃ v9 pb, atI [V.ref t1, .ref t2, .ref t3, .ref t4] r = some v9 ∧ PrAt G5 v9 pb ∧ prB pb = false := fun r r0 r1 => by
        have : r = 0 ∨ r = 1 ∨ r = 2 ∨ r = 3 := by omega
        rcases this with rfl | rfl | rfl | rfl
        · exact ⟨_, _, rfl, A1.nl (Same.nl (((z2.trans z3).trans z4).trans z5)), by decide⟩
        · exact ⟨_, _, rfl, A2.nl (Same.nl ((z3.trans z4).trans z5)), by decide⟩
        · exact ⟨_, _, rfl, A3.nl (Same.nl (z4.trans z5)), by decide⟩
        · exact ⟨_, _, rfl, A4.nl (Same.nl z5), by decide⟩
      clear A1 A2 A3 A4 z1 z2 z3 z4 z5
      have t5 := t0.trans zz
      have R5b := R7.same zz
      have N5 := zz _ _ N7
      clear zz R7 N7 t0
      refine ⟨_, rfl, l, 4, rfl, by decide, R5b, fun r8 H8 r80 r81 b8 R8 => ?_⟩
      obtain ⟨v9, pb, hat, hpb, ob⟩ := bad4 r8 r80 r81
      refine ⟨bl, _, _, _, rfl, rfl, SqL.of (b8 _ _ bll B5), hat, ?_⟩
      have hpb8 := hpb.nl (b8.nl R5b)
      refine ⟨_, rfl, l, 3, rfl, by decide, R8, fun r9 H9 r90 r91 b9 R9 => ?_⟩
      have n9 : Nl H5 H9 := (Same.nl t5).trans ((b8.nl R5b).trans (b9.nl R8))
      have hpb9 := hpb8.nl (b9.nl R8)
      have hD9 := n9 _ _ (by intro _ z; cases z) hD5
      have hp9 := n9 _ _ (by intro _ z; cases z) hp5
      have hX9 := n9 _ _ (by intro _ z; cases z) hX5
      have hps9 := hps5.nl n9
      have N9 := b9 _ _ nll (b8 _ _ nll N5)
      clear hpb8 hpb b8 b9 R8 bad4 hat B5 R5b N5 t5 hD5 hp5 hX5 hps5 n9 R5
      obtain ⟨e, f, he, hf, hbad⟩ := idx3 r9 r90 r91
      obtain ⟨w1, w2, w3, ekv, a1, a2, a3⟩ := inv3 hps9
      cases ekv
      refine ⟨_, rfl, d, _, rfl, .inl hD9, fun dw hdw => ?_⟩
      have nwd : dw ≠ d := fun z => by rw [z, hD9] at hdw; cases hdw
      have nwn : dw ≠ nl := fun z => by rw [z, N9] at hdw; cases hdw
      have N10 := same_new hdw (.dK (kv3 v1 v2 v3)) _ _ N9
      refine ⟨_, rfl, _, rfl, _, rfl, _, rfl, nl, _, _, _, rfl, rfl, SqL.of N10, he, dw, _, rfl, DPut.k (k := (Sum.inr e.s : Key)) upd_same (by show 3 < sizeLine; decide), ?_⟩
      have s11 : Same H9 (upd (upd H9 dw (.dK (kv3 v1 v2 v3))) dw (.dK (putK (kv3 v1 v2 v3) (.inr e.s) v9))) := Same.upd (same_new hdw _) hdw _
      have w11 : (upd (upd H9 dw (.dK (kv3 v1 v2 v3))) dw (.dK (putK (kv3 v1 v2 v3) (.inr e.s) v9))) dw = some (.dK (kv3 (sel e .pay v9 v1) (sel e .ship v9 v2) (sel e .tell v9 v3))) := by rw [← put3 e]; exact upd_same
      generalize upd (upd H9 dw (.dK (kv3 v1 v2 v3))) dw (.dK (putK (kv3 v1 v2 v3) (.inr e.s) v9)) = H11 at s11 w11 ⊢
      have m11 := Same.nl s11
      have P11 := at3 (selAt (e := e) (f := .pay) (hpb9.nl m11) (a1.nl m11)) (selAt (e := e) (f := .ship) (hpb9.nl m11) (a2.nl m11)) (selAt (e := e) (f := .tell) (hpb9.nl m11) (a3.nl m11))
      refine ⟨_, rfl, dw, _, _, rfl, w11, P11, nm3, fun H12 s12 => ?_⟩
      rw [bad_one o1 o2 o3 ob e]
      refine ⟨_, rfl, _, rfl, nl, _, _, _, rfl, rfl, SqL.of ((s11.trans s12) _ _ N9), he, rfl, _, rfl, ifNF rfl ?_⟩
      have w12 := s12 _ _ w11
      have s912 := s11.trans s12
      refine ⟨_, rfl, _, rfl, _, rfl, _, rfl, _, _, rfl, rfl, .inl ⟨_, rfl, _, _, rfl, rfl, (show (3 : Int) ≠ 0 by decide), nl, _, _, _, rfl, rfl, SqL.of (s912 _ _ N9), hf, dw, _, rfl, DPut.k (k := (Sum.inr f.s : Key)) w12 (by show 3 < sizeLine; decide), ?_⟩⟩
      have s13 : Same H9 (upd H12 dw (.dK (putK (kv3 (sel e .pay v9 v1) (sel e .ship v9 v2) (sel e .tell v9 v3)) (.inr f.s) v9))) := Same.upd s912 hdw _
      have w13 : (upd H12 dw (.dK (putK (kv3 (sel e .pay v9 v1) (sel e .ship v9 v2) (sel e .tell v9 v3)) (.inr f.s) v9))) dw = some (.dK (kv3 (sel f .pay v9 (sel e .pay v9 v1)) (sel f .ship v9 (sel e .ship v9 v2)) (sel f .tell v9 (sel e .tell v9 v3)))) := by rw [← put3 f]; exact upd_same
      generalize upd H12 dw (.dK (putK (kv3 (sel e .pay v9 v1) (sel e .ship v9 v2) (sel e .tell v9 v3)) (.inr f.s) v9)) = H13 at s13 w13 ⊢
      have m13 := Same.nl s13
      have P13 := at3 (selAt (e := f) (f := .pay) (hpb9.nl m13) (selAt (e := e) (f := .pay) (hpb9.nl m13) (a1.nl m13))) (selAt (e := f) (f := .ship) (hpb9.nl m13) (selAt (e := e) (f := .ship) (hpb9.nl m13) (a2.nl m13))) (selAt (e := f) (f := .tell) (hpb9.nl m13) (selAt (e := e) (f := .tell) (hpb9.nl m13) (a3.nl m13)))
      refine ⟨_, rfl, dw, _, _, rfl, w13, P13, nm3, fun H14 s14 => ?_⟩
      rw [hbad o1 o2 o3 ob]
      have s914 := s13.trans s14
      refine ⟨_, rfl, _, rfl, nl, _, _, _, rfl, rfl, SqL.of (s914 _ _ N9), he, _, rfl, _, rfl, _, _, rfl, rfl, .inl ⟨_, rfl, _, _, rfl, rfl, (show (3 : Int) ≠ 0 by decide), nl, _, _, _, rfl, rfl, SqL.of (s914 _ _ N9), hf, _, _, rfl, rfl, ?_⟩⟩
      have emn : (V.str (if f.s.cps.toList < e.s.cps.toList then f.s else e.s)) = refV (some (if f.s.cps.toList < e.s.cps.toList then f else e)) := by
        show V.str _ = V.str (if f.s.cps.toList < e.s.cps.toList then f else e).s
        split <;> rfl
      rw [emn]
      refine ⟨_, rfl, ifNF rfl ?_⟩
      refine ⟨_, rfl, d, _, _, rfl, s914 _ _ hD9, hps9.nl (Same.nl s914), nm3, fun H15 s15 => ?_⟩
      rw [bad_none o1 o2 o3]
      refine ⟨rfl, _, rfl, ifNF rfl ?_⟩
      have s915 := s914.trans s15
      -- the ends
      have hD15 := s915 _ _ hD9
      refine ⟨(by show 3 ≤ sizeLine; decide), fun t ht => ⟨_, rfl, d, _, rfl, DPut.k (k := (Sum.inr Ef.pay.s : Key)) (same_new ht _ _ _ hD15) (by show 3 < sizeLine; decide), ?_⟩⟩
      have st := same_new ht (.tup [.int 9, .int 9, .non])
      have hD16 : (upd (upd H15 t (.tup [.int 9, .int 9, .non])) d (.dK (putK (kv3 v1 v2 v3) (.inr Ef.pay.s) (.ref t)))) d = some (.dK (kv3 (.ref t) v2 v3)) := by rw [put3 .pay]; exact upd_same
      have tl : Tl (upd H15 t (.tup [.int 9, .int 9, .non])) (upd (upd H15 t (.tup [.int 9, .int 9, .non])) d (.dK (putK (kv3 v1 v2 v3) (.inr Ef.pay.s) (.ref t)))) := Nl.put fun o' h => ⟨kv3 v1 v2 v3, by rw [st _ _ hD15] at h; exact (Option.some.inj h).symm⟩
      have AT : PrAt (upd H15 t (.tup [.int 9, .int 9, .non])) (.ref t) ⟨9, 9, none⟩ := ⟨t, .non, rfl, upd_same, rfl⟩
      have nlt : Nl H9 (upd H15 t (.tup [.int 9, .int 9, .non])) := Same.nl (s915.trans st)
      have P16 := at3 (AT.tl tl) ((a2.nl nlt).tl tl) ((a3.nl nlt).tl tl)
      have Q16 := at3 ((a1.nl nlt).tl tl) ((a2.nl nlt).tl tl) ((a3.nl nlt).tl tl)
      have nxd : x ≠ d := fun z => by rw [z, hD9] at hX9; cases hX9
      have hX16 : (upd (upd H15 t (.tup [.int 9, .int 9, .non])) d (.dK (putK (kv3 v1 v2 v3) (.inr Ef.pay.s) (.ref t)))) x = some (.ins CP dx [("effects", .ref dp)]) := by rw [upd_ne nxd]; exact st _ _ (s915 _ _ hX9)
      have hp16 : (upd (upd H15 t (.tup [.int 9, .int 9, .non])) d (.dK (putK (kv3 v1 v2 v3) (.inr Ef.pay.s) (.ref t)))) dp = some (.dK (kv3 v1 v2 v3)) := by rw [upd_ne ndp2]; exact st _ _ (s915 _ _ hp9)
      generalize upd (upd H15 t (.tup [.int 9, .int 9, .non])) d (.dK (putK (kv3 v1 v2 v3) (.inr Ef.pay.s) (.ref t))) = H16 at hD16 tl P16 Q16 hX16 hp16 ⊢
      obtain ⟨vA, eA, pA⟩ := Q16.look_some (e := .ship) rfl
      obtain ⟨vB, eB, pB⟩ := P16.look_some (e := .ship) rfl
      have qA := DGet.k (k := (Sum.inr Ef.ship.s : Key)) hp16
      have qB := DGet.k (k := (Sum.inr Ef.ship.s : Key)) hD16
      rw [eA] at qA
      rw [eB] at qB
      refine ⟨_, rfl, x, CP, dx, _, .ref dp, rfl, hX16, PC.cl, PC.nF, rfl, dp, vA, rfl, qA, _, rfl, d, vB, rfl, qB, prD p2, prD p2, pA.dp, pB.dp, prD_shaped _, prD_shaped _, _, rfl, ?_⟩
      rw [prD_eqv]
      refine iteT ?_
      intro g1 hg1
      refine ⟨(by show 3 ≤ sizeLine; decide), fun t5 ht5 => ⟨same_new ht5 _ _ _ upd_same, [(.inr "pay", .ref t5)], rfl, (by show 1 ≤ 15; decide), ?_⟩⟩
      have AT5 : PrAt (upd (upd H16 g1 (.dK [])) t5 (.tup [.int 3, .int 4, .non])) (.ref t5) ⟨3, 4, none⟩ := ⟨t5, .non, rfl, upd_same, rfl⟩
      have tl5 : Tl (upd (upd H16 g1 (.dK [])) t5 (.tup [.int 3, .int 4, .non])) (upd (upd (upd H16 g1 (.dK [])) t5 (.tup [.int 3, .int 4, .non])) g1 (.dK (mergeK [] [(.inr "pay", .ref t5)]))) := Nl.put fun o' h => ⟨[], by rw [same_new ht5 _ _ _ upd_same] at h; exact (Option.some.inj h).symm⟩
      have AT6 := AT5.tl tl5
      have G6 : (upd (upd (upd H16 g1 (.dK [])) t5 (.tup [.int 3, .int 4, .non])) g1 (.dK (mergeK [] [(.inr "pay", .ref t5)]))) g1 = some (.dK [(.inr "pay", .ref t5)]) := upd_same
      generalize upd (upd (upd H16 g1 (.dK [])) t5 (.tup [.int 3, .int 4, .non])) g1 (.dK (mergeK [] [(.inr "pay", .ref t5)])) = H17 at AT6 G6 ⊢
      intro x2 dx2 hx2 hdx2 ne2
      have sm := same_made (o1 := .own x2) (o2 := .ins CP dx2 []) hx2 hdx2
      refine ⟨x2, dx2, g1, _, [(.pay, ⟨3, 4, none⟩)], rfl, upd_same, sm _ _ G6, .cons (e := .pay) (AT6.nl (Same.nl sm)) .nil, .inr (.inl rfl), by decide, fun H18 d' b18 nd' hd' hX' => ⟨rfl, x2, CP, dx2, _, .ref d', rfl, hX', PC.cl, PC.nF, rfl, ?_⟩⟩
      have AT8 : PrAt H18 (.ref t5) ⟨3, 4, none⟩ := AT6.nl (Same.nl fun b o q => b18 _ _ (ne_of_none q hx2) (sm _ _ q))
      intro g2 hg2
      refine ⟨(by show 3 ≤ sizeLine; decide), fun t6 ht6 => ⟨same_new ht6 _ _ _ upd_same, [(.inr "pay", .ref t6)], rfl, (by show 1 ≤ 15; decide), ?_⟩⟩
      have sg := (same_new hg2 (.dK [])).trans (same_new ht6 (.tup [.int 3, .int 4, .non]))
      have AT9 : PrAt (upd (upd H18 g2 (.dK [])) t6 (.tup [.int 3, .int 4, .non])) (.ref t6) ⟨3, 4, none⟩ := ⟨t6, .non, rfl, upd_same, rfl⟩
      have tl9 : Tl (upd (upd H18 g2 (.dK [])) t6 (.tup [.int 3, .int 4, .non])) (upd (upd (upd H18 g2 (.dK [])) t6 (.tup [.int 3, .int 4, .non])) g2 (.dK (mergeK [] [(.inr "pay", .ref t6)]))) := Nl.put fun o' h => ⟨[], by rw [same_new ht6 _ _ _ upd_same] at h; exact (Option.some.inj h).symm⟩
      have ng : d' ≠ g2 := fun z => by rw [z, hg2] at hd'; cases hd'
      refine ⟨d', g2, [(.inr "pay", .ref t5)], [(.inr "pay", .ref t6)], rfl, rfl, (by rw [upd_ne ng]; exact sg _ _ hd'), upd_same, rfl, (fun p hm => ?_), k _⟩
      obtain rfl : p = ((.inr "pay", .ref t5) : Key × V) := by simpa using hm
      exact ⟨.ref t6, prD ⟨3, 4, none⟩, prD ⟨3, 4, none⟩, valV_pos (p := ((Sum.inr "pay" : Key), V.ref t6)) rfl, ((AT8.nl (Same.nl sg)).tl tl9).dp, (AT9.tl tl9).dp, prD_shaped _, prD_shaped _, prD_eqv _⟩
end
end KP
namespace KP
open PySem PySem.Spec L2 RX
theorem exm_own {K : PySem.W.Frag} {S : Addr} (h1 : PySem.W.subIn K (.ref S) (.type "BaseException") = some true) (h2 : PySem.W.isClsIn K S = true) (h3 : PySem.W.typeIn K (.ref S) = some (.type "type")) (h4 : PySem.W.subIn K (.ref S) (.ref S) = some true) :
    PySem.W.exmOne K (.ref S) (.ref S) = some true := by
  have e1 : (PySem.W.subIn K (.ref S) (.type "BaseException") == some true) = true := by rw [h1] <;> rfl
  have e2 : ((PySem.W.clsIn K S).isSome && PySem.W.typeIn K (.ref S) == some (.type "type")) = true := by
    have q : (PySem.W.clsIn K S).isSome = true := h2
    rw [q, h3] <;> rfl
  show (if (PySem.W.subIn K (.ref S) (.type "BaseException") == some true) = true then (if ((PySem.W.clsIn K S).isSome && PySem.W.typeIn K (.ref S) == some (.type "type")) = true then PySem.W.subIn K (.ref S) (.ref S) else none) else none) = some true
  rw [if_pos e1, if_pos e2]
  exact h4
theorem ks_of {K : PySem.W.Frag} {C N R : Addr} {nm q n : Str} {bs bm : List Value} {sn : List Str} {sub : List Value} {ab : Bool} {col : Option Bool} {dd : Option Addr} {m0 m1 m2 m3 m5 : Option Value} {cR : Value} {dR : Option Addr} {cdR : ClassData} {sR : Array (Option Value)} {r : Option (Option Value)}
    (xL : K.lookup C = some (excClassObj nm q C N bs bm true sn sub ab col dd m0 m1 m2 m3 m5 "ValueError.__new__")) (xR : K.lookup R = some ⟨cR, dR, .cls cdR, sR⟩) (mR : cdR.mro = bm) (iR : PySem.W.findIn K (.ref R) n = r) : PySem.W.ks_superIn K C C n = r := by
  have hcl : PySem.W.clsIn K C = some { name := nm, bases := bs, mro := .ref C :: bm, ns := N, qualname := q, hasDict := true, slotNames := sn, subclasses := sub, abstract := ab, collection := col, hasDel := false } := by unfold PySem.W.clsIn; rw [xL] <;> rfl
  have e : ((Value.ref C :: bm).dropWhile (· != Value.ref C)).drop 1 = bm := by simp [List.dropWhile]
  have f : PySem.W.findIn K (.ref R) n = PySem.W.alongIn K n bm := by
    rw [← mR]
    show (match K.lookup R with | some ⟨_, _, .cls cd, _⟩ => PySem.W.alongIn K n cd.mro | _ => none) = _
    rw [xR]
  unfold PySem.W.ks_superIn
  rw [hcl]
  show PySem.W.alongIn K n (((Value.ref C :: bm).dropWhile (· != Value.ref C)).drop 1) = r
  rw [e, ← f]
  exact iR
theorem all_mk {P : Program} {w : World} {K : PySem.W.Frag} {h : Heap} {mg : Str → Option Value} {fa R C_I f0_I cc_I cda_I N_I C_U f0_U cc_U cda_U N_U C_P f_PI f_UN f_DO f_CH f_CE f_AP f_IP f_MX f_NS f_TK f_CA f_CS f_PR f_PS f_LC f_RF f_UK f_LAW : Addr} (X : K.In h) (G : h.Ns mainGlobals mg) (hfa : mg "law" = some (.ref fa))
    {cR : Value} {dR : Option Addr} {cdR : ClassData} {sR : Array (Option Value)}
    {nm_I q_I file_I : Str} {bs_I bm_I sub_I : List Value} {sn_I : List Str} {ab_I : Bool} {col_I : Option Bool} {dd_I cld_I cdd_I od0_I an0_I : Option Addr} {m0_I m1_I m2_I m3_I m5_I : Option Value} {cl_I ccl_I oc0_I kV0_I dc0_I pm0_I ct0_I : Value} {csl_I ccs_I sl0_I : Array (Option Value)} {vs_I : Array Value} {tf_I : Nat}
    {nm_U q_U file_U : Str} {bs_U bm_U sub_U : List Value} {sn_U : List Str} {ab_U : Bool} {col_U : Option Bool} {dd_U cld_U cdd_U od0_U an0_U : Option Addr} {m0_U m1_U m2_U m3_U m5_U : Option Value} {cl_U ccl_U oc0_U kV0_U dc0_U pm0_U ct0_U : Value} {csl_U ccs_U sl0_U : Array (Option Value)} {vs_U : Array Value} {tf_U : Nat}
    {od_PI an_PI : Option Addr} {sl_PI : Array (Option Value)} {oc_PI kV_PI dc_PI pm_PI cd_PI ct_PI : Value}
    {t_G : Nat}
    {od_UN an_UN : Option Addr} {sl_UN : Array (Option Value)} {oc_UN kV_UN dc_UN pm_UN cd_UN ct_UN : Value}
    {od_DO an_DO : Option Addr} {sl_DO : Array (Option Value)} {oc_DO kV_DO dc_DO pm_DO cd_DO ct_DO : Value}
    {od_CH an_CH : Option Addr} {sl_CH : Array (Option Value)} {oc_CH kV_CH dc_CH pm_CH cd_CH ct_CH : Value}
    {od_CE an_CE : Option Addr} {sl_CE : Array (Option Value)} {oc_CE kV_CE dc_CE pm_CE cd_CE ct_CE : Value}
    {od_AP an_AP : Option Addr} {sl_AP : Array (Option Value)} {oc_AP kV_AP dc_AP pm_AP cd_AP ct_AP : Value}
    {od_IP an_IP : Option Addr} {sl_IP : Array (Option Value)} {oc_IP kV_IP dc_IP pm_IP cd_IP ct_IP : Value}
    {od_MX an_MX : Option Addr} {sl_MX : Array (Option Value)} {oc_MX kV_MX dc_MX pm_MX cd_MX ct_MX : Value}
    {od_NS an_NS : Option Addr} {sl_NS : Array (Option Value)} {oc_NS kV_NS dc_NS pm_NS cd_NS ct_NS : Value}
    {od_TK an_TK : Option Addr} {sl_TK : Array (Option Value)} {oc_TK kV_TK dc_TK pm_TK cd_TK ct_TK : Value}
    {od_CA an_CA : Option Addr} {sl_CA : Array (Option Value)} {oc_CA kV_CA dc_CA pm_CA cd_CA ct_CA : Value}
    {od_CS an_CS : Option Addr} {sl_CS : Array (Option Value)} {oc_CS kV_CS dc_CS pm_CS cd_CS ct_CS : Value}
    {od_PR an_PR : Option Addr} {sl_PR : Array (Option Value)} {oc_PR kV_PR dc_PR pm_PR cd_PR ct_PR : Value}
    {od_PS an_PS : Option Addr} {sl_PS : Array (Option Value)} {oc_PS kV_PS dc_PS pm_PS cd_PS ct_PS : Value}
    {od_LC an_LC : Option Addr} {sl_LC : Array (Option Value)} {oc_LC kV_LC dc_LC pm_LC cd_LC ct_LC : Value}
    {od_RF an_RF : Option Addr} {sl_RF : Array (Option Value)} {oc_RF kV_RF dc_RF pm_RF cd_RF ct_RF : Value}
    {od_UK an_UK : Option Addr} {sl_UK : Array (Option Value)} {oc_UK kV_UK dc_UK pm_UK cd_UK ct_UK : Value}
    {od_LAW an_LAW : Option Addr} {sl_LAW : Array (Option Value)} {oc_LAW kV_LAW dc_LAW pm_LAW cd_LAW ct_LAW : Value}
    (aR : PySem.W.nsIn K mainGlobals "RetroactError" = some (some (.ref R)))
    (xR : K.lookup R = some ⟨cR, dR, .cls cdR, sR⟩)
    (iR : PySem.W.findIn K (.ref R) "__init__" = some (some (.builtin "ValueError.__init__")))
    (tp : (P.main.scope.names.lookup ("super" : Str)).isSome = false)
    (oq : PySem.W.nsIn K cStatics "thirdparty.any" = some none)
    (zsup : PySem.W.nsIn K mainGlobals "super" = some none)
    (aC_I : PySem.W.nsIn K mainGlobals "InvalidPrices" = some (some (.ref C_I)))
    (xL_I : K.lookup C_I = some (excClassObj nm_I q_I C_I N_I bs_I bm_I true sn_I sub_I ab_I col_I dd_I m0_I m1_I m2_I m3_I m5_I "ValueError.__new__"))
    (bv_I : PySem.HandSPX.refsVE bm_I = true)
    (sa_I : PySem.W.findIn K (.ref C_I) "__setattr__" = some (some (.builtin "object.__setattr__")))
    (eC_I : PySem.W.subIn K (.ref C_I) (.type "BaseException") = some true)
    (tC_I : PySem.W.typeIn K (.ref C_I) = some (.type "type"))
    (kC_I : PySem.W.keepIn K (.ref C_I) = true)
    (nR_I : PySem.W.findIn K (.ref C_I) "name" = some none)
    (iC_I : PySem.W.findIn K (.ref C_I) "__init__" = some (some (.ref f0_I)))
    (tI_I : PySem.W.typeIn K (.ref f0_I) = some (.type "function"))
    (l0_I : K.lookup f0_I = some ⟨oc0_I, od0_I, .func (PySem.W.ksFn "__init__" "InvalidPrices.__init__" (defArgs sIP) (defBody sIP) (defScope sIP) .none kV0_I dc0_I pm0_I an0_I (.ref cda_I) ct0_I cc_I), sl0_I⟩)
    (c0_I : PySem.W.codeIn K (.ref cda_I) "InvalidPrices.__init__" = true)
    (xc_I : K.lookup cc_I = some ⟨cl_I, cld_I, .cell (some (.ref C_I)), csl_I⟩)
    (xd_I : K.lookup cda_I = some ⟨ccl_I, cdd_I, .fields vs_I, ccs_I⟩)
    (xv_I : vs_I[2]? = some (.str file_I tf_I))
    (xf_I : ((P.main.file : Str) == file_I) = true)
    (se_I : PySem.W.mroIn K C_I (.ref C_I) = some true)
    (mR_I : cdR.mro = bm_I)
    (vE_I : PySem.W.subIn K (.ref C_I) (.type "ValueError") = some true)
    (ga_I : PySem.W.findIn K (.ref C_I) "__getattribute__" = some (some (.builtin "BaseException.__getattribute__")))
    (gg_I : PySem.W.findIn K (.ref C_I) "__getattr__" = some none)
    (hC_I : PySem.W.hasDictIn K C_I = true)
    (ic_I : PySem.W.isClsIn K C_I = true)
    (sC_I : PySem.W.subIn K (.ref C_I) (.ref C_I) = some true)
    (aC_U : PySem.W.nsIn K mainGlobals "UnknownEffect" = some (some (.ref C_U)))
    (xL_U : K.lookup C_U = some (excClassObj nm_U q_U C_U N_U bs_U bm_U true sn_U sub_U ab_U col_U dd_U m0_U m1_U m2_U m3_U m5_U "ValueError.__new__"))
    (bv_U : PySem.HandSPX.refsVE bm_U = true)
    (sa_U : PySem.W.findIn K (.ref C_U) "__setattr__" = some (some (.builtin "object.__setattr__")))
    (eC_U : PySem.W.subIn K (.ref C_U) (.type "BaseException") = some true)
    (tC_U : PySem.W.typeIn K (.ref C_U) = some (.type "type"))
    (kC_U : PySem.W.keepIn K (.ref C_U) = true)
    (nR_U : PySem.W.findIn K (.ref C_U) "name" = some none)
    (iC_U : PySem.W.findIn K (.ref C_U) "__init__" = some (some (.ref f0_U)))
    (tI_U : PySem.W.typeIn K (.ref f0_U) = some (.type "function"))
    (l0_U : K.lookup f0_U = some ⟨oc0_U, od0_U, .func (PySem.W.ksFn "__init__" "UnknownEffect.__init__" (defArgs sUE) (defBody sUE) (defScope sUE) .none kV0_U dc0_U pm0_U an0_U (.ref cda_U) ct0_U cc_U), sl0_U⟩)
    (c0_U : PySem.W.codeIn K (.ref cda_U) "UnknownEffect.__init__" = true)
    (xc_U : K.lookup cc_U = some ⟨cl_U, cld_U, .cell (some (.ref C_U)), csl_U⟩)
    (xd_U : K.lookup cda_U = some ⟨ccl_U, cdd_U, .fields vs_U, ccs_U⟩)
    (xv_U : vs_U[2]? = some (.str file_U tf_U))
    (xf_U : ((P.main.file : Str) == file_U) = true)
    (se_U : PySem.W.mroIn K C_U (.ref C_U) = some true)
    (mR_U : cdR.mro = bm_U)
    (vE_U : PySem.W.subIn K (.ref C_U) (.type "ValueError") = some true)
    (ga_U : PySem.W.findIn K (.ref C_U) "__getattribute__" = some (some (.builtin "BaseException.__getattribute__")))
    (gg_U : PySem.W.findIn K (.ref C_U) "__getattr__" = some none)
    (hC_U : PySem.W.hasDictIn K C_U = true)
    (ic_U : PySem.W.isClsIn K C_U = true)
    (sC_U : PySem.W.subIn K (.ref C_U) (.ref C_U) = some true)
    (aC_P : PySem.W.nsIn K mainGlobals "Prices" = some (some (.ref C_P)))
    (pg_P : PySem.W.plainGet K C_P Str.empty = true)
    (hd_P : PySem.W.hasDictIn K C_P = true)
    (po_P : PySem.W.plainOver K C_P = true)
    (sa_P : PySem.W.findIn K (.ref C_P) "__setattr__" = some (some (.builtin "object.__setattr__")))
    (mk_P : PySem.W.makesIn K C_P = true)
    (kc_P : PySem.W.keepIn K (.ref C_P) = true)
    (n0_P : PySem.W.findIn K (.ref C_P) "effects" = some none)
    (a_PI : PySem.W.findIn K (.ref C_P) "__init__" = some (some (.ref f_PI)))
    (i_PI : PySem.W.isFn K (.ref f_PI) = true)
    (l_PI : K.lookup f_PI = some ⟨oc_PI, od_PI, .func (PySem.W.fnOf "__init__" "Prices.__init__" (defArgs sPInit) (defBody sPInit) (defScope sPInit) .none kV_PI dc_PI pm_PI an_PI cd_PI ct_PI), sl_PI⟩)
    (c_PI : PySem.W.codeIn K cd_PI "Prices.__init__" = true)
    (k_PI : PySem.W.keepIn K (.ref f_PI) = true)
    (z_isinstance : PySem.W.nsIn K mainGlobals "isinstance" = some none)
    (z_int : PySem.W.nsIn K mainGlobals "int" = some none)
    (z_bool : PySem.W.nsIn K mainGlobals "bool" = some none)
    (z_len : PySem.W.nsIn K mainGlobals "len" = some none)
    (z_list : PySem.W.nsIn K mainGlobals "list" = some none)
    (z_tuple : PySem.W.nsIn K mainGlobals "tuple" = some none)
    (z_dict : PySem.W.nsIn K mainGlobals "dict" = some none)
    (z_range : PySem.W.nsIn K mainGlobals "range" = some none)
    (z_all : PySem.W.nsIn K mainGlobals "all" = some none)
    (z_sum : PySem.W.nsIn K mainGlobals "sum" = some none)
    (z_min : PySem.W.nsIn K mainGlobals "min" = some none)
    (z_abs : PySem.W.nsIn K mainGlobals "abs" = some none)
    (z_zip : PySem.W.nsIn K mainGlobals "zip" = some none)
    (z_sorted : PySem.W.nsIn K mainGlobals "sorted" = some none)
    (g_G : PySem.W.nsIn K mainGlobals "GREATEST_PRICE" = some (some (.int 1000000 t_G)))
    (a_UN : PySem.W.nsIn K mainGlobals "undo_cost" = some (some (.ref f_UN)))
    (l_UN : K.lookup f_UN = some ⟨oc_UN, od_UN, .func (PySem.W.fnOf "undo_cost" "undo_cost" (defArgs sUndo) (defBody sUndo) (defScope sUndo) .none kV_UN dc_UN pm_UN an_UN cd_UN ct_UN), sl_UN⟩)
    (c_UN : PySem.W.codeIn K cd_UN "undo_cost" = true)
    (k_UN : PySem.W.keepIn K (.ref f_UN) = true)
    (a_DO : PySem.W.nsIn K mainGlobals "do_cost" = some (some (.ref f_DO)))
    (l_DO : K.lookup f_DO = some ⟨oc_DO, od_DO, .func (PySem.W.fnOf "do_cost" "do_cost" (defArgs sDo) (defBody sDo) (defScope sDo) .none kV_DO dc_DO pm_DO an_DO cd_DO ct_DO), sl_DO⟩)
    (c_DO : PySem.W.codeIn K cd_DO "do_cost" = true)
    (k_DO : PySem.W.keepIn K (.ref f_DO) = true)
    (a_CH : PySem.W.nsIn K mainGlobals "change_cost" = some (some (.ref f_CH)))
    (l_CH : K.lookup f_CH = some ⟨oc_CH, od_CH, .func (PySem.W.fnOf "change_cost" "change_cost" (defArgs sChg) (defBody sChg) (defScope sChg) .none kV_CH dc_CH pm_CH an_CH cd_CH ct_CH), sl_CH⟩)
    (c_CH : PySem.W.codeIn K cd_CH "change_cost" = true)
    (k_CH : PySem.W.keepIn K (.ref f_CH) = true)
    (a_CE : PySem.W.nsIn K mainGlobals "check_effects" = some (some (.ref f_CE)))
    (l_CE : K.lookup f_CE = some ⟨oc_CE, od_CE, .func (PySem.W.fnOf "check_effects" "check_effects" (defArgs sChk) (defBody sChk) (defScope sChk) .none kV_CE dc_CE pm_CE an_CE cd_CE ct_CE), sl_CE⟩)
    (c_CE : PySem.W.codeIn K cd_CE "check_effects" = true)
    (k_CE : PySem.W.keepIn K (.ref f_CE) = true)
    (a_AP : PySem.W.nsIn K mainGlobals "_are_prices" = some (some (.ref f_AP)))
    (l_AP : K.lookup f_AP = some ⟨oc_AP, od_AP, .func (PySem.W.fnOf "_are_prices" "_are_prices" (defArgs sAre) (defBody sAre) (defScope sAre) .none kV_AP dc_AP pm_AP an_AP cd_AP ct_AP), sl_AP⟩)
    (c_AP : PySem.W.codeIn K cd_AP "_are_prices" = true)
    (k_AP : PySem.W.keepIn K (.ref f_AP) = true)
    (a_IP : PySem.W.nsIn K mainGlobals "_is_price" = some (some (.ref f_IP)))
    (l_IP : K.lookup f_IP = some ⟨oc_IP, od_IP, .func (PySem.W.fnOf "_is_price" "_is_price" (defArgs sIs) (defBody sIs) (defScope sIs) .none kV_IP dc_IP pm_IP an_IP cd_IP ct_IP), sl_IP⟩)
    (c_IP : PySem.W.codeIn K cd_IP "_is_price" = true)
    (k_IP : PySem.W.keepIn K (.ref f_IP) = true)
    (a_MX : PySem.W.nsIn K mainGlobals "_law_mix" = some (some (.ref f_MX)))
    (l_MX : K.lookup f_MX = some ⟨oc_MX, od_MX, .func (PySem.W.fnOf "_law_mix" "_law_mix" (defArgs sMix) (defBody sMix) (defScope sMix) .none kV_MX dc_MX pm_MX an_MX cd_MX ct_MX), sl_MX⟩)
    (c_MX : PySem.W.codeIn K cd_MX "_law_mix" = true)
    (k_MX : PySem.W.keepIn K (.ref f_MX) = true)
    (a_NS : PySem.W.nsIn K mainGlobals "_law_numbers" = some (some (.ref f_NS)))
    (l_NS : K.lookup f_NS = some ⟨oc_NS, od_NS, .func (PySem.W.fnOf "_law_numbers" "_law_numbers" (defArgs sNums) (defBody sNums) (defScope sNums) .none kV_NS dc_NS pm_NS an_NS cd_NS ct_NS), sl_NS⟩)
    (c_NS : PySem.W.codeIn K cd_NS "_law_numbers" = true)
    (k_NS : PySem.W.keepIn K (.ref f_NS) = true)
    (a_TK : PySem.W.nsIn K mainGlobals "_law_take" = some (some (.ref f_TK)))
    (l_TK : K.lookup f_TK = some ⟨oc_TK, od_TK, .func (PySem.W.fnOf "_law_take" "_law_take" (defArgs sTake) (defBody sTake) (defScope sTake) .none kV_TK dc_TK pm_TK an_TK cd_TK ct_TK), sl_TK⟩)
    (c_TK : PySem.W.codeIn K cd_TK "_law_take" = true)
    (k_TK : PySem.W.keepIn K (.ref f_TK) = true)
    (a_CA : PySem.W.nsIn K mainGlobals "_law_call" = some (some (.ref f_CA)))
    (l_CA : K.lookup f_CA = some ⟨oc_CA, od_CA, .func (PySem.W.fnOf "_law_call" "_law_call" (defArgs sCall) (defBody sCall) (defScope sCall) .none kV_CA dc_CA pm_CA an_CA cd_CA ct_CA), sl_CA⟩)
    (c_CA : PySem.W.codeIn K cd_CA "_law_call" = true)
    (k_CA : PySem.W.keepIn K (.ref f_CA) = true)
    (a_CS : PySem.W.nsIn K mainGlobals "_law_calls" = some (some (.ref f_CS)))
    (l_CS : K.lookup f_CS = some ⟨oc_CS, od_CS, .func (PySem.W.fnOf "_law_calls" "_law_calls" (defArgs sCalls) (defBody sCalls) (defScope sCalls) .none kV_CS dc_CS pm_CS an_CS cd_CS ct_CS), sl_CS⟩)
    (c_CS : PySem.W.codeIn K cd_CS "_law_calls" = true)
    (k_CS : PySem.W.keepIn K (.ref f_CS) = true)
    (a_PR : PySem.W.nsIn K mainGlobals "_law_price" = some (some (.ref f_PR)))
    (l_PR : K.lookup f_PR = some ⟨oc_PR, od_PR, .func (PySem.W.fnOf "_law_price" "_law_price" (defArgs sPrice) (defBody sPrice) (defScope sPrice) .none kV_PR dc_PR pm_PR an_PR cd_PR ct_PR), sl_PR⟩)
    (c_PR : PySem.W.codeIn K cd_PR "_law_price" = true)
    (k_PR : PySem.W.keepIn K (.ref f_PR) = true)
    (a_PS : PySem.W.nsIn K mainGlobals "_law_prices" = some (some (.ref f_PS)))
    (l_PS : K.lookup f_PS = some ⟨oc_PS, od_PS, .func (PySem.W.fnOf "_law_prices" "_law_prices" (defArgs sPrices) (defBody sPrices) (defScope sPrices) .none kV_PS dc_PS pm_PS an_PS cd_PS ct_PS), sl_PS⟩)
    (c_PS : PySem.W.codeIn K cd_PS "_law_prices" = true)
    (k_PS : PySem.W.keepIn K (.ref f_PS) = true)
    (a_LC : PySem.W.nsIn K mainGlobals "_law_change" = some (some (.ref f_LC)))
    (l_LC : K.lookup f_LC = some ⟨oc_LC, od_LC, .func (PySem.W.fnOf "_law_change" "_law_change" (defArgs sLChg) (defBody sLChg) (defScope sLChg) .none kV_LC dc_LC pm_LC an_LC cd_LC ct_LC), sl_LC⟩)
    (c_LC : PySem.W.codeIn K cd_LC "_law_change" = true)
    (k_LC : PySem.W.keepIn K (.ref f_LC) = true)
    (a_RF : PySem.W.nsIn K mainGlobals "_law_refused" = some (some (.ref f_RF)))
    (l_RF : K.lookup f_RF = some ⟨oc_RF, od_RF, .func (PySem.W.fnOf "_law_refused" "_law_refused" (defArgs sRef) (defBody sRef) (defScope sRef) .none kV_RF dc_RF pm_RF an_RF cd_RF ct_RF), sl_RF⟩)
    (c_RF : PySem.W.codeIn K cd_RF "_law_refused" = true)
    (k_RF : PySem.W.keepIn K (.ref f_RF) = true)
    (a_UK : PySem.W.nsIn K mainGlobals "_law_unknown" = some (some (.ref f_UK)))
    (l_UK : K.lookup f_UK = some ⟨oc_UK, od_UK, .func (PySem.W.fnOf "_law_unknown" "_law_unknown" (defArgs sUnk) (defBody sUnk) (defScope sUnk) .none kV_UK dc_UK pm_UK an_UK cd_UK ct_UK), sl_UK⟩)
    (c_UK : PySem.W.codeIn K cd_UK "_law_unknown" = true)
    (k_UK : PySem.W.keepIn K (.ref f_UK) = true)
    (a_LAW : PySem.W.nsIn K mainGlobals "law" = some (some (.ref f_LAW)))
    (l_LAW : K.lookup f_LAW = some ⟨oc_LAW, od_LAW, .func (PySem.W.fnOf "law" "law" (defArgs sLaw) (defBody sLaw) (defScope sLaw) .none kV_LAW dc_LAW pm_LAW an_LAW cd_LAW ct_LAW), sl_LAW⟩)
    (c_LAW : PySem.W.codeIn K cd_LAW "law" = true)
    (k_LAW : PySem.W.keepIn K (.ref f_LAW) = true) :
    ∃ fd : FuncData, (∀ (s : Shared) (u : Value), BindsTo s fd ⟨[u], []⟩ [("script", u)]) ∧ ∀ base : Heap, K.In base → base.Ns mainGlobals mg → FnOk P w K mg base CX0 6 fa fd ["script"] (spLaw K) := by
  have e := hfa.symm.trans (PySem.W.mg_of X G a_LAW)
  cases e
  have zz : ∀ {x : Str}, PySem.W.nsIn K mainGlobals x = some none → mg x = none := fun e => PySem.W.mg_none_of X G e
  have TI : Ex1 P K mg C_I f0_I cc_I cda_I "InvalidPrices" :=
    { su := { ox := ⟨⟨nm_I, q_I, N_I, bs_I, bm_I, sn_I, sub_I, ab_I, col_I, dd_I, m0_I, m1_I, m2_I, m3_I, m5_I, xL_I, bv_I⟩, sa_I, eC_I, tC_I, kC_I⟩, cell := ⟨_, _, _, xc_I⟩, code := ⟨_, _, _, _, _, _, xd_I, xv_I, xf_I⟩, self := se_I, sup := zz zsup, top := tp, opq := oq, ini := ks_of xL_I xR mR_I iR, vE := vE_I }, noR := nR_I, iC := iC_I, tI := tI_I, gF := PySem.W.mg_of X G aC_I, xf := ⟨ga_I, gg_I, eC_I, hC_I⟩, te := exm_own eC_I ic_I tC_I sC_I }
  have bE_I : Binds K (PySem.W.ksFn "__init__" "InvalidPrices.__init__" (defArgs sIP) (defBody sIP) (defScope sIP) .none kV0_I dc0_I pm0_I an0_I (.ref cda_I) ct0_I cc_I) ["self", "name"] [] := .all fun us hl => match us, hl with | [_, _], _ => rfl
  have TU : Ex1 P K mg C_U f0_U cc_U cda_U "UnknownEffect" :=
    { su := { ox := ⟨⟨nm_U, q_U, N_U, bs_U, bm_U, sn_U, sub_U, ab_U, col_U, dd_U, m0_U, m1_U, m2_U, m3_U, m5_U, xL_U, bv_U⟩, sa_U, eC_U, tC_U, kC_U⟩, cell := ⟨_, _, _, xc_U⟩, code := ⟨_, _, _, _, _, _, xd_U, xv_U, xf_U⟩, self := se_U, sup := zz zsup, top := tp, opq := oq, ini := ks_of xL_U xR mR_U iR, vE := vE_U }, noR := nR_U, iC := iC_U, tI := tI_U, gF := PySem.W.mg_of X G aC_U, xf := ⟨ga_U, gg_U, eC_U, hC_U⟩, te := exm_own eC_U ic_U tC_U sC_U }
  have bE_U : Binds K (PySem.W.ksFn "__init__" "UnknownEffect.__init__" (defArgs sUE) (defBody sUE) (defScope sUE) .none kV0_U dc0_U pm0_U an0_U (.ref cda_U) ct0_U cc_U) ["self", "name"] [] := .all fun us hl => match us, hl with | [_, _], _ => rfl
  have F_PI := fun_mk (st := sPInit) l_PI c_PI k_PI
  have b_PI := F_PI.binds (ps := ["self", "effects"]) fun _ _ _ _ _ _ us hl => match us, hl with | [_, _], _ => rfl
  have F_UN := fun_mk (st := sUndo) l_UN c_UN k_UN
  have L_UN : Cal K mg "undo_cost" _ _ ["prices", "call"] := ⟨PySem.W.mg_of X G a_UN, k_UN, F_UN.binds fun _ _ _ _ _ _ us hl => match us, hl with | [_, _], _ => rfl⟩
  have F_DO := fun_mk (st := sDo) l_DO c_DO k_DO
  have L_DO : Cal K mg "do_cost" _ _ ["prices", "call"] := ⟨PySem.W.mg_of X G a_DO, k_DO, F_DO.binds fun _ _ _ _ _ _ us hl => match us, hl with | [_, _], _ => rfl⟩
  have F_CH := fun_mk (st := sChg) l_CH c_CH k_CH
  have L_CH : Cal K mg "change_cost" _ _ ["prices", "first", "second"] := ⟨PySem.W.mg_of X G a_CH, k_CH, F_CH.binds fun _ _ _ _ _ _ us hl => match us, hl with | [_, _, _], _ => rfl⟩
  have F_CE := fun_mk (st := sChk) l_CE c_CE k_CE
  have L_CE : Cal K mg "check_effects" _ _ ["prices", "calls"] := ⟨PySem.W.mg_of X G a_CE, k_CE, F_CE.binds fun _ _ _ _ _ _ us hl => match us, hl with | [_, _], _ => rfl⟩
  have F_AP := fun_mk (st := sAre) l_AP c_AP k_AP
  have L_AP : Cal K mg "_are_prices" _ _ ["numbers"] := ⟨PySem.W.mg_of X G a_AP, k_AP, F_AP.binds fun _ _ _ _ _ _ us hl => match us, hl with | [_], _ => rfl⟩
  have F_IP := fun_mk (st := sIs) l_IP c_IP k_IP
  have L_IP : Cal K mg "_is_price" _ _ ["number"] := ⟨PySem.W.mg_of X G a_IP, k_IP, F_IP.binds fun _ _ _ _ _ _ us hl => match us, hl with | [_], _ => rfl⟩
  have F_MX := fun_mk (st := sMix) l_MX c_MX k_MX
  have L_MX : Cal K mg "_law_mix" _ _ ["number", "k"] := ⟨PySem.W.mg_of X G a_MX, k_MX, F_MX.binds fun _ _ _ _ _ _ us hl => match us, hl with | [_, _], _ => rfl⟩
  have F_NS := fun_mk (st := sNums) l_NS c_NS k_NS
  have L_NS : Cal K mg "_law_numbers" _ _ ["script", "count"] := ⟨PySem.W.mg_of X G a_NS, k_NS, F_NS.binds fun _ _ _ _ _ _ us hl => match us, hl with | [_, _], _ => rfl⟩
  have F_TK := fun_mk (st := sTake) l_TK c_TK k_TK
  have L_TK : Cal K mg "_law_take" _ _ ["row", "bound"] := ⟨PySem.W.mg_of X G a_TK, k_TK, F_TK.binds fun _ _ _ _ _ _ us hl => match us, hl with | [_, _], _ => rfl⟩
  have F_CA := fun_mk (st := sCall) l_CA c_CA k_CA
  have L_CA : Cal K mg "_law_call" _ _ ["row", "keys"] := ⟨PySem.W.mg_of X G a_CA, k_CA, F_CA.binds fun _ _ _ _ _ _ us hl => match us, hl with | [_, _], _ => rfl⟩
  have F_CS := fun_mk (st := sCalls) l_CS c_CS k_CS
  have L_CS : Cal K mg "_law_calls" _ _ ["row", "most"] := ⟨PySem.W.mg_of X G a_CS, k_CS, F_CS.binds fun _ _ _ _ _ _ us hl => match us, hl with | [_, _], _ => rfl⟩
  have F_PR := fun_mk (st := sPrice) l_PR c_PR k_PR
  have L_PR : Cal K mg "_law_price" _ _ ["row"] := ⟨PySem.W.mg_of X G a_PR, k_PR, F_PR.binds fun _ _ _ _ _ _ us hl => match us, hl with | [_], _ => rfl⟩
  have F_PS := fun_mk (st := sPrices) l_PS c_PS k_PS
  have L_PS : Cal K mg "_law_prices" _ _ ["row"] := ⟨PySem.W.mg_of X G a_PS, k_PS, F_PS.binds fun _ _ _ _ _ _ us hl => match us, hl with | [_], _ => rfl⟩
  have F_LC := fun_mk (st := sLChg) l_LC c_LC k_LC
  have L_LC : Cal K mg "_law_change" _ _ ["prices", "first", "second"] := ⟨PySem.W.mg_of X G a_LC, k_LC, F_LC.binds fun _ _ _ _ _ _ us hl => match us, hl with | [_, _, _], _ => rfl⟩
  have F_RF := fun_mk (st := sRef) l_RF c_RF k_RF
  have L_RF : Cal K mg "_law_refused" _ _ ["effects"] := ⟨PySem.W.mg_of X G a_RF, k_RF, F_RF.binds fun _ _ _ _ _ _ us hl => match us, hl with | [_], _ => rfl⟩
  have F_UK := fun_mk (st := sUnk) l_UK c_UK k_UK
  have L_UK : Cal K mg "_law_unknown" _ _ ["call", "first", "second"] := ⟨PySem.W.mg_of X G a_UK, k_UK, F_UK.binds fun _ _ _ _ _ _ us hl => match us, hl with | [_, _, _], _ => rfl⟩
  have F_LAW := fun_mk (st := sLaw) l_LAW c_LAW k_LAW
  refine ⟨PySem.W.fnOf "law" "law" (defArgs sLaw) (defBody sLaw) (defScope sLaw) .none kV_LAW dc_LAW pm_LAW an_LAW cd_LAW ct_LAW, fun s u => .of_eq rfl, fun base _ _ => ?_⟩
  have T : Txt K mg := { zisi := zz z_isinstance, zint := zz z_int, zbool := zz z_bool, zlen := zz z_len, zlist := zz z_list, ztuple := zz z_tuple, zdict := zz z_dict, zrng := zz z_range, zall := zz z_all, zsum := zz z_sum, zmin := zz z_min, zabs := zz z_abs, zzip := zz z_zip, zsorted := zz z_sorted, gG := ⟨_, PySem.W.mg_of X G g_G⟩ }
  have PC : PrC K mg C_P f_PI := ⟨⟨pg_P, hd_P, po_P, sa_P⟩, n0_P, ⟨mk_P, a_PI, i_PI, kc_P⟩, PySem.W.mg_of X G aC_P⟩
  have GI := ok_ip (w := w) (base := base) TI l0_I c0_I
  have GU := ok_ue (w := w) (base := base) TU l0_U c0_U
  have G_IP := ok_is (P := P) (w := w) (base := base) F_IP T
  have G_AP := ok_are F_AP T G_IP L_IP
  have G_MX := ok_mix (P := P) (w := w) (base := base) F_MX T
  have G_TK := ok_take (P := P) (w := w) (base := base) F_TK T
  have G_NS := ok_nums F_NS T G_MX L_MX
  have G_PR := ok_price F_PR T G_TK L_TK
  have G_PS := ok_prices F_PS T G_PR L_PR
  have G_CA := ok_call F_CA T G_TK L_TK
  have G_CS := ok_calls F_CS T G_TK L_TK G_CA L_CA
  have G_CE := ok_chk F_CE PC TU GU bE_U
  have G_UN := ok_undo F_UN PC G_CE L_CE
  have G_DO := ok_do F_DO PC G_CE L_CE
  have G_CH := ok_chg F_CH T PC G_CE L_CE
  have G_LC := ok_lchg (P := P) (w := w) (base := base) F_LC T
  have G_PI := ok_pinit F_PI T PC TI GI bE_I G_AP L_AP
  have G_RF := ok_ref F_RF PC TI G_PI b_PI
  have G_P0 := ok_p0 G_PI
  have G_U1 := ok_unk F_UK PC TU G_P0 b_PI G_UN k_UN L_UN.b (fun v cv c H Q E h1 h2 f => ⟨v, cv, c, [], rfl, h1, h2, f⟩) G_CH k_CH L_CH.b
  have G_U2 := ok_unk F_UK PC TU G_P0 b_PI G_DO k_DO L_DO.b (fun v cv c H Q E h1 h2 f => ⟨v, cv, c, [], rfl, h1, h2, f⟩) G_CH k_CH L_CH.b
  exact ok_law F_LAW T PC (ok_pq G_PI) b_PI (ok_undoq G_UN) L_UN (ok_doq G_DO) L_DO (ok_chgq G_CH) L_CH G_NS L_NS G_PS L_PS G_CS L_CS G_LC L_LC G_TK L_TK G_RF L_RF G_U1 G_U2 L_UK
theorem walk {l : PySem.W.OpenLaw} {q : Program} {loose : List Str} {XP : (Str → Option Value) → Heap → Prop} {YP : World → Heap → Prop} {d : DefRec} {K : Params → PySem.W.Frag} (hn : l.most = some 63) (hdf : d.params.defaults = [])
    (hY : ∀ (w : World) (h : Heap), YP w h → (K w.params).In h)
    (F : ∀ (w : World) (mg : Str → Option Value) (fa : Addr) (h : Heap), (K w.params).In h → h.Ns mainGlobals mg → mg d.name = some (.ref fa) →
      ∃ fd : FuncData, (∀ (s : Shared) (u : Value), BindsTo s fd ⟨[u], []⟩ [("script", u)]) ∧ ∀ base : Heap, (K w.params).In base → base.Ns mainGlobals mg → FnOk l.prog w (K w.params) mg base CX0 6 fa fd ["script"] (spLaw (K w.params))) :
    PySem.W.WalkO q loose XP YP l.row.toRowW d [] (fun f vs => PySem.call f vs) :=
  L2.walk_of (n := 63) (k := 6) (x := "script") (CX := fun _ => CX0) (sp := fun w => spLaw (K w.params)) hn (by decide) hdf ⟨rfl, by decide, by decide⟩ hY F (fun _ _ a ns hl _ hS => ⟨a, ns, rfl, hS, hl, fun _ => rfl⟩) fun _ _ _ _ _ z => z
end KP
open PySem PySem.W PyProof.Rows
set_option maxRecDepth 100000 in
set_option maxHeartbeats 0 in
theorem PySem.Challenge.cw_retroact_k30_prices_of_deeds_holds : PySem.Challenge.rw_retroact_k30_prices_of_deeds.Holds := by
  w_on; o_law; k_head; (case hw => w_witness2)
  k_fill
  refine KP.walk (l := PySem.Challenge.rw_retroact_k30_prices_of_deeds) rfl rfl (fun w h Y => PySem.W.kIn_of Y) ?F
  case F =>
    intro w mg fa h KX G hmg
    refine' KP.all_mk KX G hmg ?aR ?xR ?iR ?tp ?oq ?zsup ?aC_I ?xL_I ?bv_I ?sa_I ?eC_I ?tC_I ?kC_I ?nR_I ?iC_I ?tI_I ?l0_I ?c0_I ?xc_I ?xd_I ?xv_I ?xf_I ?se_I ?mR_I ?vE_I ?ga_I ?gg_I ?hC_I ?ic_I ?sC_I ?aC_U ?xL_U ?bv_U ?sa_U ?eC_U ?tC_U ?kC_U ?nR_U ?iC_U ?tI_U ?l0_U ?c0_U ?xc_U ?xd_U ?xv_U ?xf_U ?se_U ?mR_U ?vE_U ?ga_U ?gg_U ?hC_U ?ic_U ?sC_U ?aC_P ?pg_P ?hd_P ?po_P ?sa_P ?mk_P ?kc_P ?n0_P ?a_PI ?i_PI ?l_PI ?c_PI ?k_PI ?z_isinstance ?z_int ?z_bool ?z_len ?z_list ?z_tuple ?z_dict ?z_range ?z_all ?z_sum ?z_min ?z_abs ?z_zip ?z_sorted ?g_G ?a_UN ?l_UN ?c_UN ?k_UN ?a_DO ?l_DO ?c_DO ?k_DO ?a_CH ?l_CH ?c_CH ?k_CH ?a_CE ?l_CE ?c_CE ?k_CE ?a_AP ?l_AP ?c_AP ?k_AP ?a_IP ?l_IP ?c_IP ?k_IP ?a_MX ?l_MX ?c_MX ?k_MX ?a_NS ?l_NS ?c_NS ?k_NS ?a_TK ?l_TK ?c_TK ?k_TK ?a_CA ?l_CA ?c_CA ?k_CA ?a_CS ?l_CS ?c_CS ?k_CS ?a_PR ?l_PR ?c_PR ?k_PR ?a_PS ?l_PS ?c_PS ?k_PS ?a_LC ?l_LC ?c_LC ?k_LC ?a_RF ?l_RF ?c_RF ?k_RF ?a_UK ?l_UK ?c_UK ?k_UK ?a_LAW ?l_LAW ?c_LAW ?k_LAW
    (case aR => k_is)
    (case xR => k_is)
    (case iR => k_is)
    (case tp => decide +kernel)
    (case oq => k_is)
    (case zsup => k_is)
    (case aC_I => k_is)
    (case xL_I => k_is)
    (case bv_I => decide +kernel)
    (case sa_I => k_is)
    (case eC_I => k_is)
    (case tC_I => k_is)
    (case kC_I => k_is)
    (case nR_I => k_is)
    (case iC_I => k_is)
    (case tI_I => k_is)
    (case l0_I => k_is)
    (case c0_I => k_is)
    (case xc_I => k_is)
    (case xd_I => k_is)
    (case xv_I => rfl)
    (case xf_I => decide +kernel)
    (case se_I => k_is)
    (case mR_I => rfl)
    (case vE_I => k_is)
    (case ga_I => k_is)
    (case gg_I => k_is)
    (case hC_I => k_is)
    (case ic_I => k_is)
    (case sC_I => first | rfl | k_is)
    (case aC_U => k_is)
    (case xL_U => k_is)
    (case bv_U => decide +kernel)
    (case sa_U => k_is)
    (case eC_U => k_is)
    (case tC_U => k_is)
    (case kC_U => k_is)
    (case nR_U => k_is)
    (case iC_U => k_is)
    (case tI_U => k_is)
    (case l0_U => k_is)
    (case c0_U => k_is)
    (case xc_U => k_is)
    (case xd_U => k_is)
    (case xv_U => rfl)
    (case xf_U => decide +kernel)
    (case se_U => k_is)
    (case mR_U => rfl)
    (case vE_U => k_is)
    (case ga_U => k_is)
    (case gg_U => k_is)
    (case hC_U => k_is)
    (case ic_U => k_is)
    (case sC_U => first | rfl | k_is)
    (case aC_P => k_is)
    (case pg_P => k_is)
    (case hd_P => k_is)
    (case po_P => k_is)
    (case sa_P => k_is)
    (case mk_P => k_is)
    (case kc_P => k_is)
    (case n0_P => k_is)
    (case a_PI => k_is)
    (case i_PI => k_is)
    (case l_PI => k_is)
    (case c_PI => k_is)
    (case k_PI => k_is)
    (case z_isinstance => k_is)
    (case z_int => k_is)
    (case z_bool => k_is)
    (case z_len => k_is)
    (case z_list => k_is)
    (case z_tuple => k_is)
    (case z_dict => k_is)
    (case z_range => k_is)
    (case z_all => k_is)
    (case z_sum => k_is)
    (case z_min => k_is)
    (case z_abs => k_is)
    (case z_zip => k_is)
    (case z_sorted => k_is)
    (case g_G => k_is)
    (case a_UN => k_is)
    (case l_UN => k_is)
    (case c_UN => k_is)
    (case k_UN => k_is)
    (case a_DO => k_is)
    (case l_DO => k_is)
    (case c_DO => k_is)
    (case k_DO => k_is)
    (case a_CH => k_is)
    (case l_CH => k_is)
    (case c_CH => k_is)
    (case k_CH => k_is)
    (case a_CE => k_is)
    (case l_CE => k_is)
    (case c_CE => k_is)
    (case k_CE => k_is)
    (case a_AP => k_is)
    (case l_AP => k_is)
    (case c_AP => k_is)
    (case k_AP => k_is)
    (case a_IP => k_is)
    (case l_IP => k_is)
    (case c_IP => k_is)
    (case k_IP => k_is)
    (case a_MX => k_is)
    (case l_MX => k_is)
    (case c_MX => k_is)
    (case k_MX => k_is)
    (case a_NS => k_is)
    (case l_NS => k_is)
    (case c_NS => k_is)
    (case k_NS => k_is)
    (case a_TK => k_is)
    (case l_TK => k_is)
    (case c_TK => k_is)
    (case k_TK => k_is)
    (case a_CA => k_is)
    (case l_CA => k_is)
    (case c_CA => k_is)
    (case k_CA => k_is)
    (case a_CS => k_is)
    (case l_CS => k_is)
    (case c_CS => k_is)
    (case k_CS => k_is)
    (case a_PR => k_is)
    (case l_PR => k_is)
    (case c_PR => k_is)
    (case k_PR => k_is)
    (case a_PS => k_is)
    (case l_PS => k_is)
    (case c_PS => k_is)
    (case k_PS => k_is)
    (case a_LC => k_is)
    (case l_LC => k_is)
    (case c_LC => k_is)
    (case k_LC => k_is)
    (case a_RF => k_is)
    (case l_RF => k_is)
    (case c_RF => k_is)
    (case k_RF => k_is)
    (case a_UK => k_is)
    (case l_UK => k_is)
    (case c_UK => k_is)
    (case k_UK => k_is)
    (case a_LAW => k_is)
    (case l_LAW => k_is)
    (case c_LAW => k_is)
    (case k_LAW => k_is)
#print axioms PySem.Challenge.cw_retroact_k30_prices_of_deeds_holds
