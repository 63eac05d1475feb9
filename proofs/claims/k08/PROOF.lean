import PyProof.Rows.All
import Wide.All
import OpenK.AllK
import Wide.FinOn
import KE.KExcSuper
import HandS.ForSpec
import HandS.ExcInit
import HandS.Nested
import HandS.FStr
import KE.GoesRaise
import KE.KAsSuite
import HandS.Comp
import HandS.ForMost
import HandS.TryMany
import HandS.ExcField
import HandS.IsInst
import HandS.Walk
import HandS.DictComp
import HandS.Style
import HandS.More
import PySem.Challenge.RW_retroact_k08_values_of_expressions
set_option Elab.async false
set_option linter.all false
set_option maxRecDepth 100000
set_option maxHeartbeats 4000000
namespace RX
open PySem PySem.Spec PyProof.Rows L2 LamX NdefX
open PySem.W (kxs_mw KxsAt)
/-! ### the bound built-in __init__ of an exception that is being made, called -/
section
variable {prog : Program} {w : World} {A : Around} {E : Value → Shared → Prop} {h : Heap} {g : Array GenState} {d : Drawn} {t : Nat} {os : OsState}
variable {nm q : Str} {C N : Addr} {bs bm : List Value} {hdct : Bool} {sn : List Str} {sub : List Value} {ab : Bool} {col : Option Bool} {dd : Option Addr} {k0 k1 k2 k3 k5 : Option Value}
theorem call_mw {u e t0 : Addr} {rest : List Value} {Q : Value → Shared → Prop}
    (hC : h.get? C = some (excClassObj nm q C N bs bm hdct sn sub ab col dd k0 k1 k2 k3 k5 "ValueError.__new__")) (he : h.get? e = some (HandSPX.excO C t0)) (hu : h.get? u = some (kxs_mw "ValueError.__init__" e)) (hrest : rest.length ≤ sizeLine)
    (hq : ∀ h' t1, (∀ b o, b ≠ e → h.get? b = some o → h'.get? b = some o) → h'.get? e = some (HandSPX.excO C t1) → Q .none ⟨h', g, d, t, os⟩) :
    wpAny (model prog w) A (call (.ref u) rest) Q E ⟨h, g, d, t, os⟩ := by
  refine wpAny_call (codeAny_of_tree ?_)
  show wpAny _ A.in1 (callAny (.ref u) ⟨rest, []⟩) _ _ _
  simp only [callAny]
  refine wpAny_bind (wpAny_load hu ?_)
  simp only [kxs_mw, show (Value.type "method-wrapper" == Value.type "method" || Value.type "method-wrapper" == Value.type "builtin_function_or_method" || Value.type "method-wrapper" == Value.type "method-wrapper") = true by decide, if_true]
  refine W.KFB.if_so (by decide) ?_
  refine wpAny_bind (W.check_bound_init F.excBase_ValueError.toExcCallFacts hC he rfl ?_)
  refine wpAny_bind (wpAny_pure (wpAny_pure ?_))
  refine ⟨Code.quiet_builtin _ (by decide +kernel), codeAny_builtin F.excBase_ValueError.initEntry ?_⟩
  rw [Around.under_plainId F.excBase_ValueError.init.plain _]
  wp_walk
  refine hq _ h.objs.size (fun b o hb ho => ?_) ?_
  · rw [Heap.get?_update_other _ _ (Ne.symm hb)]
    exact Heap.get?_push_of_some _ ho
  · rw [Heap.get?_update_self _ (Heap.get?_push_of_some _ he) rfl]
    rfl
end
/-- what the written part says of the class for super().__init__ -/
structure SupC (prog : Program) (K : PySem.W.Frag) (mg : Str → Option Value) (C cc cda : Addr) : Prop where
  ox : OexC K C
  cell : ∃ cl cld csl, K.lookup cc = some ⟨cl, cld, .cell (some (.ref C)), csl⟩
  code : ∃ ccl cdd vs ccs file tf, K.lookup cda = some ⟨ccl, cdd, .fields vs, ccs⟩ ∧ vs[2]? = some (.str file tf) ∧ ((prog.main.file : Str) == file) = true
  self : PySem.W.mroIn K C (.ref C) = some true
  sup : mg "super" = none
  top : (prog.main.scope.names.lookup ("super" : Str)).isSome = false
  opq : PySem.W.nsIn K cStatics "thirdparty.any" = some none
  ini : PySem.W.ks_superIn K C C "__init__" = some (some (.builtin "ValueError.__init__"))
  vE : PySem.W.subIn K (.ref C) (.type "ValueError") = some true
theorem startF_head {N : List Str} {a : Addr} {vs : List V} {ws : List (Option V)} : (startF N (.ref a :: vs) ws)[0]? = some (some (.ref a)) := rfl

section
variable {CX : CXT} {P : Program} {w : World} {K : PySem.W.Frag} {mg : Str → Option Value} {base : Heap} {N ps : List Str} {fI cc cda C : Addr} {k : Nat} {sp : Sp}
  {nm qual : Str} {params : Arguments} {body rest : List Stmt} {scope : Scope} {kV doc pm ct oc : Value} {an od : Option Addr} {osl : Array (Option Value)} {e : Expr} {p0 p1 p2 p3 p4 : Pos} {ar : Arg}
abbrev supF (nm qual : Str) (params : Arguments) (body : List Stmt) (scope : Scope) (cc cda : Addr) : NF := ⟨nm, qual, params, body, scope, [("__class__", cc)], cda⟩
theorem fn_super (T : SupC P K mg C cc cda) (S : NScope N ps ["__class__"] scope) (hbd : body = .Expr (.Call (.Attribute (.Call (.Name "super" p0) [] [] p1) "__init__" p2) [e] [] p3) p4 :: rest)
    (lk : K.lookup fI = some ⟨oc, od, .func (PySem.W.ksFn nm qual params body scope .none kV doc pm an (.ref cda) ct cc), osl⟩) (hcd : PySem.W.codeIn K (.ref cda) qual = true)
    (hks : scope.names.lookup ("super" : Str) = some .globalImplicit) (hp : (params.posonlyargs ++ params.args).head? = some ar) (hps : ps.head? = some ar.arg)
    (len : ∀ vs H Q E, sp vs H Q E → vs.length = ps.length)
    (hst : ∀ env : Env, starEach [e] env = (false, eval e env) :: starEach [] env)
    (hev : ∀ L : Addr, ∃ pl : Sem Bool, eval (.Call (.Attribute (.Call (.Name "super" p0) [] [] p1) "__init__" p2) [e] [] p3) (envF (supF nm qual params body scope cc cda) fI L) = (do
      let ov ← attributeBase (.Call (.Name "super" p0) [] [] p1) "__init__" (envF (supF nm qual params body scope cc cda) fI L) (eval (.Call (.Name "super" p0) [] [] p1) (envF (supF nm qual params body scope cc cda) fI L))
      standAt p2.atName
      let (f, first) ← holding [ov] (getMethod ov "__init__" pl)
      callWith p3 f first (backTo p3 (starEach [e] (envF (supF nm qual params body scope cc cda) fI L))) []))
    (hbody : ∀ (A : Around) (outer : List Env) (s : Shared) (H : Hp) (vs : List V) (Q : VK) (E : XK), Room k (A.deeper (envF (supF nm qual params body scope cc cda) fI s.heap.objs.size)) → sp vs H Q E →
      ∃ (a : Addr) (vr : List V) (te : TE) (t : TS), vs = .ref a :: vr ∧ H a = some (exo a C none) ∧ PE (ncx CX P w K mg base N (supF nm qual params body scope cc cda) fI A outer s H E) e te ∧
        PSs (ncx CX P w K mg base N (supF nm qual params body scope cc cda) fI A outer s H E) rest t ∧
        te (startF N vs [none]) H (fun x H1 => ([x] : List V).length = 1 ∧ H1 a = some (exo a C none) ∧ t { nx := fun _ H' => Q .non H', rt := Q } (startF N vs [none]) H1)) :
    FnOk P w K mg base CX (k + 1) fI (PySem.W.ksFn nm qual params body scope .none kV doc pm an (.ref cda) ct cc) ps sp := by
  refine ⟨len, fun A outer s H args us vs Q E hr e0 hb r hsp => ?_⟩
  have hl := len _ _ _ _ hsp
  have X : K.In s.heap := e0.mod.kin.keeps fun b o q => (e0.bs b o q).1
  have lim : s.heap.NoLimit := e0.mod.nolimit.keeps fun b o q => (e0.bs b o q).1
  obtain ⟨cl, cld, csl, hcell⟩ := T.cell
  obtain ⟨ccl, cdd, vsA, ccs, file, tf, hcode, hvs, hfile⟩ := T.code
  obtain ⟨cn, cq, cN, cbs, cbm, csn, csub, cab, ccol, cdd0, k0, k1, k2, k3, k5, hC, hbm⟩ := T.ox.cls
  have hclsC : PySem.W.clsIn K C = some { name := cn, bases := cbs, mro := .ref C :: cbm, ns := cN, qualname := cq, hasDict := true, slotNames := csn, subclasses := csub, abstract := cab, collection := ccol, hasDel := false } := by unfold PySem.W.clsIn; rw [hC] <;> rfl
  refine PySem.ks_codeAny_call_defAt (fd := PySem.W.ksFn nm qual params _ scope .none kV doc pm an (.ref cda) ct cc) (binds := ps.zip us) hr.depth (X _ _ lk) rfl lim (PySem.W.codeRec_of X hcd) rfl hb S.nocell (fun ⟨n, _⟩ hy => S.par n (List.of_mem_zip hy).1) (fun h₁ hns kp => ?_) S.co S.gen S.kind
  obtain ⟨a, vr, te, t, rfl, hexo, hpe, hss, hq⟩ := hbody A outer s H vs Q E (hr.deeper _) hsp
  have ocell : s.heap.get? cc = some ⟨cl, cld, .cell (some (.ref C)), csl⟩ := X _ _ hcell
  have CA : CellsAt (supF nm qual params body scope cc cda).cl ["__class__"] [none] s.heap H := by
    have one : ∀ {y : Str} {c : Addr}, List.lookup y [(("__class__" : Str), cc)] = some c → y = "__class__" ∧ c = cc := fun {y c} z => by
      by_cases hy : y = ("__class__" : Str)
      · subst hy
        simp [List.lookup] at z
        exact ⟨rfl, z.symm⟩
      · have : (y == ("__class__" : Str)) = false := by simpa using hy
        simp [List.lookup, this] at z
    refine ⟨rfl, fun y c z => ?_, fun x y c z1 z2 => ?_, fun i y hy => ?_⟩
    · obtain ⟨_, rfl⟩ := one z
      exact ⟨(e0.bs _ _ (e0.mod.kin _ _ hcell)).2, _, _, ocell, rfl⟩
    · rw [(one z1).1, (one z2).1]
    · refine ⟨cc, ?_, fun v hv => ?_⟩
      · have : y = "__class__" := by
          cases i with
          | zero => simpa using hy.symm
          | succ i => simp at hy
        subst this
        simp [List.lookup]
      · cases i with
        | zero => simp at hv
        | succ i => simp at hv
  have I : Inv (ncx CX P w K mg base N (supF nm qual params body scope cc cda) fI A outer s H E) [] (startF N (.ref a :: vr) [none]) H { s with heap := h₁, toks := s.toks + (ps.zip us).length } :=
    inv_startN S hr.hd e0 hl r CA hns kp
  have ha0 : (startF N (.ref a :: vr) [none])[0]? = some (some (.ref a)) := rfl
  have hN0 : N[0]? = some ar.arg := by
    have e1 : ps[0]? = some ar.arg := by rw [← List.head?_eq_getElem?]; exact hps
    have hlt : 0 < ps.length := (List.getElem?_eq_some_iff.mp e1).1
    have e2 : (ps ++ [("__class__" : Str)])[0]? = some ar.arg := by rw [List.getElem?_append_left hlt]; exact e1
    rw [← S.pre, List.getElem?_take_of_lt (by omega)] at e2
    exact e2
  have hka : scope.names.lookup ar.arg = some .local := S.par _ (List.mem_of_mem_head? hps)
  obtain ⟨m, hn, hl2⟩ := id I.loc
  obtain ⟨ua, ra, la⟩ := hl2 0 ar.arg (.ref a) hN0 ha0 (.inl hka)
  obtain rfl : ua = Value.ref a := ra
  have hma : m ar.arg = some (.ref a) := by
    rcases la with ⟨_, z⟩ | ⟨z, _⟩
    · exact z
    · have hka' : scope.names.lookup ar.arg = some .cell ∨ scope.names.lookup ar.arg = some .free := z
      rw [hka] at hka'
      rcases hka' with z | z <;> cases z
  obtain ⟨mb, hb1, hb2⟩ := I.mod.blt
  obtain ⟨t1, hoa⟩ := exo_at I.hok hexo
  have XI := I.kIn
  show PySem.wpAt (model P w) (A.deeper (envF (supF nm qual params body scope cc cda) fI s.heap.objs.size)) (.func body (envF (supF nm qual params body scope cc cda) fI s.heap.objs.size)) (execs body (envF (supF nm qual params body scope cc cda) fI s.heap.objs.size)) _ (ncx CX P w K mg base N (supF nm qual params body scope cc cda) fI A outer s H E).xe _
  have hex : execs body (envF (supF nm qual params body scope cc cda) fI s.heap.objs.size) = execs (.Expr (.Call (.Attribute (.Call (.Name "super" p0) [] [] p1) "__init__" p2) [e] [] p3) p4 :: rest) (envF (supF nm qual params body scope cc cda) fI s.heap.objs.size) := by rw [← hbd]
  rw [hex]
  obtain ⟨pl, hevL⟩ := hev s.heap.objs.size
  refine ks_wpAt_execs_cons (ks_wpAt_Expr_any (ks_wpAt_MethodCall (pl := pl) ?_ hevL) I.quiet)
  refine ks_wpAt_super_base hks (S.frk _ List.mem_cons_self) rfl rfl (XI _ _ lk) rfl hp rfl (XI _ _ hcode) rfl hvs hfile T.top ?_
  refine PySem.W.ks_loadName_global S.kind hks (Calls.loadGlobal_builtin (I.mod.glob.keeps I.bk) T.sup (hb1.keeps I.bk) ((hb2 _ (by decide)).trans Boot.super) ⟨rfl, ?_⟩)
  refine wpAny_loadName_free S.kind (S.frk _ List.mem_cons_self) rfl ⟨_, XI _ _ hcell, rfl⟩ ?_
  refine wpAny_loadName_local S.kind hka hn hma ?_
  have hD1 : h₁.get? C = some (excClassObj cn cq C cN cbs cbm true csn csub cab ccol cdd0 k0 k1 k2 k3 k5 "ValueError.__new__") := XI _ _ hC
  refine ks_wpAny_isType_cls hD1 rfl ⟨rfl, ?_⟩
  refine ks_wpAny_call_super hD1 rfl hoa rfl (fun c z => by cases z) (PySem.W.looks_mroIn XI T.self) (fun h2 hso k2 => ?_)
  have I2 : Inv (ncx CX P w K mg base N (supF nm qual params body scope cc cda) fI A outer s H E) [] (startF N (.ref a :: vr) [none]) H { s with heap := h2, toks := s.toks + (ps.zip us).length } := I.kept (t' := s.toks + (ps.zip us).length) k2
  have hs12 : h₁.objs.size < h2.objs.size := Heap.lt_size hso
  have IA : PySem.W.InstAt h2 a (HandSPX.excO C t1) C none := ⟨k2 _ _ hoa, rfl, rfl, trivial⟩
  have hI2 : PySem.W.Looks (model P w) h2 (isInstance (.ref a) (.type "ValueError")) true := IA.type.andThen (PySem.W.looks_subIn I2.kIn T.vE)
  have hini : PySem.W.alongIn K "__init__" ((((Value.ref C :: cbm)).dropWhile (· != .ref C)).drop 1) = some (some (.builtin "ValueError.__init__")) := by
    have z := T.ini
    unfold PySem.W.ks_superIn at z
    rw [hclsC] at z
    exact z
  refine PySem.W.kxs_getMethod PySem.W.kxs_ValueError hso (PySem.W.looks_opaque I2.kIn T.opq) (l₀ := .ref C :: cbm) ((PySem.W.looks_clsIn I2.kIn hclsC).andThen .now) rfl I2.kIn hini hI2 (PySem.W.ks_ne I2.kIn IA hclsC) (by decide) ?_
  have hu3 : (h2.push (kxs_mw "ValueError.__init__" a)).get? h2.objs.size = some (kxs_mw "ValueError.__init__" a) := Heap.get?_push_size _ rfl
  have I3 : Inv (ncx CX P w K mg base N (supF nm qual params body scope cc cda) fI A outer s H E) [] (startF N (.ref a :: vr) [none]) H { s with heap := h2.push (kxs_mw "ValueError.__init__" a), toks := s.toks + (ps.zip us).length + 1 } :=
    I2.kept (t' := s.toks + (ps.zip us).length + 1) (fun b o z => Heap.get?_push_of_some _ z)
  have I4 : Inv (ncx CX P w K mg base N (supF nm qual params body scope cc cda) fI A outer s H E) [(h2.objs.size, kxs_mw "ValueError.__init__" a)] (startF N (.ref a :: vr) [none]) H { s with heap := h2.push (kxs_mw "ValueError.__init__" a), toks := s.toks + (ps.zip us).length + 1 } :=
    I3.pins_of fun p hp => by
      have hp' : p = (h2.objs.size, kxs_mw "ValueError.__init__" a) := by simpa using hp
      subst hp'
      exact ⟨hu3, I2.hok.fresh (Nat.le_refl _), Nat.ne_of_gt I2.lt, I2.nofs (Nat.le_refl _), fun v z => by cases z⟩
  have hargs := (pa_cons hpe pa_nil (hs := hst _)).run p3 [(h2.objs.size, kxs_mw "ValueError.__init__" a)] { s with heap := h2.push (kxs_mw "ValueError.__init__" a), toks := s.toks + (ps.zip us).length + 1 } (startF N (.ref a :: vr) [none]) H (fun vs H1 => vs.length = 1 ∧ H1 a = some (exo a C none) ∧ t { nx := fun _ H' => Q .non H', rt := Q } (startF N (.ref a :: vr) [none]) H1) I4 hq
  have hst' : starEach [e] (ncx CX P w K mg base N (supF nm qual params body scope cc cda) fI A outer s H E).env = (false, eval e (envF (supF nm qual params body scope cc cda) fI s.heap.objs.size)) :: starEach [] (envF (supF nm qual params body scope cc cda) fI s.heap.objs.size) := hst _
  rw [hst'] at hargs
  rw [hst]
  refine PySem.W.kxs_callWith (i := "ValueError.__init__") (x := a) rfl ?_
  refine Calls.evalArgs_plain ?_
  refine thn hargs fun us' s5 hh => ?_
  obtain ⟨vs5, H5, I5, r5, hl5, he5, hq5⟩ := hh
  obtain ⟨hmw5, _⟩ := I5.pin _ (List.mem_append_right _ List.mem_cons_self)
  refine ⟨hmw5, ?_⟩
  obtain ⟨t5, ho5⟩ := exo_at I5.hok he5
  obtain ⟨hp5, g5, dr5, tk5, os5⟩ := s5
  have hlen5 : us'.length ≤ sizeLine := by
    rw [← Paired.length r5, hl5, sizeLine_eq]
    decide
  refine call_mw (t0 := t5) (I5.kIn _ _ hC) ho5 hmw5 hlen5 fun h6 t6 k6 hx6 => ?_
  have J := I5.write (t' := tk5) (x := a) (e := a) (o := exo a C none) (h' := h6) (by rw [he5]; exact True.intro) (.inl rfl) k6 ⟨_, hx6⟩ (exo_ok hx6)
  have eu : upd H5 a (exo a C none) = H5 := by
    funext b
    by_cases hb : b = a
    · rw [hb, upd_same, he5]
    · rw [upd_ne hb]
  rw [eu] at J
  refine PySem.wpAt_of_wpAny (wpAny_mono (hss.run _ _ _ _ _ J hq5) (fun fl s' hs => ?_) fun e s' hs => hs)
  have fin : ∀ {σ' : L2.St} {H' : Hp} {v : V} {u : Value}, Inv (ncx CX P w K mg base N (supF nm qual params body scope cc cda) fI A outer s H E) [(h2.objs.size, kxs_mw "ValueError.__init__" a)] σ' H' s' → L2.RelV v u → Q v H' → CE outer P w H s Q u s' :=
    fun {σ' H' v u} J rv q => ⟨v, H', J.os, J.bare, J.base, J.hok, rv, q⟩
  cases fl with
  | ret u =>
    obtain ⟨v, σ', H', J, rv, q⟩ := hs
    exact fin J rv q
  | next =>
    obtain ⟨σ', H', J, q⟩ := hs
    exact fin (v := V.non) (u := Value.none) J rfl q
  | brk =>
    obtain ⟨_, _, _, q⟩ := hs
    exact False.elim q
  | cont =>
    obtain ⟨_, _, _, q⟩ := hs
    exact False.elim q
end
end RX
namespace RX
open PySem PySem.Spec PyProof.Rows L2
/-! ### a list comprehension whose element may raise -/
/-- an exception in flight over the block's context Xb: sI the state without it -/
def XB (Xb : Cx) (E : XK) (u : Value) (s' : Shared) : Prop :=
  ∃ (a : Addr) (B : Heap) (sI : Shared) (pins : List (Addr × Obj)) (σ : L2.St) (H : Hp) (cls : Value) (d : Option Addr),
    u = .ref a ∧ Inv Xb pins σ H sI ∧ (∀ b o, sI.heap.get? b = some o → b ∉ frs Xb.stack → B.get? b = some o) ∧ sI.heap.UpToSlots s'.heap ∧
      HandSPX.FlyingZ B Xb.stack a (Zc cls d) s'.heap ∧ H a = none ∧ s'.os = sI.os ∧ AllBare s'.gens ∧ E cls d H
theorem xb_of_call {X : Cx} {E : XK} {pins : List (Addr × Obj)} {σ : L2.St} {H : Hp} {s s' : Shared} (I : Inv X pins σ H s) {u : Value} (c : L2.CX X.prog X.w X.stack H s E u s') : XB X E u s' := by
  obtain ⟨a, B, H', cls, d, rfl, fl, hok, ub, na, os, ag, hE⟩ := c
  obtain ⟨G, g1, g2⟩ := restrict s'.heap fun b => (B.get? b).isSome || decide (b ∈ frs X.stack)
  have st : B.StaysIn s'.heap := fl.1
  have gB : ∀ b o, B.get? b = some o → G.get? b = some o := fun b o e => by
    rw [g1 b (by simp [e])]
    exact st b o e
  have gF : ∀ b, b ∈ frs X.stack → G.get? b = s'.heap.get? b := fun b hb => g1 b (by simp [hb])
  have og : ∀ b o, G.get? b = some o → s'.heap.get? b = some o ∧ ((B.get? b).isSome = true ∨ b ∈ frs X.stack) := fun b o e => by
    cases q : ((B.get? b).isSome || decide (b ∈ frs X.stack)) with
    | false => rw [g2 b q] at e; cases e
    | true =>
      rw [g1 b q] at e
      exact ⟨e, by simpa [Bool.or_eq_true] using q⟩
  refine ⟨a, B, { s with heap := G, gens := s'.gens, drawn := s'.drawn, toks := s'.toks }, pins, σ, H', cls, d, rfl, ?_, fun b o e hb => ?_, Heap.UpToSlots.of_keeps fun b o e => (og b o e).1, fl, na, os, ag, hE⟩
  · refine I.call (ch := []) ⟨fun b o e n hb _ => gB b o (ub.keep b o e n hb), fun b o e n hb _ => ?_, fun b o e n _ => ub.free b o e n, fun b o e _ => ?_, ub.tups, ub.frzs, ub.tbls⟩ (hok.kept gB) ag (fun _ z => nomatch z)
    · obtain ⟨sl, q⟩ := ub.slot b o e hb
      exact ⟨sl, by rw [gF b hb]; exact q⟩
    · by_cases hb : b ∈ frs X.stack
      · obtain ⟨sl, q⟩ := ub.slot b o e hb
        exact ⟨_, by rw [gF b hb]; exact q⟩
      · obtain ⟨o', q⟩ := ub.there b o e hb
        exact ⟨o', gB b o' q⟩
  · obtain ⟨e', h⟩ := og b o e
    rcases h with h | h
    · obtain ⟨o', q⟩ := Option.isSome_iff_exists.mp h
      have z := st b o' q
      rw [e'] at z; cases z
      exact q
    · exact absurd h hb
/-- an untracked object of ours is let go -/
theorem Inv.gone {X : Cx} {pins : List (Addr × Obj)} {σ : L2.St} {H : Hp} {s : Shared} {G : Heap} {L : Addr} (I : Inv X pins σ H s) (k : ∀ b, b ≠ L → G.get? b = s.heap.get? b) (hn : H L = none) (hL : L ≠ X.env.locals)
    (h1 : L ∈ X.ex ∨ X.s_0.heap.objs.size ≤ L) (h2 : ∀ x c, X.env.cells.lookup x = some c → c ≠ L) (h3 : ∀ p ∈ X.pn ++ pins, p.1 ≠ L) : Inv X pins σ H { s with heap := G } := by
  have nit : ∀ b u, H b = some u → b ≠ L := fun b u e z => by rw [z, hn] at e; cases e
  refine I.step (g' := s.gens) (d' := s.drawn) (t' := s.toks) (ch := [L]) (fun b hb => ?_) (fun b o _ _ hc e _ => (k b (fun z => hc (by simp [z]))).trans e) (fun b o _ _ hc e _ => ⟨o.slots, (k b (fun z => hc (by simp [z]))).trans e⟩) (fun _ _ _ _ n => n)
    (fun b o hc e => ⟨o, (k b (fun z => hc (by simp [z]))).trans e⟩) (fun _ _ e => e) (fun _ _ _ e => e) (fun b ps e => ⟨#[], by rw [e]; simp⟩) (fun m hm => ?_) (fun b u e => ?_) I.bare
  · have e : b = L := by simpa using hb
    subst e
    exact ⟨h1, hL, h2, h3⟩
  · obtain ⟨o, es, ep, ho, r⟩ := hm
    exact ⟨o, es, ep, (k _ (Ne.symm hL)).trans ho, r⟩
  · refine (I.hok b u e).stay (fun c v hc q => (k c ?_).trans q) (fun _ q => q) fun _ _ q => q
    rcases hc with z | z
    · rw [z]; exact nit b u e
    · exact nit c _ z
/-- out of the block: noted by the def's own frame, the block let go, then in the air of the def -/
theorem xb_fails {X : Cx} {E : XK} {W : WX} {ce : Env} {fp : List Addr} {s3 : Shared} {H3 : Hp} {scope : Scope} {pins : List (Addr × Obj)} {σ : L2.St} {u : Value} {s' : Shared}
    (hs : X.stack = X.env :: X.outer) (hf : X.env.frame = some X.env.locals) (tk : Takes X W) (hW : ∀ cls d σ H, E cls d H → W cls d σ H) (hcf : ce.frame = X.env.frame) (hA : X.A.frames = some X.stack)
    (back : ∀ (P : List (Addr × Obj)) (σ' : L2.St) (H' : Hp) (sI : Shared), Inv (X.blk s3 H3 scope ce fp) P σ' H' sI → Inv X pins σ H' sI)
    (hL : ce.locals ≠ X.env.locals) (h1 : X.s_0.heap.objs.size ≤ ce.locals) (h2 : ∀ x c, X.env.cells.lookup x = some c → c ≠ ce.locals) (h3 : ∀ p ∈ X.pn ++ pins, p.1 ≠ ce.locals) (hfr : ce.locals ∉ frs X.stack)
    (xx : XB (X.blk s3 H3 scope ce fp) E u s') : notedBy (model X.prog X.w) X.A ce (CompFails (model X.prog X.w) X.A X.xe ce) u s' := by
  obtain ⟨a, B, sI, P, σ', H', cls, d, rfl, I', nb, up, fl, na, os, ag, hE⟩ := xx
  have fl : HandSPX.FlyingZ B X.stack a (Zc cls d) s'.heap := fl
  have nb : ∀ b o, sI.heap.get? b = some o → b ∉ frs X.stack → B.get? b = some o := nb
  obtain ⟨G, g1, g2⟩ := restrict sI.heap fun b => decide (b ≠ ce.locals)
  obtain ⟨B', b1, b2⟩ := restrict B fun b => decide (b ≠ ce.locals)
  have gk : ∀ b, b ≠ ce.locals → G.get? b = sI.heap.get? b := fun b hb => g1 b (decide_eq_true hb)
  have bk : ∀ b, b ≠ ce.locals → B'.get? b = B.get? b := fun b hb => b1 b (decide_eq_true hb)
  have gL : G.get? ce.locals = none := g2 _ (by simp)
  have bL : B'.get? ce.locals = none := b2 _ (by simp)
  have bs : ∀ b o, B'.get? b = some o → b ≠ ce.locals ∧ B.get? b = some o := fun b o e => by
    by_cases hb : b = ce.locals
    · rw [hb, bL] at e; cases e
    · exact ⟨hb, by rw [← bk b hb]; exact e⟩
  have bn : ∀ b, B.get? b = none → B'.get? b = none := fun b e => by
    cases q : B'.get? b with
    | none => rfl
    | some o => rw [(bs b o q).2] at e; cases e
  have JG : Inv X pins σ H' { sI with heap := G } := Inv.gone (back P σ' H' sI I') gk I'.free hL (.inr h1) h2 h3
  have fl' : HandSPX.FlyingZ B' X.stack a (Zc cls d) s'.heap := by
    obtain ⟨f1, f2, f3, oe, vs, T, oT, ts, he, hz, hd, hv, hnT, r⟩ := fl
    exact ⟨fun b o e => f1 b o (bs b o e).2, bn a f2, funFrames_none f3 fun b hb => by
      obtain ⟨q, _⟩ := f3.mem hb
      exact bn b q, oe, vs, T, oT, ts, he, hz, hd, hv, bn T hnT, r⟩
  show wpAny _ _ (noteFrame (.ref a) ce) _ _ s'
  rw [noteFrame_env _ hcf]
  rw [hs] at fl' hA
  refine HandSPX.looks_onZ Zc.steady hA hf fl' fun hp1 hh1 up1 => ?_
  obtain ⟨m, hn, _⟩ := I'.loc
  have hn : sI.heap.Ns ce.locals m := hn
  have u01 : ∀ b o, sI.heap.get? b = some o → (∀ vs, o.data ≠ .fields vs) → ∃ sl, hp1.get? b = some { o with slots := sl } := fun b o e hnf => by
    obtain ⟨sl, e1⟩ := up b o e hnf
    obtain ⟨sl2, e2⟩ := up1 b _ e1 hnf
    exact ⟨sl2, e2⟩
  have hn1 : hp1.Ns ce.locals m := hn.upToSlots u01
  refine ⟨m, hn1, fun hp2 m2 hn2 sb2 => ?_⟩
  have notL : ∀ {b : Addr} {o : Obj} {vs : Array Value}, hp1.get? b = some o → o.data = .fields vs → b ≠ ce.locals := fun {b o vs} e q z => by
    obtain ⟨oL, es, ep, hoL, hdL, _⟩ := hn1
    rw [z, hoL] at e
    cases e
    rw [hdL] at q
    cases q
  obtain ⟨f1, f2, f3, oe, vs, T, oT, ts, he, hz, hd, hv, hnT, hTe, hT, hdT, h3'⟩ := hh1
  have he2 : hp2.get? a = some oe := (sb2.2 a (notL he hd)).trans he
  have hT2 : hp2.get? T = some oT := (sb2.2 T (notL hT hdT)).trans hT
  have hh2 : HandSPX.HeldZ B' (X.env :: X.outer) a (Zc cls d) X.env.locals hp2 :=
    ⟨fun b o e => (sb2.2 b (bs b o e).1).trans (f1 b o e), f2, Heap.FunFrames.sameBut sb2 hn2 f3, oe, vs, T, oT, ts, he2, hz, hd, hv, hnT, hTe, hT2, hdT, h3'⟩
  unfold PySem.passOn
  refine wpAny_bind (wpAny_field he2 hd hv ?_)
  rw [if_neg (show ¬ ((Value.ref T == Value.none) = true) from by simp)]
  rw [hcf, hf]
  refine wpAny_bind (HandSPX.setFlight_onZ hh2 fun hp3 hh3 up3 => ?_)
  refine wpAny_throw (tk _ _ ?_)
  refine ⟨a, B', { sI with heap := G }, pins, σ, H', cls, d, rfl, JG, fun b o e hb => ?_, fun b o e hnf => ?_, .inr (.inr (by rw [hs]; exact hh3)), na, os, ag, hW _ _ _ _ hE⟩
  · have hbL : b ≠ ce.locals := fun z => by
      have e : G.get? b = some o := e
      rw [z, gL] at e; cases e
    have e : G.get? b = some o := e
    rw [bk b hbL]
    exact nb b o (by rw [← gk b hbL]; exact e) hb
  · have e : G.get? b = some o := e
    have hbL : b ≠ ce.locals := fun z => by rw [z, gL] at e; cases e
    obtain ⟨sl1, e1⟩ := u01 b o (by rw [← gk b hbL]; exact e) hnf
    have e2 : hp2.get? b = some { o with slots := sl1 } := (sb2.2 b hbL).trans e1
    obtain ⟨sl3, e3⟩ := up3 b _ e2 hnf
    exact ⟨sl3, e3⟩
section
variable {X : Cx}
theorem lc_coreX {E : XK} {WW : WX} {pins : List (Addr × Obj)} {s : Shared} {σ : L2.St} {H : Hp} {Q : VK} {elt tg iter : Expr} {ifs : List Expr} {scope : Scope} {own : List (Str × Nat)} {pos pos' : Pos} {wi : TI} {g : TG} {tt : TT} {te : TE} 
    (hs0 : X.stack = X.env :: X.outer) (hf0 : X.env.frame = some X.env.locals) (tk : Takes X WW) (hWW : ∀ cls d σ H, E cls d H → WW cls d σ H)
    (hc : X.calm = true) (hN : X.N.Nodup) (I : L2.Inv X pins σ H s) (hi : PI X tg iter wi) (ok : BlkOk X.N X.env.scope scope own)
    (hg : ∀ (s : Shared) (H : Hp) (C : Addr) (cl : List (Str × Addr)) (fp : List Addr), PG (X.blk s H scope (compEnvC scope cl C X.env) fp) tg g) (ht : ∀ (s : Shared) (H : Hp) (C : Addr) (cl : List (Str × Addr)) (fp : List Addr), PTs (X.blk s H scope (compEnvC scope cl C X.env) fp) ifs tt)
    (he : ∀ (s : Shared) (H : Hp) (C : Addr) (cl : List (Str × Addr)) (fp : List Addr) (pn : List (Addr × Obj)) (xe : Value → Shared → Prop), Passes (L2.CX X.prog X.w) ((X.blk s H scope (compEnvC scope cl C X.env) fp).tr pn xe) E → PE ((X.blk s H scope (compEnvC scope cl C X.env) fp).tr pn xe) elt te) (hs : ∀ x, foldedSetIterable iter X.env x = pure x)
    (h : tLc wi g tt te (own.map (·.2)) σ H Q) :
    wpAny (model X.prog X.w) X.A (comprehension (.ListComp elt [⟨tg, iter, ifs, 0⟩] scope pos) scope X.env pos' (newList []) false (eval iter X.env) none) (EP X pins σ Q) X.xe s := by
  have hfree : ∀ y ∈ scope.names, y.2 = .free → ∃ c, X.env.cells.lookup y.1 = some c := fun y hy e => by
    rcases ok.free y hy e with k | k
    · exact I.ok.has _ (.inl k)
    · exact I.ok.has _ (.inr k)
  refine comprehension_at (use := none) rfl hs (closure_ok hfree) ok.kind (fun y hy e => by rw [ok.uniq y hy, e])
    (thn (hi.run pins s σ H _ I h) fun xv s1 hx => thn hx fun itv s2 h2 => ?_)
  obtain ⟨it, fp, tn, J, H2, e, I2, T, st2, f2, q⟩ := h2
  subst e
  refine wpAny_newObj_type (newEnv_comp ?_) (by show 0 ≤ sizeLine; decide)
  generalize hD : s2.heap.objs.size = D
  have hDn : H2 D = none := I2.hok.fresh (Nat.le_of_eq hD)
  obtain ⟨W, ⟨m0, w0⟩, turn⟩ := q D hDn
  -- the new list
  generalize hs3 : ({ s2 with heap := s2.heap.push { cls := .type "list", data := .seq ([] : List Value).toArray } } : Shared) = s3
  have I3 : L2.Inv X pins σ (upd H2 D (.lst [])) s3 := by
    rw [← hs3]
    refine I2.laid (t' := s2.toks) (fun b o e => Heap.get?_push_of_some _ e) (Nat.le_of_eq hD) ⟨Nat.zero_le _, [], 0, .nil, ?_⟩
    rw [← hD]
    exact Heap.get?_push_size _ rfl
  have h3 : s3.heap = s2.heap.push { cls := .type "list", data := .seq ([] : List Value).toArray } := by rw [← hs3]
  have sz : ∀ b ∈ fp, b < s2.heap.objs.size := fun b hb => by
    obtain ⟨o, e, _⟩ := T.obj _ _ st2 b hb
    exact Heap.lt_size e
  have f3 : ∀ b ∈ fp, FpOk X pins (upd H2 D (.lst [])) b ∧ b < s3.heap.objs.size := fun b hb => by
    have hlt := sz b hb
    refine ⟨⟨?_, (f2 b hb).2⟩, by rw [h3, Heap.size_push]; exact Nat.lt_succ_of_lt hlt⟩
    rw [upd_ne (by rw [← hD]; exact Nat.ne_of_lt hlt)]
    exact (f2 b hb).1
  have st3 : tn 0 s3.heap := T.keep _ _ _ st2 fun b _ o e => by rw [h3]; exact Heap.get?_push_of_some _ e
  have I4 := block_start I3 ok hN f3
  have pg := hg s3 (upd H2 D (.lst [])) s3.heap.objs.size (cellsFrom (s3.heap.objs.size + 1) scope.names (cloFrom X.env.cells scope.names [])) fp
  have pt := ht s3 (upd H2 D (.lst [])) s3.heap.objs.size (cellsFrom (s3.heap.objs.size + 1) scope.names (cloFrom X.env.cells scope.names [])) fp
  have pe := he s3 (upd H2 D (.lst [])) s3.heap.objs.size (cellsFrom (s3.heap.objs.size + 1) scope.names (cloFrom X.env.cells scope.names [])) fp
  show codeAny _ _ (.compStart (.ListComp elt [⟨tg, iter, ifs, 0⟩] scope pos) 0 (.ref it) (.ref D) (compEnvC scope (cellsFrom (s3.heap.objs.size + 1) scope.names (cloFrom X.env.cells scope.names [])) s3.heap.objs.size X.env)) (compEnds (model X.prog X.w) X.A X.xe none (EP X pins σ Q) (.ref D) (compEnvC scope (cellsFrom (s3.heap.objs.size + 1) scope.names (cloFrom X.env.cells scope.names [])) s3.heap.objs.size X.env)) { s3 with heap := pushCells (s3.heap.push { cls := .type "dict", data := .dict #[] }) scope.names }
  have nfp : ∀ b ∈ fp, (upd H2 D (.lst [])) b = none := fun b hb => (f3 b hb).1.1
  have hcf : (compEnvC scope (cellsFrom (s3.heap.objs.size + 1) scope.names (cloFrom X.env.cells scope.names [])) s3.heap.objs.size X.env).frame = X.env.frame := rfl
  generalize hce : compEnvC scope (cellsFrom (s3.heap.objs.size + 1) scope.names (cloFrom X.env.cells scope.names [])) s3.heap.objs.size X.env = ce at I4 pg pt pe hcf ⊢
  have cL : ce.locals = s3.heap.objs.size := by subst hce; rfl
  generalize hH3 : upd H2 D (.lst []) = H3 at I3 I4 pg pt pe w0 nfp f3
  generalize hs4 : ({ s3 with heap := pushCells (s3.heap.push { cls := .type "dict", data := .dict #[] }) scope.names } : Shared) = s4 at I4 ⊢
  have st4 : tn 0 s4.heap := T.keep _ _ _ st3 fun b _ o e => by rw [← hs4]; exact pushCells_keeps _ _ _ _ (Heap.get?_push_of_some _ e)
  have stat : ∀ {σ' : L2.St} {H' : Hp} {s' : Shared}, L2.Inv (X.blk s3 H3 scope ce fp) [] σ' H' s' → (∀ b ∈ fp, H' b = none) → ∀ b ∈ fp, FpOk (X.blk s3 H3 scope ce fp) [] H' b := fun {σ' H' s'} I' hn b hb =>
    ⟨hn b hb, (I'.ok.exf b hb).1, I'.ok.exfs b hb, .inl hb, fun x c e => (I'.ok.exf b hb).2 x c e, fun p hp => absurd (show p ∈ ([] : List (Addr × Obj)) ++ [] from hp) (by simp)⟩
  have back : ∀ (P : List (Addr × Obj)) (σ' : L2.St) (H' : Hp) (sI : Shared), L2.Inv (X.blk s3 H3 scope ce fp) P σ' H' sI → L2.Inv X pins σ H' sI := fun P σ' H' sI I6 =>
    I3.call' (ch := fp) I6.os I6.base I6.hok I6.bare fun b hb => ⟨(f3 b hb).1.2.2.2.1, (f3 b hb).1.2.1, (f3 b hb).1.2.2.2.2.1, (f3 b hb).1.2.2.2.2.2⟩
  have hps : ∀ {P : List (Addr × Obj)}, Passes (L2.CX X.prog X.w) ((X.blk s3 H3 scope ce fp).tr ((X.blk s3 H3 scope ce fp).pn ++ P) (XB (X.blk s3 H3 scope ce fp) E)) E := fun {P} pins' σ' H' s' e s'' I' cx =>
    xb_of_call (L2.Inv.ofTry I' I4.ok) cx
  have loop : codeAny (model X.prog X.w) X.A (.compLoop (.ListComp elt [⟨tg, iter, ifs, 0⟩] scope pos) 0 (.ref it) (.ref D) ce) (compEnds (model X.prog X.w) X.A X.xe none (EP X pins σ Q) (.ref D) ce) s4 := by
    refine compLoop_any (fun n s' => ∃ i H', L2.Inv (X.blk s3 H3 scope ce fp) [] (wipe σ (own.map (·.2))) H' s' ∧ tn i s'.heap ∧ (∀ b ∈ fp, H' b = none) ∧ W i n H') ?_ m0 ⟨0, H3, I4, st4, nfp, w0⟩
    rintro n s5 ⟨i, H5, I5, st5, n5, w5⟩
    rcases turn i n H5 w5 with ⟨stop, qq⟩ | ⟨go, Nx, hNx, step⟩
    · have td := T.done (X.blk s3 H3 scope ce fp) rfl rfl rfl hc i [] s5 _ H5 (fun _ _ => False) I5 (stat I5 n5) st5 stop
      refine thnF td fun r s6 ⟨hr, I6⟩ => ?_
      subst hr
      -- back in the def's context
      have I7 : L2.Inv X pins σ H5 s6 := I3.call' (ch := fp) I6.os I6.base I6.hok I6.bare fun b hb => ⟨(f3 b hb).1.2.2.2.1, (f3 b hb).1.2.1, (f3 b hb).1.2.2.2.2.1, (f3 b hb).1.2.2.2.2.2⟩
      have nC : H5 s3.heap.objs.size = none := by
        have z : H5 ce.locals = none := I6.free
        rw [cL] at z
        exact z
      obtain ⟨m, hn, _⟩ := I6.loc
      have hn : s6.heap.Ns ce.locals m := hn
      obtain ⟨f0, f1, f2', f3', f4, f5⟩ := I3.fpOk (Nat.le_refl _) nC
      refine ⟨m, hn, fun h'' sb => ?_⟩
      rw [cL] at sb
      exact ⟨.ref D, H5, I7.turned (t' := s6.toks) (fun b o hb e => (sb.2 b hb).trans e) f0 f1 f3' f4 f5, rfl, qq⟩
    · have ti := T.item (X.blk s3 H3 scope ce fp) rfl rfl rfl hc i [] s5 _ H5 (fun _ _ => False) I5 (stat I5 n5) st5 go
      refine thnF ti fun r s6 ⟨u, hr, h6⟩ => ?_
      subst hr
      refine thnF h6 fun _ s7 ⟨x, H7, I7, r7, y7, st7, n7⟩ => ?_
      have I7' := I7.pinned (stat I7 n7) (T.obj _ _ st7)
      refine thnF (pg.run _ s7 _ H7 x u _ I7' r7 (step x H7 y7)) fun _ s8 ⟨σ8, H8, I8, hw8, q8⟩ => ?_
      refine thnF (pt.run _ s8 σ8 H8 _ I8 q8) fun b s9 ⟨H9, I9, q9⟩ => ?_
      -- the turn's end
      have fin : ∀ {s' : Shared} {H' : Hp}, L2.Inv (X.blk s3 H3 scope ce fp) ([] ++ pinsAt fp s7.heap) σ8 H' s' → Nx H' → ∃ m, m < n ∧ ∃ i H', L2.Inv (X.blk s3 H3 scope ce fp) [] (wipe σ (own.map (·.2))) H' s' ∧ tn i s'.heap ∧ (∀ b ∈ fp, H' b = none) ∧ W i m H' := fun {s' H'} I' nx => by
        obtain ⟨m', hm, w'⟩ := hNx H' nx
        have pin' : ∀ b ∈ fp, ∀ o, s7.heap.get? b = some o → s'.heap.get? b = some o ∧ H' b = none := fun b hb o e =>
          let z := I'.pin (b, o) (List.mem_append_right _ (List.mem_append_right _ (mem_pinsAt hb e)))
          ⟨z.1, z.2.1⟩
        have hl : (wipe σ (own.map (·.2))).length = σ8.length := by rw [← hw8, wipe_length]
        refine ⟨m', hm, i + 1, H', (I'.unpinned (pins := [])).weak hl (fun j v e => ?_), T.keep _ _ _ st7 fun b hb o e => (pin' b hb o e).1, fun b hb => ?_, w'⟩
        · rw [← hw8] at e
          exact (wipe_some e).1
        · obtain ⟨o, e, _⟩ := T.obj _ _ st7 b hb
          exact (pin' b hb o e).2
      cases b with
      | false =>
        simp only [Bool.false_eq_true, if_false] at q9 ⊢
        exact fin I9 q9
      | true =>
        simp only [if_true] at q9 ⊢
        refine wpAny_mono ((pe _ _ hps).run [] s9 σ8 H9 _ (I9.toTry (XB (X.blk s3 H3 scope ce fp) E)) q9) (fun z s10 hz10' => ?_) fun u s' xx => ?_
        · obtain ⟨yv, H10, I10', r10, acc, hD10, hz10, nx⟩ := hz10'
          have I10 := L2.Inv.ofTry I10' I9.ok
          exact thnF (app_ok (X := X.blk s3 H3 scope ce fp) I10 hD10 hz10 r10 (Q := fun _ s5 => ∃ m, m < n ∧ ∃ i H', L2.Inv (X.blk s3 H3 scope ce fp) [] (wipe σ (own.map (·.2))) H' s5 ∧ tn i s5.heap ∧ (∀ b ∈ fp, H' b = none) ∧ W i m H') fun s11 I11 => fin I11 nx) fun _ _ z => z
        · exact xb_fails hs0 hf0 tk hWW hcf I.ok.frames back (by rw [cL]; exact Nat.ne_of_gt I3.lt) (by rw [cL]; exact I3.sz) (fun x c e => by
            rw [cL]
            obtain ⟨v, o, ho, _⟩ := I3.cell x c e
            exact Nat.ne_of_lt (Heap.lt_size ho)) (fun p hp => by
            rw [cL]
            exact Nat.ne_of_lt (Heap.lt_size (I3.pin p hp).1)) (fun hm => by
            rw [cL] at hm
            rcases List.mem_cons.mp (I3.stkSub _ hm) with z | z
            · exact absurd z (Nat.ne_of_gt I3.lt)
            · exact I3.nofs (Nat.le_refl _) z) xx
  exact codeAny_compStart_list loop (T.self X.A 0 _ _ _ st4 loop)

/-- [elt for target in iter if ..], the element may raise as E says -/
theorem pe_lcX {E : XK} {WW : WX} {elt tg iter : Expr} {ifs : List Expr} {scope : Scope} {own : List (Str × Nat)} {pos : Pos} {wi : TI} {g : TG} {tt : TT} {te : TE} (hs0 : X.stack = X.env :: X.outer) (hf0 : X.env.frame = some X.env.locals) (tk : Takes X WW) (hWW : ∀ cls d σ H, E cls d H → WW cls d σ H)
    (hc : X.calm = true) (hN : X.N.Nodup) (hi : PI X tg iter wi) (ok : BlkOk X.N X.env.scope scope own)
    (hg : ∀ (s : Shared) (H : Hp) (C : Addr) (cl : List (Str × Addr)) (fp : List Addr), PG (X.blk s H scope (compEnvC scope cl C X.env) fp) tg g) (ht : ∀ (s : Shared) (H : Hp) (C : Addr) (cl : List (Str × Addr)) (fp : List Addr), PTs (X.blk s H scope (compEnvC scope cl C X.env) fp) ifs tt)
    (he : ∀ (s : Shared) (H : Hp) (C : Addr) (cl : List (Str × Addr)) (fp : List Addr) (pn : List (Addr × Obj)) (xe : Value → Shared → Prop), Passes (L2.CX X.prog X.w) ((X.blk s H scope (compEnvC scope cl C X.env) fp).tr pn xe) E → PE ((X.blk s H scope (compEnvC scope cl C X.env) fp).tr pn xe) elt te) (hs : ∀ x, foldedSetIterable iter X.env x = pure x := by intro _; rfl) :
    PE X (.ListComp elt [⟨tg, iter, ifs, 0⟩] scope pos) (tLc wi g tt te (own.map (·.2))) := by
  refine ⟨fun pins s σ H Q I h => ?_⟩
  rw [eval_ListComp]
  exact lc_coreX hs0 hf0 tk hWW hc hN I hi ok hg ht he hs h
end
end RX
namespace RX
open PySem PySem.Spec PyProof.Rows L2
/-! ### try .. except C as n: suite, further clauses behind it: every exception of the body is the first clause's -/
def wAsF (K : PySem.W.Frag) (c : Value) (i : Nat) (ts : Addr → Value → Option Addr → TS) (D : Ends) : WX := fun cls d σ H =>
  PySem.W.exmOne K cls c = some true ∧ ∀ a, H a = none → ts a cls d { nx := fun σ' H' => D.nx (σ'.set i none) H', rt := D.rt, bk := fun σ' H' => D.bk (σ'.set i none) H', ct := fun σ' H' => D.ct (σ'.set i none) H' } (σ.set i (some (.ref a))) H
section
variable {X : Cx} {x n : Str} {c : Value} {i : Nat} {body suite : List Stmt} {b₀ : Stmt} {np pos pos' : Pos} {hds : List ExceptHandler} {tb : WX → TS} {ts : Addr → Value → Option Addr → TS}
theorem ps_try_asF (hs : X.stack = X.env :: X.outer) (hf : X.env.frame = some X.env.locals) (hN : X.N.Nodup) (hi : X.N[i]? = some n) (hln : X.env.kindOf n = some .local) (hc : Names X x c) 
    (hb : ∀ (W : WX) (pn : List (Addr × Obj)) (xe : Value → Shared → Prop), Takes (X.tr pn xe) W → PassesOwn (model X.prog X.w) X.A X.env xe → PSs (X.tr pn xe) body (tb W))
    (hsu : ∀ (a : Addr) (oe : Obj) (cls : Value) (d : Option Addr) (pn : List (Addr × Obj)), Zc cls d oe → (∃ vs, oe.data = .fields vs) → PSs (X.suite a ((a, oe) :: pn)) (b₀ :: suite) (ts a cls d)) :
    PS X (.Try body (.ExceptHandler (some (.Name x np)) (some n) (b₀ :: suite) pos' :: hds) [] [] pos) (fun D σ H => tb (wAsF X.K c i ts D) D σ H) := by
  refine ⟨fun pins s σ H D I h => ?_⟩
  have ok := I.ok
  have hfr : X.A.frames = some (X.env :: X.outer) := by rw [ok.frames, hs]
  have hloc : Loc X.env.scope n := .inl hln
  refine wpAny_Try_except ?_
  refine wpAny_mono ((hb (wAsF X.K c i ts D) (X.pn ++ pins) (fun e s₁ => wpAny (model X.prog X.w) X.A (noteFrame e X.env) (fun _ s₂ => wpAny (model X.prog X.w) X.A (setFlight e none) (fun _ s₃ =>
    wpAny (model X.prog X.w) X.A (handleBy e X.env (.ExceptHandler (some (.Name x np)) (some n) (b₀ :: suite) pos' :: hds)) (SP X pins D) X.xe s₃) X.xe s₂) X.xe s₁) (fun u s' xx => ?_) PassesOwn.looking).run [] s σ H D (I.toTry _) h) (fun f s1 hsp => ?_) (fun e s1 he => he)
  · -- the catch
    obtain ⟨a, B, sI, pins', σ', H', cls, d, rfl, J', nb, up, sky, na, os, ag, hb1, hyes⟩ := xx
    have J : Inv X pins σ' H' sI := J'.ofTry ok
    have sky' : Sky B (X.env :: X.outer) a (Zc cls d) X.env.locals s'.heap := by rw [← hs]; exact sky
    show wpAny (model X.prog X.w) X.A (noteFrame (.ref a) X.env) _ _ _
    refine Sky.land Zc.steady hfr hf sky' fun h3 fl3 up3 => ?_
    have J3 : Inv X pins σ' H' { s' with heap := h3 } := J.landed nb fl3.1 (up.trans up3) os ag
    obtain ⟨oe3, vs3, he3, hz3, hd3⟩ := fl3.there
    have notFr : ∀ {h : Heap} {o : Obj} {vs : Array Value}, h.FunFrames B (X.env :: X.outer) → h.get? a = some o → o.data = .fields vs → a ∉ frs (X.env :: X.outer) := fun {h o vs} ff e dd hm => by
      obtain ⟨_, o', e', hnf⟩ := ff.mem hm
      rw [e] at e'; cases e'
      exact hnf _ dd
    have nfr := notFr fl3.2.2.1 he3 hd3
    have nL : a ≠ X.env.locals := fun z => nfr (List.mem_filterMap.mpr ⟨X.env, List.mem_cons_self, by rw [hf, z]⟩)
    have nF : a ∉ X.fs := fun hm => by
      obtain ⟨e, he, q⟩ := List.mem_filterMap.mp hm
      exact nfr (List.mem_filterMap.mpr ⟨e, List.mem_cons_of_mem _ he, q⟩)
    have S3 := J3.suite he3 hd3 na nL nF
    refine wpAny_handleBy_cons (codeAny_handlers_test ?_) (by intro q; cases q)
    have LT : PySem.W.Looks (model X.prog X.w) h3 (typeOf (.ref a)) cls := fun A Q E s k q => wpAny_typeOf_ref (k _ _ he3) (by rw [hz3.1]; exact q)
    have LM := PySem.W.exm_one (M := model X.prog X.w) (J3.kIn) LT hb1
    have test : ∀ {Q : Value → Shared → Prop} {E : Value → Shared → Prop}, Q c { s' with heap := h3 } → wpAny (model X.prog X.w) (X.A.mark (some (.ref a))) (eval (.Name x np) X.env) Q E { s' with heap := h3 } := fun {Q E} q => by
      obtain ⟨hg, hdbg, hm | ⟨hm, hv, hnn⟩⟩ := hc
      · exact ld_glob (X := X.suite a ((a, oe3) :: (X.pn ++ pins))) S3 hg hm q hdbg
      · exact ld_blt (X := X.suite a ((a, oe3) :: (X.pn ++ pins))) S3 hg hm hv q hnn hdbg
    refine test (LM.here ?_)
    refine codeAny_handlers_suite_as ?_
    refine HandSPX.lands_againZ fl3 fun h4 fl4 up4 => ?_
    have J4 : Inv X pins σ' H' { s' with heap := h4 } := J.landed nb fl4.1 ((up.trans up3).trans up4) os ag
    obtain ⟨oe4, vs4, he4, hz4, hd4⟩ := fl4.there
    have S4 := J4.suite he4 hd4 na nL nF
    refine store_ok (X := X.suite a ((a, oe4) :: (X.pn ++ pins))) (v := .ref a) S4 hN hi hloc rfl (fun s5 S5 => ?_) (.inr hln)
    refine wpAny_mono ((hsu a oe4 cls d (X.pn ++ pins) hz4 ⟨_, hd4⟩).run [] s5 _ H' _ S5 (hyes a na)) (fun f s6 hsp => ?_) (fun _ _ z => False.elim z)
    have end_ : ∀ {σ6 : L2.St} {H6 : Hp} {Q : Shared → Prop}, Inv (X.suite a ((a, oe4) :: (X.pn ++ pins))) [] σ6 H6 s6 → (∀ s7, Inv X pins (σ6.set i none) H6 s7 → Q s7) →
        wpAny (model X.prog X.w) X.A (do bindName X.env n .none; unbindBehindTheSuite X.env n pos') (fun _ s7 => Q s7) X.xe s6 := fun {σ6 H6 Q} S6 hq => gone_ok (S6.unsuite ok) hN hi hln hq
    cases f with
    | next =>
      obtain ⟨σ6, H6, S6, q6⟩ := hsp
      exact end_ S6 fun s7 J7 => ⟨_, _, J7, q6⟩
    | brk =>
      obtain ⟨σ6, H6, S6, q6⟩ := hsp
      exact end_ S6 fun s7 J7 => ⟨_, _, J7, q6⟩
    | cont =>
      obtain ⟨σ6, H6, S6, q6⟩ := hsp
      exact end_ S6 fun s7 J7 => ⟨_, _, J7, q6⟩
    | ret u =>
      obtain ⟨v6, σ6, H6, S6, r6, q6⟩ := hsp
      exact end_ S6 fun s7 J7 => ⟨_, _, _, J7, r6, q6⟩
  · cases f with
    | next =>
      obtain ⟨σ', H', J', q⟩ := hsp
      exact wpAny_execs_nil ⟨σ', H', J'.ofTry ok, q⟩
    | brk =>
      obtain ⟨σ', H', J', q⟩ := hsp
      exact ⟨σ', H', J'.ofTry ok, q⟩
    | cont =>
      obtain ⟨σ', H', J', q⟩ := hsp
      exact ⟨σ', H', J'.ofTry ok, q⟩
    | ret u =>
      obtain ⟨v, σ', H', J', r, q⟩ := hsp
      exact ⟨v, σ', H', J'.ofTry ok, r, q⟩
end
end RX
namespace K8
open PySem PySem.Spec L2 RX
/-! ### the text -/
def top (i : Nat) : Stmt := PySem.Challenge.pw_retroact_k08_values_of_expressions.main.body.getD i (.Pass ⟨0, 0, 0, 0⟩)
abbrev sInit : Stmt := inClass (top 2) 0
abbrev sIsV : Stmt := top 6
abbrev sEval : Stmt := top 7
abbrev sAll : Stmt := top 8
abbrev sLeaf : Stmt := top 9
abbrev sRange : Stmt := top 10
abbrev sJoin : Stmt := top 11
abbrev sDiv : Stmt := top 12
abbrev sState : Stmt := top 14
abbrev sDraw : Stmt := top 15
abbrev sExp : Stmt := top 16
abbrev sNum : Stmt := top 17
abbrev sOk : Stmt := top 18
abbrev sOp : Stmt := top 19
abbrev sVal : Stmt := top 20
abbrev sTold : Stmt := top 21
abbrev sATold : Stmt := top 22
abbrev sLaw : Stmt := top 23
theorem boot_isi : bootBuiltins "isinstance" = some (.builtin "isinstance") := by decide +kernel
theorem boot_int0 : bootBuiltins "int" = some (.type "int") := by decide +kernel
theorem boot_bool0 : bootBuiltins "bool" = some (.type "bool") := by decide +kernel
theorem boot_str0 : bootBuiltins "str" = some (.type "str") := by decide +kernel
theorem boot_list0 : bootBuiltins "list" = some (.type "list") := by decide +kernel
theorem boot_tuple0 : bootBuiltins "tuple" = some (.type "tuple") := by decide +kernel
/-! ### the mathematics -/
inductive Nm | n | x | k
def Nm.s : Nm → Str
  | .n => "n" | .x => "x" | .k => "k"
inductive Uw | neg | no
def Uw.s : Uw → Str
  | .neg => "negative" | .no => "not"
inductive Bw | plus | minus | times | less | atmost | same | and | or | over | rest
def Bw.s : Bw → Str
  | .plus => "plus" | .minus => "minus" | .times => "times" | .less => "less" | .atmost => "atmost" | .same => "same" | .and => "and" | .or => "or" | .over => "over" | .rest => "rest"
inductive Rs | range | zero
def Rs.s : Rs → Str
  | .range => "range" | .zero => "zero"
inductive Ex
  | num (n : Int)
  | nm (x : Nm)
  | un (w : Uw) (a : Ex)
  | bin (w : Bw) (a b : Ex)
def Ex.dep : Ex → Nat
  | .num _ => 0
  | .nm _ => 0
  | .un _ a => a.dep + 1
  | .bin _ a b => max a.dep b.dep + 1
structure Env where
  n : Int
  x : Int
  k : Int
def Env.get (g : Env) : Nm → Int
  | .n => g.n | .x => g.x | .k => g.k
def inV (n : Int) : Prop := -1000000000 ≤ n ∧ n ≤ 1000000000
instance (n : Int) : Decidable (inV n) := inferInstanceAs (Decidable (_ ∧ _))
def Env.ok (g : Env) : Prop := ∀ i, inV (g.get i)
inductive Re | ok (n : Int) | err (r : Rs)
def inR (n : Int) : Re := if inV n then .ok n else .err .range
def b01 (c : Bool) : Int := if c then 1 else 0
def op (w : Bw) (a b : Int) : Re := match w with
  | .plus => inR (a + b) | .minus => inR (a - b) | .times => inR (a * b)
  | .less => .ok (b01 (decide (a < b))) | .atmost => .ok (b01 (decide (a ≤ b))) | .same => .ok (b01 (decide (a = b)))
  | .and => .ok (b01 (!decide (b = 0))) | .or => .ok (b01 (!decide (b = 0)))
  | .over => if b = 0 then .err .zero else inR (a.fdiv b)
  | .rest => if b = 0 then .err .zero else .ok (a - b * a.fdiv b)
def Re.good : Re → Prop
  | .ok n => inV n
  | .err _ => True
theorem inR_good (n : Int) : (inR n).good := by
  unfold inR
  split
  · assumption
  · trivial
theorem b01_in (c : Bool) : inV (b01 c) := by cases c <;> decide
theorem neg_in {n : Int} (h : inV n) : inV (-n) := by unfold inV at *; omega
theorem rest_in {a b : Int} (hb : inV b) (h0 : b ≠ 0) : inV (a - b * a.fdiv b) := by
  have e : a - b * a.fdiv b = a.fmod b := by
    have := Int.fmod_def a b
    omega
  rw [e]
  unfold inV at *
  by_cases hp : 0 < b
  · have h1 := Int.fmod_nonneg_of_pos a hp
    have h2 := Int.fmod_lt_of_pos a hp
    omega
  · have hn : 0 < -b := by omega
    have e2 : a.fmod b = -((-a).fmod (-b)) := by
      have := Int.neg_fmod_neg a b
      omega
    have h1 := Int.fmod_nonneg_of_pos (-a) hn
    have h2 := Int.fmod_lt_of_pos (-a) hn
    omega
theorem op_good {w : Bw} {a b : Int} (hb : inV b) : (op w a b).good := by
  cases w with
  | plus => exact inR_good _
  | minus => exact inR_good _
  | times => exact inR_good _
  | less => exact b01_in _
  | atmost => exact b01_in _
  | same => exact b01_in _
  | and => exact b01_in _
  | or => exact b01_in _
  | over =>
    show (if b = 0 then Re.err .zero else inR (a.fdiv b)).good
    split
    · trivial
    · exact inR_good _
  | rest =>
    show (if b = 0 then Re.err .zero else Re.ok (a - b * a.fdiv b)).good
    split
    · trivial
    · exact rest_in hb (by assumption)
/-- both parts asked -/
def both (w : Bw) (a : Int) : Re → Re
  | .ok b => op w a b
  | .err r => .err r
/-- one operation, its first part known, the second one asked where it is needed -/
def step (w : Bw) (a : Int) (s : Re) : Re := match w with
  | .and => if a = 0 then .ok 0 else both .and a s
  | .or => if a = 0 then both .or a s else .ok 1
  | w => both w a s
def ustep (w : Uw) (a : Int) : Re := match w with
  | .neg => .ok (-a)
  | .no => .ok (b01 (decide (a = 0)))
def Re.bind (f : Int → Re) : Re → Re
  | .ok n => f n
  | .err r => .err r
def val (g : Env) : Ex → Re
  | .num n => inR n
  | .nm x => .ok (g.get x)
  | .un w a => (val g a).bind (ustep w)
  | .bin w a b => (val g a).bind fun n => step w n (val g b)
theorem both_good {w : Bw} {a : Int} {s : Re} (hs : s.good) : (both w a s).good := by
  cases s with
  | ok b => exact op_good hs
  | err r => trivial
theorem step_good {w : Bw} {a : Int} {s : Re} (hs : s.good) : (step w a s).good := by
  cases w with
  | and =>
    show (if a = 0 then Re.ok 0 else both .and a s).good
    split
    · exact (by decide : inV 0)
    · exact both_good hs
  | or =>
    show (if a = 0 then both .or a s else Re.ok 1).good
    split
    · exact both_good hs
    · exact (by decide : inV 1)
  | plus => exact both_good hs
  | minus => exact both_good hs
  | times => exact both_good hs
  | less => exact both_good hs
  | atmost => exact both_good hs
  | same => exact both_good hs
  | over => exact both_good hs
  | rest => exact both_good hs
theorem ustep_good {w : Uw} {a : Int} (h : inV a) : (ustep w a).good := by
  cases w
  · exact neg_in h
  · exact b01_in _
theorem val_good {g : Env} (hg : g.ok) : ∀ e, (val g e).good
  | .num n => inR_good n
  | .nm x => hg x
  | .un w a => by
    have h := val_good hg a
    show ((val g a).bind (ustep w)).good
    cases e : val g a with
    | ok n => rw [e] at h; exact ustep_good h
    | err r => trivial
  | .bin w a b => by
    have hb := val_good hg b
    show ((val g a).bind fun n => step w n (val g b)).good
    cases e : val g a with
    | ok n => exact step_good hb
    | err r => trivial
/-! ### the heap -/
/-- all but p as it was -/
def But (p : Addr) (H H' : Hp) : Prop := ∀ b o, b ≠ p → H b = some o → H' b = some o
theorem Same.but {p : Addr} {H H' : Hp} (s : Same H H') : But p H H' := fun b o _ h => s b o h
theorem But.trans {p : Addr} {H H1 H2 : Hp} (a : But p H H1) (b : But p H1 H2) : But p H H2 := fun c o n h => b c o n (a c o n h)
theorem same_new {H : Hp} {p : Addr} (h : H p = none) (o : HO) : Same H (upd H p o) := fun b u q => by rw [upd_ne (ne_of_none q h)]; exact q
theorem but_upd {H : Hp} {p : Addr} (o : HO) : But p H (upd H p o) := fun b u n q => by rw [upd_ne n]; exact q
/-- the expression e stands at v -/
def EAt (H : Hp) (v : V) : Ex → Prop
  | .num n => ∃ a, v = .ref a ∧ H a = some (.tup [.str "number", .int n])
  | .nm x => ∃ a, v = .ref a ∧ H a = some (.tup [.str "name", .str x.s])
  | .un w e => ∃ a v1, v = .ref a ∧ H a = some (.tup [.str w.s, v1]) ∧ EAt H v1 e
  | .bin w e f => ∃ a v1 v2, v = .ref a ∧ H a = some (.tup [.str w.s, v1, v2]) ∧ EAt H v1 e ∧ EAt H v2 f
theorem EAt.but {p : Addr} {H H' : Hp} (s : But p H H') (hp : ∀ xs, H p ≠ some (.tup xs)) : ∀ {e : Ex} {v : V}, EAt H v e → EAt H' v e := by
  have k : ∀ {a : Addr} {xs : List V}, H a = some (.tup xs) → H' a = some (.tup xs) := fun {a xs} h => s a _ (fun z => hp xs (by rw [← z]; exact h)) h
  intro e
  induction e with
  | num n => rintro v ⟨a, rfl, h⟩; exact ⟨a, rfl, k h⟩
  | nm x => rintro v ⟨a, rfl, h⟩; exact ⟨a, rfl, k h⟩
  | un w e ih => rintro v ⟨a, v1, rfl, h, h1⟩; exact ⟨a, v1, rfl, k h, ih h1⟩
  | bin w e f ih1 ih2 => rintro v ⟨a, v1, v2, rfl, h, h1, h2⟩; exact ⟨a, v1, v2, rfl, k h, ih1 h1, ih2 h2⟩
theorem EAt.same {H H' : Hp} (s : Same H H') : ∀ {e : Ex} {v : V}, EAt H v e → EAt H' v e := by
  intro e
  induction e with
  | num n => rintro v ⟨a, rfl, h⟩; exact ⟨a, rfl, s _ _ h⟩
  | nm x => rintro v ⟨a, rfl, h⟩; exact ⟨a, rfl, s _ _ h⟩
  | un w e ih => rintro v ⟨a, v1, rfl, h, h1⟩; exact ⟨a, v1, rfl, s _ _ h, ih h1⟩
  | bin w e f ih1 ih2 => rintro v ⟨a, v1, v2, rfl, h, h1, h2⟩; exact ⟨a, v1, v2, rfl, s _ _ h, ih1 h1, ih2 h2⟩
/-- the names' values stand at d -/
def Env.kvs (g : Env) : List (Key × V) := [(.inr "n", .int g.n), (.inr "x", .int g.x), (.inr "k", .int g.k)]
theorem Env.look (g : Env) (x : Nm) : valV g.kvs (Sum.inr x.s : Key) = some (.int (g.get x)) := by
  have n1 : ¬ (Sum.inr ("n" : Str) : Key) = Sum.inr ("x" : Str) := by decide +kernel
  have n2 : ¬ (Sum.inr ("n" : Str) : Key) = Sum.inr ("k" : Str) := by decide +kernel
  have n3 : ¬ (Sum.inr ("x" : Str) : Key) = Sum.inr ("k" : Str) := by decide +kernel
  cases x
  · exact valV_pos (p := ((Sum.inr ("n" : Str) : Key), V.int g.n)) rfl
  · exact (valV_neg (p := ((Sum.inr ("n" : Str) : Key), V.int g.n)) n1).trans (valV_pos (p := ((Sum.inr ("x" : Str) : Key), V.int g.x)) rfl)
  · exact (valV_neg (p := ((Sum.inr ("n" : Str) : Key), V.int g.n)) n2).trans ((valV_neg (p := ((Sum.inr ("x" : Str) : Key), V.int g.x)) n3).trans (valV_pos (p := ((Sum.inr ("k" : Str) : Key), V.int g.k)) rfl))
/-! ### tests -/
theorem ifT {c : Prop} [Decidable c] {A B : Prop} (h : c) (k : A) : if decide c = true then A else B := by rw [decide_eq_true h]; exact iteT k
theorem ifF {c : Prop} [Decidable c] {A B : Prop} (h : ¬ c) (k : B) : if decide c = true then A else B := by rw [decide_eq_false h]; exact iteF k
theorem ifNT {c : Prop} [Decidable c] {A B : Prop} (h : ¬ c) (k : A) : if (!decide c) = true then A else B := by rw [decide_eq_false h]; exact iteT k
theorem ifNF {c : Prop} [Decidable c] {A B : Prop} (h : c) (k : B) : if (!decide c) = true then A else B := by rw [decide_eq_true h]; exact iteF k
theorem int_eq {i j : Int} : (V.int i = V.int j) ↔ i = j := ⟨fun h => V.int.inj h, fun h => by rw [h]⟩
theorem dec_int {i j : Int} : decide (V.int i = V.int j) = decide (i = j) := by
  by_cases h : i = j
  · rw [decide_eq_true h, decide_eq_true (int_eq.mpr h)]
  · rw [decide_eq_false h, decide_eq_false (fun z => h (int_eq.mp z))]
/-! ### promises -/
/-- a fault of the class at C with this reason goes out -/
def Fl (C : Addr) (H : Hp) (E : XK) (r : Rs) : Prop := ∀ d H', Same H H' → H d = none → H' d = some (.xd [("reason", .str r.s)]) → E (.ref C) (some d) H'
theorem Fl.same {C : Addr} {H H1 : Hp} {E : XK} {r : Rs} (s : Same H H1) (f : Fl C H E r) : Fl C H1 E r := fun d H' s' n h => f d H' (s.trans s') (s.free n) h
def Out (C : Addr) (H : Hp) (Q : VK) (E : XK) : Re → Prop
  | .ok n => ∀ H', Same H H' → Q (.int n) H'
  | .err r => Fl C H E r
theorem Out.same {C : Addr} {H H1 : Hp} {Q : VK} {E : XK} {r : Re} (s : Same H H1) (f : Out C H Q E r) : Out C H1 Q E r := by
  cases r with
  | ok n => exact fun H' s' => f H' (s.trans s')
  | err r => exact Fl.same s f
def spInit (C : Addr) : Sp := fun vs H Q _ => ∃ (a : Addr) (z : Str), vs = [.ref a, .str z] ∧ H a = some (exo a C none) ∧ z.length ≤ 100 ∧ ∀ d, H d = none → d ≠ a → Q .non (upd (upd H d (exd d [("reason", .str z)])) a (exo a C (some d)))
def NotInt (K : PySem.W.Frag) (H : Hp) (x : V) : Prop := ∃ t, TyX K H x (.type t) ∧ (kitB t "int" = some false ∨ (kitB t "int" = some true ∧ kitB t "bool" = some true))
def spIsV (K : PySem.W.Frag) : Sp := fun vs H Q _ => ∃ x, vs = [x] ∧ ((∃ n, x = .int n ∧ Q (.bl (decide (inV n))) H) ∨ (NotInt K H x ∧ Q (.bl false) H))
def spRange (C : Addr) : Sp := fun vs H Q E => ∃ n, vs = [.int n] ∧ Out C H Q E (inR n)
def spDiv (C : Addr) : Sp := fun vs H Q E => ∃ (w : Bw) (a b : Int), (w = .over ∨ w = .rest) ∧ vs = [.str w.s, .int a, .int b] ∧ inV a ∧ inV b ∧ Out C H Q E (op w a b)
def spJoin (C : Addr) : Sp := fun vs H Q E => ∃ (w : Bw) (a b : Int), vs = [.str w.s, .int a, .int b] ∧ inV a ∧ inV b ∧ Out C H Q E (op w a b)
def isLeaf : Ex → Prop
  | .num _ => True
  | .nm _ => True
  | _ => False
def spLeaf (C : Addr) : Sp := fun vs H Q E => ∃ (v : V) (d : Addr) (e : Ex) (g : Env), vs = [v, .ref d] ∧ isLeaf e ∧ EAt H v e ∧ H d = some (.dK g.kvs) ∧ Out C H Q E (val g e)
def spEval (C : Addr) (n : Nat) : Sp := fun vs H Q E => ∃ (v : V) (d : Addr) (e : Ex) (g : Env), vs = [v, .ref d] ∧ e.dep < n ∧ EAt H v e ∧ H d = some (.dK g.kvs) ∧ g.ok ∧ Out C H Q E (val g e)
inductive Exs (H : Hp) : List V → List Ex → Prop
  | nil : Exs H [] []
  | cons {v : V} {vs : List V} {e : Ex} {es : List Ex} (h : EAt H v e) (r : Exs H vs es) : Exs H (v :: vs) (e :: es)
inductive Rall | ok (ns : List Int) | err (r : Rs)
def valAll (g : Env) : List Ex → Rall
  | [] => .ok []
  | e :: es => match val g e with
    | .err r => .err r
    | .ok n => match valAll g es with | .ok ns => .ok (n :: ns) | .err r => .err r
def OutA (C : Addr) (H : Hp) (Q : VK) (E : XK) : Rall → Prop
  | .ok ns => ∀ H' p, Same H H' → H p = none → H' p = some (.tup (ns.map V.int)) → Q (.ref p) H'
  | .err r => Fl C H E r
def spAll (K : PySem.W.Frag) (C : Addr) (n : Nat) : Sp := fun vs H Q E => ∃ (l d : Addr) (us : List V) (es : List Ex) (g : Env), vs = [.ref l, .ref d] ∧ SqL K H l us ∧ us.length ≤ 100 ∧ Exs H us es ∧ (∀ e ∈ es, e.dep < n) ∧ H d = some (.dK g.kvs) ∧ g.ok ∧ OutA C H Q E (valAll g es)
/-- what the written part says -/
structure Txt (P : Program) (K : PySem.W.Frag) (mg : Str → Option Value) (C fI cc cda : Addr) : Prop where
  su : SupC P K mg C cc cda
  noR : PySem.W.findIn K (.ref C) "reason" = some none
  iC : PySem.W.findIn K (.ref C) "__init__" = some (some (.ref fI))
  tI : PySem.W.typeIn K (.ref fI) = some (.type "function")
  gF : mg "Fault" = some (.ref C)
  xf : XfC K C
  te : PySem.W.exmOne K (.ref C) (.ref C) = some true
  zisi : mg "isinstance" = none
  zint : mg "int" = none
  zbool : mg "bool" = none
  zstr : mg "str" = none
  zlen : mg "len" = none
  zlist : mg "list" = none
  ztuple : mg "tuple" = none
  zrev : mg "reversed" = none
  zrng : mg "range" = none
  gLe : ∃ t, mg "LEAST_VALUE" = some (.int (-1000000000) t)
  gGe : ∃ t, mg "GREATEST_VALUE" = some (.int 1000000000 t)
/-- a callee's facts -/
structure Cal (K : PySem.W.Frag) (mg : Str → Option Value) (x : Str) (f : Addr) (fd : FuncData) (ps : List Str) : Prop where
  g : mg x = some (.ref f)
  k : PySem.W.keepIn K (.ref f) = true
  b : Binds K fd ps []
section
variable {P : Program} {w : World} {K : PySem.W.Frag} {mg : Str → Option Value} {base : Heap} {N : List Str} {qual : Str} {scope : Scope} {f : Addr} {cd : Value} {A : Around} {outer : List PySem.Env} {s : Shared} {H : Hp} {E : XK}
theorem passX : Passes (L2.CX P w) (cxOf (L2.CX P w) P w K mg base N qual scope f cd A outer s H E) E := passes_call (takes_of rfl rfl rfl rfl) (fun _ _ _ _ h => h)
theorem takesX : Takes (cxOf (L2.CX P w) P w K mg base N qual scope f cd A outer s H E) (fun cls d _ H => E cls d H) := takes_of rfl rfl rfl rfl
end
end K8
namespace K8
open PySem PySem.Spec L2 RX
section
variable {P : Program} {w : World} {K : PySem.W.Frag} {mg : Str → Option Value} {base : Heap} {C fI cc cda : Addr}
theorem size_of {n : Nat} (h : n ≤ 1000) : n ≤ sizeLine := Nat.le_of_lt (small1000 h)
theorem nsI : NdefX.NScope ["self", "reason", "__class__"] ["self", "reason"] ["__class__"] (defScope sInit) := NdefX.nscope_by (by decide +kernel)
theorem ok_init {oc kV doc pm ct : Value} {od an : Option Addr} {osl : Array (Option Value)} (T : Txt P K mg C fI cc cda)
    (lk : K.lookup fI = some ⟨oc, od, .func (PySem.W.ksFn "__init__" "Fault.__init__" (defArgs sInit) (defBody sInit) (defScope sInit) .none kV doc pm an (.ref cda) ct cc), osl⟩) (hcd : PySem.W.codeIn K (.ref cda) "Fault.__init__" = true) :
    FnOk P w K mg base CX0 1 fI (PySem.W.ksFn "__init__" "Fault.__init__" (defArgs sInit) (defBody sInit) (defScope sInit) .none kV doc pm an (.ref cda) ct cc) ["self", "reason"] (spInit C) := by
  refine fn_super T.su nsI rfl lk hcd rfl rfl rfl (fun vs H Q E h => ?_) (fun _ => rfl) (fun L => ⟨_, rfl⟩) (fun A outer s H vs Q E hr h => ?_)
  · obtain ⟨a, z, rfl, _⟩ := h
    rfl
  · obtain ⟨a, z, rfl, ha, hz, k⟩ := h
    refine ⟨a, [.str z], _, _, rfl, ha, pe_joined (.cons pe_str (.cons (pe_fmt (pv 1)) .nil)), pss_one (ps_ost (pv 0) (pv 1)), ?_⟩
    have l1 : (Str.empty ++ ("fault: " : Str)).length ≤ sizeLine := by decide +kernel
    refine ⟨_, rfl, l1, _, rfl, .inl ⟨z, rfl, size_of (by omega), z, rfl, ?_, rfl, ha, _, rfl, _, rfl, a, C, rfl, T.su.ox, T.noR, .inl ⟨ha, fun d hd hda => k d hd hda⟩⟩⟩
    refine size_of ?_
    have e : ((Str.empty ++ ("fault: " : Str)) ++ z).length = (Str.empty ++ ("fault: " : Str)).length + z.length := by
      show (_ ++ _ : Array Nat).size = _
      simp [Str.length]
    rw [e]
    have : (Str.empty ++ ("fault: " : Str)).length = 7 := by decide +kernel
    omega
/-- raise Fault(z) -/
theorem fl_mk {E : XK} {H : Hp} {r : Rs} (f : Fl C H E r) : ∀ a, H a = none → spInit C (.ref a :: ([.str r.s] ++ [])) (upd H a (exo a C none))
    (fun v H2 => v = .non ∧ ∃ (d : Addr) (fs : List (Str × V)), H2 a = some (exo a C (some d)) ∧ H2 d = some (exd d fs) ∧ H d = none ∧ E (.ref C) (some d) (upd (del H2 a) d (.xd fs))) (fun _ _ _ => False) := by
  intro a ha
  refine ⟨a, r.s, rfl, upd_same, by cases r <;> decide +kernel, fun d hd hda => ⟨rfl, d, [("reason", .str r.s)], upd_same, by rw [upd_ne hda, upd_same], ?_, ?_⟩⟩
  · rw [upd_ne hda] at hd
    exact hd
  · rw [upd_ne hda] at hd
    refine f d _ (fun b o hb => ?_) hd upd_same
    have nb : b ≠ d := ne_of_none hb hd
    have na : b ≠ a := ne_of_none hb ha
    rw [upd_ne nb, del_ne na, upd_ne na, upd_ne nb, upd_ne na]
    exact hb
/-- an own exception is made where the callee lets nothing out -/
theorem passF {X : Cx} : Passes CX0 X (fun _ _ _ => False) := fun _ _ _ _ _ _ _ h => h.elim
theorem scV : FnScope ["number"] ["number"] (defScope sIsV) := ⟨rfl, rfl, rfl, by decide +kernel, rfl, by decide +kernel, by decide +kernel⟩
theorem ok_isv {f : Addr} {fd : FuncData} (F : Fun K "is_value" "is_value" sIsV f fd) (T : Txt P K mg C fI cc cda) : FnOk P w K mg base CX0 1 f fd ["number"] (spIsV K) := by
  refine F.ok scV (fun vs H Q E h => ?_) (fun cdv A outer s H vs Q E hr h => ?_)
  · obtain ⟨x, rfl, _⟩ := h
    rfl
  · obtain ⟨x, rfl, h⟩ := h
    obtain ⟨tl, hle⟩ := T.gLe
    obtain ⟨tg, hge⟩ := T.gGe
    refine ⟨_, (pss_cons (ps_if (PW.pt (pw_or (pt_not (pt_val (pe_callB call_isi rfl T.zisi boot_isi (pa_cons (pv 0) (pa_cons (pe_bltn (v := .ty "int") rfl T.zint boot_int0 rfl) pa_nil))))) (pw_or1 (pt_val (pe_callB call_isi rfl T.zisi boot_isi (pa_cons (pv 0) (pa_cons (pe_bltn (v := .ty "bool") rfl T.zbool boot_bool0 rfl) pa_nil)))))))
      (pss_one (ps_ret pe_bl))
      pss_nil)
      (pss_one (ps_ret (pe_chain op_le op_le (pe_glob (v := .int (-1000000000)) rfl hle ⟨_, rfl⟩) (pv 0) (pe_glob (v := .int 1000000000) rfl hge ⟨_, rfl⟩))))), ?_⟩
    rcases h with ⟨n, rfl, q⟩ | ⟨⟨t, ht, hk⟩, q⟩
    · refine ⟨_, rfl, _, _, _, _, true, rfl, .ty "int", .base (.int n), kit_ty (show kitB "int" "int" = some true by decide +kernel), _, rfl, ?_⟩
      refine iteF ?_
      refine ⟨_, rfl, _, _, _, _, false, rfl, .ty "bool", .base (.int n), kit_ty (show kitB "int" "bool" = some false by decide +kernel), _, rfl, ?_⟩
      refine iteF ?_
      refine ⟨_, rfl, _, _, rfl, rfl, _, rfl, ?_⟩
      by_cases h1 : -1000000000 ≤ n
      · refine ifT h1 ⟨_, _, rfl, rfl, ?_⟩
        by_cases h2 : n ≤ 1000000000
        · rw [decide_eq_true (show inV n from ⟨h1, h2⟩)] at q
          show Q (.bl (decide (n ≤ 1000000000))) H
          rw [decide_eq_true h2]
          exact q
        · rw [decide_eq_false (show ¬ inV n from fun z => h2 z.2)] at q
          show Q (.bl (decide (n ≤ 1000000000))) H
          rw [decide_eq_false h2]
          exact q
      · refine ifF h1 ?_
        rw [decide_eq_false (show ¬ inV n from fun z => h1 z.1)] at q
        exact q
    · rcases hk with hk | ⟨hk, hk2⟩
      · refine ⟨_, rfl, _, _, _, _, false, rfl, .ty "int", ht, kit_ty hk, _, rfl, ?_⟩
        exact iteT (iteT q)
      · refine ⟨_, rfl, _, _, _, _, true, rfl, .ty "int", ht, kit_ty hk, _, rfl, ?_⟩
        refine iteF ?_
        refine ⟨_, rfl, _, _, _, _, true, rfl, .ty "bool", ht, kit_ty hk2, _, rfl, ?_⟩
        exact iteT q
theorem scR : FnScope ["number"] ["number"] (defScope sRange) := ⟨rfl, rfl, rfl, by decide +kernel, rfl, by decide +kernel, by decide +kernel⟩
theorem ok_range {f fV : Addr} {fd fdV fdI : FuncData} (F : Fun K "_in_range" "_in_range" sRange f fd) (T : Txt P K mg C fI cc cda)
    (GI : FnOk P w K mg base CX0 1 fI fdI ["self", "reason"] (spInit C)) (bI : Binds K fdI ["self", "reason"] [])
    (GV : FnOk P w K mg base CX0 1 fV fdV ["number"] (spIsV K)) (LV : Cal K mg "is_value" fV fdV ["number"]) : FnOk P w K mg base (L2.CX P w) 3 f fd ["number"] (spRange C) := by
  refine F.okX scR (fun vs H Q E h => ?_) (fun cdv A outer s H vs Q E hr h => ?_)
  · obtain ⟨n, rfl, _⟩ := h
    rfl
  · obtain ⟨n, rfl, h⟩ := h
    have hr1 : Room 1 _ := hr.mono (by decide)
    refine ⟨_, (pss_cons (ps_if (pt_not (pt_val (pe_call GV hr1 rfl LV.g LV.k LV.b .nil pass0 (pa_cons (pv 0) pa_nil))))
      (pss_one (ps_raise rfl takesX (pmk_oex T.su.ox T.iC T.tI GI hr bI .nil passF rfl T.gF (pa_cons pe_str pa_nil))))
      pss_nil)
      (pss_one (ps_ret (pv 0)))), ?_⟩
    refine ⟨_, rfl, _, rfl, .inl ⟨n, rfl, _, rfl, ?_⟩⟩
    by_cases hv : inV n
    · refine ifNF hv ?_
      refine ⟨_, rfl, ?_⟩
      unfold inR at h
      rw [if_pos hv] at h
      exact h H (Same.refl H)
    · refine ifNT hv ?_
      unfold inR at h
      rw [if_neg hv] at h
      exact ⟨by decide, fl_mk (r := .range) h⟩
theorem mul_ok {i j : Int} (h : inV i) : CMul i j := .inl ⟨by have := h.1; omega, by have := h.2; omega⟩
theorem div_ok {i j : Int} (h : inV j) (h0 : ¬ j = 0) : CDivN i j := ⟨h0, by have := h.1; have := h.2; omega⟩
theorem scD : FnScope ["word", "first", "second", "quotient"] ["word", "first", "second"] (defScope sDiv) := ⟨rfl, rfl, rfl, by decide +kernel, rfl, by decide +kernel, by decide +kernel⟩
theorem ok_div {f fR : Addr} {fd fdR fdI : FuncData} (F : Fun K "_divided" "_divided" sDiv f fd) (T : Txt P K mg C fI cc cda)
    (GI : FnOk P w K mg base CX0 1 fI fdI ["self", "reason"] (spInit C)) (bI : Binds K fdI ["self", "reason"] [])
    (GR : FnOk P w K mg base (L2.CX P w) 3 fR fdR ["number"] (spRange C)) (LR : Cal K mg "_in_range" fR fdR ["number"]) : FnOk P w K mg base (L2.CX P w) 4 f fd ["word", "first", "second"] (spDiv C) := by
  refine F.okX scD (fun vs H Q E h => ?_) (fun cdv A outer s H vs Q E hr h => ?_)
  · obtain ⟨w, a, b, _, rfl, _⟩ := h
    rfl
  · obtain ⟨w, a, b, hw, rfl, ha, hb, h⟩ := h
    have hr2 : Room 2 _ := hr.mono (by decide)
    refine ⟨_, (pss_cons (ps_if (pt_cmpR op_eq (pv 2) pe_int (nomark _))
      (pss_one (ps_raise rfl takesX (pmk_oex T.su.ox T.iC T.tI GI hr2 bI .nil passF rfl T.gF (pa_cons pe_str pa_nil))))
      pss_nil)
      (pss_cons (ps_set (i := 3) scD.nd rfl (Or.inl rfl) (pe_op op_fdivN (pv 1) (pv 2)))
      (pss_cons (ps_if (pt_cmpR op_eq (pv 0) pe_str (nomark _))
      (pss_one (ps_ret (pe_call GR hr rfl LR.g LR.k LR.b .nil passX (pa_cons (pv 3) pa_nil))))
      pss_nil)
      (pss_one (ps_ret (pe_op op_sub (pv 1) (pe_op op_mul (pv 2) (pv 3)))))))), ?_⟩
    refine ⟨_, rfl, rfl, _, rfl, ?_⟩
    by_cases h0 : b = 0
    · refine ifT (int_eq.mpr h0) ⟨by decide, fl_mk (r := .zero) ?_⟩
      rcases hw with rfl | rfl
      · have h : Out C H Q E (if b = 0 then Re.err .zero else inR (a.fdiv b)) := h
        rw [if_pos h0] at h
        exact h
      · have h : Out C H Q E (if b = 0 then Re.err .zero else Re.ok (a - b * a.fdiv b)) := h
        rw [if_pos h0] at h
        exact h
    · refine ifF (fun z => h0 (int_eq.mp z)) ?_
      refine ⟨_, rfl, _, rfl, _, _, rfl, rfl, div_ok hb h0, ?_⟩
      refine ⟨_, rfl, rfl, _, rfl, ?_⟩
      rcases hw with rfl | rfl
      · refine ifT (by decide +kernel) ?_
        have h : Out C H Q E (if b = 0 then Re.err .zero else inR (a.fdiv b)) := h
        rw [if_neg h0] at h
        exact ⟨_, rfl, _, rfl, h⟩
      · refine ifF (by decide +kernel) ?_
        have h : Out C H Q E (if b = 0 then Re.err .zero else Re.ok (a - b * a.fdiv b)) := h
        rw [if_neg h0] at h
        exact ⟨_, rfl, _, rfl, _, rfl, _, _, rfl, rfl, mul_ok hb, _, _, rfl, rfl, h H (Same.refl H)⟩
theorem scJ : FnScope ["word", "first", "second"] ["word", "first", "second"] (defScope sJoin) := ⟨rfl, rfl, rfl, by decide +kernel, rfl, by decide +kernel, by decide +kernel⟩
theorem ok_join {f fR fD : Addr} {fd fdR fdD : FuncData} (F : Fun K "_joined" "_joined" sJoin f fd) (T : Txt P K mg C fI cc cda)
    (GD : FnOk P w K mg base (L2.CX P w) 4 fD fdD ["word", "first", "second"] (spDiv C)) (LD : Cal K mg "_divided" fD fdD ["word", "first", "second"])
    (GR : FnOk P w K mg base (L2.CX P w) 3 fR fdR ["number"] (spRange C)) (LR : Cal K mg "_in_range" fR fdR ["number"]) : FnOk P w K mg base (L2.CX P w) 5 f fd ["word", "first", "second"] (spJoin C) := by
  refine F.okX scJ (fun vs H Q E h => ?_) (fun cdv A outer s H vs Q E hr h => ?_)
  · obtain ⟨w, a, b, rfl, _⟩ := h
    rfl
  · obtain ⟨w, a, b, rfl, ha, hb, h⟩ := h
    have hr3 : Room 3 _ := hr.mono (by decide)
    refine ⟨_, (pss_cons (ps_if (pt_cmpR op_in_seq (pv 0) (pe_tup (pa_cons pe_str (pa_cons pe_str pa_nil))) (by rfl))
       (pss_one (ps_ret (pe_call GD hr rfl LD.g LD.k LD.b .nil passX (pa_cons (pv 0) (pa_cons (pv 1) (pa_cons (pv 2) pa_nil))))))
       pss_nil)
       (pss_cons (ps_if (pt_cmpR op_eq (pv 0) pe_str (nomark _))
       (pss_one (ps_ret (pe_call GR hr3 rfl LR.g LR.k LR.b .nil passX (pa_cons (pe_op op_add (pv 1) (pv 2)) pa_nil))))
       pss_nil)
       (pss_cons (ps_if (pt_cmpR op_eq (pv 0) pe_str (nomark _))
       (pss_one (ps_ret (pe_call GR hr3 rfl LR.g LR.k LR.b .nil passX (pa_cons (pe_op op_sub (pv 1) (pv 2)) pa_nil))))
       pss_nil)
       (pss_cons (ps_if (pt_cmpR op_eq (pv 0) pe_str (nomark _))
       (pss_one (ps_ret (pe_call GR hr3 rfl LR.g LR.k LR.b .nil passX (pa_cons (pe_op op_mul (pv 1) (pv 2)) pa_nil))))
       pss_nil)
       (pss_cons (ps_if (pt_cmpR op_eq (pv 0) pe_str (nomark _))
       (pss_one (ps_ret (pe_callTy call_int1 rfl T.zint boot_int0 (pa_cons (pe_cmpR op_lt (pv 1) (pv 2) (nomark _)) pa_nil))))
       pss_nil)
       (pss_cons (ps_if (pt_cmpR op_eq (pv 0) pe_str (nomark _))
       (pss_one (ps_ret (pe_callTy call_int1 rfl T.zint boot_int0 (pa_cons (pe_cmpR op_le (pv 1) (pv 2) (nomark _)) pa_nil))))
       pss_nil)
       (pss_cons (ps_if (pt_cmpR op_eq (pv 0) pe_str (nomark _))
       (pss_one (ps_ret (pe_callTy call_int1 rfl T.zint boot_int0 (pa_cons (pe_cmpR op_eq (pv 1) (pv 2) (nomark _)) pa_nil))))
       pss_nil)
       (pss_one (ps_ret (pe_callTy call_int1 rfl T.zint boot_int0 (pa_cons (pe_cmpR op_ne (pv 2) pe_int (nomark _)) pa_nil))))))))))), ?_⟩
    refine ⟨_, rfl, (by show 2 ≤ sizeLine; decide), fun p hp => ?_⟩
    have hs := same_new hp (.tup [.str "over", .str "rest"])
    refine ⟨p, _, rfl, .inr (SqT.of upd_same), rfl, rfl, _, rfl, ?_⟩
    have h1 := h.same hs
    cases w with
    | over => exact iteT ⟨_, rfl, _, rfl, _, rfl, .over, a, b, .inl rfl, rfl, ha, hb, h1⟩
    | rest => exact iteT ⟨_, rfl, _, rfl, _, rfl, .rest, a, b, .inr rfl, rfl, ha, hb, h1⟩
    | plus =>
      refine iteF ?_
      refine ⟨_, rfl, rfl, _, rfl, ifT (by decide +kernel) ?_⟩
      exact ⟨_, rfl, _, rfl, _, _, rfl, rfl, _, rfl, h1⟩
    | minus =>
      refine iteF ?_
      refine ⟨_, rfl, rfl, _, rfl, ifF (by decide +kernel) ⟨_, rfl, rfl, _, rfl, ifT (by decide +kernel) ?_⟩⟩
      exact ⟨_, rfl, _, rfl, _, _, rfl, rfl, _, rfl, h1⟩
    | times =>
      refine iteF ?_
      refine ⟨_, rfl, rfl, _, rfl, ifF (by decide +kernel) ⟨_, rfl, rfl, _, rfl, ifF (by decide +kernel) ⟨_, rfl, rfl, _, rfl, ifT (by decide +kernel) ?_⟩⟩⟩
      exact ⟨_, rfl, _, rfl, _, _, rfl, rfl, mul_ok ha, _, rfl, h1⟩
    | less =>
      refine iteF ?_
      refine ⟨_, rfl, rfl, _, rfl, ifF (by decide +kernel) ⟨_, rfl, rfl, _, rfl, ifF (by decide +kernel) ⟨_, rfl, rfl, _, rfl, ifF (by decide +kernel) ⟨_, rfl, rfl, _, rfl, ifT (by decide +kernel) ?_⟩⟩⟩⟩
      exact ⟨_, rfl, _, rfl, _, _, rfl, rfl, .inr ⟨_, rfl, h1 _ (Same.refl _)⟩⟩
    | atmost =>
      refine iteF ?_
      refine ⟨_, rfl, rfl, _, rfl, ifF (by decide +kernel) ⟨_, rfl, rfl, _, rfl, ifF (by decide +kernel) ⟨_, rfl, rfl, _, rfl, ifF (by decide +kernel) ⟨_, rfl, rfl, _, rfl, ifF (by decide +kernel) ⟨_, rfl, rfl, _, rfl, ifT (by decide +kernel) ?_⟩⟩⟩⟩⟩
      exact ⟨_, rfl, _, rfl, _, _, rfl, rfl, .inr ⟨_, rfl, h1 _ (Same.refl _)⟩⟩
    | same =>
      refine iteF ?_
      refine ⟨_, rfl, rfl, _, rfl, ifF (by decide +kernel) ⟨_, rfl, rfl, _, rfl, ifF (by decide +kernel) ⟨_, rfl, rfl, _, rfl, ifF (by decide +kernel) ⟨_, rfl, rfl, _, rfl, ifF (by decide +kernel) ⟨_, rfl, rfl, _, rfl, ifF (by decide +kernel) ⟨_, rfl, rfl, _, rfl, ifT (by decide +kernel) ?_⟩⟩⟩⟩⟩⟩
      refine ⟨_, rfl, _, rfl, rfl, .inr ⟨_, rfl, ?_⟩⟩
      rw [dec_int]
      exact h1 _ (Same.refl _)
    | and =>
      refine iteF ?_
      refine ⟨_, rfl, rfl, _, rfl, ifF (by decide +kernel) ⟨_, rfl, rfl, _, rfl, ifF (by decide +kernel) ⟨_, rfl, rfl, _, rfl, ifF (by decide +kernel) ⟨_, rfl, rfl, _, rfl, ifF (by decide +kernel) ⟨_, rfl, rfl, _, rfl, ifF (by decide +kernel) ⟨_, rfl, rfl, _, rfl, ifF (by decide +kernel) ?_⟩⟩⟩⟩⟩⟩
      refine ⟨_, rfl, rfl, .inr ⟨_, rfl, ?_⟩⟩
      rw [dec_int]
      exact h1 _ (Same.refl _)
    | or =>
      refine iteF ?_
      refine ⟨_, rfl, rfl, _, rfl, ifF (by decide +kernel) ⟨_, rfl, rfl, _, rfl, ifF (by decide +kernel) ⟨_, rfl, rfl, _, rfl, ifF (by decide +kernel) ⟨_, rfl, rfl, _, rfl, ifF (by decide +kernel) ⟨_, rfl, rfl, _, rfl, ifF (by decide +kernel) ⟨_, rfl, rfl, _, rfl, ifF (by decide +kernel) ?_⟩⟩⟩⟩⟩⟩
      refine ⟨_, rfl, rfl, .inr ⟨_, rfl, ?_⟩⟩
      rw [dec_int]
      exact h1 _ (Same.refl _)
theorem scL : FnScope ["leaf", "names"] ["leaf", "names"] (defScope sLeaf) := ⟨rfl, rfl, rfl, by decide +kernel, rfl, by decide +kernel, by decide +kernel⟩
theorem ok_leaf {f fR : Addr} {fd fdR : FuncData} (F : Fun K "_value_of_leaf" "_value_of_leaf" sLeaf f fd) (T : Txt P K mg C fI cc cda)
    (GR : FnOk P w K mg base (L2.CX P w) 3 fR fdR ["number"] (spRange C)) (LR : Cal K mg "_in_range" fR fdR ["number"]) : FnOk P w K mg base (L2.CX P w) 4 f fd ["leaf", "names"] (spLeaf C) := by
  refine F.okX scL (fun vs H Q E h => ?_) (fun cdv A outer s H vs Q E hr h => ?_)
  · obtain ⟨v, d, e, g, rfl, _⟩ := h
    rfl
  · obtain ⟨v, d, e, g, rfl, hl, he, hd, h⟩ := h
    have hu := hu_of hr
    refine ⟨_, (pss_cons (ps_if (pt_cmpR op_eq (pe_ix ix_tup (pv 0) pe_int (fun _ _ => rfl)) pe_str (nomark _))
       (pss_one (ps_ret (pe_dget hu (pv 1) (pe_ix ix_tup (pv 0) pe_int (fun _ _ => rfl)) (fun _ _ => rfl))))
       pss_nil)
       (pss_one (ps_ret (pe_call GR hr rfl LR.g LR.k LR.b .nil passX (pa_cons (pe_ix ix_tup (pv 0) pe_int (fun _ _ => rfl)) pa_nil))))), ?_⟩
    cases e with
    | un _ _ => exact hl.elim
    | bin _ _ _ => exact hl.elim
    | num n =>
      obtain ⟨a, rfl, ha⟩ := he
      refine ⟨_, rfl, a, _, _, _, rfl, rfl, SqT.of ha, rfl, rfl, _, rfl, ifF (by decide +kernel) ?_⟩
      exact ⟨_, rfl, a, _, _, _, rfl, rfl, SqT.of ha, rfl, n, rfl, h⟩
    | nm x =>
      obtain ⟨a, rfl, ha⟩ := he
      refine ⟨_, rfl, a, _, _, _, rfl, rfl, SqT.of ha, rfl, rfl, _, rfl, ifT (by decide +kernel) ?_⟩
      refine ⟨_, rfl, _, rfl, a, _, _, _, rfl, rfl, SqT.of ha, rfl, d, _, rfl, ?_, h H (Same.refl H)⟩
      have q := DGet.k (k := (Sum.inr x.s : Key)) hd
      rw [g.look x] at q
      exact q
end
end K8
namespace K8
open PySem PySem.Spec L2 RX
theorem if_true_of {c : Bool} {A B : Prop} (hc : c = true) (h : A) : if c = true then A else B := by
  rw [if_pos hc]
  exact h
theorem if_false_of {c : Bool} {A B : Prop} (hc : c = false) (h : B) : if c = true then A else B := by
  rw [hc, if_neg Bool.false_ne_true]
  exact h
/-! ### evaluate: the way down the first parts, and back -/
theorem both_ok {w : Bw} {a b : Int} : both w a (.ok b) = op w a b := rfl
def Ex.fst : Ex → Option Ex
  | .un _ a => some a
  | .bin _ a _ => some a
  | _ => none
def Ex.word : Ex → Str
  | .num _ => "number"
  | .nm _ => "name"
  | .un w _ => w.s
  | .bin w _ _ => w.s
def Up (e0 : Ex) : Ex → List Ex → Prop
  | c, [] => c = e0
  | c, p :: r => p.fst = some c ∧ Up e0 p r
theorem fst_dep {p c : Ex} (h : p.fst = some c) : c.dep < p.dep := by
  cases p with
  | num _ => cases h
  | nm _ => cases h
  | un w a => cases h; exact Nat.lt_succ_self _
  | bin w a b => cases h; exact Nat.lt_succ_of_le (Nat.le_max_left _ _)
theorem fst_err {g : Env} {p c : Ex} {r : Rs} (h : p.fst = some c) (e : val g c = .err r) : val g p = .err r := by
  cases p with
  | num _ => cases h
  | nm _ => cases h
  | un w a => cases h; show (val g c).bind _ = _; rw [e]; rfl
  | bin w a b => cases h; show (val g c).bind _ = _; rw [e]; rfl
theorem Up.dep {e0 : Ex} : ∀ {r : List Ex} {c : Ex}, Up e0 c r → c.dep + r.length ≤ e0.dep
  | [], c, h => by
    have h : c = e0 := h
    subst h
    exact Nat.le_refl _
  | p :: r, c, ⟨h1, h2⟩ => by
    have a := fst_dep h1
    have b := Up.dep h2
    rw [List.length_cons]
    omega
theorem Up.err {e0 : Ex} {g : Env} {x : Rs} : ∀ {r : List Ex} {c : Ex}, Up e0 c r → val g c = .err x → val g e0 = .err x
  | [], c, h, e => by
    have h : c = e0 := h
    subst h
    exact e
  | p :: r, c, ⟨h1, h2⟩, e => Up.err h2 (fst_err h1 e)
theorem word_in {e : Ex} : L2.inV (.str e.word) [.str "number", .str "name"] = true ↔ isLeaf e := by
  cases e with
  | num _ => exact ⟨fun _ => trivial, fun _ => show L2.inV (.str "number") [.str "number", .str "name"] = true by decide +kernel⟩
  | nm _ => exact ⟨fun _ => trivial, fun _ => show L2.inV (.str "name") [.str "number", .str "name"] = true by decide +kernel⟩
  | un w a => exact ⟨fun h => absurd h (show ¬ L2.inV (.str w.s) [.str "number", .str "name"] = true by cases w <;> decide +kernel), fun h => h.elim⟩
  | bin w a b => exact ⟨fun h => absurd h (show ¬ L2.inV (.str w.s) [.str "number", .str "name"] = true by cases w <;> decide +kernel), fun h => h.elim⟩
theorem at0 {x : V} {xs : List V} : atI (x :: xs) 0 = some x := atI_nat (j := 0) rfl
theorem at1 {x y : V} {xs : List V} : atI (x :: y :: xs) 1 = some y := atI_nat (j := 1) rfl
theorem at2 {x y z : V} {xs : List V} : atI (x :: y :: z :: xs) 2 = some z := atI_nat (j := 2) rfl
theorem EAt.head {H : Hp} {v : V} {e : Ex} (h : EAt H v e) : ∃ a xs, v = .ref a ∧ H a = some (.tup (.str e.word :: xs)) := by
  cases e with
  | num n => obtain ⟨a, rfl, h⟩ := h; exact ⟨a, _, rfl, h⟩
  | nm n => obtain ⟨a, rfl, h⟩ := h; exact ⟨a, _, rfl, h⟩
  | un w e => obtain ⟨a, _, rfl, h, _⟩ := h; exact ⟨a, _, rfl, h⟩
  | bin w e f => obtain ⟨a, _, _, rfl, h, _⟩ := h; exact ⟨a, _, rfl, h⟩
theorem EAt.first {H : Hp} {v : V} {e : Ex} (h : EAt H v e) (hl : ¬ isLeaf e) : ∃ a x v1 xs c, v = .ref a ∧ H a = some (.tup (x :: v1 :: xs)) ∧ e.fst = some c ∧ EAt H v1 c := by
  cases e with
  | num n => exact absurd trivial hl
  | nm n => exact absurd trivial hl
  | un w e => obtain ⟨a, v1, rfl, h, h1⟩ := h; exact ⟨a, _, v1, _, e, rfl, h, rfl, h1⟩
  | bin w e f => obtain ⟨a, v1, v2, rfl, h, h1, h2⟩ := h; exact ⟨a, _, v1, _, e, rfl, h, rfl, h1⟩
theorem Exs.same {H H' : Hp} (s : Same H H') : ∀ {vs : List V} {es : List Ex}, Exs H vs es → Exs H' vs es
  | _, _, .nil => .nil
  | _, _, .cons h r => .cons (h.same s) (Exs.same s r)
theorem Exs.but {p : Addr} {H H' : Hp} (s : But p H H') (hp : ∀ xs, H p ≠ some (.tup xs)) : ∀ {vs : List V} {es : List Ex}, Exs H vs es → Exs H' vs es
  | _, _, .nil => .nil
  | _, _, .cons h r => .cons (h.but s hp) (Exs.but s hp r)
theorem Exs.len {H : Hp} : ∀ {vs : List V} {es : List Ex}, Exs H vs es → vs.length = es.length
  | _, _, .nil => rfl
  | _, _, .cons h r => by rw [List.length_cons, List.length_cons, Exs.len r]
theorem Exs.at {H : Hp} : ∀ {vs : List V} {es : List Ex} {i : Nat} {x : V}, Exs H vs es → vs[i]? = some x → ∃ p r, es.drop i = p :: r ∧ r = es.drop (i + 1) ∧ EAt H x p
  | _, _, i, x, .nil, h => by simp at h
  | _, _, 0, x, .cons (e := e) (es := es) h r, q => by
    simp at q
    subst q
    exact ⟨e, es, rfl, rfl, h⟩
  | _, _, i + 1, x, .cons h r, q => by
    obtain ⟨p, r', h1, h2, h3⟩ := Exs.at (i := i) r (by simpa using q)
    exact ⟨p, r', h1, h2, h3⟩
section
variable {P : Program} {w : World} {K : PySem.W.Frag} {mg : Str → Option Value} {base : Heap} {C fI cc cda : Addr}
theorem scE : FnScope ["expression", "names", "operations", "part", "number", "operation", "word"] ["expression", "names"] (defScope sEval) := ⟨rfl, rfl, rfl, by decide +kernel, rfl, by decide +kernel, by decide +kernel⟩
theorem eval_zero {f : Addr} {fd : FuncData} : FnOk P w K mg base (L2.CX P w) 5 f fd ["expression", "names"] (spEval C 0) := by
  have no : ∀ vs H Q E, ¬ spEval C 0 vs H Q E := fun vs H Q E h => by
    obtain ⟨v, d, e, g, _, h, _⟩ := h
    exact absurd h (Nat.not_lt_zero _)
  exact ⟨fun vs H Q E h => absurd h (no vs H Q E), fun A outer s H args us vs Q E _ _ _ _ h => absurd h (no vs H Q E)⟩
theorem ok_eval_one {n : Nat} (hn : n ≤ 100) {f fL fJ : Addr} {fd fdL fdJ : FuncData} (F : Fun K "evaluate" "evaluate" sEval f fd) (T : Txt P K mg C fI cc cda) (LE : Cal K mg "evaluate" f fd ["expression", "names"])
    (GE : FnOk P w K mg base (L2.CX P w) (5 + n) f fd ["expression", "names"] (spEval C n))
    (GL : FnOk P w K mg base (L2.CX P w) 4 fL fdL ["leaf", "names"] (spLeaf C)) (LL : Cal K mg "_value_of_leaf" fL fdL ["leaf", "names"])
    (GJ : FnOk P w K mg base (L2.CX P w) 5 fJ fdJ ["word", "first", "second"] (spJoin C)) (LJ : Cal K mg "_joined" fJ fdJ ["word", "first", "second"]) :
    FnOk P w K mg base (L2.CX P w) (5 + (n + 1)) f fd ["expression", "names"] (spEval C (n + 1)) := by
  refine F.okX scE (fun vs H Q E h => ?_) (fun cdv A outer s H vs Q E hr h => ?_)
  · obtain ⟨v, d, e, g, rfl, _⟩ := h
    rfl
  · obtain ⟨v0, d, e0, g, rfl, hdep, he0, hd, hg, h⟩ := h
    have hr4 : Room 4 _ := hr.mono (show _ ≤ 5 + n by omega)
    have hr5 : Room 5 _ := hr.mono (show _ ≤ 5 + n by omega)
    refine ⟨_, (pss_cons (ps_set (i := 2) scE.nd rfl (Or.inl rfl) (pe_lst pa_nil))
       (pss_cons (ps_set (i := 3) scE.nd rfl (Or.inl rfl) (pv 0))
       (pss_cons (ps_while (passes_of rfl) (pt_cmpR op_notIn_seq (pe_ix ix_tup (pv 3) pe_int (fun _ _ => rfl)) (pe_tup (pa_cons pe_str (pa_cons pe_str pa_nil))) (by rfl))
       (pss_cons (ps_expr (pe_bm PySem.F.plainAttrs_list PySem.F.slot_list_append PySem.F.type_list_append mt_append (pv 2) (pa_cons (pv 3) pa_nil)))
       (pss_one (ps_set (i := 3) scE.nd rfl (Or.inl rfl) (pe_ix ix_tup (pv 3) pe_int (fun _ _ => rfl))))))
       (pss_cons (ps_set (i := 4) scE.nd rfl (Or.inl rfl) (pe_call GL hr4 rfl LL.g LL.k LL.b .nil passX (pa_cons (pv 3) (pa_cons (pv 1) pa_nil))))
       (pss_cons (ps_for (passes_of rfl) rfl (pi_reversed rfl T.zrev (pa_cons (pv 2) pa_nil)) (pg_name (i := 5) scE.nd rfl (Or.inl rfl))
       (pss_cons (ps_set (i := 6) scE.nd rfl (Or.inl rfl) (pe_ix ix_tup (pv 5) pe_int (fun _ _ => rfl)))
       (pss_one (ps_if (pt_cmpR op_eq (pv 6) pe_str (nomark _))
       (pss_one (ps_set (i := 4) scE.nd rfl (Or.inl rfl) (pe_un un_neg (pv 4))))
       (pss_one (ps_if (pt_cmpR op_eq (pv 6) pe_str (nomark _))
       (pss_one (ps_set (i := 4) scE.nd rfl (Or.inl rfl) (pe_callTy call_int1 rfl T.zint boot_int0 (pa_cons (pe_cmpR op_eq (pv 4) pe_int (nomark _)) pa_nil))))
       (pss_one (ps_if (PW.pt (pw_and (pt_cmpR op_eq (pv 6) pe_str (nomark _)) (pw_and1 (pt_cmpR op_eq (pv 4) pe_int (nomark _)))))
       (pss_one (ps_set (i := 4) scE.nd rfl (Or.inl rfl) pe_int))
       (pss_one (ps_if (PW.pt (pw_and (pt_cmpR op_eq (pv 6) pe_str (nomark _)) (pw_and1 (pt_cmpR op_ne (pv 4) pe_int (nomark _)))))
       (pss_one (ps_set (i := 4) scE.nd rfl (Or.inl rfl) pe_int))
       (pss_one (ps_set (i := 4) scE.nd rfl (Or.inl rfl) (pe_call GJ hr5 rfl LJ.g LJ.k LJ.b .nil passX (pa_cons (pv 6) (pa_cons (pv 4) (pa_cons (pe_call GE hr rfl LE.g LE.k LE.b .nil passX (pa_cons (pe_ix ix_tup (pv 5) pe_int (fun _ _ => rfl)) (pa_cons (pv 1) pa_nil))) pa_nil))))))))))))))))
       (pss_one (ps_ret (pv 4)))))))), ?_⟩
    refine ⟨(by show 0 ≤ sizeLine; decide), fun o ho => ?_⟩
    have so := same_new ho (.lst [])
    refine ⟨_, rfl, ?_⟩
    refine ⟨fun m σ H1 => ∃ (v : V) (c : Ex) (us : List V) (r : List Ex), σ = [some v0, some (.ref d), some (.ref o), some v, none, none, none] ∧ c.dep = m ∧ But o (upd H o (.lst [])) H1 ∧ H1 o = some (.lst us) ∧ EAt H1 v c ∧ Exs H1 us.reverse r ∧ Up e0 c r,
      ⟨e0.dep, v0, e0, [], [], rfl, rfl, fun _ _ _ h => h, upd_same, he0.same so, .nil, rfl⟩, ?_⟩
    rintro m σ H1 ⟨v, c, us, r, rfl, rfl, sb, hus, hec, hes, hup⟩
    have hS : Same H H1 := fun b u q => sb b u (ne_of_none q ho) (so b u q)
    obtain ⟨a, xs, rfl, ha⟩ := hec.head
    have notO : ∀ xs, H1 o ≠ some (.tup xs) := fun xs z => by rw [hus] at z; cases z
    refine ⟨_, rfl, a, _, _, _, rfl, rfl, SqT.of ha, at0, (by show 2 ≤ sizeLine; decide), fun p hp => ?_⟩
    have sp1 := same_new hp (.tup [.str "number", .str "name"])
    refine ⟨p, _, rfl, .inr (SqT.of upd_same), rfl, rfl, _, rfl, ?_⟩
    by_cases hl : isLeaf c
    · -- the leaf: its value, then back
      refine if_false_of (by show (!L2.inV (.str c.word) [.str "number", .str "name"]) = false; rw [word_in.mpr hl]; rfl) ?_
      have hS2 := hS.trans sp1
      refine ⟨_, rfl, _, rfl, .ref a, d, c, g, rfl, hl, hec.same sp1, hS2 _ _ hd, ?_⟩
      cases hv : val g c with
      | err x =>
        have q := hup.err hv
        rw [q] at h
        exact Fl.same hS2 h
      | ok n0 =>
        intro H2 s2
        have hS3 := hS2.trans s2
        have hes2 := (hes.same sp1).same s2
        have ho2 : H2 o = some (.lst us) := s2 _ _ (sp1 _ _ hus)
        have hlen : us.length = r.length := by rw [← hes.len, List.length_reverse]
        refine ⟨_, rfl, o, us, rfl, SqL.of ho2, for_it (w := walk_rev) (fun i σ H3 => ∃ (c : Ex) (n : Int) (y z : Option V), σ = [some v0, some (.ref d), some (.ref o), some (.ref a), some (.int n), y, z] ∧ Same H2 H3 ∧ Up e0 c (r.drop i) ∧ val g c = .ok n)
          ⟨c, n0, none, none, rfl, Same.refl _, hup, hv⟩ (fun i σ H3 _ ⟨_, _, _, _, _, s3, _⟩ => SqL.of (s3 _ _ ho2)) ?_ ?_⟩
        · rintro i x σ H3 H3' hi ⟨c, n1, y, z, rfl, s3, hup3, hv3⟩ ⟨rfl, hx⟩
          have hx : us[us.length - 1 - i]? = some x := hx
          have hxr : us.reverse[i]? = some x := by
            rw [List.getElem?_reverse hi]
            exact hx
          obtain ⟨p2, r2, hdr, hr2, hxp⟩ := hes2.at hxr
          rw [hdr] at hup3
          obtain ⟨hf, hup4⟩ := hup3
          rw [hr2] at hup4
          have hdp := hup4.dep
          have hS4 := hS3.trans s3
          have hxp3 := hxp.same s3
          have hd3 := hS4 _ _ hd
          -- the turn's end
          have fin : ∀ (n2 : Int) (y' z' : Option V) (H4 : Hp), val g p2 = .ok n2 → Same H3' H4 → ∃ (c : Ex) (n : Int) (y z : Option V), [some v0, some (.ref d), some (.ref o), some (.ref a), some (.int n2), y', z'] = [some v0, some (.ref d), some (.ref o), some (.ref a), some (.int n), y, z] ∧ Same H2 H4 ∧ Up e0 c (r.drop (i + 1)) ∧ val g c = .ok n :=
            fun n2 y' z' H4 e s4 => ⟨p2, n2, y', z', rfl, s3.trans s4, hup4, e⟩
          have hn1 : inV n1 := by
            have q := val_good hg c
            rw [hv3] at q
            exact q
          cases p2 with
          | num _ => cases hf
          | nm _ => cases hf
          | un u b =>
            cases hf
            have hval : val g (.un u c) = ustep u n1 := by show (val g c).bind _ = _; rw [hv3]; rfl
            obtain ⟨a2, v2, rfl, ha2, h2⟩ := hxp3
            cases u with
            | neg => exact ⟨_, rfl, a2, _, _, _, rfl, rfl, SqT.of ha2, at0, _, rfl, rfl, _, rfl, ifT (by decide +kernel) ⟨_, rfl, _, rfl, fin _ _ _ _ hval (Same.refl _)⟩⟩
            | no =>
              refine ⟨_, rfl, a2, _, _, _, rfl, rfl, SqT.of ha2, at0, _, rfl, rfl, _, rfl, ifF (by decide +kernel) ⟨_, rfl, rfl, _, rfl, ifT (by decide +kernel) ⟨_, rfl, rfl, .inr ⟨_, rfl, ?_⟩⟩⟩⟩
              refine fin _ _ _ _ ?_ (Same.refl _)
              rw [dec_int]
              exact hval
          | bin u b b2 =>
            cases hf
            have hval : val g (.bin u c b2) = step u n1 (val g b2) := by show (val g c).bind _ = _; rw [hv3]; rfl
            obtain ⟨a2, v2, v3, rfl, ha2, h2, h3⟩ := hxp3
            have hdb : b2.dep < n := by
              have q : b2.dep ≤ max c.dep b2.dep := Nat.le_max_right _ _
              have q2 : max c.dep b2.dep + 1 + (r.drop (i + 1)).length ≤ e0.dep := hdp
              omega
            have go : (u = .and ∧ n1 = 0) ∨ (u = .or ∧ ¬ n1 = 0) ∨ (step u n1 (val g b2) = both u n1 (val g b2) ∧ ¬ (u = .and ∧ n1 = 0) ∧ ¬ (u = .or ∧ ¬ n1 = 0)) := by
              by_cases h0 : n1 = 0
              · by_cases hu : u = .and
                · exact .inl ⟨hu, h0⟩
                · refine .inr (.inr ⟨?_, fun z => hu z.1, fun z => z.2 h0⟩)
                  cases u with
                  | or => exact if_pos h0
                  | and => exact absurd rfl hu
                  | _ => rfl
              · by_cases hu : u = .or
                · exact .inr (.inl ⟨hu, h0⟩)
                · refine .inr (.inr ⟨?_, fun z => h0 z.2, fun z => hu z.1⟩)
                  cases u with
                  | or => exact absurd rfl hu
                  | and => exact if_neg h0
                  | _ => rfl
            rcases go with ⟨rfl, h0⟩ | ⟨rfl, h0⟩ | ⟨hboth, na, no⟩
            · have e : step .and n1 (val g b2) = .ok 0 := if_pos h0
              exact ⟨_, rfl, a2, _, _, _, rfl, rfl, SqT.of ha2, at0, _, rfl, rfl, _, rfl, ifF (by decide +kernel) ⟨_, rfl, rfl, _, rfl, ifF (by decide +kernel) ⟨_, rfl, rfl, _, rfl, ifT (by decide +kernel) ⟨_, rfl, rfl, _, rfl, ifT (int_eq.mpr h0) (fin _ _ _ _ (hval.trans e) (Same.refl _))⟩⟩⟩⟩
            · have e : step .or n1 (val g b2) = .ok 1 := if_neg h0
              exact ⟨_, rfl, a2, _, _, _, rfl, rfl, SqT.of ha2, at0, _, rfl, rfl, _, rfl, ifF (by decide +kernel) ⟨_, rfl, rfl, _, rfl, ifF (by decide +kernel) ⟨_, rfl, rfl, _, rfl, ifF (by decide +kernel) (iteF ⟨_, rfl, rfl, _, rfl, ifT (by decide +kernel) ⟨_, rfl, rfl, _, rfl, ifNT (fun z => h0 (int_eq.mp z)) (fin _ _ _ _ (hval.trans e) (Same.refl _))⟩⟩)⟩⟩⟩
            · rw [hboth] at hval
              cases u
              case and =>
                have h0 : ¬ n1 = 0 := fun z => na ⟨rfl, z⟩
                refine ⟨_, rfl, a2, _, _, _, rfl, rfl, SqT.of ha2, at0, _, rfl, rfl, _, rfl, ifF (by decide +kernel) ⟨_, rfl, rfl, _, rfl, ifF (by decide +kernel) ⟨_, rfl, rfl, _, rfl, ifT (by decide +kernel) ⟨_, rfl, rfl, _, rfl, ifF (fun z => h0 (int_eq.mp z)) ⟨_, rfl, rfl, _, rfl, ifF (by decide +kernel) (iteF ?_)⟩⟩⟩⟩⟩
                refine ⟨_, rfl, _, rfl, _, rfl, a2, _, _, _, rfl, rfl, SqT.of ha2, at2, _, rfl, v3, d, b2, g, rfl, hdb, h3, hd3, hg, ?_⟩
                cases hvb : val g b2 with
                | err x =>
                  rw [hvb] at hval
                  have q := hup4.err hval
                  rw [q] at h
                  exact Fl.same hS4 h
                | ok nb =>
                  have hnb : inV nb := by
                    have q := val_good hg b2
                    rw [hvb] at q
                    exact q
                  rw [hvb] at hval
                  refine fun H4 s4 => ⟨_, n1, nb, rfl, hn1, hnb, ?_⟩
                  rw [both_ok] at hval
                  revert hval
                  generalize op _ n1 nb = ro
                  intro hval
                  cases ro with
                  | ok n2 => exact fun H5 s5 => fin _ _ _ _ hval (s4.trans s5)
                  | err x =>
                    have q := hup4.err hval
                    rw [q] at h
                    exact Fl.same (hS4.trans s4) h
              case or =>
                have h0 : n1 = 0 := Decidable.byContradiction fun z => no ⟨rfl, z⟩
                refine ⟨_, rfl, a2, _, _, _, rfl, rfl, SqT.of ha2, at0, _, rfl, rfl, _, rfl, ifF (by decide +kernel) ⟨_, rfl, rfl, _, rfl, ifF (by decide +kernel) ⟨_, rfl, rfl, _, rfl, ifF (by decide +kernel) (iteF ⟨_, rfl, rfl, _, rfl, ifT (by decide +kernel) ⟨_, rfl, rfl, _, rfl, ifNF (int_eq.mpr h0) ?_⟩⟩)⟩⟩⟩
                refine ⟨_, rfl, _, rfl, _, rfl, a2, _, _, _, rfl, rfl, SqT.of ha2, at2, _, rfl, v3, d, b2, g, rfl, hdb, h3, hd3, hg, ?_⟩
                cases hvb : val g b2 with
                | err x =>
                  rw [hvb] at hval
                  have q := hup4.err hval
                  rw [q] at h
                  exact Fl.same hS4 h
                | ok nb =>
                  have hnb : inV nb := by
                    have q := val_good hg b2
                    rw [hvb] at q
                    exact q
                  rw [hvb] at hval
                  refine fun H4 s4 => ⟨_, n1, nb, rfl, hn1, hnb, ?_⟩
                  rw [both_ok] at hval
                  revert hval
                  generalize op _ n1 nb = ro
                  intro hval
                  cases ro with
                  | ok n2 => exact fun H5 s5 => fin _ _ _ _ hval (s4.trans s5)
                  | err x =>
                    have q := hup4.err hval
                    rw [q] at h
                    exact Fl.same (hS4.trans s4) h
              all_goals
                refine ⟨_, rfl, a2, _, _, _, rfl, rfl, SqT.of ha2, at0, _, rfl, rfl, _, rfl, ifF (by decide +kernel) ⟨_, rfl, rfl, _, rfl, ifF (by decide +kernel) ⟨_, rfl, rfl, _, rfl, ifF (by decide +kernel) (iteF ⟨_, rfl, rfl, _, rfl, ifF (by decide +kernel) (iteF ?_)⟩)⟩⟩⟩
                refine ⟨_, rfl, _, rfl, _, rfl, a2, _, _, _, rfl, rfl, SqT.of ha2, at2, _, rfl, v3, d, b2, g, rfl, hdb, h3, hd3, hg, ?_⟩
                cases hvb : val g b2 with
                | err x =>
                  rw [hvb] at hval
                  have q := hup4.err hval
                  rw [q] at h
                  exact Fl.same hS4 h
                | ok nb =>
                  have hnb : inV nb := by
                    have q := val_good hg b2
                    rw [hvb] at q
                    exact q
                  rw [hvb] at hval
                  refine fun H4 s4 => ⟨_, n1, nb, rfl, hn1, hnb, ?_⟩
                  rw [both_ok] at hval
                  revert hval
                  generalize op _ n1 nb = ro
                  intro hval
                  cases ro with
                  | ok n2 => exact fun H5 s5 => fin _ _ _ _ hval (s4.trans s5)
                  | err x =>
                    have q := hup4.err hval
                    rw [q] at h
                    exact Fl.same (hS4.trans s4) h
        · rintro σ H3 ⟨c, n1, y, z, rfl, s3, hup3, hv3⟩
          rw [hlen, List.drop_length] at hup3
          have e : c = e0 := hup3
          subst e
          rw [hv3] at h
          exact ⟨_, rfl, h H3 (hS3.trans s3)⟩
    · refine if_true_of (by show (!L2.inV (.str c.word) [.str "number", .str "name"]) = true; rw [Bool.eq_false_iff.mpr (fun z => hl (word_in.mp z))]; rfl) ?_
      obtain ⟨a', x, v1, ys, c', e1, hfa, hfst, h1⟩ := hec.first hl
      cases e1
      have hd1 := fst_dep hfst
      have hud := hup.dep
      have hlen : us.length = r.length := by rw [← hes.len, List.length_reverse]
      refine ⟨fun σ' H' => σ' = [some v0, some (.ref d), some (.ref o), some v1, none, none, none] ∧ H' = upd (upd H1 p (.tup [.str "number", .str "name"])) o (.lst (us ++ [.ref a])), ?_, ?_⟩
      · rintro σ' H' ⟨rfl, rfl⟩
        have bo : But o H1 (upd (upd H1 p (.tup [.str "number", .str "name"])) o (.lst (us ++ [.ref a]))) := (Same.but sp1).trans (but_upd _)
        refine ⟨c'.dep, hd1, v1, c', us ++ [.ref a], c :: r, rfl, rfl, sb.trans bo, upd_same, h1.but bo notO, ?_, hfst, hup⟩
        rw [List.reverse_append]
        exact .cons (hec.but bo notO) (hes.but bo notO)
      · refine ⟨_, rfl, .inl ⟨rfl, _, SqL.of (sp1 _ _ hus)⟩, _, rfl, o, us, _, rfl, rfl, sp1 _ _ hus, small1000 (by omega), ?_⟩
        have nao : a ≠ o := fun z => notO _ (by rw [← z]; exact hfa)
        exact ⟨_, rfl, a, _, _, _, rfl, rfl, SqT.of ((upd_ne nao).trans (sp1 _ _ hfa)), at1, rfl, rfl⟩
theorem ok_eval {f fL fJ : Addr} {fd fdL fdJ : FuncData} (F : Fun K "evaluate" "evaluate" sEval f fd) (T : Txt P K mg C fI cc cda) (LE : Cal K mg "evaluate" f fd ["expression", "names"])
    (GL : FnOk P w K mg base (L2.CX P w) 4 fL fdL ["leaf", "names"] (spLeaf C)) (LL : Cal K mg "_value_of_leaf" fL fdL ["leaf", "names"])
    (GJ : FnOk P w K mg base (L2.CX P w) 5 fJ fdJ ["word", "first", "second"] (spJoin C)) (LJ : Cal K mg "_joined" fJ fdJ ["word", "first", "second"]) :
    ∀ n, n ≤ 100 → FnOk P w K mg base (L2.CX P w) (5 + n) f fd ["expression", "names"] (spEval C n)
  | 0, _ => eval_zero
  | n + 1, h => ok_eval_one (by omega) F T LE (ok_eval F T LE GL LL GJ LJ n (by omega)) GL LL GJ LJ
theorem scA : FnScope ["expressions", "names", "expression"] ["expressions", "names"] (defScope sAll) := ⟨rfl, rfl, rfl, by decide +kernel, rfl, by decide +kernel, by decide +kernel⟩
theorem valAll_app {g : Env} : ∀ {es : List Ex} {e : Ex}, valAll g (es ++ [e]) = match valAll g es with | .err r => .err r | .ok ns => (match val g e with | .err r => .err r | .ok n => .ok (ns ++ [n]))
  | [], e => by
    show valAll g [e] = _
    unfold valAll
    cases val g e <;> rfl
  | a :: es, e => by
    have ih := valAll_app (g := g) (es := es) (e := e)
    show valAll g (a :: (es ++ [e])) = _
    unfold valAll
    cases val g a with
    | err r => rfl
    | ok n =>
      dsimp only
      rw [ih]
      cases valAll g es with
      | err r => rfl
      | ok ns => cases val g e <;> rfl
theorem valAll_err {g : Env} {r : Rs} : ∀ {es fs : List Ex}, valAll g es = .err r → valAll g (es ++ fs) = .err r
  | [], _, h => by cases h
  | a :: es, fs, h => by
    show valAll g (a :: (es ++ fs)) = _
    unfold valAll at h ⊢
    cases e : val g a with
    | err q => rw [e] at h; exact h
    | ok n =>
      rw [e] at h
      dsimp only at h ⊢
      cases e2 : valAll g es with
      | err q =>
        rw [e2] at h
        cases h
        rw [valAll_err e2]
      | ok ns => rw [e2] at h; cases h
theorem ok_all {n : Nat} {f fE : Addr} {fd fdE : FuncData} (F : Fun K "evaluate_all" "evaluate_all" sAll f fd) (T : Txt P K mg C fI cc cda)
    (GE : FnOk P w K mg base (L2.CX P w) (5 + n) fE fdE ["expression", "names"] (spEval C n)) (LE : Cal K mg "evaluate" fE fdE ["expression", "names"]) :
    FnOk P w K mg base (L2.CX P w) (5 + n + 1) f fd ["expressions", "names"] (spAll K C n) := by
  refine F.okX scA (fun vs H Q E h => ?_) (fun cdv A outer s H vs Q E hr h => ?_)
  · obtain ⟨l, d, us, es, g, rfl, _⟩ := h
    rfl
  · obtain ⟨l, d, us, es, g, rfl, hl, h100, hes, hdep, hd, hg, h⟩ := h
    refine ⟨_, (pss_one (ps_ret (pe_callTy call_tuple_of rfl T.ztuple boot_tuple0 (pa_cons
      (pe_lcX (E := E) (own := [("expression", 2)]) (g := gName 2) (tt := tYes) rfl rfl takesX (fun _ _ _ _ h => h) rfl scA.nd (pi_list (pv 0)) (blkOk_by (own := [("expression", 2)]) (N := ["expressions", "names", "expression"]) (sc := defScope sAll) (by decide +kernel))
        (fun _ _ _ _ _ => pg_name (i := 2) scA.nd rfl (Or.inl rfl)) (fun _ _ _ _ _ => pts_nil)
        (fun _ _ _ _ _ pn xe ps => pe_call GE hr rfl LE.g LE.k LE.b .nil ps (pa_cons (pv 2) (pa_cons (pv 1) pa_nil)))) pa_nil)))), ?_⟩
    refine ⟨_, rfl, l, rfl, ⟨_, hl⟩, fun D hD => lc_list (K := K) (a := l) (xs := us) (fun i H' => ∃ ns, Same H H' ∧ valAll g (es.take i) = .ok ns ∧ H' D = some (.lst (ns.map V.int)) ∧ ns.length = i)
      ⟨[], same_new hD _, rfl, upd_same, rfl⟩ (fun i H' _ ⟨_, s1, _⟩ => s1.seq hl) ?_ ?_⟩
    · rintro i x H' hx ⟨ns, s1, hv, hD', hlen⟩
      have hi : i < us.length := (List.getElem?_eq_some_iff.mp hx).1
      obtain ⟨p, r, hdr, hr2, hxp⟩ := hes.at hx
      have hpe : es[i]? = some p := by
        have q : (es.drop i)[0]? = some p := by rw [hdr]; rfl
        rw [List.getElem?_drop] at q
        exact q
      have htake : es.take (i + 1) = es.take i ++ [p] := by
        rw [List.take_add_one, hpe]
        rfl
      have hsplit : es = es.take (i + 1) ++ es.drop (i + 1) := (List.take_append_drop _ _).symm
      have hnext := valAll_app (g := g) (es := es.take i) (e := p)
      rw [← htake, hv] at hnext
      refine ⟨rfl, ?_⟩
      dsimp only [tYes]
      rw [if_pos rfl]
      refine ⟨_, rfl, _, rfl, x, d, p, g, rfl, hdep p (List.mem_of_getElem? hpe), hxp.same s1, s1 _ _ hd, hg, ?_⟩
      cases hvp : val g p with
      | err q =>
        rw [hvp] at hnext
        have z := valAll_err (fs := es.drop (i + 1)) hnext
        rw [← hsplit] at z
        rw [z] at h
        exact Fl.same s1 h
      | ok n0 =>
        rw [hvp] at hnext
        intro H2 s2
        have hD2 := s2 _ _ hD'
        refine ⟨ns.map V.int, hD2, by rw [List.length_map]; exact small1000 (by omega), ns ++ [n0], fun b o hb => ?_, hnext, ?_, by rw [List.length_append, hlen]; rfl⟩
        · rw [upd_ne (ne_of_none hb hD)]
          exact s2 _ _ (s1 _ _ hb)
        · rw [upd_same, List.map_append]
          rfl
    · rintro H' ⟨ns, s1, hv, hD', hlen⟩
      rw [hes.len, List.take_length] at hv
      rw [hv] at h
      refine ⟨D, _, rfl, .inl ⟨SqL.of hD', fun t ht => ?_⟩⟩
      exact h _ t (s1.trans (same_new ht _)) (s1.free ht) upd_same
end
end K8
namespace K8
open PySem PySem.Spec L2 RX
theorem But.seq {K : PySem.W.Frag} {p : Addr} {H H' : Hp} {a : Addr} {xs : List V} (e : But p H H') (n : a ≠ p) (h : SqL K H a xs) : SqL K H' a xs := by
  rcases h with (h | ⟨o, h⟩) | h
  · exact .inl (.inl (e _ _ n h))
  · exact .inl (.inr ⟨o, e _ _ n h⟩)
  · exact .inr h
/-- a list of drawn numbers' state stands at p -/
def StAt (K : PySem.W.Frag) (l : Addr) (H : Hp) (p : Addr) : Prop := ∃ (ns : List Int) (a b c e : Int), H p = some (.lst [.ref l, .int a, .int b, .int c, .int e]) ∧ SqL K H l (ns.map V.int) ∧ 0 ≤ a ∧ l ≠ p
theorem StAt.same {K : PySem.W.Frag} {l : Addr} {H H' : Hp} {p : Addr} (s : Same H H') (h : StAt K l H p) : StAt K l H' p := by
  obtain ⟨ns, a, b, c, e, h1, h2, h3, h4⟩ := h
  exact ⟨ns, a, b, c, e, s _ _ h1, s.seq h2, h3, h4⟩
theorem StAt.notup {K : PySem.W.Frag} {l : Addr} {H : Hp} {p : Addr} (h : StAt K l H p) : ∀ xs, H p ≠ some (.tup xs) := fun xs z => by
  obtain ⟨ns, a, b, c, e, h1, _⟩ := h
  rw [h1] at z
  cases z
def spState (K : PySem.W.Frag) : Sp := fun vs H Q _ => ∃ (l : Addr) (ns : List Int), vs = [.ref l] ∧ SqL K H l (ns.map V.int) ∧ ∀ p l2 H', Same H H' → H p = none → StAt K l2 H' p → Q (.ref p) H'
def spDraw (K : PySem.W.Frag) (l : Addr) : Sp := fun vs H Q _ => ∃ (p : Addr) (m : Int), vs = [.ref p, .int m] ∧ StAt K l H p ∧ 0 < m ∧ m < 1000000 ∧ ∀ r H', 0 ≤ r → r < m → But p H H' → StAt K l H' p → Q (.int r) H'
def spNum (K : PySem.W.Frag) (l : Addr) : Sp := fun vs H Q _ => ∃ (p : Addr), vs = [.ref p] ∧ StAt K l H p ∧ ∀ r H', But p H H' → StAt K l H' p → Q (.int r) H'
def spExp (K : PySem.W.Frag) (l : Addr) (n : Nat) : Sp := fun vs H Q _ => ∃ (p q : Addr) (d : Int), vs = [.ref p, .ref q, .int d] ∧ StAt K l H p ∧ SqL K H q [.str "n", .str "x", .str "k"] ∧ q ≠ p ∧ 0 ≤ d ∧ d < n ∧ ∀ v e H', But p H H' → StAt K l H' p → EAt H' v e → (e.dep : Int) ≤ d → Q v H'
theorem l0 {x : V} {xs : List V} : atI (x :: xs) 0 = some x := at0
theorem l3 {x y z u : V} {xs : List V} : atI (x :: y :: z :: u :: xs) 3 = some u := atI_nat (j := 3) rfl
theorem l4 {x y z u v : V} {xs : List V} : atI (x :: y :: z :: u :: v :: xs) 4 = some v := atI_nat (j := 4) rfl
section
variable {P : Program} {w : World} {K : PySem.W.Frag} {mg : Str → Option Value} {base : Heap} {C fI cc cda l : Addr}
theorem scSt : FnScope ["script"] ["script"] (defScope sState) := ⟨rfl, rfl, rfl, by decide +kernel, rfl, by decide +kernel, by decide +kernel⟩
theorem ok_state {f : Addr} {fd : FuncData} (F : Fun K "_law_state" "_law_state" sState f fd) (T : Txt P K mg C fI cc cda) : FnOk P w K mg base CX0 1 f fd ["script"] (spState K) := by
  refine F.ok scSt (fun vs H Q E h => ?_) (fun cdv A outer s H vs Q E hr h => ?_)
  · obtain ⟨l, ns, rfl, _⟩ := h
    rfl
  · obtain ⟨l, ns, rfl, hl, k⟩ := h
    refine ⟨_, (pss_one (ps_ret (pe_lst (pa_cons (pe_callTy call_list_of rfl T.zlist boot_list0 (pa_cons (pv 0) pa_nil)) (pa_cons pe_int (pa_cons pe_int (pa_cons pe_int (pa_cons pe_int pa_nil)))))))), ?_⟩
    refine ⟨_, rfl, l, _, rfl, .inl hl, fun l2 hl2 => ⟨(by show 5 ≤ sizeLine; decide), fun p hp => ?_⟩⟩
    have s1 := same_new hl2 (.lst (ns.map V.int))
    have s2 := same_new hp (.lst [.ref l2, .int 0, .int 0, .int 1, .int 0])
    refine k p l2 _ (s1.trans s2) (s1.free hp) ⟨ns, 0, 0, 1, 0, upd_same, s2.seq (SqL.of upd_same), Int.le_refl 0, ?_⟩
    exact ne_of_none (H := upd H l2 (.lst (ns.map V.int))) upd_same hp
theorem scDr : FnScope ["state", "many", "value", "cell", "first"] ["state", "many"] (defScope sDraw) := ⟨rfl, rfl, rfl, by decide +kernel, rfl, by decide +kernel, by decide +kernel⟩
theorem ok_draw {f : Addr} {fd : FuncData} (F : Fun K "_law_draw" "_law_draw" sDraw f fd) (T : Txt P K mg C fI cc cda) : FnOk P w K mg base CX0 1 f fd ["state", "many"] (spDraw K l) := by
  refine F.ok scDr (fun vs H Q E h => ?_) (fun cdv A outer s H vs Q E hr h => ?_)
  · obtain ⟨p, m, rfl, _⟩ := h
    rfl
  · obtain ⟨p, m, rfl, hS, hm0, hm1, k⟩ := h
    refine ⟨_, (pss_cons (ps_if (PW.pt (pw_and (pt_cmpR op_gt (pe_ix ix_list (pv 0) pe_int (fun _ _ => rfl)) pe_int (nomark _)) (pw_and1 (pt_cmpR op_gt (pe_ix ix_list (pv 0) pe_int (fun _ _ => rfl)) pe_int (nomark _)))))
       (pss_cons (ps_set (i := 2) scDr.nd rfl (Or.inl rfl) (pe_op op_modN (pe_callTy call_int1 rfl T.zint boot_int0 (pa_cons (pe_ix ix_list (pv 0) pe_int (fun _ _ => rfl)) pa_nil)) (pv 1)))
       (pss_cons (ps_asg (pe_op op_fdivN (pe_ix ix_list (pv 0) pe_int (fun _ _ => rfl)) (pv 1)) (pg_sub (pv 0) pe_int set_list))
       (pss_cons (ps_asg (pe_op op_sub (pe_ix ix_list (pv 0) pe_int (fun _ _ => rfl)) pe_int) (pg_sub (pv 0) pe_int set_list))
       (pss_one (ps_ret (pv 2))))))
       pss_nil)
       (pss_cons (ps_set (i := 3) scDr.nd rfl (Or.inl rfl) (pe_op op_add (pe_ix ix_list (pv 0) pe_int (fun _ _ => rfl)) (pe_op op_mul pe_int (pe_ix ix_list (pv 0) pe_int (fun _ _ => rfl)))))
       (pss_cons (ps_if (pt_cmpR op_lt (pe_ix ix_list (pv 0) pe_int (fun _ _ => rfl)) (pe_callB call_len_seq rfl T.zlen PySem.boot_len (pa_cons (pe_ix ix_list (pv 0) pe_int (fun _ _ => rfl)) pa_nil)) (nomark _))
       (pss_one (ps_set (i := 3) scDr.nd rfl (Or.inl rfl) (pe_ix ix_list (pe_ix ix_list (pv 0) pe_int (fun _ _ => rfl)) (pe_ix ix_list (pv 0) pe_int (fun _ _ => rfl)) (fun _ _ => rfl))))
       pss_nil)
       (pss_cons (ps_asg (pe_op op_add (pe_ix ix_list (pv 0) pe_int (fun _ _ => rfl)) pe_int) (pg_sub (pv 0) pe_int set_list))
       (pss_cons (ps_if (pt_cmpR op_ge (pv 3) (pe_op op_pow pe_int pe_int) (nomark _))
       (pss_cons (ps_asg (pe_op op_fdivN (pv 3) (pv 1)) (pg_sub (pv 0) pe_int set_list))
       (pss_cons (ps_asg pe_int (pg_sub (pv 0) pe_int set_list))
       (pss_one (ps_ret (pe_op op_modN (pe_callTy call_int1 rfl T.zint boot_int0 (pa_cons (pv 3) pa_nil)) (pv 1))))))
       pss_nil)
       (pss_cons (ps_set (i := 4) scDr.nd rfl (Or.inl rfl) (pe_op op_modN (pe_callTy call_int1 rfl T.zint boot_int0 (pa_cons (pe_op op_add (pe_op op_add (pe_op op_mul (pv 3) pe_int) (pe_op op_mul (pe_ix ix_list (pv 0) pe_int (fun _ _ => rfl)) pe_int)) (pe_ix ix_list (pv 0) pe_int (fun _ _ => rfl))) pa_nil)) pe_int))
       (pss_cons (ps_asg (pe_op op_modN (pe_callTy call_int1 rfl T.zint boot_int0 (pa_cons (pe_op op_add (pe_op op_add (pe_op op_mul (pv 4) pe_int) (pe_op op_mul (pv 4) (pv 4))) pe_int) pa_nil)) pe_int) (pg_sub (pv 0) pe_int set_list))
       (pss_one (ps_ret (pe_op op_modN (pe_callTy call_int1 rfl T.zint boot_int0 (pa_cons (pe_op op_fdivN (pe_ix ix_list (pv 0) pe_int (fun _ _ => rfl)) pe_int) pa_nil)) (pv 1))))))))))), ?_⟩
    obtain ⟨ns, a, b, c, e, hp, hl, ha, hlp⟩ := hS
    have hm : m ≠ 0 := by omega
    have hdm : ∀ i, CDivN i m := fun i => ⟨hm, by omega⟩
    have r0 : ∀ i : Int, 0 ≤ i.fmod m := fun i => Int.fmod_nonneg_of_pos i hm0
    have r1 : ∀ i : Int, i.fmod m < m := fun i => Int.fmod_lt_of_pos i hm0
    have fin : ∀ (r : Int) (H' : Hp) (a' b' c' e' : Int), 0 ≤ r → r < m → 0 ≤ a' → But p H H' → H' p = some (.lst [.ref l, .int a', .int b', .int c', .int e']) → Q (.int r) H' := fun r H' a' b' c' e' h0 h1 ha' hb hp' =>
      k r H' h0 h1 hb ⟨ns, a', b', c', e', hp', hb.seq hlp hl, ha', hlp⟩
    have mulR : ∀ {i j : Int}, -(2 ^ 64) < j → j < 2 ^ 64 → CMul i j := fun h1 h2 => .inr ⟨h1, h2⟩
    -- state[4] > 0 and state[2] > 0
    refine ⟨_, rfl, p, _, _, _, rfl, rfl, SqL.of hp, l4, _, _, rfl, rfl, _, rfl, ?_⟩
    by_cases h1 : 0 < e
    · refine ifT h1 ⟨_, rfl, p, _, _, _, rfl, rfl, SqL.of hp, at2, _, _, rfl, rfl, _, rfl, ?_⟩
      by_cases h2 : 0 < b
      · refine ifT h2 ?_
        refine ⟨_, rfl, p, _, _, _, rfl, rfl, SqL.of hp, at2, .inl ⟨_, rfl, _, rfl, _, _, rfl, rfl, hm, ?_⟩⟩
        refine ⟨_, rfl, p, _, _, _, rfl, rfl, SqL.of hp, at2, _, rfl, _, _, rfl, rfl, hdm _, _, rfl, p, _, _, _, rfl, rfl, hp, rfl, ?_⟩
        have hp1 : upd H p (.lst (List.set [.ref l, .int a, .int b, .int c, .int e] 2 (.int (b.fdiv m)))) p = some (.lst [.ref l, .int a, .int (b.fdiv m), .int c, .int e]) := upd_same
        refine ⟨_, rfl, p, _, _, _, rfl, rfl, SqL.of hp1, l4, _, _, rfl, rfl, _, rfl, p, _, _, _, rfl, rfl, hp1, rfl, ?_⟩
        exact ⟨_, rfl, fin _ _ a (b.fdiv m) c (e - 1) (r0 _) (r1 _) ha ((but_upd _).trans (but_upd _)) upd_same⟩
      · refine ifF h2 ?_
        refine ⟨_, rfl, p, _, _, _, rfl, rfl, SqL.of hp, l3, _, rfl, p, _, _, _, rfl, rfl, SqL.of hp, at1, _, _, rfl, rfl, .inl ⟨by decide, by decide⟩, _, _, rfl, rfl, ?_⟩
        refine ⟨_, rfl, p, _, _, _, rfl, rfl, SqL.of hp, at1, _, rfl, p, _, _, _, rfl, rfl, SqL.of hp, at0, l, _, rfl, .inl hl, _, _, rfl, rfl, _, rfl, ?_⟩
        refine ite2 (fun h3 => ?r1) (fun h3 => ?r2)
        case' r1 =>
          have h3 : a < ((ns.map V.int).length : Int) := of_decide_eq_true h3
          rw [List.length_map] at h3
          have hat : (ns.map V.int)[a.toNat]? = some (.int (ns[a.toNat]'(by omega))) := by
            rw [List.getElem?_map, List.getElem?_eq_getElem (by omega)] <;> rfl
          refine ⟨_, rfl, p, _, _, _, rfl, rfl, SqL.of hp, at0, _, rfl, p, _, _, _, rfl, rfl, SqL.of hp, at1, l, _, _, _, rfl, rfl, hl, at_of (by omega) hat, ?_⟩
        all_goals
          refine ⟨_, rfl, p, _, _, _, rfl, rfl, SqL.of hp, at1, _, _, rfl, rfl, _, rfl, p, _, _, _, rfl, rfl, hp, rfl, ?_⟩
          have hp1 : upd H p (.lst (List.set [.ref l, .int a, .int b, .int c, .int e] 1 (.int (a + 1)))) p = some (.lst [.ref l, .int (a + 1), .int b, .int c, .int e]) := upd_same
          refine ⟨_, rfl, _, _, rfl, rfl, ⟨by decide, by decide, by decide⟩, _, _, rfl, rfl, _, rfl, ?_⟩
          refine ite2 (fun _ => ?_) (fun _ => ?_)
          · refine ⟨_, rfl, _, rfl, _, _, rfl, rfl, hdm _, _, rfl, p, _, _, _, rfl, rfl, hp1, rfl, ?_⟩
            refine ⟨_, rfl, p, _, _, _, rfl, rfl, upd_same, rfl, ?_⟩
            exact ⟨_, rfl, .inl ⟨_, rfl, _, rfl, _, _, rfl, rfl, hm, fin _ _ (a + 1) _ c 60 (r0 _) (r1 _) (by omega) ((but_upd _).trans ((but_upd _).trans (but_upd _))) upd_same⟩⟩
          · refine ⟨_, rfl, _, _, rfl, rfl, mulR (by decide) (by decide), _, rfl, p, _, _, _, rfl, rfl, SqL.of hp1, at1, _, _, rfl, rfl, mulR (by decide) (by decide), _, _, rfl, rfl, _, rfl, p, _, _, _, rfl, rfl, SqL.of hp1, l3, _, _, rfl, rfl, .inl ⟨_, rfl, _, _, rfl, rfl, (show (2147483647 : Int) ≠ 0 by decide), ?_⟩⟩
            have f0 : ∀ i : Int, -(2 ^ 64) < i.fmod 2147483647 := fun i => by have := Int.fmod_nonneg_of_pos i (show (0 : Int) < 2147483647 by decide); omega
            have f1 : ∀ i : Int, i.fmod 2147483647 < 2 ^ 64 := fun i => by have := Int.fmod_lt_of_pos i (show (0 : Int) < 2147483647 by decide); omega
            refine ⟨_, rfl, _, _, rfl, rfl, mulR (by decide) (by decide), _, rfl, _, rfl, _, _, rfl, rfl, .inl ⟨f0 _, f1 _⟩, _, _, rfl, rfl, _, _, rfl, rfl, .inl ⟨_, rfl, _, _, rfl, rfl, (show (2147483629 : Int) ≠ 0 by decide), _, rfl, p, _, _, _, rfl, rfl, hp1, rfl, ?_⟩⟩
            refine ⟨_, rfl, p, _, _, _, rfl, rfl, SqL.of upd_same, l3, _, _, rfl, rfl, ⟨by decide, by decide⟩, .inl ⟨_, rfl, _, rfl, _, _, rfl, rfl, hm, ?_⟩⟩
            exact fin _ _ (a + 1) b _ e (r0 _) (r1 _) (by omega) ((but_upd _).trans (but_upd _)) upd_same
    · refine ifF h1 (iteF ?_)
      refine ⟨_, rfl, p, _, _, _, rfl, rfl, SqL.of hp, l3, _, rfl, p, _, _, _, rfl, rfl, SqL.of hp, at1, _, _, rfl, rfl, .inl ⟨by decide, by decide⟩, _, _, rfl, rfl, ?_⟩
      refine ⟨_, rfl, p, _, _, _, rfl, rfl, SqL.of hp, at1, _, rfl, p, _, _, _, rfl, rfl, SqL.of hp, at0, l, _, rfl, .inl hl, _, _, rfl, rfl, _, rfl, ?_⟩
      refine ite2 (fun h3 => ?r3) (fun h3 => ?r4)
      case' r3 =>
        have h3 : a < ((ns.map V.int).length : Int) := of_decide_eq_true h3
        rw [List.length_map] at h3
        have hat : (ns.map V.int)[a.toNat]? = some (.int (ns[a.toNat]'(by omega))) := by
          rw [List.getElem?_map, List.getElem?_eq_getElem (by omega)] <;> rfl
        refine ⟨_, rfl, p, _, _, _, rfl, rfl, SqL.of hp, at0, _, rfl, p, _, _, _, rfl, rfl, SqL.of hp, at1, l, _, _, _, rfl, rfl, hl, at_of (by omega) hat, ?_⟩
      all_goals
        refine ⟨_, rfl, p, _, _, _, rfl, rfl, SqL.of hp, at1, _, _, rfl, rfl, _, rfl, p, _, _, _, rfl, rfl, hp, rfl, ?_⟩
        have hp1 : upd H p (.lst (List.set [.ref l, .int a, .int b, .int c, .int e] 1 (.int (a + 1)))) p = some (.lst [.ref l, .int (a + 1), .int b, .int c, .int e]) := upd_same
        refine ⟨_, rfl, _, _, rfl, rfl, ⟨by decide, by decide, by decide⟩, _, _, rfl, rfl, _, rfl, ?_⟩
        refine ite2 (fun _ => ?_) (fun _ => ?_)
        · refine ⟨_, rfl, _, rfl, _, _, rfl, rfl, hdm _, _, rfl, p, _, _, _, rfl, rfl, hp1, rfl, ?_⟩
          refine ⟨_, rfl, p, _, _, _, rfl, rfl, upd_same, rfl, ?_⟩
          exact ⟨_, rfl, .inl ⟨_, rfl, _, rfl, _, _, rfl, rfl, hm, fin _ _ (a + 1) _ c 60 (r0 _) (r1 _) (by omega) ((but_upd _).trans ((but_upd _).trans (but_upd _))) upd_same⟩⟩
        · refine ⟨_, rfl, _, _, rfl, rfl, mulR (by decide) (by decide), _, rfl, p, _, _, _, rfl, rfl, SqL.of hp1, at1, _, _, rfl, rfl, mulR (by decide) (by decide), _, _, rfl, rfl, _, rfl, p, _, _, _, rfl, rfl, SqL.of hp1, l3, _, _, rfl, rfl, .inl ⟨_, rfl, _, _, rfl, rfl, (show (2147483647 : Int) ≠ 0 by decide), ?_⟩⟩
          have f0 : ∀ i : Int, -(2 ^ 64) < i.fmod 2147483647 := fun i => by have := Int.fmod_nonneg_of_pos i (show (0 : Int) < 2147483647 by decide); omega
          have f1 : ∀ i : Int, i.fmod 2147483647 < 2 ^ 64 := fun i => by have := Int.fmod_lt_of_pos i (show (0 : Int) < 2147483647 by decide); omega
          refine ⟨_, rfl, _, _, rfl, rfl, mulR (by decide) (by decide), _, rfl, _, rfl, _, _, rfl, rfl, .inl ⟨f0 _, f1 _⟩, _, _, rfl, rfl, _, _, rfl, rfl, .inl ⟨_, rfl, _, _, rfl, rfl, (show (2147483629 : Int) ≠ 0 by decide), _, rfl, p, _, _, _, rfl, rfl, hp1, rfl, ?_⟩⟩
          refine ⟨_, rfl, p, _, _, _, rfl, rfl, SqL.of upd_same, l3, _, _, rfl, rfl, ⟨by decide, by decide⟩, .inl ⟨_, rfl, _, rfl, _, _, rfl, rfl, hm, ?_⟩⟩
          exact fin _ _ (a + 1) b _ e (r0 _) (r1 _) (by omega) ((but_upd _).trans (but_upd _)) upd_same
theorem at_mem {xs : List V} {r : Int} (h0 : 0 ≤ r) (h1 : r < xs.length) : ∃ v, atI xs r = some v ∧ v ∈ xs := by
  have hk : r.toNat < xs.length := by omega
  exact ⟨xs[r.toNat], at_of (by omega) (List.getElem?_eq_getElem hk), List.getElem_mem hk⟩
theorem scNu : FnScope ["state", "pick"] ["state"] (defScope sNum) := ⟨rfl, rfl, rfl, by decide +kernel, rfl, by decide +kernel, by decide +kernel⟩
theorem StAt.ne {l : Addr} {H : Hp} {p q : Addr} (h : StAt K l H p) (hq : H q = none) : q ≠ p := fun z => by
  obtain ⟨ns, a, b, c, e, h1, _⟩ := h
  rw [z, h1] at hq
  cases hq
theorem ok_num {f fD : Addr} {fd fdD : FuncData} (F : Fun K "_law_number" "_law_number" sNum f fd) (T : Txt P K mg C fI cc cda)
    (GD : FnOk P w K mg base CX0 1 fD fdD ["state", "many"] (spDraw K l)) (LD : Cal K mg "_law_draw" fD fdD ["state", "many"]) : FnOk P w K mg base CX0 2 f fd ["state"] (spNum K l) := by
  refine F.ok scNu (fun vs H Q E h => ?_) (fun cdv A outer s H vs Q E hr h => ?_)
  · obtain ⟨p, rfl, _⟩ := h
    rfl
  · obtain ⟨p, rfl, hS, k⟩ := h
    refine ⟨_, (pss_cons (ps_set (i := 1) scNu.nd rfl (Or.inl rfl) (pe_call GD hr rfl LD.g LD.k LD.b .nil pass0 (pa_cons (pv 0) (pa_cons pe_int pa_nil))))
       (pss_cons (ps_if (pt_cmpR op_lt (pv 1) pe_int (nomark _))
       (pss_one (ps_ret (pe_op op_sub (pe_call GD hr rfl LD.g LD.k LD.b .nil pass0 (pa_cons (pv 0) (pa_cons pe_int pa_nil))) pe_int)))
       pss_nil)
       (pss_one (ps_ret (pe_ix ix_list (pe_lst (pa_cons pe_int (pa_cons (pe_un un_neg pe_int) (pa_cons pe_int (pa_cons pe_int pa_nil))))) (pe_call GD hr rfl LD.g LD.k LD.b .nil pass0 (pa_cons (pv 0) (pa_cons (pe_op op_add pe_int (pe_callTy call_int1 rfl T.zint boot_int0 (pa_cons (pe_cmpR op_eq (pe_call GD hr rfl LD.g LD.k LD.b .nil pass0 (pa_cons (pv 0) (pa_cons pe_int pa_nil))) pe_int (nomark _)) pa_nil))) pa_nil))) (fun _ _ => rfl)))))), ?_⟩
    refine ⟨_, rfl, p, _, rfl, hS, by decide, by decide, fun r1 H1 _ _ b1 S1 => ?_⟩
    refine ⟨_, rfl, _, _, rfl, rfl, _, rfl, ite2 (fun _ => ?_) (fun _ => ?_)⟩
    · refine ⟨_, rfl, p, _, rfl, S1, by decide, by decide, fun r2 H2 _ _ b2 S2 => ?_⟩
      exact ⟨_, _, rfl, rfl, k _ H2 (b1.trans b2) S2⟩
    · refine ⟨_, rfl, (by show 4 ≤ sizeLine; decide), fun q hq => ?_⟩
      have hqp := S1.ne hq
      have sq := same_new hq (.lst [.int 1000000000, .int (-1000000000), .int 40000, .int 1000000001])
      refine ⟨_, rfl, _, rfl, p, _, rfl, S1.same sq, by decide, by decide, fun r2 H2 _ _ b2 S2 => ?_⟩
      refine ⟨rfl, .inr ⟨_, rfl, _, _, rfl, rfl, p, _, rfl, S2, ?_, ?_, fun r3 H3 h30 h31 b3 S3 => ?_⟩⟩
      · split <;> decide
      · split <;> decide
      · have hq3 : H3 q = some (.lst [.int 1000000000, .int (-1000000000), .int 40000, .int 1000000001]) := b3 _ _ hqp (b2 _ _ hqp upd_same)
        obtain ⟨v, hv, hm⟩ := at_mem (xs := [.int 1000000000, .int (-1000000000), .int 40000, .int 1000000001]) h30 (by
          have : r3 < 4 := by
            refine Int.lt_of_lt_of_le h31 ?_
            split <;> decide
          exact this)
        have hvi : ∃ z, v = .int z := by
          simp only [List.mem_cons, List.not_mem_nil, or_false] at hm
          rcases hm with rfl | rfl | rfl | rfl <;> exact ⟨_, rfl⟩
        obtain ⟨z, rfl⟩ := hvi
        exact ⟨q, _, _, _, rfl, rfl, SqL.of hq3, hv, k z H3 (b1.trans ((Same.but sq).trans (b2.trans b3))) S3⟩
theorem scX : FnScope ["state", "names", "depth", "pick", "word"] ["state", "names", "depth"] (defScope sExp) := ⟨rfl, rfl, rfl, by decide +kernel, rfl, by decide +kernel, by decide +kernel⟩
theorem exp_zero {f : Addr} {fd : FuncData} : FnOk P w K mg base CX0 2 f fd ["state", "names", "depth"] (spExp K l 0) := by
  have no : ∀ vs H Q E, ¬ spExp K l 0 vs H Q E := fun vs H Q E h => by
    obtain ⟨p, q, d, _, _, _, _, h0, h1, _⟩ := h
    exact absurd h1 (by omega)
  exact ⟨fun vs H Q E h => absurd h (no vs H Q E), fun A outer s H args us vs Q E _ _ _ _ h => absurd h (no vs H Q E)⟩
theorem ok_exp_one {n : Nat} {f fD fN : Addr} {fd fdD fdN : FuncData} (F : Fun K "_law_exp" "_law_exp" sExp f fd) (T : Txt P K mg C fI cc cda) (LX : Cal K mg "_law_exp" f fd ["state", "names", "depth"])
    (GX : FnOk P w K mg base CX0 (2 + n) f fd ["state", "names", "depth"] (spExp K l n))
    (GD : FnOk P w K mg base CX0 1 fD fdD ["state", "many"] (spDraw K l)) (LD : Cal K mg "_law_draw" fD fdD ["state", "many"])
    (GN : FnOk P w K mg base CX0 2 fN fdN ["state"] (spNum K l)) (LN : Cal K mg "_law_number" fN fdN ["state"]) :
    FnOk P w K mg base CX0 (2 + (n + 1)) f fd ["state", "names", "depth"] (spExp K l (n + 1)) := by
  refine F.ok scX (fun vs H Q E h => ?_) (fun cdv A outer s H vs Q E hr h => ?_)
  · obtain ⟨p, q, d, rfl, _⟩ := h
    rfl
  · obtain ⟨p, q, d, rfl, hS, hq, hqp, hd0, hd1, k⟩ := h
    have hr1 : Room 1 _ := hr.mono (show 1 ≤ 2 + n by omega)
    have hr2 : Room 2 _ := hr.mono (show 2 ≤ 2 + n by omega)
    refine ⟨_, (pss_cons (ps_set (i := 3) scX.nd rfl (Or.inl rfl) (pe_call GD hr1 rfl LD.g LD.k LD.b .nil pass0 (pa_cons (pv 0) (pa_cons pe_int pa_nil))))
 (pss_cons (ps_if (PW.pt (pw_or (pt_cmpR op_eq (pv 2) pe_int (nomark _)) (pw_or1 (pt_cmpR op_lt (pv 3) pe_int (nomark _)))))
 (pss_cons (ps_if (PW.pt (pw_and (pt_cmpR op_lt (pv 3) pe_int (nomark _)) (pw_and1 (pt_cmpR op_gt (pe_callB call_len_seq rfl T.zlen PySem.boot_len (pa_cons (pv 1) pa_nil)) pe_int (nomark _)))))
 (pss_one (ps_ret (pe_tup (pa_cons pe_str (pa_cons (pe_ix ix_list (pv 1) (pe_call GD hr1 rfl LD.g LD.k LD.b .nil pass0 (pa_cons (pv 0) (pa_cons (pe_callB call_len_seq rfl T.zlen PySem.boot_len (pa_cons (pv 1) pa_nil)) pa_nil))) (fun _ _ => rfl)) pa_nil)))))
 pss_nil)
 (pss_one (ps_ret (pe_tup (pa_cons pe_str (pa_cons (pe_call GN hr2 rfl LN.g LN.k LN.b .nil pass0 (pa_cons (pv 0) pa_nil)) pa_nil))))))
 pss_nil)
 (pss_cons (ps_if (pt_cmpR op_eq (pv 3) pe_int (nomark _))
 (pss_one (ps_ret (pe_tup (pa_cons (pe_ix ix_list (pe_lst (pa_cons pe_str (pa_cons pe_str pa_nil))) (pe_call GD hr1 rfl LD.g LD.k LD.b .nil pass0 (pa_cons (pv 0) (pa_cons pe_int pa_nil))) (fun _ _ => rfl)) (pa_cons (pe_call GX hr rfl LX.g LX.k LX.b .nil pass0 (pa_cons (pv 0) (pa_cons (pv 1) (pa_cons (pe_op op_sub (pv 2) pe_int) pa_nil)))) pa_nil)))))
 pss_nil)
 (pss_cons (ps_set (i := 4) scX.nd rfl (Or.inl rfl) (pe_ix ix_list (pe_lst (pa_cons pe_str (pa_cons pe_str (pa_cons pe_str (pa_cons pe_str (pa_cons pe_str (pa_cons pe_str (pa_cons pe_str (pa_cons pe_str (pa_cons pe_str (pa_cons pe_str (pa_cons pe_str pa_nil)))))))))))) (pe_call GD hr1 rfl LD.g LD.k LD.b .nil pass0 (pa_cons (pv 0) (pa_cons pe_int pa_nil))) (fun _ _ => rfl)))
 (pss_one (ps_ret (pe_tup (pa_cons (pv 4) (pa_cons (pe_call GX hr rfl LX.g LX.k LX.b .nil pass0 (pa_cons (pv 0) (pa_cons (pv 1) (pa_cons (pe_op op_sub (pv 2) pe_int) pa_nil)))) (pa_cons (pe_call GX hr rfl LX.g LX.k LX.b .nil pass0 (pa_cons (pv 0) (pa_cons (pv 1) (pa_cons (pe_op op_sub (pv 2) pe_int) pa_nil)))) pa_nil)))))))))), ?_⟩
    refine ⟨_, rfl, p, _, rfl, hS, by decide, by decide, fun r1 H1 _ _ b1 S1 => ?_⟩
    have hq1 := b1.seq hqp hq
    -- a leaf
    have leaf : ∀ (v : V) (e : Ex) (H2 : Hp), But p H1 H2 → StAt K l H2 p → EAt H2 v e → e.dep = 0 → Q v H2 := fun v e H2 b2 S2 he h0 => k v e H2 (b1.trans b2) S2 he (by omega)
    by_cases hd : d = 0
    · refine ⟨_, rfl, rfl, _, rfl, ifT (int_eq.mpr hd) (iteT ?_)⟩
      refine ⟨_, rfl, _, _, rfl, rfl, _, rfl, ?_⟩
      by_cases h6 : r1 < 6
      · refine ifT h6 ⟨_, rfl, q, _, rfl, .inl hq1, _, _, rfl, rfl, _, rfl, ifT (by decide) ?_⟩
        refine ⟨_, rfl, _, rfl, _, rfl, q, _, rfl, .inl hq1, p, 3, rfl, S1, by decide, by decide, fun r2 H2 h20 h21 b2 S2 => ?_⟩
        obtain ⟨v, hv, hm⟩ := at_mem (xs := [.str "n", .str "x", .str "k"]) h20 h21
        have hvx : ∃ x : Nm, v = .str x.s := by
          simp only [List.mem_cons, List.not_mem_nil, or_false] at hm
          rcases hm with rfl | rfl | rfl
          · exact ⟨.n, rfl⟩
          · exact ⟨.x, rfl⟩
          · exact ⟨.k, rfl⟩
        obtain ⟨x, rfl⟩ := hvx
        refine ⟨q, _, _, _, rfl, rfl, b2.seq hqp hq1, hv, (by show 2 ≤ sizeLine; decide), fun t ht => ?_⟩
        have st := same_new ht (.tup [.str "name", .str x.s])
        exact leaf _ (.nm x) _ (b2.trans (Same.but st)) (S2.same st) ⟨t, rfl, upd_same⟩ rfl
      · refine ifF h6 (iteF ?_)
        refine ⟨_, rfl, p, rfl, S1, fun r H2 b2 S2 => ⟨(by show 2 ≤ sizeLine; decide), fun t ht => ?_⟩⟩
        have st := same_new ht (.tup [.str "number", .int r])
        exact leaf _ (.num r) _ (b2.trans (Same.but st)) (S2.same st) ⟨t, rfl, upd_same⟩ rfl
    · refine ⟨_, rfl, rfl, _, rfl, ifF (fun z => hd (int_eq.mp z)) ⟨_, rfl, _, _, rfl, rfl, _, rfl, ?_⟩⟩
      by_cases h4 : r1 < 4
      · refine ifT h4 ?_
        refine ⟨_, rfl, _, _, rfl, rfl, _, rfl, ?_⟩
        by_cases h6 : r1 < 6
        · refine ifT h6 ⟨_, rfl, q, _, rfl, .inl hq1, _, _, rfl, rfl, _, rfl, ifT (by decide) ?_⟩
          refine ⟨_, rfl, _, rfl, _, rfl, q, _, rfl, .inl hq1, p, 3, rfl, S1, by decide, by decide, fun r2 H2 h20 h21 b2 S2 => ?_⟩
          obtain ⟨v, hv, hm⟩ := at_mem (xs := [.str "n", .str "x", .str "k"]) h20 h21
          have hvx : ∃ x : Nm, v = .str x.s := by
            simp only [List.mem_cons, List.not_mem_nil, or_false] at hm
            rcases hm with rfl | rfl | rfl
            · exact ⟨.n, rfl⟩
            · exact ⟨.x, rfl⟩
            · exact ⟨.k, rfl⟩
          obtain ⟨x, rfl⟩ := hvx
          refine ⟨q, _, _, _, rfl, rfl, b2.seq hqp hq1, hv, (by show 2 ≤ sizeLine; decide), fun t ht => ?_⟩
          have st := same_new ht (.tup [.str "name", .str x.s])
          exact leaf _ (.nm x) _ (b2.trans (Same.but st)) (S2.same st) ⟨t, rfl, upd_same⟩ rfl
        · refine ifF h6 (iteF ?_)
          refine ⟨_, rfl, p, rfl, S1, fun r H2 b2 S2 => ⟨(by show 2 ≤ sizeLine; decide), fun t ht => ?_⟩⟩
          have st := same_new ht (.tup [.str "number", .int r])
          exact leaf _ (.num r) _ (b2.trans (Same.but st)) (S2.same st) ⟨t, rfl, upd_same⟩ rfl
      · refine ifF h4 ⟨_, rfl, rfl, _, rfl, ?_⟩
        by_cases h5 : r1 = 4
        · refine ifT (int_eq.mpr h5) ⟨(by show 2 ≤ sizeLine; decide), fun u hu => ?_⟩
          have hup := S1.ne hu
          have su := same_new hu (.lst [.str "not", .str "negative"])
          refine ⟨_, rfl, p, 2, rfl, S1.same su, by decide, by decide, fun r2 H2 h20 h21 b2 S2 => ?_⟩
          obtain ⟨v, hv, hm⟩ := at_mem (xs := [.str "not", .str "negative"]) h20 h21
          have hvx : ∃ x : Uw, v = .str x.s := by
            simp only [List.mem_cons, List.not_mem_nil, or_false] at hm
            rcases hm with rfl | rfl
            · exact ⟨.no, rfl⟩
            · exact ⟨.neg, rfl⟩
          obtain ⟨x, rfl⟩ := hvx
          have hq2 := b2.seq hqp (su.seq hq1)
          refine ⟨u, _, _, _, rfl, rfl, SqL.of (b2 _ _ hup upd_same), hv, ?_⟩
          refine ⟨_, rfl, _, rfl, _, rfl, _, _, rfl, rfl, p, q, d - 1, rfl, S2, hq2, hqp, by omega, by omega, fun v2 e2 H3 b3 S3 he3 hd3 => ⟨(by show 2 ≤ sizeLine; decide), fun t ht => ?_⟩⟩
          have st := same_new ht (.tup [.str x.s, v2])
          refine k _ (.un x e2) _ (b1.trans ((Same.but su).trans (b2.trans (b3.trans (Same.but st))))) (S3.same st) ⟨t, v2, rfl, upd_same, he3.same st⟩ ?_
          show ((e2.dep + 1 : Nat) : Int) ≤ d
          omega
        · refine ifF (fun z => h5 (int_eq.mp z)) ⟨(by show 11 ≤ sizeLine; decide), fun u hu => ?_⟩
          have hup := S1.ne hu
          have su := same_new hu (.lst [.str "plus", .str "minus", .str "times", .str "less", .str "atmost", .str "same", .str "and", .str "or", .str "over", .str "rest", .str "plus"])
          refine ⟨_, rfl, p, 11, rfl, S1.same su, by decide, by decide, fun r2 H2 h20 h21 b2 S2 => ?_⟩
          obtain ⟨v, hv, hm⟩ := at_mem (xs := [.str "plus", .str "minus", .str "times", .str "less", .str "atmost", .str "same", .str "and", .str "or", .str "over", .str "rest", .str "plus"]) h20 h21
          have hvx : ∃ x : Bw, v = .str x.s := by
            simp only [List.mem_cons, List.not_mem_nil, or_false] at hm
            rcases hm with rfl | rfl | rfl | rfl | rfl | rfl | rfl | rfl | rfl | rfl | rfl
            · exact ⟨.plus, rfl⟩
            · exact ⟨.minus, rfl⟩
            · exact ⟨.times, rfl⟩
            · exact ⟨.less, rfl⟩
            · exact ⟨.atmost, rfl⟩
            · exact ⟨.same, rfl⟩
            · exact ⟨.and, rfl⟩
            · exact ⟨.or, rfl⟩
            · exact ⟨.over, rfl⟩
            · exact ⟨.rest, rfl⟩
            · exact ⟨.plus, rfl⟩
          obtain ⟨x, rfl⟩ := hvx
          have hq2 := b2.seq hqp (su.seq hq1)
          refine ⟨u, _, _, _, rfl, rfl, SqL.of (b2 _ _ hup upd_same), hv, ?_⟩
          refine ⟨_, rfl, _, rfl, _, rfl, _, rfl, _, _, rfl, rfl, p, q, d - 1, rfl, S2, hq2, hqp, by omega, by omega, fun v2 e2 H3 b3 S3 he3 hd3 => ?_⟩
          refine ⟨_, rfl, _, rfl, _, rfl, _, _, rfl, rfl, p, q, d - 1, rfl, S3, b3.seq hqp hq2, hqp, by omega, by omega, fun v3 e3 H4 b4 S4 he4 hd4 => ⟨(by show 3 ≤ sizeLine; decide), fun t ht => ?_⟩⟩
          have st := same_new ht (.tup [.str x.s, v2, v3])
          refine k _ (.bin x e2 e3) _ (b1.trans ((Same.but su).trans (b2.trans (b3.trans (b4.trans (Same.but st)))))) (S4.same st) ⟨t, v2, v3, rfl, upd_same, (he3.but b4 S3.notup).same st, he4.same st⟩ ?_
          show ((max e2.dep e3.dep + 1 : Nat) : Int) ≤ d
          omega
theorem ok_exp {f fD fN : Addr} {fd fdD fdN : FuncData} (F : Fun K "_law_exp" "_law_exp" sExp f fd) (T : Txt P K mg C fI cc cda) (LX : Cal K mg "_law_exp" f fd ["state", "names", "depth"])
    (GD : FnOk P w K mg base CX0 1 fD fdD ["state", "many"] (spDraw K l)) (LD : Cal K mg "_law_draw" fD fdD ["state", "many"])
    (GN : FnOk P w K mg base CX0 2 fN fdN ["state"] (spNum K l)) (LN : Cal K mg "_law_number" fN fdN ["state"]) : ∀ n, FnOk P w K mg base CX0 (2 + n) f fd ["state", "names", "depth"] (spExp K l n)
  | 0 => exp_zero
  | n + 1 => ok_exp_one F T LX (ok_exp F T LX GD LD GN LN n) GD LD GN LN
end
end K8
namespace K8
open PySem PySem.Spec L2 RX
def resV : Re → V
  | .ok n => .int n
  | .err r => .str r.s
def spOk : Sp := fun vs H Q _ => ∃ x, vs = [x] ∧ ((∃ n, x = .int n ∧ Q (resV (inR n)) H) ∨ (∃ z, x = .str z ∧ Q (.str z) H))
def opW (w : Bw) : Prop := w ≠ .and ∧ w ≠ .or
/-- _law_op's answer, as _law_ok takes it -/
def RawOk (x : V) (r : Re) : Prop := (∃ n, x = .int n ∧ inR n = r) ∨ (∃ z, x = .str z ∧ V.str z = resV r)
def spOp : Sp := fun vs H Q _ => ∃ (w : Bw) (a b : Int), vs = [.str w.s, .int a, .int b] ∧ opW w ∧ inV a ∧ inV b ∧ ∀ x, RawOk x (op w a b) → Q x H
def spVal (n : Nat) : Sp := fun vs H Q _ => ∃ (v : V) (d : Addr) (e : Ex) (g : Env), vs = [v, .ref d] ∧ e.dep < n ∧ EAt H v e ∧ H d = some (.dK g.kvs) ∧ g.ok ∧ ∀ H', Same H H' → Q (resV (val g e)) H'
def OutB (H : Hp) (Q : VK) : Rall → Prop
  | .ok ns => ∀ H' p, Same H H' → H p = none → H' p = some (.tup (ns.map V.int)) → Q (.ref p) H'
  | .err r => ∀ H', Same H H' → Q (.str r.s) H'
def spATold (K : PySem.W.Frag) (n : Nat) : Sp := fun vs H Q _ => ∃ (l d : Addr) (us : List V) (es : List Ex) (g : Env), vs = [.ref l, .ref d] ∧ SqL K H l us ∧ us.length ≤ 100 ∧ Exs H us es ∧ (∀ e ∈ es, e.dep < n) ∧ H d = some (.dK g.kvs) ∧ g.ok ∧ OutB H Q (valAll g es)
theorem inR_ok {n : Int} (h : inV n) : inR n = .ok n := if_pos h
theorem inR_err {n : Int} (h : ¬ inV n) : inR n = .err .range := if_neg h
theorem b01_R (c : Bool) : inR (b01 c) = .ok (b01 c) := inR_ok (b01_in c)
section
variable {P : Program} {w : World} {K : PySem.W.Frag} {mg : Str → Option Value} {base : Heap} {C fI cc cda : Addr}
theorem scK : FnScope ["number"] ["number"] (defScope sOk) := ⟨rfl, rfl, rfl, by decide +kernel, rfl, by decide +kernel, by decide +kernel⟩
theorem ok_ok {f : Addr} {fd : FuncData} (F : Fun K "_law_ok" "_law_ok" sOk f fd) (T : Txt P K mg C fI cc cda) : FnOk P w K mg base CX0 1 f fd ["number"] spOk := by
  refine F.ok scK (fun vs H Q E h => ?_) (fun cdv A outer s H vs Q E hr h => ?_)
  · obtain ⟨x, rfl, _⟩ := h
    rfl
  · obtain ⟨x, rfl, h⟩ := h
    refine ⟨_, (pss_cons (ps_if (PW.pt (pw_or (pt_val (pe_callB call_isi rfl T.zisi boot_isi (pa_cons (pv 0) (pa_cons (pe_bltn (v := .ty "str") rfl T.zstr boot_str0 rfl) pa_nil)))) (pw_or1 (pt_chain op_le op_le (pe_un un_neg pe_int) (pv 0) pe_int))))
       (pss_one (ps_ret (pv 0)))
       pss_nil)
       (pss_one (ps_ret pe_str))), ?_⟩
    rcases h with ⟨n, rfl, k⟩ | ⟨z, rfl, k⟩
    · refine ⟨_, rfl, _, _, _, _, false, rfl, .ty "str", .base (.int n), kit_ty (show kitB "int" "str" = some false by decide +kernel), _, rfl, ?_⟩
      refine iteF ?_
      refine ⟨_, rfl, _, rfl, _, _, rfl, rfl, _, rfl, ?_⟩
      by_cases h1 : -1000000000 ≤ n
      · refine ifT h1 ⟨_, _, rfl, rfl, _, rfl, ?_⟩
        by_cases h2 : n ≤ 1000000000
        · refine ifT h2 ⟨_, rfl, ?_⟩
          rw [inR_ok ⟨h1, h2⟩] at k
          exact k
        · refine ifF h2 ?_
          rw [inR_err fun z => h2 z.2] at k
          exact k
      · refine ifF h1 ⟨_, rfl, iteF ?_⟩
        rw [inR_err fun z => h1 z.1] at k
        exact k
    · refine ⟨_, rfl, _, _, _, _, true, rfl, .ty "str", .base (.str z), kit_ty (show kitB "str" "str" = some true by decide +kernel), _, rfl, ?_⟩
      exact iteT (iteT ⟨_, rfl, k⟩)
theorem scOp : FnScope ["word", "a", "b"] ["word", "a", "b"] (defScope sOp) := ⟨rfl, rfl, rfl, by decide +kernel, rfl, by decide +kernel, by decide +kernel⟩
theorem ok_op {f : Addr} {fd : FuncData} (F : Fun K "_law_op" "_law_op" sOp f fd) (T : Txt P K mg C fI cc cda) : FnOk P w K mg base CX0 1 f fd ["word", "a", "b"] spOp := by
  refine F.ok scOp (fun vs H Q E h => ?_) (fun cdv A outer s H vs Q E hr h => ?_)
  · obtain ⟨w, a, b, rfl, _⟩ := h
    rfl
  · obtain ⟨w, a, b, rfl, ⟨hw1, hw2⟩, ha, hb, k⟩ := h
    refine ⟨_, (pss_cons (ps_if (pt_cmpR op_eq (pv 0) pe_str (nomark _))
 (pss_one (ps_ret (pe_op op_add (pv 1) (pv 2))))
 pss_nil)
 (pss_cons (ps_if (pt_cmpR op_eq (pv 0) pe_str (nomark _))
 (pss_one (ps_ret (pe_op op_sub (pv 1) (pv 2))))
 pss_nil)
 (pss_cons (ps_if (pt_cmpR op_eq (pv 0) pe_str (nomark _))
 (pss_one (ps_ret (pe_op op_mul (pv 1) (pv 2))))
 pss_nil)
 (pss_cons (ps_if (pt_cmpR op_eq (pv 0) pe_str (nomark _))
 (pss_one (ps_ret (pe_callTy call_int1 rfl T.zint boot_int0 (pa_cons (pe_cmpR op_lt (pv 1) (pv 2) (nomark _)) pa_nil))))
 pss_nil)
 (pss_cons (ps_if (pt_cmpR op_eq (pv 0) pe_str (nomark _))
 (pss_one (ps_ret (pe_callTy call_int1 rfl T.zint boot_int0 (pa_cons (pe_cmpR op_le (pv 1) (pv 2) (nomark _)) pa_nil))))
 pss_nil)
 (pss_cons (ps_if (pt_cmpR op_eq (pv 0) pe_str (nomark _))
 (pss_one (ps_ret (pe_callTy call_int1 rfl T.zint boot_int0 (pa_cons (pe_cmpR op_eq (pv 1) (pv 2) (nomark _)) pa_nil))))
 pss_nil)
 (pss_cons (ps_if (pt_cmpR op_eq (pv 2) pe_int (nomark _))
 (pss_one (ps_ret pe_str))
 pss_nil)
 (pss_cons (ps_if (pt_cmpR op_eq (pv 0) pe_str (nomark _))
 (pss_one (ps_ret (pe_op op_fdivN (pv 1) (pv 2))))
 pss_nil)
 (pss_one (ps_ret (pe_op op_sub (pv 1) (pe_op op_mul (pv 2) (pe_op op_fdivN (pv 1) (pv 2)))))))))))))), ?_⟩
    cases w with
    | and => exact absurd rfl hw1
    | or => exact absurd rfl hw2
    | plus => exact ⟨_, rfl, rfl, _, rfl, ifT (by decide +kernel) ⟨_, rfl, _, rfl, _, _, rfl, rfl, k _ (.inl ⟨_, rfl, rfl⟩)⟩⟩
    | minus => exact ⟨_, rfl, rfl, _, rfl, ifF (by decide +kernel) ⟨_, rfl, rfl, _, rfl, ifT (by decide +kernel) ⟨_, rfl, _, rfl, _, _, rfl, rfl, k _ (.inl ⟨_, rfl, rfl⟩)⟩⟩⟩
    | times => exact ⟨_, rfl, rfl, _, rfl, ifF (by decide +kernel) ⟨_, rfl, rfl, _, rfl, ifF (by decide +kernel) ⟨_, rfl, rfl, _, rfl, ifT (by decide +kernel) ⟨_, rfl, _, rfl, _, _, rfl, rfl, mul_ok ha, k _ (.inl ⟨_, rfl, rfl⟩)⟩⟩⟩⟩
    | less =>
      refine ⟨_, rfl, rfl, _, rfl, ifF (by decide +kernel) ⟨_, rfl, rfl, _, rfl, ifF (by decide +kernel) ⟨_, rfl, rfl, _, rfl, ifF (by decide +kernel) ⟨_, rfl, rfl, _, rfl, ifT (by decide +kernel) ⟨_, rfl, _, rfl, _, _, rfl, rfl, .inr ⟨_, rfl, ?_⟩⟩⟩⟩⟩⟩
      exact k _ (.inl ⟨_, rfl, b01_R _⟩)
    | atmost =>
      refine ⟨_, rfl, rfl, _, rfl, ifF (by decide +kernel) ⟨_, rfl, rfl, _, rfl, ifF (by decide +kernel) ⟨_, rfl, rfl, _, rfl, ifF (by decide +kernel) ⟨_, rfl, rfl, _, rfl, ifF (by decide +kernel) ⟨_, rfl, rfl, _, rfl, ifT (by decide +kernel) ⟨_, rfl, _, rfl, _, _, rfl, rfl, .inr ⟨_, rfl, ?_⟩⟩⟩⟩⟩⟩⟩
      exact k _ (.inl ⟨_, rfl, b01_R _⟩)
    | same =>
      refine ⟨_, rfl, rfl, _, rfl, ifF (by decide +kernel) ⟨_, rfl, rfl, _, rfl, ifF (by decide +kernel) ⟨_, rfl, rfl, _, rfl, ifF (by decide +kernel) ⟨_, rfl, rfl, _, rfl, ifF (by decide +kernel) ⟨_, rfl, rfl, _, rfl, ifF (by decide +kernel) ⟨_, rfl, rfl, _, rfl, ifT (by decide +kernel) ⟨_, rfl, _, rfl, rfl, .inr ⟨_, rfl, ?_⟩⟩⟩⟩⟩⟩⟩⟩
      rw [dec_int]
      exact k _ (.inl ⟨_, rfl, b01_R _⟩)
    | over =>
      refine ⟨_, rfl, rfl, _, rfl, ifF (by decide +kernel) ⟨_, rfl, rfl, _, rfl, ifF (by decide +kernel) ⟨_, rfl, rfl, _, rfl, ifF (by decide +kernel) ⟨_, rfl, rfl, _, rfl, ifF (by decide +kernel) ⟨_, rfl, rfl, _, rfl, ifF (by decide +kernel) ⟨_, rfl, rfl, _, rfl, ifF (by decide +kernel) ⟨_, rfl, rfl, _, rfl, ?_⟩⟩⟩⟩⟩⟩⟩
      by_cases h0 : b = 0
      · exact ifT (int_eq.mpr h0) (k _ (.inr ⟨_, rfl, (congrArg resV (show (if b = 0 then Re.err .zero else inR (a.fdiv b)) = .err .zero from if_pos h0)).symm⟩))
      · exact ifF (fun z => h0 (int_eq.mp z)) ⟨_, rfl, rfl, _, rfl, ifT (by decide +kernel) ⟨_, rfl, _, rfl, _, _, rfl, rfl, div_ok hb h0, k _ (.inl ⟨_, rfl, (show (if b = 0 then Re.err .zero else inR (a.fdiv b)) = inR (a.fdiv b) from if_neg h0).symm⟩)⟩⟩
    | rest =>
      refine ⟨_, rfl, rfl, _, rfl, ifF (by decide +kernel) ⟨_, rfl, rfl, _, rfl, ifF (by decide +kernel) ⟨_, rfl, rfl, _, rfl, ifF (by decide +kernel) ⟨_, rfl, rfl, _, rfl, ifF (by decide +kernel) ⟨_, rfl, rfl, _, rfl, ifF (by decide +kernel) ⟨_, rfl, rfl, _, rfl, ifF (by decide +kernel) ⟨_, rfl, rfl, _, rfl, ?_⟩⟩⟩⟩⟩⟩⟩
      by_cases h0 : b = 0
      · exact ifT (int_eq.mpr h0) (k _ (.inr ⟨_, rfl, (congrArg resV (show (if b = 0 then Re.err .zero else Re.ok (a - b * a.fdiv b)) = .err .zero from if_pos h0)).symm⟩))
      · refine ifF (fun z => h0 (int_eq.mp z)) ⟨_, rfl, rfl, _, rfl, ifF (by decide +kernel) ⟨_, rfl, _, rfl, _, rfl, _, rfl, _, _, rfl, rfl, div_ok hb h0, _, _, rfl, rfl, mul_ok hb, _, _, rfl, rfl, ?_⟩⟩
        exact k _ (.inl ⟨_, rfl, (inR_ok (rest_in hb h0)).trans (show (if b = 0 then Re.err .zero else Re.ok (a - b * a.fdiv b)) = Re.ok (a - b * a.fdiv b) from if_neg h0).symm⟩)
theorem scVl : FnScope ["exp", "names", "word", "first", "second"] ["exp", "names"] (defScope sVal) := ⟨rfl, rfl, rfl, by decide +kernel, rfl, by decide +kernel, by decide +kernel⟩
theorem val_zero {f : Addr} {fd : FuncData} : FnOk P w K mg base CX0 1 f fd ["exp", "names"] (spVal 0) := by
  have no : ∀ vs H Q E, ¬ spVal 0 vs H Q E := fun vs H Q E h => by
    obtain ⟨v, d, e, g, _, h, _⟩ := h
    exact absurd h (Nat.not_lt_zero _)
  exact ⟨fun vs H Q E h => absurd h (no vs H Q E), fun A outer s H args us vs Q E _ _ _ _ h => absurd h (no vs H Q E)⟩
theorem isi_str {K : PySem.W.Frag} {H : Hp} (r : Re) : ∃ t, TyX K H (resV r) (.type t) ∧ kitB t "str" = some (match r with | .ok _ => false | .err _ => true) := by
  cases r with
  | ok n => exact ⟨"int", .base (.int n), show kitB "int" "str" = some false by decide +kernel⟩
  | err r => exact ⟨"str", .base (.str _), show kitB "str" "str" = some true by decide +kernel⟩
theorem ok_val_one {n : Nat} {f fK fO : Addr} {fd fdK fdO : FuncData} (F : Fun K "_law_value" "_law_value" sVal f fd) (T : Txt P K mg C fI cc cda) (LV : Cal K mg "_law_value" f fd ["exp", "names"])
    (GV : FnOk P w K mg base CX0 (1 + n) f fd ["exp", "names"] (spVal n))
    (GK : FnOk P w K mg base CX0 1 fK fdK ["number"] spOk) (LK : Cal K mg "_law_ok" fK fdK ["number"])
    (GO : FnOk P w K mg base CX0 1 fO fdO ["word", "a", "b"] spOp) (LO : Cal K mg "_law_op" fO fdO ["word", "a", "b"]) :
    FnOk P w K mg base CX0 (1 + (n + 1)) f fd ["exp", "names"] (spVal (n + 1)) := by
  refine F.ok scVl (fun vs H Q E h => ?_) (fun cdv A outer s H vs Q E hr h => ?_)
  · obtain ⟨v, d, e, g, rfl, _⟩ := h
    rfl
  · obtain ⟨v, d, e, g, rfl, hdep, he, hd, hg, k⟩ := h
    have hu := hu_of hr
    have hr1 : Room 1 _ := hr.mono (show 1 ≤ 1 + n by omega)
    refine ⟨_, (pss_cons (ps_set (i := 2) scVl.nd rfl (Or.inl rfl) (pe_ix ix_tup (pv 0) pe_int (fun _ _ => rfl)))
 (pss_cons (ps_if (pt_cmpR op_eq (pv 2) pe_str (nomark _))
 (pss_one (ps_ret (pe_call GK hr1 rfl LK.g LK.k LK.b .nil pass0 (pa_cons (pe_ix ix_tup (pv 0) pe_int (fun _ _ => rfl)) pa_nil))))
 pss_nil)
 (pss_cons (ps_if (pt_cmpR op_eq (pv 2) pe_str (nomark _))
 (pss_one (ps_ret (pe_dget hu (pv 1) (pe_ix ix_tup (pv 0) pe_int (fun _ _ => rfl)) (fun _ _ => rfl))))
 pss_nil)
 (pss_cons (ps_set (i := 3) scVl.nd rfl (Or.inl rfl) (pe_call GV hr rfl LV.g LV.k LV.b .nil pass0 (pa_cons (pe_ix ix_tup (pv 0) pe_int (fun _ _ => rfl)) (pa_cons (pv 1) pa_nil))))
 (pss_cons (ps_if (pt_val (pe_callB call_isi rfl T.zisi boot_isi (pa_cons (pv 3) (pa_cons (pe_bltn (v := .ty "str") rfl T.zstr boot_str0 rfl) pa_nil))))
 (pss_one (ps_ret (pv 3)))
 pss_nil)
 (pss_cons (ps_if (pt_cmpR op_eq (pv 2) pe_str (nomark _))
 (pss_one (ps_ret (pe_call GK hr1 rfl LK.g LK.k LK.b .nil pass0 (pa_cons (pe_un un_neg (pv 3)) pa_nil))))
 pss_nil)
 (pss_cons (ps_if (pt_cmpR op_eq (pv 2) pe_str (nomark _))
 (pss_one (ps_ret (pe_callTy call_int1 rfl T.zint boot_int0 (pa_cons (pe_cmpR op_eq (pv 3) pe_int (nomark _)) pa_nil))))
 pss_nil)
 (pss_cons (ps_if (PW.pt (pw_or (PW.pt (pw_and (pt_cmpR op_eq (pv 2) pe_str (nomark _)) (pw_and1 (pt_cmpR op_eq (pv 3) pe_int (nomark _))))) (pw_or1 (PW.pt (pw_and (pt_cmpR op_eq (pv 2) pe_str (nomark _)) (pw_and1 (pt_cmpR op_ne (pv 3) pe_int (nomark _))))))))
 (pss_one (ps_ret (pe_callTy call_int1 rfl T.zint boot_int0 (pa_cons (pe_cmpR op_ne (pv 3) pe_int (nomark _)) pa_nil))))
 pss_nil)
 (pss_cons (ps_set (i := 4) scVl.nd rfl (Or.inl rfl) (pe_call GV hr rfl LV.g LV.k LV.b .nil pass0 (pa_cons (pe_ix ix_tup (pv 0) pe_int (fun _ _ => rfl)) (pa_cons (pv 1) pa_nil))))
 (pss_cons (ps_if (pt_val (pe_callB call_isi rfl T.zisi boot_isi (pa_cons (pv 4) (pa_cons (pe_bltn (v := .ty "str") rfl T.zstr boot_str0 rfl) pa_nil))))
 (pss_one (ps_ret (pv 4)))
 pss_nil)
 (pss_cons (ps_if (PW.pt (pw_or (pt_cmpR op_eq (pv 2) pe_str (nomark _)) (pw_or1 (pt_cmpR op_eq (pv 2) pe_str (nomark _)))))
 (pss_one (ps_ret (pe_callTy call_int1 rfl T.zint boot_int0 (pa_cons (pe_cmpR op_ne (pv 4) pe_int (nomark _)) pa_nil))))
 pss_nil)
 (pss_one (ps_ret (pe_call GK hr1 rfl LK.g LK.k LK.b .nil pass0 (pa_cons (pe_call GO hr1 rfl LO.g LO.k LO.b .nil pass0 (pa_cons (pv 2) (pa_cons (pv 3) (pa_cons (pv 4) pa_nil)))) pa_nil))))))))))))))), ?_⟩
    cases e with
    | num z =>
      obtain ⟨a, rfl, ha⟩ := he
      exact ⟨_, rfl, a, _, _, _, rfl, rfl, SqT.of ha, at0, _, rfl, rfl, _, rfl, ifT (by decide +kernel) ⟨_, rfl, a, _, _, _, rfl, rfl, SqT.of ha, at1, _, rfl, .inl ⟨z, rfl, k H (Same.refl H)⟩⟩⟩
    | nm x =>
      obtain ⟨a, rfl, ha⟩ := he
      refine ⟨_, rfl, a, _, _, _, rfl, rfl, SqT.of ha, at0, _, rfl, rfl, _, rfl, ifF (by decide +kernel) ⟨_, rfl, rfl, _, rfl, ifT (by decide +kernel) ⟨_, rfl, _, rfl, a, _, _, _, rfl, rfl, SqT.of ha, at1, d, _, rfl, ?_, k H (Same.refl H)⟩⟩⟩
      have q := DGet.k (k := (Sum.inr x.s : Key)) hd
      rw [g.look x] at q
      exact q
    | un u e1 =>
      obtain ⟨a, v1, rfl, ha, h1⟩ := he
      have hd1 : e1.dep < n := Nat.lt_of_succ_lt_succ hdep
      have n1 : ¬ (V.str u.s = V.str "number") := by cases u <;> decide +kernel
      have n2 : ¬ (V.str u.s = V.str "name") := by cases u <;> decide +kernel
      refine ⟨_, rfl, a, _, _, _, rfl, rfl, SqT.of ha, at0, _, rfl, rfl, _, rfl, ifF n1 ⟨_, rfl, rfl, _, rfl, ifF n2 ?_⟩⟩
      refine ⟨_, rfl, a, _, _, _, rfl, rfl, SqT.of ha, at1, _, rfl, v1, d, e1, g, rfl, hd1, h1, hd, hg, fun H1 s1 => ?_⟩
      have hval : val g (.un u e1) = (val g e1).bind (ustep u) := rfl
      have hgood := val_good hg e1
      obtain ⟨t, ht, hk⟩ := isi_str (K := K) (H := H1) (val g e1)
      refine ⟨_, rfl, _, _, _, _, _, rfl, .ty "str", ht, kit_ty hk, _, rfl, ?_⟩
      cases hv : val g e1 with
      | err r =>
        rw [hv] at hval
        refine iteT ⟨_, rfl, ?_⟩
        have q := k H1 s1
        rw [hval] at q
        exact q
      | ok m =>
        rw [hv] at hval hgood
        refine iteF ?_
        have q := k H1 s1
        rw [hval] at q
        cases u with
        | neg =>
          refine ⟨_, rfl, rfl, _, rfl, ifT (by decide +kernel) ⟨_, rfl, _, rfl, _, rfl, .inl ⟨_, rfl, ?_⟩⟩⟩
          rw [inR_ok (neg_in hgood)]
          exact q
        | no =>
          refine ⟨_, rfl, rfl, _, rfl, ifF (by decide +kernel) ⟨_, rfl, rfl, _, rfl, ifT (by decide +kernel) ⟨_, rfl, rfl, .inr ⟨_, rfl, ?_⟩⟩⟩⟩
          show Q (.int (b01 (decide (V.int m = V.int 0)))) H1
          rw [dec_int]
          exact q
    | bin u e1 e2 =>
      obtain ⟨a, v1, v2, rfl, ha, h1, h2⟩ := he
      have hdm : max e1.dep e2.dep < n := Nat.lt_of_succ_lt_succ hdep
      have hd1 : e1.dep < n := Nat.lt_of_le_of_lt (Nat.le_max_left _ _) hdm
      have hd2 : e2.dep < n := Nat.lt_of_le_of_lt (Nat.le_max_right _ _) hdm
      have n1 : ¬ (V.str u.s = V.str "number") := by cases u <;> decide +kernel
      have n2 : ¬ (V.str u.s = V.str "name") := by cases u <;> decide +kernel
      have n3 : ¬ (V.str u.s = V.str "negative") := by cases u <;> decide +kernel
      have n4 : ¬ (V.str u.s = V.str "not") := by cases u <;> decide +kernel
      refine ⟨_, rfl, a, _, _, _, rfl, rfl, SqT.of ha, at0, _, rfl, rfl, _, rfl, ifF n1 ⟨_, rfl, rfl, _, rfl, ifF n2 ?_⟩⟩
      refine ⟨_, rfl, a, _, _, _, rfl, rfl, SqT.of ha, at1, _, rfl, v1, d, e1, g, rfl, hd1, h1, hd, hg, fun H1 s1 => ?_⟩
      have hval : val g (.bin u e1 e2) = (val g e1).bind fun n => step u n (val g e2) := rfl
      have hgood := val_good hg e1
      have hgood2 := val_good hg e2
      obtain ⟨t, ht, hk⟩ := isi_str (K := K) (H := H1) (val g e1)
      refine ⟨_, rfl, _, _, _, _, _, rfl, .ty "str", ht, kit_ty hk, _, rfl, ?_⟩
      cases hv : val g e1 with
      | err r =>
        rw [hv] at hval
        refine iteT ⟨_, rfl, ?_⟩
        have q := k H1 s1
        rw [hval] at q
        exact q
      | ok m =>
        rw [hv] at hval hgood
        replace hval : val g (.bin u e1 e2) = step u m (val g e2) := hval
        refine iteF ⟨_, rfl, rfl, _, rfl, ifF n3 ⟨_, rfl, rfl, _, rfl, ifF n4 ?_⟩⟩
        -- the second part, asked
        have go : (u = .and ∧ m = 0) ∨ (u = .or ∧ ¬ m = 0) ∨ (step u m (val g e2) = both u m (val g e2) ∧ ¬ (u = .and ∧ m = 0) ∧ ¬ (u = .or ∧ ¬ m = 0)) := by
          by_cases h0 : m = 0
          · by_cases hu : u = .and
            · exact .inl ⟨hu, h0⟩
            · refine .inr (.inr ⟨?_, fun z => hu z.1, fun z => z.2 h0⟩)
              cases u with
              | or => exact if_pos h0
              | and => exact absurd rfl hu
              | _ => rfl
          · by_cases hu : u = .or
            · exact .inr (.inl ⟨hu, h0⟩)
            · refine .inr (.inr ⟨?_, fun z => h0 z.2, fun z => hu z.1⟩)
              cases u with
              | or => exact absurd rfl hu
              | and => exact if_neg h0
              | _ => rfl
        rcases go with ⟨rfl, h0⟩ | ⟨rfl, h0⟩ | ⟨hboth, na, no⟩
        · have e : step .and m (val g e2) = .ok 0 := if_pos h0
          refine ⟨_, rfl, rfl, _, rfl, ifT (by decide +kernel) ⟨_, rfl, rfl, _, rfl, ifT (int_eq.mpr h0) (iteT ⟨_, rfl, rfl, .inr ⟨_, rfl, ?_⟩⟩)⟩⟩
          have q := k H1 s1
          rw [hval, e] at q
          show Q (.int (b01 (!decide (V.int m = V.int 0)))) H1
          rw [dec_int, decide_eq_true h0]
          exact q
        · have e : step .or m (val g e2) = .ok 1 := if_neg h0
          refine ⟨_, rfl, rfl, _, rfl, ifF (by decide +kernel) (iteF ⟨_, rfl, rfl, _, rfl, ifT (by decide +kernel) ⟨_, rfl, rfl, _, rfl, ifNT (fun z => h0 (int_eq.mp z)) ⟨_, rfl, rfl, .inr ⟨_, rfl, ?_⟩⟩⟩⟩)⟩
          have q := k H1 s1
          rw [hval, e] at q
          show Q (.int (b01 (!decide (V.int m = V.int 0)))) H1
          rw [dec_int, decide_eq_false h0]
          exact q
        · rw [hboth] at hval
          have tail : ∀ (H2 : Hp) (v' : V), Same H1 H2 → val g (.bin u e1 e2) = both u m (val g e2) → True := fun _ _ _ _ => trivial
          cases u
          case and =>
            have h0 : ¬ m = 0 := fun z => na ⟨rfl, z⟩
            refine ⟨_, rfl, rfl, _, rfl, ifT (by decide +kernel) ⟨_, rfl, rfl, _, rfl, ifF (fun z => h0 (int_eq.mp z)) ⟨_, rfl, rfl, _, rfl, ifF (by decide +kernel) (iteF ?_)⟩⟩⟩
            refine ⟨_, rfl, a, _, _, _, rfl, rfl, SqT.of (s1 _ _ ha), at2, _, rfl, v2, d, e2, g, rfl, hd2, h2.same s1, s1 _ _ hd, hg, fun H2 s2 => ?_⟩
            obtain ⟨t2, ht2, hk2⟩ := isi_str (K := K) (H := H2) (val g e2)
            refine ⟨_, rfl, _, _, _, _, _, rfl, .ty "str", ht2, kit_ty hk2, _, rfl, ?_⟩
            have q := k H2 (s1.trans s2)
            rw [hval] at q
            revert q hgood2
            cases val g e2 with
            | err r => exact fun _ q => iteT ⟨_, rfl, q⟩
            | ok m2 =>
            intro hgood2 q
            replace hgood2 : inV m2 := hgood2
            rw [both_ok] at q
            refine iteF ?_
            refine ⟨_, rfl, rfl, _, rfl, ifT (by decide +kernel) (iteT ⟨_, rfl, rfl, .inr ⟨_, rfl, ?_⟩⟩)⟩
            show Q (.int (b01 (!decide (V.int m2 = V.int 0)))) H2
            rw [dec_int]
            exact q
          case or =>
            have h0 : m = 0 := Decidable.byContradiction fun z => no ⟨rfl, z⟩
            refine ⟨_, rfl, rfl, _, rfl, ifF (by decide +kernel) (iteF ⟨_, rfl, rfl, _, rfl, ifT (by decide +kernel) ⟨_, rfl, rfl, _, rfl, ifNF (int_eq.mpr h0) ?_⟩⟩)⟩
            refine ⟨_, rfl, a, _, _, _, rfl, rfl, SqT.of (s1 _ _ ha), at2, _, rfl, v2, d, e2, g, rfl, hd2, h2.same s1, s1 _ _ hd, hg, fun H2 s2 => ?_⟩
            obtain ⟨t2, ht2, hk2⟩ := isi_str (K := K) (H := H2) (val g e2)
            refine ⟨_, rfl, _, _, _, _, _, rfl, .ty "str", ht2, kit_ty hk2, _, rfl, ?_⟩
            have q := k H2 (s1.trans s2)
            rw [hval] at q
            revert q hgood2
            cases val g e2 with
            | err r => exact fun _ q => iteT ⟨_, rfl, q⟩
            | ok m2 =>
            intro hgood2 q
            replace hgood2 : inV m2 := hgood2
            rw [both_ok] at q
            refine iteF ?_
            refine ⟨_, rfl, rfl, _, rfl, ifF (by decide +kernel) ⟨_, rfl, rfl, _, rfl, ifT (by decide +kernel) ⟨_, rfl, rfl, .inr ⟨_, rfl, ?_⟩⟩⟩⟩
            show Q (.int (b01 (!decide (V.int m2 = V.int 0)))) H2
            rw [dec_int]
            exact q
          all_goals
            refine ⟨_, rfl, rfl, _, rfl, ifF (by decide +kernel) (iteF ⟨_, rfl, rfl, _, rfl, ifF (by decide +kernel) (iteF ?_)⟩)⟩
            refine ⟨_, rfl, a, _, _, _, rfl, rfl, SqT.of (s1 _ _ ha), at2, _, rfl, v2, d, e2, g, rfl, hd2, h2.same s1, s1 _ _ hd, hg, fun H2 s2 => ?_⟩
            obtain ⟨t2, ht2, hk2⟩ := isi_str (K := K) (H := H2) (val g e2)
            refine ⟨_, rfl, _, _, _, _, _, rfl, .ty "str", ht2, kit_ty hk2, _, rfl, ?_⟩
            have q := k H2 (s1.trans s2)
            rw [hval] at q
            revert q hgood2
            cases val g e2 with
            | err r => exact fun _ q => iteT ⟨_, rfl, q⟩
            | ok m2 =>
            intro hgood2 q
            replace hgood2 : inV m2 := hgood2
            rw [both_ok] at q
            refine iteF ?_
            refine ⟨_, rfl, rfl, _, rfl, ifF (by decide +kernel) ⟨_, rfl, rfl, _, rfl, ifF (by decide +kernel) ?_⟩⟩
            refine ⟨_, rfl, _, rfl, _, rfl, _, m, m2, rfl, ⟨(fun z => nomatch z), (fun z => nomatch z)⟩, hgood, hgood2, fun x hx => ⟨x, rfl, ?_⟩⟩
            rcases hx with ⟨z, rfl, hz⟩ | ⟨z, rfl, hz⟩
            · refine .inl ⟨z, rfl, ?_⟩
              rw [hz]
              exact q
            · refine .inr ⟨z, rfl, ?_⟩
              rw [hz]
              exact q
theorem ok_val {f fK fO : Addr} {fd fdK fdO : FuncData} (F : Fun K "_law_value" "_law_value" sVal f fd) (T : Txt P K mg C fI cc cda) (LV : Cal K mg "_law_value" f fd ["exp", "names"])
    (GK : FnOk P w K mg base CX0 1 fK fdK ["number"] spOk) (LK : Cal K mg "_law_ok" fK fdK ["number"])
    (GO : FnOk P w K mg base CX0 1 fO fdO ["word", "a", "b"] spOp) (LO : Cal K mg "_law_op" fO fdO ["word", "a", "b"]) : ∀ n, FnOk P w K mg base CX0 (1 + n) f fd ["exp", "names"] (spVal n)
  | 0 => val_zero
  | n + 1 => ok_val_one F T LV (ok_val F T LV GK LK GO LO n) GK LK GO LO
theorem scTo : FnScope ["exp", "names", "fault"] ["exp", "names"] (defScope sTold) := ⟨rfl, rfl, rfl, by decide +kernel, rfl, by decide +kernel, by decide +kernel⟩
theorem ok_told {n : Nat} {f fE : Addr} {fd fdE : FuncData} (F : Fun K "_law_told" "_law_told" sTold f fd) (T : Txt P K mg C fI cc cda)
    (GE : FnOk P w K mg base (L2.CX P w) (5 + n) fE fdE ["expression", "names"] (spEval C n)) (LE : Cal K mg "evaluate" fE fdE ["expression", "names"]) :
    FnOk P w K mg base CX0 (5 + n + 1) f fd ["exp", "names"] (spVal n) := by
  refine F.ok scTo (fun vs H Q E h => ?_) (fun cdv A outer s H vs Q E hr h => ?_)
  · obtain ⟨v, d, e, g, rfl, _⟩ := h
    rfl
  · obtain ⟨v, d, e, g, rfl, hdep, he, hd, hg, k⟩ := h
    refine ⟨_, pss_one (ps_try_asF (i := 2) (tb := fun W => tRet (tCallS (spEval C n) (WE W) (tCons (tVar 0) (tCons (tVar 1) tNil)))) (ts := fun a cls d => tRet (tXf a cls d C "reason" (tVar 2))) rfl rfl scTo.nd rfl rfl ⟨rfl, by decide, Or.inl T.gF⟩
      (fun W pn xe tk _ => pss_one (ps_ret (by exact (pe_callS GE hr rfl LE.g LE.k LE.b (fun σ => passAt tk σ) (by exact (pa_cons (pv 0) (pa_cons (pv 1) pa_nil)))))))
      (fun a oe cls d pn hz hf => pss_one (ps_ret (by exact (pe_xf T.xf T.noR hz hf (pv 2)))))), ?_⟩
    refine ⟨_, rfl, _, rfl, v, d, e, g, rfl, hdep, he, hd, hg, ?_⟩
    cases hv : val g e with
    | ok z =>
      rw [hv] at k
      exact fun H' s' => k H' s'
    | err r =>
      rw [hv] at k
      intro dd H' s' nd hx
      refine ⟨T.te, fun a na => ?_⟩
      exact ⟨_, rfl, rfl, rfl, dd, _, .str r.s, rfl, hx, by simp [List.lookup], k H' s'⟩
theorem scAT : FnScope ["exps", "names", "fault"] ["exps", "names"] (defScope sATold) := ⟨rfl, rfl, rfl, by decide +kernel, rfl, by decide +kernel, by decide +kernel⟩
theorem ok_atold {n j : Nat} {f fE : Addr} {fd fdE : FuncData} (F : Fun K "_law_all_told" "_law_all_told" sATold f fd) (T : Txt P K mg C fI cc cda)
    (GE : FnOk P w K mg base (L2.CX P w) j fE fdE ["expressions", "names"] (spAll K C n)) (LE : Cal K mg "evaluate_all" fE fdE ["expressions", "names"]) :
    FnOk P w K mg base CX0 (j + 1) f fd ["exps", "names"] (spATold K n) := by
  refine F.ok scAT (fun vs H Q E h => ?_) (fun cdv A outer s H vs Q E hr h => ?_)
  · obtain ⟨l, d, us, es, g, rfl, _⟩ := h
    rfl
  · obtain ⟨l, d, us, es, g, rfl, hl, h100, hes, hdep, hd, hg, k⟩ := h
    refine ⟨_, pss_one (ps_try_asF (i := 2) (tb := fun W => tRet (tCallS (spAll K C n) (WE W) (tCons (tVar 0) (tCons (tVar 1) tNil)))) (ts := fun a cls d => tRet (tXf a cls d C "reason" (tVar 2))) rfl rfl scAT.nd rfl rfl ⟨rfl, by decide, Or.inl T.gF⟩
      (fun W pn xe tk _ => pss_one (ps_ret (by exact (pe_callS GE hr rfl LE.g LE.k LE.b (fun σ => passAt tk σ) (by exact (pa_cons (pv 0) (pa_cons (pv 1) pa_nil)))))))
      (fun a oe cls d pn hz hf => pss_one (ps_ret (by exact (pe_xf T.xf T.noR hz hf (pv 2)))))), ?_⟩
    refine ⟨_, rfl, _, rfl, l, d, us, es, g, rfl, hl, h100, hes, hdep, hd, hg, ?_⟩
    cases hv : valAll g es with
    | ok z =>
      rw [hv] at k
      exact fun H' p s' np hp => k H' p s' np hp
    | err r =>
      rw [hv] at k
      intro dd H' s' nd hx
      refine ⟨T.te, fun a na => ?_⟩
      exact ⟨_, rfl, rfl, rfl, dd, _, .str r.s, rfl, hx, by simp [List.lookup], k H' s'⟩
end
end K8
namespace K8
open PySem PySem.Spec L2 RX
theorem boot_dict0 : bootBuiltins "dict" = some (.type "dict") := by decide +kernel
/-! ### evaluate_all([], {}) -/
def spAll0 (K : PySem.W.Frag) : Sp := fun vs H Q _ => ∃ (l d : Addr), vs = [.ref l, .ref d] ∧ SqL K H l [] ∧ ∀ H' p, Same H H' → H' p = some (.tup []) → Q (.ref p) H'
/-- the answers that are texts -/
def isS : V → Bool
  | .str _ => true
  | _ => false
def ansV (g : Env) (e : Ex) : V := resV (val g e)
theorem all_cases (g : Env) : ∀ es : List Ex, (∃ ns, valAll g es = .ok ns ∧ es.map (ansV g) = ns.map V.int) ∨ (∃ r more, valAll g es = .err r ∧ (es.map (ansV g)).filter isS = .str r.s :: more)
  | [] => .inl ⟨[], rfl, rfl⟩
  | e :: es => by
    cases hv : val g e with
    | err r =>
      refine .inr ⟨r, (es.map (ansV g)).filter isS, ?_, ?_⟩
      · unfold valAll
        rw [hv]
      · rw [List.map_cons, show ansV g e = .str r.s by unfold ansV; rw [hv]; rfl]
        rfl
    | ok n =>
      have e1 : ansV g e = .int n := by unfold ansV; rw [hv]; rfl
      rcases all_cases g es with ⟨ns, h1, h2⟩ | ⟨r, more, h1, h2⟩
      · refine .inl ⟨n :: ns, ?_, ?_⟩
        · unfold valAll
          rw [hv]
          dsimp only
          rw [h1]
        · rw [List.map_cons, e1, h2]
          rfl
      · refine .inr ⟨r, more, ?_, ?_⟩
        · unfold valAll
          rw [hv]
          dsimp only
          rw [h1]
        · rw [List.map_cons, e1]
          exact h2
theorem ints_noS (ns : List Int) : (ns.map V.int).filter isS = [] := by
  induction ns with
  | nil => rfl
  | cons n ns ih => exact ih
theorem ansV_cases (g : Env) (e : Ex) : (∃ n, ansV g e = .int n) ∨ (∃ z, ansV g e = .str z) := by
  unfold ansV
  cases val g e with
  | ok n => exact .inl ⟨n, rfl⟩
  | err r => exact .inr ⟨r.s, rfl⟩
theorem merge_kvs (g : Env) : mergeK [] g.kvs = g.kvs := by rfl
theorem StAt.other {K : PySem.W.Frag} {l : Addr} {H : Hp} {p q : Addr} {kvs : List (Key × V)} {o : HO} (h : StAt K l H p) (hq : H q = some (.dK kvs)) : StAt K l (upd H q o) p := by
  obtain ⟨ns, a, b, c, e, h1, h2, h3, h4⟩ := h
  have np : p ≠ q := fun z => by rw [z, hq] at h1; cases h1
  refine ⟨ns, a, b, c, e, by rw [upd_ne np]; exact h1, ?_, h3, h4⟩
  rcases h2 with (h2 | ⟨u, h2⟩) | h2
  · have nl : l ≠ q := fun z => by rw [z, hq] at h2; cases h2
    exact .inl (.inl (by rw [upd_ne nl]; exact h2))
  · have nl : l ≠ q := fun z => by rw [z, hq] at h2; cases h2
    exact .inl (.inr ⟨u, by rw [upd_ne nl]; exact h2⟩)
  · exact .inr h2
theorem Exs.snoc {H : Hp} {us : List V} {es : List Ex} {v : V} {e : Ex} (h : Exs H us es) (k : EAt H v e) : Exs H (us ++ [v]) (es ++ [e]) := by
  induction h with
  | nil => exact .cons k .nil
  | cons h r ih => exact .cons h ih
theorem Exs.at2 {H : Hp} {us : List V} {es : List Ex} {i : Nat} {v : V} (h : Exs H us es) (q : us[i]? = some v) : ∃ e, es[i]? = some e ∧ EAt H v e := by
  obtain ⟨e, r, h1, _, h3⟩ := h.at q
  refine ⟨e, ?_, h3⟩
  have : (es.drop i)[0]? = some e := by rw [h1]; rfl
  rw [List.getElem?_drop] at this
  exact this
theorem take_snoc {α : Type} {xs : List α} {i : Nat} {x : α} (h : xs[i]? = some x) : xs.take (i + 1) = xs.take i ++ [x] := by
  rw [List.take_succ, h]
  rfl
theorem Same.upd {H H' : Hp} {p : Addr} (s : Same H H') (n : H p = none) (o : HO) : Same H (upd H' p o) := fun b u q => by rw [upd_ne (ne_of_none q n)]; exact s b u q
theorem StAt.upd2 {K : PySem.W.Frag} {l : Addr} {H H0 : Hp} {p p0 q : Addr} {o : HO} (h : StAt K l H p) (h0 : StAt K l H0 p0) (n : H0 q = none) (np : q ≠ p) : StAt K l (upd H q o) p := by
  obtain ⟨ns, a, b, c, e, h1, h2, h3, h4⟩ := h
  obtain ⟨ns0, _, _, _, _, _, g2, _, _⟩ := h0
  have hp : upd H q o p = some (.lst [.ref l, .int a, .int b, .int c, .int e]) := by rw [upd_ne (Ne.symm np)]; exact h1
  have go : l ≠ q → StAt K l (upd H q o) p := fun nl => by
    refine ⟨ns, a, b, c, e, hp, ?_, h3, h4⟩
    rcases h2 with (h2 | ⟨u, h2⟩) | h2
    · exact .inl (.inl (by rw [upd_ne nl]; exact h2))
    · exact .inl (.inr ⟨u, by rw [upd_ne nl]; exact h2⟩)
    · exact .inr h2
  rcases g2 with (g2 | ⟨u, g2⟩) | g2
  · exact go (ne_of_none g2 n)
  · exact go (ne_of_none g2 n)
  · exact ⟨ns0, a, b, c, e, hp, .inr g2, h3, h4⟩
theorem any_sp {P : Program} {w : World} {K : PySem.W.Frag} {mg : Str → Option Value} {base : Heap} {n : Nat} {f : Addr} {fd : FuncData} {ps : List Str} {sp : Addr → Sp} (h : ∀ l, FnOk P w K mg base CX0 n f fd ps (sp l)) :
    FnOk P w K mg base CX0 n f fd ps (fun vs H Q E => ∃ l, sp l vs H Q E) :=
  ⟨fun vs H Q E ⟨l, q⟩ => (h l).1 vs H Q E q, fun A outer s H args us vs Q E a b c d ⟨l, q⟩ => (h l).2 A outer s H args us vs Q E a b c d q⟩
theorem kvs_self (g : Env) : ∀ p ∈ g.kvs, valV g.kvs p.1 = some p.2 ∧ flatB p.2 = true := by
  intro p hp
  unfold Env.kvs at hp
  simp only [List.mem_cons, List.not_mem_nil, or_false] at hp
  rcases hp with rfl | rfl | rfl
  · exact ⟨g.look .n, rfl⟩
  · exact ⟨g.look .x, rfl⟩
  · exact ⟨g.look .k, rfl⟩
/-- a result as data -/
def toD : V → PyData
  | .int n => .int n
  | .str z => .str z
  | _ => .none
def isR (v : V) : Prop := ∃ r : Re, v = resV r
theorem rs_ok (r : Rs) : PyData.strOk r.s = true := by cases r <;> decide +kernel
theorem isR.dp {K : PySem.W.Frag} {H : Hp} {v : V} (h : isR v) : Dp K H v (toD v) := by
  obtain ⟨r, rfl⟩ := h
  cases r with
  | ok n => exact .int n
  | err r => exact .str r.s
theorem isR.lay {v : V} (h : isR v) : (toD v).canLay0 = true ∧ (toD v).depth = 0 := by
  obtain ⟨r, rfl⟩ := h
  cases r with
  | ok n => exact ⟨rfl, rfl⟩
  | err r => exact ⟨rs_ok r, rfl⟩
theorem dp_all {K : PySem.W.Frag} {H : Hp} : ∀ {xs : List V}, (∀ x ∈ xs, isR x) → DpAll K H xs (xs.map toD)
  | [], _ => .nil
  | x :: xs, h => .cons (h x (List.mem_cons_self ..)).dp (dp_all fun y q => h y (List.mem_cons_of_mem _ q))
theorem lay_all : ∀ {xs : List V}, (∀ x ∈ xs, isR x) → PyData.canLayAll0 (xs.map toD) = true ∧ PyData.depthAll (xs.map toD) = 0
  | [], _ => ⟨rfl, rfl⟩
  | x :: xs, h => by
    have h1 := (h x (List.mem_cons_self ..)).lay
    have h2 := lay_all (xs := xs) fun y q => h y (List.mem_cons_of_mem _ q)
    constructor
    · show ((toD x).canLay0 && PyData.canLayAll0 (xs.map toD)) = true
      rw [h1.1, h2.1]
      rfl
    · show max (toD x).depth (PyData.depthAll (xs.map toD)) = 0
      rw [h1.2, h2.2]
      rfl
theorem shaped_tup {xs : List V} (h : ∀ x ∈ xs, isR x) : SeqAt.shaped (.tuple (xs.map toD)) = true := by
  have q := lay_all h
  show (PyData.canLayAll0 (xs.map toD) && decide (PyData.depthAll (xs.map toD) + 1 ≤ 64)) = true
  rw [q.1, q.2]
  rfl
theorem shaped_lst {xs : List V} (h : ∀ x ∈ xs, isR x) : SeqAt.shaped (.list (xs.map toD)) = true := by
  have q := lay_all h
  show (PyData.canLayAll0 (xs.map toD) && decide (PyData.depthAll (xs.map toD) + 1 ≤ 64)) = true
  rw [q.1, q.2]
  rfl
theorem shaped_rs (r : Rs) : SeqAt.shaped (.str r.s) = true := by cases r <;> decide +kernel
theorem eqv_sh {d : PyData} (h : SeqAt.shaped d = true) : PyData.eqv d d = true := SeqAt.eqv_refl d (SeqAt.canLay_of_shaped h)
theorem isi_bool {K : PySem.W.Frag} {H : Hp} (r : Re) : ∃ t, TyX K H (resV r) (.type t) ∧ kitB t "bool" = some false := by
  cases r with
  | ok n => exact ⟨"int", .base (.int n), by decide +kernel⟩
  | err r => exact ⟨"str", .base (.str _), by decide +kernel⟩
theorem scal_self (r : Re) : scal (resV r) (resV r) = true := by cases r <;> rfl
section
variable {P : Program} {w : World} {K : PySem.W.Frag} {mg : Str → Option Value} {base : Heap} {C fI cc cda : Addr}
theorem ok_all0 {n : Nat} {f fE : Addr} {fd fdE : FuncData} (F : Fun K "evaluate_all" "evaluate_all" sAll f fd) (T : Txt P K mg C fI cc cda)
    (GE : FnOk P w K mg base (L2.CX P w) (5 + n) fE fdE ["expression", "names"] (spEval C n)) (LE : Cal K mg "evaluate" fE fdE ["expression", "names"]) :
    FnOk P w K mg base (L2.CX P w) (5 + n + 1) f fd ["expressions", "names"] (spAll0 K) := by
  refine F.okX scA (fun vs H Q E h => ?_) (fun cdv A outer s H vs Q E hr h => ?_)
  · obtain ⟨l, d, rfl, _⟩ := h
    rfl
  · obtain ⟨l, d, rfl, hl, k⟩ := h
    refine ⟨_, (pss_one (ps_ret (pe_callTy call_tuple_of rfl T.ztuple boot_tuple0 (pa_cons
      (pe_lcX (E := E) (own := [("expression", 2)]) (g := gName 2) (tt := tYes) rfl rfl takesX (fun _ _ _ _ h => h) rfl scA.nd (pi_list (pv 0)) (blkOk_by (own := [("expression", 2)]) (N := ["expressions", "names", "expression"]) (sc := defScope sAll) (by decide +kernel))
        (fun _ _ _ _ _ => pg_name (i := 2) scA.nd rfl (Or.inl rfl)) (fun _ _ _ _ _ => pts_nil)
        (fun _ _ _ _ _ pn xe ps => pe_call GE hr rfl LE.g LE.k LE.b .nil ps (pa_cons (pv 2) (pa_cons (pv 1) pa_nil)))) pa_nil)))), ?_⟩
    refine ⟨_, rfl, l, rfl, ⟨_, hl⟩, fun D hD => lc_list (K := K) (a := l) (xs := []) (fun i H' => Same H H' ∧ H' D = some (.lst []))
      ⟨same_new hD _, upd_same⟩ (fun i H' _ ⟨s1, _⟩ => s1.seq hl) ?_ ?_⟩
    · rintro i x H' hx _
      simp at hx
    · rintro H' ⟨s1, hD'⟩
      refine ⟨D, _, rfl, .inl ⟨SqL.of hD', fun t ht => ?_⟩⟩
      exact k _ t (s1.trans (same_new ht _)) upd_same
def NL : List Str := ["script", "state", "names", "given", "_law_turn", "exps", "dues", "exp", "due", "actual", "faults", "whole", "thing"]
theorem scW : FnScope ["script", "state", "names", "given", "_law_turn", "exps", "dues", "exp", "due", "actual", "faults", "whole", "thing"] ["script"] (defScope sLaw) := ⟨rfl, rfl, rfl, by decide +kernel, rfl, by decide +kernel, by decide +kernel⟩
def spLaw (K : PySem.W.Frag) : Sp := fun vs H Q _ => ∃ (a : Addr) (ns : List Int), vs = [.ref a] ∧ SqL K H a (ns.map V.int) ∧ ∀ H', Q (.bl true) H'
theorem ok_law {f fS fD fX fV fT fA fAT fIV : Addr} {fd fdS fdD fdX fdV fdT fdA fdAT fdIV : FuncData} (F : Fun K "law" "law" sLaw f fd) (T : Txt P K mg C fI cc cda) (zdict : mg "dict" = none)
    (GS : FnOk P w K mg base CX0 1 fS fdS ["script"] (spState K)) (LS : Cal K mg "_law_state" fS fdS ["script"])
    (GD : FnOk P w K mg base CX0 1 fD fdD ["state", "many"] (fun vs H Q E => ∃ l, spDraw K l vs H Q E)) (LD : Cal K mg "_law_draw" fD fdD ["state", "many"])
    (GX : FnOk P w K mg base CX0 7 fX fdX ["state", "names", "depth"] (fun vs H Q E => ∃ l, spExp K l 5 vs H Q E)) (LX : Cal K mg "_law_exp" fX fdX ["state", "names", "depth"])
    (GV : FnOk P w K mg base CX0 6 fV fdV ["exp", "names"] (spVal 5)) (LV : Cal K mg "_law_value" fV fdV ["exp", "names"])
    (GT : FnOk P w K mg base CX0 11 fT fdT ["exp", "names"] (spVal 5)) (LT : Cal K mg "_law_told" fT fdT ["exp", "names"])
    (GA : FnOk P w K mg base (L2.CX P w) 11 fA fdA ["expressions", "names"] (spAll0 K)) (LA : Cal K mg "evaluate_all" fA fdA ["expressions", "names"])
    (GAT : FnOk P w K mg base CX0 12 fAT fdAT ["exps", "names"] (spATold K 5)) (LAT : Cal K mg "_law_all_told" fAT fdAT ["exps", "names"])
    (GIV : FnOk P w K mg base CX0 1 fIV fdIV ["number"] (spIsV K)) (LIV : Cal K mg "is_value" fIV fdIV ["number"]) :
    FnOk P w K mg base CX0 13 f fd ["script"] (spLaw K) := by
  refine F.ok scW (fun vs H Q E h => ?_) (fun cdv A outer s H vs Q E hr h => ?_)
  · obtain ⟨a, ns, rfl, _⟩ := h
    rfl
  · obtain ⟨a, ns, rfl, ha, k⟩ := h
    have hu := hu_of hr
    have hr1 : Room 1 _ := hr.mono (by decide)
    have hr6 : Room 6 _ := hr.mono (by decide)
    have hr7 : Room 7 _ := hr.mono (by decide)
    have hr11 : Room 11 _ := hr.mono (by decide)
    refine ⟨_, (pss_cons (ps_set (i := 1) scW.nd rfl (Or.inr rfl) (pe_call GS hr1 rfl LS.g LS.k LS.b .nil pass0 (pa_cons (pv 0) pa_nil)))
      (pss_cons (ps_set (i := 2) scW.nd rfl (Or.inl rfl) (pe_disp (pps_cons pe_str (pe_op op_sub (pe_call GD hr1 rfl LD.g LD.k LD.b .nil pass0 (pa_cons (pv 1) (pa_cons pe_int pa_nil))) pe_int)
          (pps_cons pe_str (pe_op op_sub (pe_call GD hr1 rfl LD.g LD.k LD.b .nil pass0 (pa_cons (pv 1) (pa_cons pe_int pa_nil))) pe_int)
          (pps_cons pe_str (pe_ix ix_list (pe_lst (pa_cons pe_int (pa_cons pe_int (pa_cons (pe_un un_neg pe_int) pa_nil)))) (pe_call GD hr1 rfl LD.g LD.k LD.b .nil pass0 (pa_cons (pv 1) (pa_cons pe_int pa_nil))) (fun _ _ => rfl)) pps_nil))) (by rfl) (by rfl) (fun z => by cases z) (by decide)))
      (pss_cons (ps_set (i := 3) scW.nd rfl (Or.inl rfl) (pe_callTy call_dictD rfl zdict boot_dict0 (pa_cons (pv 2) pa_nil)))
      (pss_cons (ps_setLc (i := 5) (own := [("_law_turn", 4)]) (g := gName 4) (tt := tYes) rfl scW.nd rfl rfl (sw_true rfl rfl rfl (by decide +kernel)) (pi_range1 rfl T.zrng (pa_cons (pe_op op_add pe_int (pe_call GD hr1 rfl LD.g LD.k LD.b .nil pass0 (pa_cons (pv 1) (pa_cons pe_int pa_nil)))) pa_nil))
          (blkOk_by (own := [("_law_turn", 4)]) (N := NL) (sc := defScope sLaw) (by decide +kernel)) (fun _ _ _ _ _ => pg_name (i := 4) scW.nd rfl (Or.inl rfl)) (fun _ _ _ _ _ => pts_nil)
          (fun _ _ _ _ _ => pe_call GX hr7 rfl LX.g LX.k LX.b .nil pass0 (pa_cons (pv 1) (pa_cons (pe_lst (pa_cons pe_str (pa_cons pe_str (pa_cons pe_str pa_nil)))) (pa_cons (pe_op op_add pe_int (pe_call GD hr1 rfl LD.g LD.k LD.b .nil pass0 (pa_cons (pv 1) (pa_cons pe_int pa_nil)))) pa_nil)))))
      (pss_cons (ps_set (i := 6) scW.nd rfl (Or.inl rfl) (pe_lst pa_nil))
      (pss_cons (ps_for PassesOwn.never rfl (pi_list (pv 5)) (pg_name (i := 7) scW.nd rfl (Or.inl rfl))
        (pss_cons (ps_set (i := 8) scW.nd rfl (Or.inl rfl) (pe_call GV hr6 rfl LV.g LV.k LV.b .nil pass0 (pa_cons (pv 7) (pa_cons (pv 2) pa_nil))))
        (pss_cons (ps_set (i := 9) scW.nd rfl (Or.inl rfl) (pe_call GT hr11 rfl LT.g LT.k LT.b .nil pass0 (pa_cons (pv 7) (pa_cons (pv 3) pa_nil))))
        (pss_cons (ps_if (PW.pt (pw_or (pt_val (pe_callB call_isi rfl T.zisi boot_isi (pa_cons (pv 9) (pa_cons (pe_bltn (v := .ty "bool") rfl T.zbool boot_bool0 rfl) pa_nil)))) (pw_or (pt_cmpR op_ne (pv 9) (pv 8) (nomark _)) (pw_or1 (pt_cmpR (op_ne_dictA hr.units0) (pv 3) (pv 2) (nomark _))))))
          (pss_one (ps_ret pe_bl)) pss_nil)
        (pss_one (ps_expr (pe_bm PySem.F.plainAttrs_list PySem.F.slot_list_append PySem.F.type_list_append mt_append (pv 6) (pa_cons (pv 8) pa_nil))))))))
      (pss_cons (ps_setLc (i := 10) (own := [("due", 8)]) (g := gName 8) (tt := tB (tCB (rIsi K) (tCons (tVar 8) (tCons (tC (.ty "str")) tNil)))) (te := tVar 8) rfl scW.nd rfl rfl (sw_true rfl rfl rfl (by decide +kernel)) (pi_list (pv 6))
          (blkOk_by (own := [("due", 8)]) (N := NL) (sc := defScope sLaw) (by decide +kernel)) (fun _ _ _ _ _ => pg_name (i := 8) scW.nd rfl (Or.inl rfl))
          (fun _ _ _ _ _ => pts_one (pt_val (pe_callB call_isi rfl T.zisi boot_isi (pa_cons (pv 8) (pa_cons (pe_bltn (v := .ty "str") rfl T.zstr boot_str0 rfl) pa_nil)))))
          (fun _ _ _ _ _ => pv 8))
      (pss_cons (ps_set (i := 11) scW.nd rfl (Or.inl rfl) (pe_callTy call_tuple_of rfl T.ztuple boot_tuple0 (pa_cons (pv 6) pa_nil)))
      (pss_cons (ps_if (pt_cmpR (op_neD hr.units) (pv 10) (pe_lst pa_nil) (nomark _))
        (pss_one (ps_set (i := 11) scW.nd rfl (Or.inl rfl) (pe_ix ix_list (pv 10) pe_int (fun _ _ => rfl)))) pss_nil)
      (pss_cons (ps_if (PW.pt (pw_or (pt_cmpR (op_neD hr.units) (pe_call GAT hr rfl LAT.g LAT.k LAT.b .nil pass0 (pa_cons (pv 5) (pa_cons (pv 3) pa_nil))) (pv 11) (nomark _))
          (pw_or1 (pt_cmpR (op_neD hr.units) (pe_call GA hr11 rfl LA.g LA.k LA.b .nil passL (pa_cons (pe_lst pa_nil) (pa_cons pe_dnewK pa_nil))) (pe_tup pa_nil) (nomark _)))))
        (pss_one (ps_ret pe_bl)) pss_nil)
      (pss_cons (ps_for PassesOwn.never rfl (pi_list (pe_lst (pa_cons pe_bl (pa_cons pe_bl (pa_cons pe_non (pa_cons pe_str (pa_cons pe_int (pa_cons (pe_un un_neg pe_int) (pa_cons (pe_tup (pa_cons pe_int pa_nil)) (pa_cons (pe_lst pa_nil) pa_nil)))))))))) (pg_name (i := 12) scW.nd rfl (Or.inl rfl))
        (pss_one (ps_if (pt_cmpR op_notBl (pe_call GIV hr1 rfl LIV.g LIV.k LIV.b .nil pass0 (pa_cons (pv 12) pa_nil)) pe_bl (nomark _))
          (pss_one (ps_ret pe_bl)) pss_nil)))
      (pss_one (ps_ret (pe_and (pe_cmpR op_isBl (pe_call GIV hr1 rfl LIV.g LIV.k LIV.b .nil pass0 (pa_cons pe_int pa_nil)) pe_bl (nomark _))
        (pe_and (pe_cmpR op_isBl (pe_call GIV hr1 rfl LIV.g LIV.k LIV.b .nil pass0 (pa_cons (pe_un un_neg pe_int) pa_nil)) pe_bl (nomark _))
          (pe_one (pe_cmpR op_isBl (pe_call GIV hr1 rfl LIV.g LIV.k LIV.b .nil pass0 (pa_cons (pe_dget hu (pv 2) pe_str (fun _ _ => rfl)) pa_nil)) pe_bl (nomark _)))))))))))))))))), ?_⟩
    refine ⟨_, rfl, a, ns, rfl, ha, fun p L H1 s1 np S1 => ?_⟩
    -- names
    refine fun q hq => ?_
    have hqp := S1.ne hq
    have sq := same_new hq (.dK [])
    refine ⟨_, rfl, L, p, 9, rfl, S1.same sq, by decide, by decide, fun r1 H2 h10 h11 b2 S2 => ⟨_, _, rfl, rfl, ?_⟩⟩
    refine ⟨_, rfl, L, p, 4, rfl, S2, by decide, by decide, fun r2 H3 h20 h21 b3 S3 => ⟨_, _, rfl, rfl, ?_⟩⟩
    refine ⟨_, rfl, (by show 3 ≤ sizeLine; decide), fun u hu => ?_⟩
    have hup := S3.ne hu
    have su := same_new hu (.lst [.int 0, .int 999999999, .int (-7)])
    refine ⟨_, rfl, L, p, 3, rfl, S3.same su, by decide, by decide, fun r3 H4 h30 h31 b4 S4 => ?_⟩
    obtain ⟨v, hv, hm⟩ := at_mem (xs := [.int 0, .int 999999999, .int (-7)]) h30 h31
    have hvz : ∃ z, v = .int z ∧ inV z := by
      simp only [List.mem_cons, List.not_mem_nil, or_false] at hm
      rcases hm with rfl | rfl | rfl
      · exact ⟨_, rfl, by decide⟩
      · exact ⟨_, rfl, by decide⟩
      · exact ⟨_, rfl, by decide⟩
    obtain ⟨z, rfl, hz⟩ := hvz
    refine ⟨u, _, _, _, rfl, rfl, SqL.of (b4 _ _ hup upd_same), hv, ?_⟩
    have hq4 : H4 q = some (.dK []) := b4 _ _ hqp (su _ _ (b3 _ _ hqp (b2 _ _ hqp upd_same)))
    obtain ⟨g, hg⟩ : ∃ g : Env, g = ⟨r1 - 3, r2 - 1, z⟩ := ⟨_, rfl⟩
    have gok : g.ok := fun i => by
      subst hg
      cases i with
      | n => show inV (r1 - 3); unfold inV; omega
      | x => show inV (r2 - 1); unfold inV; omega
      | k => exact hz
    refine ⟨hq4, g.kvs, by subst hg; rfl, by show 3 ≤ 15; decide, ?_⟩
    rw [merge_kvs]
    have S5 : StAt K L (upd H4 q (.dK g.kvs)) p := S4.other hq4
    -- given
    refine ⟨_, rfl, q, g.kvs, rfl, .inl upd_same, fun dg hdg => ?_⟩
    have sdg := same_new hdg (.dK g.kvs)
    have S6 := S5.same sdg
    have hq6 : upd (upd H4 q (.dK g.kvs)) dg (.dK g.kvs) q = some (.dK g.kvs) := sdg _ _ upd_same
    have hdg6 : upd (upd H4 q (.dK g.kvs)) dg (.dK g.kvs) dg = some (.dK g.kvs) := upd_same
    have hdgp := S5.ne hdg
    generalize upd (upd H4 q (.dK g.kvs)) dg (.dK g.kvs) = H6 at S6 hq6 hdg6 ⊢
    -- exps
    refine ⟨_, rfl, L, p, 4, rfl, S6, by decide, by decide, fun r4 H7 h40 h41 b7 S7 => ⟨_, _, rfl, rfl, ?_⟩⟩
    have hq7 := b7 _ _ hqp hq6
    have hdg7 := b7 _ _ hdgp hdg6
    refine ⟨1 + r4, rfl, by omega, by omega, fun D hD => lc_range (lo := 0) (n := (1 + r4).toNat) (fun i H' => ∃ us es, But p H7 H' ∧ StAt K L H' p ∧ H' D = some (.lst us) ∧ us.length = i ∧ Exs H' us es ∧ ∀ e ∈ es, e.dep < 5) ?_ ?_ ?_⟩
    · exact ⟨[], [], Same.but (same_new hD _), S7.same (same_new hD _), upd_same, rfl, .nil, fun e he => by cases he⟩
    · rintro i H' hi ⟨us, es, b, S, hD', hlen, hes, hdep⟩
      refine ⟨rfl, ⟨_, rfl, (by show 3 ≤ sizeLine; decide), fun t ht => ?_⟩⟩
      have htp := S.ne ht
      have st := same_new ht (.lst [.str "n", .str "x", .str "k"])
      have hi4 : i < 4 := by omega
      have hDp : D ≠ p := S7.ne hD
      refine ⟨_, rfl, L, p, 4, rfl, S.same st, by decide, by decide, fun r5 H9 h50 h51 b9 S9 => ⟨_, _, rfl, rfl, ?_⟩⟩
      have hD9 : H9 D = some (.lst us) := b9 _ _ hDp (st _ _ hD')
      refine ⟨L, p, t, 1 + r5, rfl, S9, SqL.of (b9 _ _ htp upd_same), htp, by omega, by omega, fun v e H10 b10 S10 he hde => ?_⟩
      have hD10 : H10 D = some (.lst us) := b10 _ _ hDp hD9
      have hlD : ∀ xs, H10 D ≠ some (.tup xs) := fun xs z => by rw [hD10] at z; cases z
      have es10 : Exs H10 us es := ((hes.same st).but b9 (S.same st).notup).but b10 S9.notup
      refine ⟨us, hD10, Nat.lt_of_le_of_lt (show us.length ≤ 4 by omega) (by decide), us ++ [v], es ++ [e], ?_, ?_, upd_same, by rw [List.length_append, hlen]; rfl, (es10.but (but_upd _) hlD).snoc (he.but (but_upd _) hlD), ?_⟩
      · exact fun b' o' n' q' => by rw [upd_ne (ne_of_none q' hD)]; exact ((b.trans (Same.but st)).trans (b9.trans b10)) b' o' n' q'
      · exact S10.upd2 S7 hD hDp
      · intro e' q
        rcases List.mem_append.mp q with q | q
        · exact hdep e' q
        · rw [List.mem_singleton.mp q]
          omega
    · rintro H8 ⟨us, es, b8, S8, hD8, hlen, hes, hdep⟩
      have hDp : D ≠ p := S7.ne hD
      have hus4 : us.length ≤ 4 := by omega
      have hq8 := b8 _ _ hqp hq7
      have hdg8 := b8 _ _ hdgp hdg7
      have hl := hes.len
      clear b8 S8 hq7 hdg7 S7 b7 S6 hq6 hdg6
      refine ⟨(by show 0 ≤ sizeLine; decide), fun ds hds => ?_⟩
      have sds := same_new hds (.lst [])
      have hDds : D ≠ ds := ne_of_none hD8 hds
      have hqds : q ≠ ds := ne_of_none hq8 hds
      have hdgds : dg ≠ ds := ne_of_none hdg8 hds
      refine ⟨_, rfl, D, rfl, ⟨_, SqL.of (sds _ _ hD8)⟩, for_list (K := K) (a := D) (xs := us)
        (fun i σ H' => (∃ x7 x8 x9, σ = [some (.ref a), some (.ref p), some (.ref q), some (.ref dg), none, some (.ref D), some (.ref ds), x7, x8, x9, none, none, none]) ∧ But ds H8 H' ∧ H' ds = some (.lst ((es.map (ansV g)).take i)))
        ⟨⟨none, none, none, rfl⟩, but_upd _, upd_same⟩ (fun i σ H' _ ⟨_, b, _⟩ => SqL.of (b _ _ hDds hD8)) ?_ ?_⟩
      · rintro i x σ H' hx ⟨⟨x7, x8, x9, rfl⟩, b, hv'⟩
        obtain ⟨e, he, hE⟩ := hes.at2 hx
        have hdp := hdep e (List.mem_of_getElem? he)
        have E' : EAt H' x e := hE.but b (fun xs z => by rw [hds] at z; cases z)
        refine ⟨_, rfl, _, rfl, x, q, e, g, rfl, hdp, E', b _ _ hqds hq8, gok, fun H2 s2 => ?_⟩
        refine ⟨_, rfl, _, rfl, x, dg, e, g, rfl, hdp, E'.same s2, s2 _ _ (b _ _ hdgds hdg8), gok, fun H3 s3 => ?_⟩
        obtain ⟨t, ht, hk⟩ := isi_bool (K := K) (H := H3) (val g e)
        refine ⟨_, rfl, _, _, _, _, _, rfl, .ty "bool", ht, kit_ty hk, _, rfl, iteF ?_⟩
        refine ⟨_, rfl, _, rfl, scal_self _, _, rfl, ifNF rfl ?_⟩
        have hq' : H3 q = some (.dK g.kvs) := s3 _ _ (s2 _ _ (b _ _ hqds hq8))
        have hdg' : H3 dg = some (.dK g.kvs) := s3 _ _ (s2 _ _ (b _ _ hdgds hdg8))
        have hv3 := s3 _ _ (s2 _ _ hv')
        refine ⟨_, rfl, _, rfl, dg, q, g.kvs, g.kvs, rfl, rfl, hdg', hq', rfl, kvs_self g, _, rfl, iteF ?_⟩
        refine ⟨_, rfl, .inl ⟨rfl, _, SqL.of hv3⟩, _, rfl, ds, _, _, rfl, rfl, hv3, ?_, ?_⟩
        · rw [List.length_take]
          exact Nat.lt_of_le_of_lt (Nat.min_le_right _ _) (Nat.lt_of_le_of_lt (show (es.map (ansV g)).length ≤ 4 by rw [List.length_map, ← hl]; exact hus4) (show 4 < sizeLine by decide))
        · refine ⟨⟨_, _, _, rfl⟩, b.trans ((Same.but s2).trans ((Same.but s3).trans (but_upd _))), ?_⟩
          rw [take_snoc (show (es.map (ansV g))[i]? = some (ansV g e) by rw [List.getElem?_map, he]; rfl)]
          exact upd_same
      · rintro σ H' ⟨⟨x7, x8, x9, rfl⟩, b, hv'⟩
        have hlv : (es.map (ansV g)).length = us.length := by rw [List.length_map, hl]
        rw [← hlv, List.take_length] at hv'
        have hR : ∀ x ∈ es.map (ansV g), isR x := fun x hx => by
          obtain ⟨e, _, rfl⟩ := List.mem_map.mp hx
          exact ⟨_, rfl⟩
        have hv4 : (es.map (ansV g)).length ≤ 4 := by rw [hlv]; exact hus4
        have hD' := b _ _ hDds hD8
        have hq' := b _ _ hqds hq8
        have hdg' := b _ _ hdgds hdg8
        have hes' : Exs H' us es := hes.but b (fun xs z => by rw [hds] at z; cases z)
        clear b hq8 hdg8 hD8 sds
        obtain ⟨vs, hvs⟩ : ∃ vs, vs = es.map (ansV g) := ⟨_, rfl⟩
        have hcases := all_cases g es
        rw [← hvs] at hv' hR hv4 hcases hlv
        refine ⟨_, rfl, ds, rfl, ⟨_, SqL.of hv'⟩, fun Df hDf => lc_list (K := K) (a := ds) (xs := vs) (fun i Hc => Same H' Hc ∧ Hc Df = some (.lst ((vs.take i).filter isS)))
          ⟨same_new hDf _, upd_same⟩ (fun i Hc _ ⟨sc, _⟩ => sc.seq (SqL.of hv')) ?_ ?_⟩
        · rintro i x Hc hx ⟨sc, hf⟩
          obtain ⟨r, rfl⟩ := hR x (List.mem_of_getElem? hx)
          obtain ⟨t, ht, hk⟩ := isi_str (K := K) (H := Hc) r
          refine ⟨rfl, _, rfl, _, _, _, _, _, rfl, .ty "str", ht, kit_ty hk, _, rfl, ?_⟩
          cases r with
          | ok n =>
            refine iteF ⟨sc, ?_⟩
            rw [take_snoc hx, List.filter_append]
            show Hc Df = some (.lst ((vs.take i).filter isS ++ []))
            rw [List.append_nil]
            exact hf
          | err r =>
            refine iteT ⟨_, rfl, _, hf, Nat.lt_of_le_of_lt (Nat.le_trans (List.length_filter_le _ _) (Nat.le_trans (List.length_take_le' _ _) hv4)) (by decide), Same.upd sc hDf _, ?_⟩
            rw [take_snoc hx, List.filter_append]
            exact upd_same
        · rintro Hc ⟨sc, hf⟩
          rw [List.take_length] at hf
          refine ⟨_, rfl, ds, _, rfl, .inl ⟨SqL.of (sc _ _ hv'), fun tw htw => ?_⟩⟩
          have sw := same_new htw (.tup vs)
          refine ⟨_, rfl, (by show 0 ≤ sizeLine; decide), fun t2 ht2 => ?_⟩
          have s2 := same_new ht2 (.lst [])
          have hRf : ∀ x ∈ vs.filter isS, isR x := fun x hx => hR x (List.mem_filter.mp hx).1
          refine ⟨.list ((vs.filter isS).map toD), .list [], Dp.lst (SqL.of (s2 _ _ (sw _ _ hf))) (dp_all hRf), Dp.lst (SqL.of upd_same) .nil, shaped_lst hRf, rfl, _, rfl, ?_⟩
          have st := sc.trans (sw.trans s2)
          rcases hcases with ⟨ns', hok, hvn⟩ | ⟨r, more, her, hfm⟩
          · have hf0 : vs.filter isS = [] := by rw [hvn, ints_noS]
            rw [hf0]
            refine iteF ?_
            refine ⟨_, rfl, _, rfl, D, dg, us, es, g, rfl, SqL.of (st _ _ hD'), Nat.le_trans hus4 (by decide), hes'.same st, hdep, st _ _ hdg', gok, ?_⟩
            rw [hok]
            intro H5 p5 s5 n5 h5
            rw [← hvn] at h5
            refine ⟨_, rfl, .tuple (vs.map toD), .tuple (vs.map toD), Dp.tup (SqT.of h5) (dp_all hR), Dp.tup (SqT.of (s5 _ _ (s2 _ _ upd_same))) (dp_all hR), shaped_tup hR, shaped_tup hR, _, rfl, ?_⟩
            rw [eqv_sh (shaped_tup hR)]
            refine iteF ?_
            refine ⟨(by show 0 ≤ sizeLine; decide), fun l0 hl0 d0 hd0 => ⟨l0, d0, rfl, SqL.of (same_new hd0 (.dK []) _ _ upd_same), fun H6 p6 s6 h6 => ?_⟩⟩
            refine ⟨(by show 0 ≤ sizeLine; decide), fun t6 ht6 => ?_⟩
            refine ⟨.tuple [], .tuple [], Dp.tup (SqT.of (same_new ht6 (.tup []) _ _ h6)) .nil, Dp.tup (SqT.of upd_same) .nil, rfl, rfl, _, rfl, iteF ?_⟩
            have hq6 : H6 q = some (.dK g.kvs) := s6 _ _ (same_new hd0 (.dK []) _ _ (same_new hl0 (.lst []) _ _ (s5 _ _ (st _ _ hq'))))
            have hq7 := same_new ht6 (.tup []) _ _ hq6
            revert hq7
            generalize upd H6 t6 (.tup []) = H7
            intro hq7
            refine ⟨_, rfl, (by show 1 ≤ sizeLine; decide), fun tt htt => ⟨(by show 0 ≤ sizeLine; decide), fun ll hll => ⟨(by show 8 ≤ sizeLine; decide), fun lx hlx => ?_⟩⟩⟩
            have stt := same_new htt (.tup [.int 1])
            have sll := same_new hll (.lst [])
            have slx := same_new hlx (.lst [.bl true, .bl false, .non, .str "1", .int 1000000001, .int (-1000000001), .ref tt, .ref ll])
            refine ⟨lx, rfl, ⟨_, SqL.of upd_same⟩, for_list (K := K) (a := lx) (xs := [.bl true, .bl false, .non, .str "1", .int 1000000001, .int (-1000000001), .ref tt, .ref ll])
              (fun i σ Hx => (∃ x11 x12, σ = [some (.ref a), some (.ref p), some (.ref q), some (.ref dg), none, some (.ref D), some (.ref ds), x7, x8, x9, some (.ref Df), x11, x12]) ∧ Same (upd (upd (upd H7 tt (.tup [.int 1])) ll (.lst [])) lx (.lst [.bl true, .bl false, .non, .str "1", .int 1000000001, .int (-1000000001), .ref tt, .ref ll])) Hx)
              ⟨⟨_, none, rfl⟩, Same.refl _⟩ (fun i σ Hx _ ⟨_, s⟩ => SqL.of (s _ _ upd_same)) ?_ ?_⟩
            · rintro i x σ Hx hx ⟨⟨x11, x12, rfl⟩, sx⟩
              have cls : NotInt K Hx x ∨ ∃ n, x = .int n ∧ ¬ inV n := by
                have hm := List.mem_of_getElem? hx
                simp only [List.mem_cons, List.not_mem_nil, or_false] at hm
                rcases hm with rfl | rfl | rfl | rfl | rfl | rfl | rfl | rfl
                · exact .inl ⟨"bool", .base (.bl true), .inr ⟨by decide +kernel, by decide +kernel⟩⟩
                · exact .inl ⟨"bool", .base (.bl false), .inr ⟨by decide +kernel, by decide +kernel⟩⟩
                · exact .inl ⟨"NoneType", .base .non, .inl (by decide +kernel)⟩
                · exact .inl ⟨"str", .base (.str _), .inl (by decide +kernel)⟩
                · exact .inr ⟨_, rfl, by decide⟩
                · exact .inr ⟨_, rfl, by decide⟩
                · exact .inl ⟨"tuple", .base (.tup (sx _ _ (slx _ _ (sll _ _ upd_same)))), .inl (by decide +kernel)⟩
                · exact .inl ⟨"list", .base (.lst (sx _ _ (slx _ _ upd_same))), .inl (by decide +kernel)⟩
              rcases cls with cls | ⟨n, rfl, hn⟩
              · exact ⟨_, rfl, x, rfl, .inr ⟨cls, _, _, rfl, rfl, _, rfl, iteF ⟨⟨_, _, rfl⟩, sx⟩⟩⟩
              · refine ⟨_, rfl, _, rfl, .inl ⟨n, rfl, _, _, rfl, rfl, _, rfl, ?_⟩⟩
                rw [decide_eq_false hn]
                exact iteF ⟨⟨_, _, rfl⟩, sx⟩
            · rintro σ Hx ⟨⟨x11, x12, rfl⟩, sx⟩
              have hqx := sx _ _ (slx _ _ (sll _ _ (stt _ _ hq7)))
              have hgx := DGet.k (k := (Sum.inr "n" : Key)) hqx
              rw [show valV g.kvs (Sum.inr "n" : Key) = some (.int (g.get .n)) from g.look .n] at hgx
              refine ⟨_, rfl, .inl ⟨_, rfl, _, _, rfl, rfl, _, rfl, ifT (by decide) ?_⟩⟩
              refine ⟨_, rfl, _, rfl, .inl ⟨_, rfl, _, _, rfl, rfl, _, rfl, ifT (by decide) ?_⟩⟩
              refine ⟨_, rfl, q, _, rfl, hgx, _, rfl, .inl ⟨_, rfl, _, _, rfl, rfl, ?_⟩⟩
              rw [decide_eq_true (gok .n)]
              exact k _
          · have hf1 : PyData.eqv (.list ((vs.filter isS).map toD)) (.list []) = false := by rw [hfm]; rfl
            rw [hf1]
            refine iteT ?_
            refine ⟨_, rfl, Df, _, _, _, rfl, rfl, SqL.of (s2 _ _ (sw _ _ hf)), by rw [hfm]; exact at0, ?_⟩
            refine ⟨_, rfl, _, rfl, D, dg, us, es, g, rfl, SqL.of (st _ _ hD'), Nat.le_trans hus4 (by decide), hes'.same st, hdep, st _ _ hdg', gok, ?_⟩
            rw [her]
            intro H5 s5
            refine ⟨_, rfl, .str r.s, .str r.s, Dp.str r.s, Dp.str r.s, shaped_rs r, shaped_rs r, _, rfl, ?_⟩
            rw [eqv_sh (shaped_rs r)]
            refine iteF ?_
            refine ⟨(by show 0 ≤ sizeLine; decide), fun l0 hl0 d0 hd0 => ⟨l0, d0, rfl, SqL.of (same_new hd0 (.dK []) _ _ upd_same), fun H6 p6 s6 h6 => ?_⟩⟩
            refine ⟨(by show 0 ≤ sizeLine; decide), fun t6 ht6 => ?_⟩
            refine ⟨.tuple [], .tuple [], Dp.tup (SqT.of (same_new ht6 (.tup []) _ _ h6)) .nil, Dp.tup (SqT.of upd_same) .nil, rfl, rfl, _, rfl, iteF ?_⟩
            have hq6 : H6 q = some (.dK g.kvs) := s6 _ _ (same_new hd0 (.dK []) _ _ (same_new hl0 (.lst []) _ _ (s5 _ _ (st _ _ hq'))))
            have hq7 := same_new ht6 (.tup []) _ _ hq6
            revert hq7
            generalize upd H6 t6 (.tup []) = H7
            intro hq7
            refine ⟨_, rfl, (by show 1 ≤ sizeLine; decide), fun tt htt => ⟨(by show 0 ≤ sizeLine; decide), fun ll hll => ⟨(by show 8 ≤ sizeLine; decide), fun lx hlx => ?_⟩⟩⟩
            have stt := same_new htt (.tup [.int 1])
            have sll := same_new hll (.lst [])
            have slx := same_new hlx (.lst [.bl true, .bl false, .non, .str "1", .int 1000000001, .int (-1000000001), .ref tt, .ref ll])
            refine ⟨lx, rfl, ⟨_, SqL.of upd_same⟩, for_list (K := K) (a := lx) (xs := [.bl true, .bl false, .non, .str "1", .int 1000000001, .int (-1000000001), .ref tt, .ref ll])
              (fun i σ Hx => (∃ x11 x12, σ = [some (.ref a), some (.ref p), some (.ref q), some (.ref dg), none, some (.ref D), some (.ref ds), x7, x8, x9, some (.ref Df), x11, x12]) ∧ Same (upd (upd (upd H7 tt (.tup [.int 1])) ll (.lst [])) lx (.lst [.bl true, .bl false, .non, .str "1", .int 1000000001, .int (-1000000001), .ref tt, .ref ll])) Hx)
              ⟨⟨_, none, rfl⟩, Same.refl _⟩ (fun i σ Hx _ ⟨_, s⟩ => SqL.of (s _ _ upd_same)) ?_ ?_⟩
            · rintro i x σ Hx hx ⟨⟨x11, x12, rfl⟩, sx⟩
              have cls : NotInt K Hx x ∨ ∃ n, x = .int n ∧ ¬ inV n := by
                have hm := List.mem_of_getElem? hx
                simp only [List.mem_cons, List.not_mem_nil, or_false] at hm
                rcases hm with rfl | rfl | rfl | rfl | rfl | rfl | rfl | rfl
                · exact .inl ⟨"bool", .base (.bl true), .inr ⟨by decide +kernel, by decide +kernel⟩⟩
                · exact .inl ⟨"bool", .base (.bl false), .inr ⟨by decide +kernel, by decide +kernel⟩⟩
                · exact .inl ⟨"NoneType", .base .non, .inl (by decide +kernel)⟩
                · exact .inl ⟨"str", .base (.str _), .inl (by decide +kernel)⟩
                · exact .inr ⟨_, rfl, by decide⟩
                · exact .inr ⟨_, rfl, by decide⟩
                · exact .inl ⟨"tuple", .base (.tup (sx _ _ (slx _ _ (sll _ _ upd_same)))), .inl (by decide +kernel)⟩
                · exact .inl ⟨"list", .base (.lst (sx _ _ (slx _ _ upd_same))), .inl (by decide +kernel)⟩
              rcases cls with cls | ⟨n, rfl, hn⟩
              · exact ⟨_, rfl, x, rfl, .inr ⟨cls, _, _, rfl, rfl, _, rfl, iteF ⟨⟨_, _, rfl⟩, sx⟩⟩⟩
              · refine ⟨_, rfl, _, rfl, .inl ⟨n, rfl, _, _, rfl, rfl, _, rfl, ?_⟩⟩
                rw [decide_eq_false hn]
                exact iteF ⟨⟨_, _, rfl⟩, sx⟩
            · rintro σ Hx ⟨⟨x11, x12, rfl⟩, sx⟩
              have hqx := sx _ _ (slx _ _ (sll _ _ (stt _ _ hq7)))
              have hgx := DGet.k (k := (Sum.inr "n" : Key)) hqx
              rw [show valV g.kvs (Sum.inr "n" : Key) = some (.int (g.get .n)) from g.look .n] at hgx
              refine ⟨_, rfl, .inl ⟨_, rfl, _, _, rfl, rfl, _, rfl, ifT (by decide) ?_⟩⟩
              refine ⟨_, rfl, _, rfl, .inl ⟨_, rfl, _, _, rfl, rfl, _, rfl, ifT (by decide) ?_⟩⟩
              refine ⟨_, rfl, q, _, rfl, hgx, _, rfl, .inl ⟨_, rfl, _, _, rfl, rfl, ?_⟩⟩
              rw [decide_eq_true (gok .n)]
              exact k _
end
end K8
namespace K8
open PySem PySem.Spec L2 RX
theorem exm_own {K : PySem.W.Frag} {S : Addr} (h1 : PySem.W.subIn K (.ref S) (.type "BaseException") = some true) (h2 : PySem.W.isClsIn K S = true) (h3 : PySem.W.typeIn K (.ref S) = some (.type "type")) (h4 : PySem.W.subIn K (.ref S) (.ref S) = some true) :
    PySem.W.exmOne K (.ref S) (.ref S) = some true := by
  have e1 : (PySem.W.subIn K (.ref S) (.type "BaseException") == some true) = true := by rw [h1] <;> rfl
  have e2 : ((PySem.W.clsIn K S).isSome && PySem.W.typeIn K (.ref S) == some (.type "type")) = true := by
    have q : (PySem.W.clsIn K S).isSome = true := h2
    rw [q, h3] <;> rfl
  show (if (PySem.W.subIn K (.ref S) (.type "BaseException") == some true) = true then (if ((PySem.W.clsIn K S).isSome && PySem.W.typeIn K (.ref S) == some (.type "type")) = true then PySem.W.subIn K (.ref S) (.ref S) else none) else none) = some true
  rw [if_pos e1, if_pos e2]
  exact h4

theorem ks_of {K : PySem.W.Frag} {C N R : Addr} {nm q n : Str} {bs bm : List Value} {sn : List Str} {sub : List Value} {ab : Bool} {col : Option Bool} {dd : Option Addr} {m0 m1 m2 m3 m5 : Option Value} {cR : Value} {dR : Option Addr} {cdR : ClassData} {sR : Array (Option Value)} {r : Option (Option Value)}
    (xL : K.lookup C = some (excClassObj nm q C N bs bm true sn sub ab col dd m0 m1 m2 m3 m5 "ValueError.__new__")) (xR : K.lookup R = some ⟨cR, dR, .cls cdR, sR⟩) (mR : cdR.mro = bm) (iR : PySem.W.findIn K (.ref R) n = r) : PySem.W.ks_superIn K C C n = r := by
  have hcl : PySem.W.clsIn K C = some { name := nm, bases := bs, mro := .ref C :: bm, ns := N, qualname := q, hasDict := true, slotNames := sn, subclasses := sub, abstract := ab, collection := col, hasDel := false } := by unfold PySem.W.clsIn; rw [xL] <;> rfl
  have e : ((Value.ref C :: bm).dropWhile (· != Value.ref C)).drop 1 = bm := by simp [List.dropWhile]
  have f : PySem.W.findIn K (.ref R) n = PySem.W.alongIn K n bm := by
    rw [← mR]
    show (match K.lookup R with | some ⟨_, _, .cls cd, _⟩ => PySem.W.alongIn K n cd.mro | _ => none) = _
    rw [xR]
  unfold PySem.W.ks_superIn
  rw [hcl]
  show PySem.W.alongIn K n (((Value.ref C :: bm).dropWhile (· != Value.ref C)).drop 1) = r
  rw [e, ← f]
  exact iR
theorem all_mk {P : Program} {w : World} {K : PySem.W.Frag} {h : Heap} {mg : Str → Option Value} {fa C R cc cda f0 f1 f2 f3 f4 f5 f6 f7 f8 f9 f10 f11 f12 f13 f14 f15 f16 f17 : Addr} (X : K.In h) (G : h.Ns mainGlobals mg) (hfa : mg "law" = some (.ref fa))
    {nm q : Str} {N : Addr} {bs bm : List Value} {sn : List Str} {sub : List Value} {ab : Bool} {col : Option Bool} {dd : Option Addr} {m0 m1 m2 m3 m5 : Option Value} {cl ccl : Value} {cld cdd : Option Addr} {csl ccs : Array (Option Value)} {vs : Array Value} {file : Str} {tf tl tg : Nat} {cR : Value} {dR : Option Addr} {cdR : ClassData} {sR : Array (Option Value)}
    {od0 an0 od1 an1 od2 an2 od3 an3 od4 an4 od5 an5 od6 an6 od7 an7 od8 an8 od9 an9 od10 an10 od11 an11 od12 an12 od13 an13 od14 an14 od15 an15 od16 an16 od17 an17 : Option Addr} {sl0 sl1 sl2 sl3 sl4 sl5 sl6 sl7 sl8 sl9 sl10 sl11 sl12 sl13 sl14 sl15 sl16 sl17 : Array (Option Value)} {oc0 kV0 dc0 pm0 ct0 oc1 kV1 dc1 pm1 ct1 oc2 kV2 dc2 pm2 ct2 oc3 kV3 dc3 pm3 ct3 oc4 kV4 dc4 pm4 ct4 oc5 kV5 dc5 pm5 ct5 oc6 kV6 dc6 pm6 ct6 oc7 kV7 dc7 pm7 ct7 oc8 kV8 dc8 pm8 ct8 oc9 kV9 dc9 pm9 ct9 oc10 kV10 dc10 pm10 ct10 oc11 kV11 dc11 pm11 ct11 oc12 kV12 dc12 pm12 ct12 oc13 kV13 dc13 pm13 ct13 oc14 kV14 dc14 pm14 ct14 oc15 kV15 dc15 pm15 ct15 oc16 kV16 dc16 pm16 ct16 oc17 kV17 dc17 pm17 ct17 cd1 cd2 cd3 cd4 cd5 cd6 cd7 cd8 cd9 cd10 cd11 cd12 cd13 cd14 cd15 cd16 cd17 : Value}
    (aC : PySem.W.nsIn K mainGlobals "Fault" = some (some (.ref C)))
    (xL : K.lookup C = some (excClassObj nm q C N bs bm true sn sub ab col dd m0 m1 m2 m3 m5 "ValueError.__new__"))
    (bv : PySem.HandSPX.refsVE bm = true)
    (sa : PySem.W.findIn K (.ref C) "__setattr__" = some (some (.builtin "object.__setattr__")))
    (eC : PySem.W.subIn K (.ref C) (.type "BaseException") = some true)
    (tC : PySem.W.typeIn K (.ref C) = some (.type "type"))
    (kC : PySem.W.keepIn K (.ref C) = true)
    (nR : PySem.W.findIn K (.ref C) "reason" = some none)
    (iC : PySem.W.findIn K (.ref C) "__init__" = some (some (.ref f0)))
    (tI : PySem.W.typeIn K (.ref f0) = some (.type "function"))
    (l0 : K.lookup f0 = some ⟨oc0, od0, .func (PySem.W.ksFn "__init__" "Fault.__init__" (defArgs sInit) (defBody sInit) (defScope sInit) .none kV0 dc0 pm0 an0 (.ref cda) ct0 cc), sl0⟩)
    (c0 : PySem.W.codeIn K (.ref cda) "Fault.__init__" = true)
    (xc : K.lookup cc = some ⟨cl, cld, .cell (some (.ref C)), csl⟩)
    (xd : K.lookup cda = some ⟨ccl, cdd, .fields vs, ccs⟩)
    (xv : vs[2]? = some (.str file tf))
    (xf : ((P.main.file : Str) == file) = true)
    (se : PySem.W.mroIn K C (.ref C) = some true)
    (tp : (P.main.scope.names.lookup ("super" : Str)).isSome = false)
    (oq : PySem.W.nsIn K cStatics "thirdparty.any" = some none)
    (aR : PySem.W.nsIn K mainGlobals "RetroactError" = some (some (.ref R)))
    (xR : K.lookup R = some ⟨cR, dR, .cls cdR, sR⟩)
    (mR : cdR.mro = bm)
    (iR : PySem.W.findIn K (.ref R) "__init__" = some (some (.builtin "ValueError.__init__")))
    (vE : PySem.W.subIn K (.ref C) (.type "ValueError") = some true)
    (ga : PySem.W.findIn K (.ref C) "__getattribute__" = some (some (.builtin "BaseException.__getattribute__")))
    (gg : PySem.W.findIn K (.ref C) "__getattr__" = some none)
    (hC : PySem.W.hasDictIn K C = true)
    (ic : PySem.W.isClsIn K C = true)
    (sC : PySem.W.subIn K (.ref C) (.ref C) = some true)
    (z0 : PySem.W.nsIn K mainGlobals "isinstance" = some none)
    (z1 : PySem.W.nsIn K mainGlobals "int" = some none)
    (z2 : PySem.W.nsIn K mainGlobals "bool" = some none)
    (z3 : PySem.W.nsIn K mainGlobals "str" = some none)
    (z4 : PySem.W.nsIn K mainGlobals "len" = some none)
    (z5 : PySem.W.nsIn K mainGlobals "list" = some none)
    (z6 : PySem.W.nsIn K mainGlobals "tuple" = some none)
    (z7 : PySem.W.nsIn K mainGlobals "reversed" = some none)
    (z8 : PySem.W.nsIn K mainGlobals "range" = some none)
    (z9 : PySem.W.nsIn K mainGlobals "super" = some none)
    (z10 : PySem.W.nsIn K mainGlobals "dict" = some none)
    (gl : PySem.W.nsIn K mainGlobals "LEAST_VALUE" = some (some (.int (-1000000000) tl)))
    (gg2 : PySem.W.nsIn K mainGlobals "GREATEST_VALUE" = some (some (.int 1000000000 tg)))
    (a1 : PySem.W.nsIn K mainGlobals "is_value" = some (some (.ref f1)))
    (l1 : K.lookup f1 = some ⟨oc1, od1, .func (PySem.W.fnOf "is_value" "is_value" (defArgs sIsV) (defBody sIsV) (defScope sIsV) .none kV1 dc1 pm1 an1 cd1 ct1), sl1⟩)
    (c1 : PySem.W.codeIn K cd1 "is_value" = true)
    (k1 : PySem.W.keepIn K (.ref f1) = true)
    (a2 : PySem.W.nsIn K mainGlobals "evaluate" = some (some (.ref f2)))
    (l2 : K.lookup f2 = some ⟨oc2, od2, .func (PySem.W.fnOf "evaluate" "evaluate" (defArgs sEval) (defBody sEval) (defScope sEval) .none kV2 dc2 pm2 an2 cd2 ct2), sl2⟩)
    (c2 : PySem.W.codeIn K cd2 "evaluate" = true)
    (k2 : PySem.W.keepIn K (.ref f2) = true)
    (a3 : PySem.W.nsIn K mainGlobals "evaluate_all" = some (some (.ref f3)))
    (l3 : K.lookup f3 = some ⟨oc3, od3, .func (PySem.W.fnOf "evaluate_all" "evaluate_all" (defArgs sAll) (defBody sAll) (defScope sAll) .none kV3 dc3 pm3 an3 cd3 ct3), sl3⟩)
    (c3 : PySem.W.codeIn K cd3 "evaluate_all" = true)
    (k3 : PySem.W.keepIn K (.ref f3) = true)
    (a4 : PySem.W.nsIn K mainGlobals "_value_of_leaf" = some (some (.ref f4)))
    (l4 : K.lookup f4 = some ⟨oc4, od4, .func (PySem.W.fnOf "_value_of_leaf" "_value_of_leaf" (defArgs sLeaf) (defBody sLeaf) (defScope sLeaf) .none kV4 dc4 pm4 an4 cd4 ct4), sl4⟩)
    (c4 : PySem.W.codeIn K cd4 "_value_of_leaf" = true)
    (k4 : PySem.W.keepIn K (.ref f4) = true)
    (a5 : PySem.W.nsIn K mainGlobals "_in_range" = some (some (.ref f5)))
    (l5 : K.lookup f5 = some ⟨oc5, od5, .func (PySem.W.fnOf "_in_range" "_in_range" (defArgs sRange) (defBody sRange) (defScope sRange) .none kV5 dc5 pm5 an5 cd5 ct5), sl5⟩)
    (c5 : PySem.W.codeIn K cd5 "_in_range" = true)
    (k5 : PySem.W.keepIn K (.ref f5) = true)
    (a6 : PySem.W.nsIn K mainGlobals "_joined" = some (some (.ref f6)))
    (l6 : K.lookup f6 = some ⟨oc6, od6, .func (PySem.W.fnOf "_joined" "_joined" (defArgs sJoin) (defBody sJoin) (defScope sJoin) .none kV6 dc6 pm6 an6 cd6 ct6), sl6⟩)
    (c6 : PySem.W.codeIn K cd6 "_joined" = true)
    (k6 : PySem.W.keepIn K (.ref f6) = true)
    (a7 : PySem.W.nsIn K mainGlobals "_divided" = some (some (.ref f7)))
    (l7 : K.lookup f7 = some ⟨oc7, od7, .func (PySem.W.fnOf "_divided" "_divided" (defArgs sDiv) (defBody sDiv) (defScope sDiv) .none kV7 dc7 pm7 an7 cd7 ct7), sl7⟩)
    (c7 : PySem.W.codeIn K cd7 "_divided" = true)
    (k7 : PySem.W.keepIn K (.ref f7) = true)
    (a8 : PySem.W.nsIn K mainGlobals "_law_state" = some (some (.ref f8)))
    (l8 : K.lookup f8 = some ⟨oc8, od8, .func (PySem.W.fnOf "_law_state" "_law_state" (defArgs sState) (defBody sState) (defScope sState) .none kV8 dc8 pm8 an8 cd8 ct8), sl8⟩)
    (c8 : PySem.W.codeIn K cd8 "_law_state" = true)
    (k8 : PySem.W.keepIn K (.ref f8) = true)
    (a9 : PySem.W.nsIn K mainGlobals "_law_draw" = some (some (.ref f9)))
    (l9 : K.lookup f9 = some ⟨oc9, od9, .func (PySem.W.fnOf "_law_draw" "_law_draw" (defArgs sDraw) (defBody sDraw) (defScope sDraw) .none kV9 dc9 pm9 an9 cd9 ct9), sl9⟩)
    (c9 : PySem.W.codeIn K cd9 "_law_draw" = true)
    (k9 : PySem.W.keepIn K (.ref f9) = true)
    (a10 : PySem.W.nsIn K mainGlobals "_law_exp" = some (some (.ref f10)))
    (l10 : K.lookup f10 = some ⟨oc10, od10, .func (PySem.W.fnOf "_law_exp" "_law_exp" (defArgs sExp) (defBody sExp) (defScope sExp) .none kV10 dc10 pm10 an10 cd10 ct10), sl10⟩)
    (c10 : PySem.W.codeIn K cd10 "_law_exp" = true)
    (k10 : PySem.W.keepIn K (.ref f10) = true)
    (a11 : PySem.W.nsIn K mainGlobals "_law_number" = some (some (.ref f11)))
    (l11 : K.lookup f11 = some ⟨oc11, od11, .func (PySem.W.fnOf "_law_number" "_law_number" (defArgs sNum) (defBody sNum) (defScope sNum) .none kV11 dc11 pm11 an11 cd11 ct11), sl11⟩)
    (c11 : PySem.W.codeIn K cd11 "_law_number" = true)
    (k11 : PySem.W.keepIn K (.ref f11) = true)
    (a12 : PySem.W.nsIn K mainGlobals "_law_ok" = some (some (.ref f12)))
    (l12 : K.lookup f12 = some ⟨oc12, od12, .func (PySem.W.fnOf "_law_ok" "_law_ok" (defArgs sOk) (defBody sOk) (defScope sOk) .none kV12 dc12 pm12 an12 cd12 ct12), sl12⟩)
    (c12 : PySem.W.codeIn K cd12 "_law_ok" = true)
    (k12 : PySem.W.keepIn K (.ref f12) = true)
    (a13 : PySem.W.nsIn K mainGlobals "_law_op" = some (some (.ref f13)))
    (l13 : K.lookup f13 = some ⟨oc13, od13, .func (PySem.W.fnOf "_law_op" "_law_op" (defArgs sOp) (defBody sOp) (defScope sOp) .none kV13 dc13 pm13 an13 cd13 ct13), sl13⟩)
    (c13 : PySem.W.codeIn K cd13 "_law_op" = true)
    (k13 : PySem.W.keepIn K (.ref f13) = true)
    (a14 : PySem.W.nsIn K mainGlobals "_law_value" = some (some (.ref f14)))
    (l14 : K.lookup f14 = some ⟨oc14, od14, .func (PySem.W.fnOf "_law_value" "_law_value" (defArgs sVal) (defBody sVal) (defScope sVal) .none kV14 dc14 pm14 an14 cd14 ct14), sl14⟩)
    (c14 : PySem.W.codeIn K cd14 "_law_value" = true)
    (k14 : PySem.W.keepIn K (.ref f14) = true)
    (a15 : PySem.W.nsIn K mainGlobals "_law_told" = some (some (.ref f15)))
    (l15 : K.lookup f15 = some ⟨oc15, od15, .func (PySem.W.fnOf "_law_told" "_law_told" (defArgs sTold) (defBody sTold) (defScope sTold) .none kV15 dc15 pm15 an15 cd15 ct15), sl15⟩)
    (c15 : PySem.W.codeIn K cd15 "_law_told" = true)
    (k15 : PySem.W.keepIn K (.ref f15) = true)
    (a16 : PySem.W.nsIn K mainGlobals "_law_all_told" = some (some (.ref f16)))
    (l16 : K.lookup f16 = some ⟨oc16, od16, .func (PySem.W.fnOf "_law_all_told" "_law_all_told" (defArgs sATold) (defBody sATold) (defScope sATold) .none kV16 dc16 pm16 an16 cd16 ct16), sl16⟩)
    (c16 : PySem.W.codeIn K cd16 "_law_all_told" = true)
    (k16 : PySem.W.keepIn K (.ref f16) = true)
    (a17 : PySem.W.nsIn K mainGlobals "law" = some (some (.ref f17)))
    (l17 : K.lookup f17 = some ⟨oc17, od17, .func (PySem.W.fnOf "law" "law" (defArgs sLaw) (defBody sLaw) (defScope sLaw) .none kV17 dc17 pm17 an17 cd17 ct17), sl17⟩)
    (c17 : PySem.W.codeIn K cd17 "law" = true)
    (k17 : PySem.W.keepIn K (.ref f17) = true) :
    ∃ fd : FuncData, (∀ (s : Shared) (u : Value), BindsTo s fd ⟨[u], []⟩ [("script", u)]) ∧ ∀ base : Heap, K.In base → base.Ns mainGlobals mg → FnOk P w K mg base CX0 13 fa fd ["script"] (spLaw K) := by
  have e := hfa.symm.trans (PySem.W.mg_of X G a17)
  cases e
  have zz : ∀ {x : Str}, PySem.W.nsIn K mainGlobals x = some none → mg x = none := fun e => PySem.W.mg_none_of X G e
  have su : SupC P K mg C cc cda :=
    { ox := ⟨⟨nm, q, N, bs, bm, sn, sub, ab, col, dd, m0, m1, m2, m3, m5, xL, bv⟩, sa, eC, tC, kC⟩, cell := ⟨_, _, _, xc⟩, code := ⟨_, _, _, _, _, _, xd, xv, xf⟩, self := se, sup := zz z9, top := tp, opq := oq, ini := ks_of xL xR mR iR, vE := vE }
  have T : Txt P K mg C f0 cc cda :=
    { su := su, noR := nR, iC := iC, tI := tI, gF := PySem.W.mg_of X G aC, xf := ⟨ga, gg, eC, hC⟩, te := exm_own eC ic tC sC, zisi := zz z0, zint := zz z1, zbool := zz z2, zstr := zz z3, zlen := zz z4, zlist := zz z5, ztuple := zz z6, zrev := zz z7, zrng := zz z8, gLe := ⟨_, PySem.W.mg_of X G gl⟩, gGe := ⟨_, PySem.W.mg_of X G gg2⟩ }
  have bI : Binds K (PySem.W.ksFn "__init__" "Fault.__init__" (defArgs sInit) (defBody sInit) (defScope sInit) .none kV0 dc0 pm0 an0 (.ref cda) ct0 cc) ["self", "reason"] [] := .all fun us hl => match us, hl with | [_, _], _ => rfl
  have FIV := fun_mk (st := sIsV) l1 c1 k1
  have LIV : Cal K mg "is_value" _ _ ["number"] := ⟨PySem.W.mg_of X G a1, k1, FIV.binds fun _ _ _ _ _ _ us hl => match us, hl with | [_], _ => rfl⟩
  have FEV := fun_mk (st := sEval) l2 c2 k2
  have LEV : Cal K mg "evaluate" _ _ ["expression", "names"] := ⟨PySem.W.mg_of X G a2, k2, FEV.binds fun _ _ _ _ _ _ us hl => match us, hl with | [_, _], _ => rfl⟩
  have FAL := fun_mk (st := sAll) l3 c3 k3
  have LAL : Cal K mg "evaluate_all" _ _ ["expressions", "names"] := ⟨PySem.W.mg_of X G a3, k3, FAL.binds fun _ _ _ _ _ _ us hl => match us, hl with | [_, _], _ => rfl⟩
  have FLF := fun_mk (st := sLeaf) l4 c4 k4
  have LLF : Cal K mg "_value_of_leaf" _ _ ["leaf", "names"] := ⟨PySem.W.mg_of X G a4, k4, FLF.binds fun _ _ _ _ _ _ us hl => match us, hl with | [_, _], _ => rfl⟩
  have FRG := fun_mk (st := sRange) l5 c5 k5
  have LRG : Cal K mg "_in_range" _ _ ["number"] := ⟨PySem.W.mg_of X G a5, k5, FRG.binds fun _ _ _ _ _ _ us hl => match us, hl with | [_], _ => rfl⟩
  have FJN := fun_mk (st := sJoin) l6 c6 k6
  have LJN : Cal K mg "_joined" _ _ ["word", "first", "second"] := ⟨PySem.W.mg_of X G a6, k6, FJN.binds fun _ _ _ _ _ _ us hl => match us, hl with | [_, _, _], _ => rfl⟩
  have FDV := fun_mk (st := sDiv) l7 c7 k7
  have LDV : Cal K mg "_divided" _ _ ["word", "first", "second"] := ⟨PySem.W.mg_of X G a7, k7, FDV.binds fun _ _ _ _ _ _ us hl => match us, hl with | [_, _, _], _ => rfl⟩
  have FST := fun_mk (st := sState) l8 c8 k8
  have LST : Cal K mg "_law_state" _ _ ["script"] := ⟨PySem.W.mg_of X G a8, k8, FST.binds fun _ _ _ _ _ _ us hl => match us, hl with | [_], _ => rfl⟩
  have FDR := fun_mk (st := sDraw) l9 c9 k9
  have LDR : Cal K mg "_law_draw" _ _ ["state", "many"] := ⟨PySem.W.mg_of X G a9, k9, FDR.binds fun _ _ _ _ _ _ us hl => match us, hl with | [_, _], _ => rfl⟩
  have FEX := fun_mk (st := sExp) l10 c10 k10
  have LEX : Cal K mg "_law_exp" _ _ ["state", "names", "depth"] := ⟨PySem.W.mg_of X G a10, k10, FEX.binds fun _ _ _ _ _ _ us hl => match us, hl with | [_, _, _], _ => rfl⟩
  have FNU := fun_mk (st := sNum) l11 c11 k11
  have LNU : Cal K mg "_law_number" _ _ ["state"] := ⟨PySem.W.mg_of X G a11, k11, FNU.binds fun _ _ _ _ _ _ us hl => match us, hl with | [_], _ => rfl⟩
  have FOK := fun_mk (st := sOk) l12 c12 k12
  have LOK : Cal K mg "_law_ok" _ _ ["number"] := ⟨PySem.W.mg_of X G a12, k12, FOK.binds fun _ _ _ _ _ _ us hl => match us, hl with | [_], _ => rfl⟩
  have FOP := fun_mk (st := sOp) l13 c13 k13
  have LOP : Cal K mg "_law_op" _ _ ["word", "a", "b"] := ⟨PySem.W.mg_of X G a13, k13, FOP.binds fun _ _ _ _ _ _ us hl => match us, hl with | [_, _, _], _ => rfl⟩
  have FVL := fun_mk (st := sVal) l14 c14 k14
  have LVL : Cal K mg "_law_value" _ _ ["exp", "names"] := ⟨PySem.W.mg_of X G a14, k14, FVL.binds fun _ _ _ _ _ _ us hl => match us, hl with | [_, _], _ => rfl⟩
  have FTO := fun_mk (st := sTold) l15 c15 k15
  have LTO : Cal K mg "_law_told" _ _ ["exp", "names"] := ⟨PySem.W.mg_of X G a15, k15, FTO.binds fun _ _ _ _ _ _ us hl => match us, hl with | [_, _], _ => rfl⟩
  have FAT := fun_mk (st := sATold) l16 c16 k16
  have LAT : Cal K mg "_law_all_told" _ _ ["exps", "names"] := ⟨PySem.W.mg_of X G a16, k16, FAT.binds fun _ _ _ _ _ _ us hl => match us, hl with | [_, _], _ => rfl⟩
  have FLW := fun_mk (st := sLaw) l17 c17 k17
  have LLW : Cal K mg "law" _ _ ["script"] := ⟨PySem.W.mg_of X G a17, k17, FLW.binds fun _ _ _ _ _ _ us hl => match us, hl with | [_], _ => rfl⟩
  refine ⟨PySem.W.fnOf "law" "law" (defArgs sLaw) (defBody sLaw) (defScope sLaw) .none kV17 dc17 pm17 an17 cd17 ct17, fun s u => .of_eq rfl, fun base _ _ => ?_⟩
  have GI := ok_init (w := w) (base := base) T l0 c0
  have GIV := ok_isv (w := w) (base := base) FIV T
  have GR := ok_range FRG T GI bI GIV LIV
  have GDV := ok_div FDV T GI bI GR LRG
  have GJ := ok_join FJN T GDV LDV GR LRG
  have GL := ok_leaf FLF T GR LRG
  have GE := ok_eval FEV T LEV GL LLF GJ LJN 5 (by decide)
  have GA := ok_all FAL T GE LEV
  have GA0 := ok_all0 FAL T GE LEV
  have GS := ok_state (w := w) (base := base) FST T
  have GD := fun l => ok_draw (w := w) (base := base) (l := l) FDR T
  have GN := fun l => ok_num FNU T (GD l) LDR
  have GX := fun l => ok_exp FEX T LEX (GD l) LDR (GN l) LNU 5
  have GK := ok_ok (w := w) (base := base) FOK T
  have GO := ok_op (w := w) (base := base) FOP T
  have GV := ok_val FVL T LVL GK LOK GO LOP 5
  have GT := ok_told FTO T GE LEV
  have GAT := ok_atold FAT T GA LAL
  exact ok_law FLW T (zz z10) GS LST (any_sp GD) LDR (any_sp GX) LEX GV LVL GT LTO GA0 LAL GAT LAT GIV LIV
theorem walk {l : PySem.W.OpenLaw} {q : Program} {loose : List Str} {XP : (Str → Option Value) → Heap → Prop} {YP : World → Heap → Prop} {d : DefRec} {K : Params → PySem.W.Frag} (hn : l.most = some 63) (hdf : d.params.defaults = [])
    (hY : ∀ (w : World) (h : Heap), YP w h → (K w.params).In h)
    (F : ∀ (w : World) (mg : Str → Option Value) (fa : Addr) (h : Heap), (K w.params).In h → h.Ns mainGlobals mg → mg d.name = some (.ref fa) →
      ∃ fd : FuncData, (∀ (s : Shared) (u : Value), BindsTo s fd ⟨[u], []⟩ [("script", u)]) ∧ ∀ base : Heap, (K w.params).In base → base.Ns mainGlobals mg → FnOk l.prog w (K w.params) mg base CX0 13 fa fd ["script"] (spLaw (K w.params))) :
    PySem.W.WalkO q loose XP YP l.row.toRowW d [] (fun f vs => PySem.call f vs) :=
  L2.walk_of (n := 63) (k := 13) (x := "script") (CX := fun _ => CX0) (sp := fun w => spLaw (K w.params)) hn (by decide) hdf ⟨rfl, by decide, by decide⟩ hY F (fun _ _ a ns _ _ hS => ⟨a, ns, rfl, hS, fun _ => rfl⟩) fun _ _ _ _ _ z => z
end K8
open PySem PySem.W PyProof.Rows
set_option maxRecDepth 100000 in
set_option maxHeartbeats 0 in
theorem PySem.Challenge.cw_retroact_k08_values_of_expressions_holds : PySem.Challenge.rw_retroact_k08_values_of_expressions.Holds := by
  w_on; o_law; k_head; (case hw => w_witness2)
  k_fill
  refine K8.walk (l := PySem.Challenge.rw_retroact_k08_values_of_expressions) rfl rfl (fun w h Y => PySem.W.kIn_of Y) ?F
  case F =>
    intro w mg fa h KX G hmg
    refine' K8.all_mk KX G hmg ?aC ?xL ?bv ?sa ?eC ?tC ?kC ?nR ?iC ?tI ?l0 ?c0 ?xc ?xd ?xv ?xf ?se ?tp ?oq ?aR ?xR ?mR ?iR ?vE ?ga ?gg ?hC ?ic ?sC ?z0 ?z1 ?z2 ?z3 ?z4 ?z5 ?z6 ?z7 ?z8 ?z9 ?z10 ?gl ?gg2 ?a1 ?l1 ?c1 ?k1 ?a2 ?l2 ?c2 ?k2 ?a3 ?l3 ?c3 ?k3 ?a4 ?l4 ?c4 ?k4 ?a5 ?l5 ?c5 ?k5 ?a6 ?l6 ?c6 ?k6 ?a7 ?l7 ?c7 ?k7 ?a8 ?l8 ?c8 ?k8 ?a9 ?l9 ?c9 ?k9 ?a10 ?l10 ?c10 ?k10 ?a11 ?l11 ?c11 ?k11 ?a12 ?l12 ?c12 ?k12 ?a13 ?l13 ?c13 ?k13 ?a14 ?l14 ?c14 ?k14 ?a15 ?l15 ?c15 ?k15 ?a16 ?l16 ?c16 ?k16 ?a17 ?l17 ?c17 ?k17
    (case aC => k_is)
    (case xL => k_is)
    (case bv => decide +kernel)
    (case sa => k_is)
    (case eC => k_is)
    (case tC => k_is)
    (case kC => k_is)
    (case nR => k_is)
    (case iC => k_is)
    (case tI => k_is)
    (case l0 => k_is)
    (case c0 => k_is)
    (case xc => k_is)
    (case xd => k_is)
    (case xv => rfl)
    (case xf => decide +kernel)
    (case se => k_is)
    (case tp => decide +kernel)
    (case oq => k_is)
    (case aR => k_is)
    (case xR => k_is)
    (case mR => rfl)
    (case iR => k_is)
    (case vE => k_is)
    (case ga => k_is)
    (case gg => k_is)
    (case hC => k_is)
    (case ic => k_is)
    (case sC => first | rfl | k_is)
    (case z0 => k_is)
    (case z1 => k_is)
    (case z2 => k_is)
    (case z3 => k_is)
    (case z4 => k_is)
    (case z5 => k_is)
    (case z6 => k_is)
    (case z7 => k_is)
    (case z8 => k_is)
    (case z9 => k_is)
    (case z10 => k_is)
    (case gl => k_is)
    (case gg2 => k_is)
    (case a1 => k_is)
    (case l1 => k_is)
    (case c1 => k_is)
    (case k1 => k_is)
    (case a2 => k_is)
    (case l2 => k_is)
    (case c2 => k_is)
    (case k2 => k_is)
    (case a3 => k_is)
    (case l3 => k_is)
    (case c3 => k_is)
    (case k3 => k_is)
    (case a4 => k_is)
    (case l4 => k_is)
    (case c4 => k_is)
    (case k4 => k_is)
    (case a5 => k_is)
    (case l5 => k_is)
    (case c5 => k_is)
    (case k5 => k_is)
    (case a6 => k_is)
    (case l6 => k_is)
    (case c6 => k_is)
    (case k6 => k_is)
    (case a7 => k_is)
    (case l7 => k_is)
    (case c7 => k_is)
    (case k7 => k_is)
    (case a8 => k_is)
    (case l8 => k_is)
    (case c8 => k_is)
    (case k8 => k_is)
    (case a9 => k_is)
    (case l9 => k_is)
    (case c9 => k_is)
    (case k9 => k_is)
    (case a10 => k_is)
    (case l10 => k_is)
    (case c10 => k_is)
    (case k10 => k_is)
    (case a11 => k_is)
    (case l11 => k_is)
    (case c11 => k_is)
    (case k11 => k_is)
    (case a12 => k_is)
    (case l12 => k_is)
    (case c12 => k_is)
    (case k12 => k_is)
    (case a13 => k_is)
    (case l13 => k_is)
    (case c13 => k_is)
    (case k13 => k_is)
    (case a14 => k_is)
    (case l14 => k_is)
    (case c14 => k_is)
    (case k14 => k_is)
    (case a15 => k_is)
    (case l15 => k_is)
    (case c15 => k_is)
    (case k15 => k_is)
    (case a16 => k_is)
    (case l16 => k_is)
    (case c16 => k_is)
    (case k16 => k_is)
    (case a17 => k_is)
    (case l17 => k_is)
    (case c17 => k_is)
    (case k17 => k_is)
#print axioms PySem.Challenge.cw_retroact_k08_values_of_expressions_holds
