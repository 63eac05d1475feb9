import PyProof.Rows.All
import Wide.All
import OpenK.AllK
import Wide.FinOn
import KE.KExcSuper
import HandS.ForSpec
import HandS.ExcInit
import HandS.Nested
import HandS.FStr
import PyProof.StrBlock2
import KE.KDictList
import KE.KRevIter
import HandS.Rev
import HandS.Conv
import HandS.ExcCtx
import HandS.HotCalls
import HandS.ExcInitHot
import HandS.SuiteRaise
import HandS.ForMost
import HandS.TryMany
import HandS.ExcField
import HandS.IsInst
import HandS.Walk
import HandS.DictComp
import HandS.Style
import HandS.Codes
import PySem.Challenge.RW_retroact_k00_tokens_of_a_line
set_option Elab.async false
set_option linter.all false
set_option maxRecDepth 100000
set_option maxHeartbeats 4000000
namespace RX
open PySem PySem.Spec PyProof.Rows L2 LamX NdefX
open PySem.W (kxs_mw KxsAt)
/-! ### the bound built-in __init__ of an exception that is being made, called -/
section
variable {prog : Program} {w : World} {A : Around} {E : Value → Shared → Prop} {h : Heap} {g : Array GenState} {d : Drawn} {t : Nat} {os : OsState}
variable {nm q : Str} {C N : Addr} {bs bm : List Value} {hdct : Bool} {sn : List Str} {sub : List Value} {ab : Bool} {col : Option Bool} {dd : Option Addr} {k0 k1 k2 k3 k5 : Option Value}
theorem call_mw {u e t0 : Addr} {rest : List Value} {Q : Value → Shared → Prop}
    (hC : h.get? C = some (excClassObj nm q C N bs bm hdct sn sub ab col dd k0 k1 k2 k3 k5 "ValueError.__new__")) (he : h.get? e = some (HandSPX.excO C t0)) (hu : h.get? u = some (kxs_mw "ValueError.__init__" e)) (hrest : rest.length ≤ sizeLine)
    (hq : ∀ h' t1, (∀ b o, b ≠ e → h.get? b = some o → h'.get? b = some o) → h'.get? e = some (HandSPX.excO C t1) → Q .none ⟨h', g, d, t, os⟩) :
    wpAny (model prog w) A (call (.ref u) rest) Q E ⟨h, g, d, t, os⟩ := by
  refine wpAny_call (codeAny_of_tree ?_)
  show wpAny _ A.in1 (callAny (.ref u) ⟨rest, []⟩) _ _ _
  simp only [callAny]
  refine wpAny_bind (wpAny_load hu ?_)
  simp only [kxs_mw, show (Value.type "method-wrapper" == Value.type "method" || Value.type "method-wrapper" == Value.type "builtin_function_or_method" || Value.type "method-wrapper" == Value.type "method-wrapper") = true by decide, if_true]
  refine W.KFB.if_so (by decide) ?_
  refine wpAny_bind (W.check_bound_init F.excBase_ValueError.toExcCallFacts hC he rfl ?_)
  refine wpAny_bind (wpAny_pure (wpAny_pure ?_))
  refine ⟨Code.quiet_builtin _ (by decide +kernel), codeAny_builtin F.excBase_ValueError.initEntry ?_⟩
  rw [Around.under_plainId F.excBase_ValueError.init.plain _]
  wp_walk
  refine hq _ h.objs.size (fun b o hb ho => ?_) ?_
  · rw [Heap.get?_update_other _ _ (Ne.symm hb)]
    exact Heap.get?_push_of_some _ ho
  · rw [Heap.get?_update_self _ (Heap.get?_push_of_some _ he) rfl]
    rfl
end
/-- what the written part says of the class for super().__init__ -/
structure SupC (prog : Program) (K : PySem.W.Frag) (mg : Str → Option Value) (C cc cda : Addr) : Prop where
  ox : OexC K C
  cell : ∃ cl cld csl, K.lookup cc = some ⟨cl, cld, .cell (some (.ref C)), csl⟩
  code : ∃ ccl cdd vs ccs file tf, K.lookup cda = some ⟨ccl, cdd, .fields vs, ccs⟩ ∧ vs[2]? = some (.str file tf) ∧ ((prog.main.file : Str) == file) = true
  self : PySem.W.mroIn K C (.ref C) = some true
  sup : mg "super" = none
  top : (prog.main.scope.names.lookup ("super" : Str)).isSome = false
  opq : PySem.W.nsIn K cStatics "thirdparty.any" = some none
  ini : PySem.W.ks_superIn K C C "__init__" = some (some (.builtin "ValueError.__init__"))
  vE : PySem.W.subIn K (.ref C) (.type "ValueError") = some true
theorem startF_head {N : List Str} {a : Addr} {vs : List V} {ws : List (Option V)} : (startF N (.ref a :: vs) ws)[0]? = some (some (.ref a)) := rfl

section
variable {CX : CXT} {P : Program} {w : World} {K : PySem.W.Frag} {mg : Str → Option Value} {base : Heap} {N ps : List Str} {fI cc cda C : Addr} {k : Nat} {sp : Sp}
  {nm qual : Str} {params : Arguments} {body rest : List Stmt} {scope : Scope} {kV doc pm ct oc : Value} {an od : Option Addr} {osl : Array (Option Value)} {e : Expr} {p0 p1 p2 p3 p4 : Pos} {ar : Arg}
abbrev supF (nm qual : Str) (params : Arguments) (body : List Stmt) (scope : Scope) (cc cda : Addr) : NF := ⟨nm, qual, params, body, scope, [("__class__", cc)], cda⟩
theorem fn_super (T : SupC P K mg C cc cda) (S : NScope N ps ["__class__"] scope) (hbd : body = .Expr (.Call (.Attribute (.Call (.Name "super" p0) [] [] p1) "__init__" p2) [e] [] p3) p4 :: rest)
    (lk : K.lookup fI = some ⟨oc, od, .func (PySem.W.ksFn nm qual params body scope .none kV doc pm an (.ref cda) ct cc), osl⟩) (hcd : PySem.W.codeIn K (.ref cda) qual = true)
    (hks : scope.names.lookup ("super" : Str) = some .globalImplicit) (hp : (params.posonlyargs ++ params.args).head? = some ar) (hps : ps.head? = some ar.arg)
    (len : ∀ vs H Q E, sp vs H Q E → vs.length = ps.length)
    (hst : ∀ env : Env, starEach [e] env = (false, eval e env) :: starEach [] env)
    (hev : ∀ L : Addr, ∃ pl : Sem Bool, eval (.Call (.Attribute (.Call (.Name "super" p0) [] [] p1) "__init__" p2) [e] [] p3) (envF (supF nm qual params body scope cc cda) fI L) = (do
      let ov ← attributeBase (.Call (.Name "super" p0) [] [] p1) "__init__" (envF (supF nm qual params body scope cc cda) fI L) (eval (.Call (.Name "super" p0) [] [] p1) (envF (supF nm qual params body scope cc cda) fI L))
      standAt p2.atName
      let (f, first) ← holding [ov] (getMethod ov "__init__" pl)
      callWith p3 f first (backTo p3 (starEach [e] (envF (supF nm qual params body scope cc cda) fI L))) []))
    (hbody : ∀ (A : Around) (outer : List Env) (s : Shared) (H : Hp) (vs : List V) (Q : VK) (E : XK), Room k (A.deeper (envF (supF nm qual params body scope cc cda) fI s.heap.objs.size)) → sp vs H Q E →
      ∃ (a : Addr) (vr : List V) (te : TE) (t : TS), vs = .ref a :: vr ∧ H a = some (exo a C none) ∧ PE (ncx CX P w K mg base N (supF nm qual params body scope cc cda) fI A outer s H E) e te ∧
        PSs (ncx CX P w K mg base N (supF nm qual params body scope cc cda) fI A outer s H E) rest t ∧
        te (startF N vs [none]) H (fun x H1 => ([x] : List V).length = 1 ∧ H1 a = some (exo a C none) ∧ t { nx := fun _ H' => Q .non H', rt := Q } (startF N vs [none]) H1)) :
    FnOk P w K mg base CX (k + 1) fI (PySem.W.ksFn nm qual params body scope .none kV doc pm an (.ref cda) ct cc) ps sp := by
  refine ⟨len, fun A outer s H args us vs Q E hr e0 hb r hsp => ?_⟩
  have hl := len _ _ _ _ hsp
  have X : K.In s.heap := e0.mod.kin.keeps fun b o q => (e0.bs b o q).1
  have lim : s.heap.NoLimit := e0.mod.nolimit.keeps fun b o q => (e0.bs b o q).1
  obtain ⟨cl, cld, csl, hcell⟩ := T.cell
  obtain ⟨ccl, cdd, vsA, ccs, file, tf, hcode, hvs, hfile⟩ := T.code
  obtain ⟨cn, cq, cN, cbs, cbm, csn, csub, cab, ccol, cdd0, k0, k1, k2, k3, k5, hC, hbm⟩ := T.ox.cls
  have hclsC : PySem.W.clsIn K C = some { name := cn, bases := cbs, mro := .ref C :: cbm, ns := cN, qualname := cq, hasDict := true, slotNames := csn, subclasses := csub, abstract := cab, collection := ccol, hasDel := false } := by unfold PySem.W.clsIn; rw [hC] <;> rfl
  refine PySem.ks_codeAny_call_defAt (fd := PySem.W.ksFn nm qual params _ scope .none kV doc pm an (.ref cda) ct cc) (binds := ps.zip us) hr.depth (X _ _ lk) rfl lim (PySem.W.codeRec_of X hcd) rfl hb S.nocell (fun ⟨n, _⟩ hy => S.par n (List.of_mem_zip hy).1) (fun h₁ hns kp => ?_) S.co S.gen S.kind
  obtain ⟨a, vr, te, t, rfl, hexo, hpe, hss, hq⟩ := hbody A outer s H vs Q E (hr.deeper _) hsp
  have ocell : s.heap.get? cc = some ⟨cl, cld, .cell (some (.ref C)), csl⟩ := X _ _ hcell
  have CA : CellsAt (supF nm qual params body scope cc cda).cl ["__class__"] [none] s.heap H := by
    have one : ∀ {y : Str} {c : Addr}, List.lookup y [(("__class__" : Str), cc)] = some c → y = "__class__" ∧ c = cc := fun {y c} z => by
      by_cases hy : y = ("__class__" : Str)
      · subst hy
        simp [List.lookup] at z
        exact ⟨rfl, z.symm⟩
      · have : (y == ("__class__" : Str)) = false := by simpa using hy
        simp [List.lookup, this] at z
    refine ⟨rfl, fun y c z => ?_, fun x y c z1 z2 => ?_, fun i y hy => ?_⟩
    · obtain ⟨_, rfl⟩ := one z
      exact ⟨(e0.bs _ _ (e0.mod.kin _ _ hcell)).2, _, _, ocell, rfl⟩
    · rw [(one z1).1, (one z2).1]
    · refine ⟨cc, ?_, fun v hv => ?_⟩
      · have : y = "__class__" := by
          cases i with
          | zero => simpa using hy.symm
          | succ i => simp at hy
        subst this
        simp [List.lookup]
      · cases i with
        | zero => simp at hv
        | succ i => simp at hv
  have I : Inv (ncx CX P w K mg base N (supF nm qual params body scope cc cda) fI A outer s H E) [] (startF N (.ref a :: vr) [none]) H { s with heap := h₁, toks := s.toks + (ps.zip us).length } :=
    inv_startN S hr.hd e0 hl r CA hns kp
  have ha0 : (startF N (.ref a :: vr) [none])[0]? = some (some (.ref a)) := rfl
  have hN0 : N[0]? = some ar.arg := by
    have e1 : ps[0]? = some ar.arg := by rw [← List.head?_eq_getElem?]; exact hps
    have hlt : 0 < ps.length := (List.getElem?_eq_some_iff.mp e1).1
    have e2 : (ps ++ [("__class__" : Str)])[0]? = some ar.arg := by rw [List.getElem?_append_left hlt]; exact e1
    rw [← S.pre, List.getElem?_take_of_lt (by omega)] at e2
    exact e2
  have hka : scope.names.lookup ar.arg = some .local := S.par _ (List.mem_of_mem_head? hps)
  obtain ⟨m, hn, hl2⟩ := id I.loc
  obtain ⟨ua, ra, la⟩ := hl2 0 ar.arg (.ref a) hN0 ha0 (.inl hka)
  obtain rfl : ua = Value.ref a := ra
  have hma : m ar.arg = some (.ref a) := by
    rcases la with ⟨_, z⟩ | ⟨z, _⟩
    · exact z
    · have hka' : scope.names.lookup ar.arg = some .cell ∨ scope.names.lookup ar.arg = some .free := z
      rw [hka] at hka'
      rcases hka' with z | z <;> cases z
  obtain ⟨mb, hb1, hb2⟩ := I.mod.blt
  obtain ⟨t1, hoa⟩ := exo_at I.hok hexo
  have XI := I.kIn
  show PySem.wpAt (model P w) (A.deeper (envF (supF nm qual params body scope cc cda) fI s.heap.objs.size)) (.func body (envF (supF nm qual params body scope cc cda) fI s.heap.objs.size)) (execs body (envF (supF nm qual params body scope cc cda) fI s.heap.objs.size)) _ (ncx CX P w K mg base N (supF nm qual params body scope cc cda) fI A outer s H E).xe _
  have hex : execs body (envF (supF nm qual params body scope cc cda) fI s.heap.objs.size) = execs (.Expr (.Call (.Attribute (.Call (.Name "super" p0) [] [] p1) "__init__" p2) [e] [] p3) p4 :: rest) (envF (supF nm qual params body scope cc cda) fI s.heap.objs.size) := by rw [← hbd]
  rw [hex]
  obtain ⟨pl, hevL⟩ := hev s.heap.objs.size
  refine ks_wpAt_execs_cons (ks_wpAt_Expr_any (ks_wpAt_MethodCall (pl := pl) ?_ hevL) I.quiet)
  refine ks_wpAt_super_base hks (S.frk _ List.mem_cons_self) rfl rfl (XI _ _ lk) rfl hp rfl (XI _ _ hcode) rfl hvs hfile T.top ?_
  refine PySem.W.ks_loadName_global S.kind hks (Calls.loadGlobal_builtin (I.mod.glob.keeps I.bk) T.sup (hb1.keeps I.bk) ((hb2 _ (by decide)).trans Boot.super) ⟨rfl, ?_⟩)
  refine wpAny_loadName_free S.kind (S.frk _ List.mem_cons_self) rfl ⟨_, XI _ _ hcell, rfl⟩ ?_
  refine wpAny_loadName_local S.kind hka hn hma ?_
  have hD1 : h₁.get? C = some (excClassObj cn cq C cN cbs cbm true csn csub cab ccol cdd0 k0 k1 k2 k3 k5 "ValueError.__new__") := XI _ _ hC
  refine ks_wpAny_isType_cls hD1 rfl ⟨rfl, ?_⟩
  refine ks_wpAny_call_super hD1 rfl hoa rfl (fun c z => by cases z) (PySem.W.looks_mroIn XI T.self) (fun h2 hso k2 => ?_)
  have I2 : Inv (ncx CX P w K mg base N (supF nm qual params body scope cc cda) fI A outer s H E) [] (startF N (.ref a :: vr) [none]) H { s with heap := h2, toks := s.toks + (ps.zip us).length } := I.kept (t' := s.toks + (ps.zip us).length) k2
  have hs12 : h₁.objs.size < h2.objs.size := Heap.lt_size hso
  have IA : PySem.W.InstAt h2 a (HandSPX.excO C t1) C none := ⟨k2 _ _ hoa, rfl, rfl, trivial⟩
  have hI2 : PySem.W.Looks (model P w) h2 (isInstance (.ref a) (.type "ValueError")) true := IA.type.andThen (PySem.W.looks_subIn I2.kIn T.vE)
  have hini : PySem.W.alongIn K "__init__" ((((Value.ref C :: cbm)).dropWhile (· != .ref C)).drop 1) = some (some (.builtin "ValueError.__init__")) := by
    have z := T.ini
    unfold PySem.W.ks_superIn at z
    rw [hclsC] at z
    exact z
  refine PySem.W.kxs_getMethod PySem.W.kxs_ValueError hso (PySem.W.looks_opaque I2.kIn T.opq) (l₀ := .ref C :: cbm) ((PySem.W.looks_clsIn I2.kIn hclsC).andThen .now) rfl I2.kIn hini hI2 (PySem.W.ks_ne I2.kIn IA hclsC) (by decide) ?_
  have hu3 : (h2.push (kxs_mw "ValueError.__init__" a)).get? h2.objs.size = some (kxs_mw "ValueError.__init__" a) := Heap.get?_push_size _ rfl
  have I3 : Inv (ncx CX P w K mg base N (supF nm qual params body scope cc cda) fI A outer s H E) [] (startF N (.ref a :: vr) [none]) H { s with heap := h2.push (kxs_mw "ValueError.__init__" a), toks := s.toks + (ps.zip us).length + 1 } :=
    I2.kept (t' := s.toks + (ps.zip us).length + 1) (fun b o z => Heap.get?_push_of_some _ z)
  have I4 : Inv (ncx CX P w K mg base N (supF nm qual params body scope cc cda) fI A outer s H E) [(h2.objs.size, kxs_mw "ValueError.__init__" a)] (startF N (.ref a :: vr) [none]) H { s with heap := h2.push (kxs_mw "ValueError.__init__" a), toks := s.toks + (ps.zip us).length + 1 } :=
    I3.pins_of fun p hp => by
      have hp' : p = (h2.objs.size, kxs_mw "ValueError.__init__" a) := by simpa using hp
      subst hp'
      exact ⟨hu3, I2.hok.fresh (Nat.le_refl _), Nat.ne_of_gt I2.lt, I2.nofs (Nat.le_refl _), fun v z => by cases z⟩
  have hargs := (pa_cons hpe pa_nil (hs := hst _)).run p3 [(h2.objs.size, kxs_mw "ValueError.__init__" a)] { s with heap := h2.push (kxs_mw "ValueError.__init__" a), toks := s.toks + (ps.zip us).length + 1 } (startF N (.ref a :: vr) [none]) H (fun vs H1 => vs.length = 1 ∧ H1 a = some (exo a C none) ∧ t { nx := fun _ H' => Q .non H', rt := Q } (startF N (.ref a :: vr) [none]) H1) I4 hq
  have hst' : starEach [e] (ncx CX P w K mg base N (supF nm qual params body scope cc cda) fI A outer s H E).env = (false, eval e (envF (supF nm qual params body scope cc cda) fI s.heap.objs.size)) :: starEach [] (envF (supF nm qual params body scope cc cda) fI s.heap.objs.size) := hst _
  rw [hst'] at hargs
  rw [hst]
  refine PySem.W.kxs_callWith (i := "ValueError.__init__") (x := a) rfl ?_
  refine Calls.evalArgs_plain ?_
  refine thn hargs fun us' s5 hh => ?_
  obtain ⟨vs5, H5, I5, r5, hl5, he5, hq5⟩ := hh
  obtain ⟨hmw5, _⟩ := I5.pin _ (List.mem_append_right _ List.mem_cons_self)
  refine ⟨hmw5, ?_⟩
  obtain ⟨t5, ho5⟩ := exo_at I5.hok he5
  obtain ⟨hp5, g5, dr5, tk5, os5⟩ := s5
  have hlen5 : us'.length ≤ sizeLine := by
    rw [← Paired.length r5, hl5, sizeLine_eq]
    decide
  refine call_mw (t0 := t5) (I5.kIn _ _ hC) ho5 hmw5 hlen5 fun h6 t6 k6 hx6 => ?_
  have J := I5.write (t' := tk5) (x := a) (e := a) (o := exo a C none) (h' := h6) (by rw [he5]; exact True.intro) (.inl rfl) k6 ⟨_, hx6⟩ (exo_ok hx6)
  have eu : upd H5 a (exo a C none) = H5 := by
    funext b
    by_cases hb : b = a
    · rw [hb, upd_same, he5]
    · rw [upd_ne hb]
  rw [eu] at J
  refine PySem.wpAt_of_wpAny (wpAny_mono (hss.run _ _ _ _ _ J hq5) (fun fl s' hs => ?_) fun e s' hs => hs)
  have fin : ∀ {σ' : L2.St} {H' : Hp} {v : V} {u : Value}, Inv (ncx CX P w K mg base N (supF nm qual params body scope cc cda) fI A outer s H E) [(h2.objs.size, kxs_mw "ValueError.__init__" a)] σ' H' s' → L2.RelV v u → Q v H' → CE outer P w H s Q u s' :=
    fun {σ' H' v u} J rv q => ⟨v, H', J.os, J.bare, J.base, J.hok, rv, q⟩
  cases fl with
  | ret u =>
    obtain ⟨v, σ', H', J, rv, q⟩ := hs
    exact fin J rv q
  | next =>
    obtain ⟨σ', H', J, q⟩ := hs
    exact fin (v := V.non) (u := Value.none) J rfl q
  | brk =>
    obtain ⟨_, _, _, q⟩ := hs
    exact False.elim q
  | cont =>
    obtain ⟨_, _, _, q⟩ := hs
    exact False.elim q
end
end RX
namespace RX
open PySem PySem.Spec PyProof.Rows L2 RT
/-! ### a text some times -/
section
variable {X : Cx}
theorem op_mul_str : OpR X (binaryOp .Mult) (fun x y H Q => ∃ z n, x = .str z ∧ y = .int n ∧ MulOk z n ∧ Q (.str (Txt.mul z n)) H) := by
  intro pins s σ H x y v u Q I rx ry h
  obtain ⟨z, n, rfl, rfl, ok, q⟩ := h
  obtain ⟨t, rfl⟩ := rx
  obtain ⟨t', rfl⟩ := ry
  exact SB.mul ok fun t2 tk => ⟨.str (Txt.mul z n), H, I.tok _, ⟨_, rfl⟩, q⟩
end
/-! ### list(reversed(x)), x a list -/
section
variable {prog : Program} {w : World} {A : Around} {E : Value → Shared → Prop} {s : Shared} {it l S : Addr} {items : Array Value}
theorem rl_grow {R : Result → Shared → Prop} (hh : A.handled = none) (hit : s.heap.IsRevIter it l ((items.size : Int) - 1)) (hl : s.heap.IsList l items) (hne : l ≠ it) (hn : items.size ≤ sizeLine) (hSi : S ≠ it) (hSl : S ≠ l) (res : Value) (c₀ : Nat)
    (hS : s.heap.get? S = some { cls := .type "list", data := .seq #[] c₀ })
    (hR : ∀ h' tk acc' c', (∀ b o, b ≠ S → b ≠ it → s.heap.get? b = some o → h'.get? b = some o) → h'.get? S = some { cls := .type "list", dict := none, data := .seq acc' c', slots := #[] } → ItemsOf (fun i v => items[items.size - 1 - i]? = some v) acc' items.size → R (.ok (.ret res)) { s with heap := h', toks := tk }) :
    wpAny (model prog w) A.in1 (Builtin.List.listExtendWith (.ref S) (.ref it) res)
      (fun fin s' => match fin with | .done f => R (.ok f) s' | .again c' => c'.quiet = true ∧ codeAny (model prog w) A c' R s') (fun e s' => R (.error e) s') s := by
  have W := (Walks.listRev (prog := prog) (w := w) (A := A.in1) hh it l hne items).toS
  have hSf : S ∉ [it, l] := by simp only [List.mem_cons, List.not_mem_nil, or_false, not_or]; exact ⟨hSi, hSl⟩
  have hT : s.TypeIs (.ref it) "list_reverseiterator" := hit.typeIs
  have same : Builtin.List.listSameRef (.ref S) (.ref it) = false := by simp [Builtin.List.listSameRef, hSi]
  unfold Builtin.List.listExtendWith
  refine wpAny_bind (wpAny_typeOf hT ?_)
  rw [if_neg (by rw [same]; decide)]
  refine wpAny_bind (wpAny_pyIter_revIter hit ?_)
  refine wpAny_bind (wpAny_holding ?_)
  unfold Builtin.List.listLengthHint
  refine wpAny_bind (wpAny_specialOf hT nolen_lri ?_)
  show wpAny _ A.in1 (specialOf (Value.ref it) (Str.ofString "__length_hint__") >>= _) _ _ _
  refine wpAny_bind (wpAny_specialOf hT hint_lri ?_)
  generalize hid : ("list_reverseiterator.__length_hint__" : String) = id0
  wp_delta
  rw [show splitId id0 = some ("list_reverseiterator", "__length_hint__") from by subst hid; decide +kernel]
  subst hid
  refine wpAny_bind (wpAny_isInstance (b := true) hT (by rw [isSubtype_type]; kernel_rfl) ?_)
  refine wpAny_pure ?_
  rw [if_neg (by decide)]
  have e0 : ((items.size : Nat) : Int) - 1 - ((0 : Nat) : Int) = (items.size : Int) - 1 := by omega
  refine wpAny_pure ⟨plainId_quiet F.plain_extend_loop _, codeAny_extend_loopS W hn _ hSf _ items.size 0 _ _ _ rfl (Nat.zero_le _) ⟨Nat.zero_le _, by rw [e0]; exact hit, hl⟩ hS (ItemsOf.nil _) fun s' acc' c' hm hS' hacc => ?_⟩
  rw [Moved.eq_with hm]
  refine hR s'.heap s'.toks acc' c' (fun b o hb hb2 e => hm.heap b o (fun hmem => ?_) e) hS' hacc
  rcases List.mem_cons.mp hmem with e' | hmem
  · exact hb e'
  · exact hb2 (List.mem_singleton.mp hmem)
theorem rl_fill {R : Result → Shared → Prop} (hh : A.handled = none) (hit : s.heap.IsRevIter it l ((items.size : Int) - 1)) (hl : s.heap.IsList l items) (hne : l ≠ it) (hn : items.size ≤ sizeLine) (hSi : S ≠ it) (hSl : S ≠ l)
    (hS : s.heap.get? S = some { cls := .type "list", data := .seq #[] })
    (hR : ∀ h' tk acc' c', (∀ b o, b ≠ S → b ≠ it → s.heap.get? b = some o → h'.get? b = some o) → h'.get? S = some { cls := .type "list", dict := none, data := .seq acc' c', slots := #[] } → ItemsOf (fun i v => items[items.size - 1 - i]? = some v) acc' items.size → R (.ok (.ret .none)) { s with heap := h', toks := tk }) :
    wpAny (model prog w) A.in1 (Builtin.«list.__init__» ⟨[.ref S, .ref it], []⟩)
      (fun fin s' => match fin with | .done f => R (.ok f) s' | .again c' => c'.quiet = true ∧ codeAny (model prog w) A c' R s') (fun e s' => R (.error e) s') s := by
  show wpAny _ _ (do let old ← Builtin.List.listItems (.ref S); Builtin.List.listUpdate (.ref S) (fun _ => #[]); letGo old.toList.reverse; Builtin.List.listExtendWith (.ref S) (.ref it) .none) _ _ s
  refine wpAny_bind ?_
  unfold Builtin.List.listItems
  refine wpAny_bind (wpAny_seqItems hS rfl (wpAny_pure ?_))
  show wpAny _ _ (updateSeq S (fun _ => #[]) >>= fun _ => letGo (#[] : Array Value).toList.reverse >>= fun _ => Builtin.List.listExtendWith (.ref S) (.ref it) .none) _ _ s
  refine wpAny_bind (wpAny_updateSeq hS rfl ?_)
  have oth : ∀ b o, b ≠ S → s.heap.get? b = some o → (s.heap.update S (Obj.mapSeq (fun _ => (#[] : Array Value)))).get? b = some o := fun b o hb e => (Heap.get?_update_other _ _ (Ne.symm hb)).trans e
  refine wpAny_bind (wpAny_letGo ?_)
  obtain ⟨ol, hol, hl'⟩ := id hl
  refine rl_grow hh (hit.at fun o e => oth it o (Ne.symm hSi) e) ⟨ol, oth l _ (Ne.symm hSl) hol, hl'⟩ hne hn hSi hSl .none _ (Heap.get?_update_self (Obj.mapSeq (fun _ => (#[] : Array Value))) hS rfl) (fun h' tk acc' c' hk hS' hacc => ?_)
  exact hR h' tk acc' c' (fun b o hb hb2 e => hk b o hb hb2 (oth b o hb e)) hS' hacc
theorem call_list_rev {Q : Value → Shared → Prop} (hh : A.handled = none) (hit : s.heap.IsRevIter it l ((items.size : Int) - 1)) (hl : s.heap.IsList l items) (hne : l ≠ it) (hn : items.size ≤ sizeLine)
    (hQ : ∀ h' tk acc' c', (∀ b o, b ≠ it → s.heap.get? b = some o → h'.get? b = some o) → h'.get? s.heap.objs.size = some { cls := .type "list", dict := none, data := .seq acc' c', slots := #[] } → ItemsOf (fun i v => items[items.size - 1 - i]? = some v) acc' items.size → Q (.ref s.heap.objs.size) { s with heap := h', toks := tk }) :
    wpAny (model prog w) A (call (.type "list") [.ref it]) Q E s := by
  refine callType_codes (Q₁ := fun obj s₁ => obj = .ref s.heap.objs.size ∧ s₁ = { s with heap := s.heap.push { cls := .type "list", data := .seq #[] } }) PySem.F.called_list (PySem.F.typeCall_list_1 _) PySem.F.entry_list_init
    (PySem.code_list_new _ ⟨rfl, rfl⟩) fun obj s₁ h₁ => ?_
  obtain ⟨rfl, rfl⟩ := h₁
  have hS : (s.heap.push { cls := .type "list", data := .seq #[] }).get? s.heap.objs.size = some { cls := .type "list", data := .seq #[] } := Heap.get?_push_size _ rfl
  obtain ⟨oi, hoi, _⟩ := id hit
  obtain ⟨ol, hol, _⟩ := id hl
  refine ⟨⟨_, hS, rfl⟩, PySem.F.args_list_init_2 _ _, rl_fill (A := A.in1) hh (hit.at fun o e => Heap.get?_push_of_some _ e) (hl.push _) hne hn (Nat.ne_of_gt (Heap.lt_size hoi)) (Nat.ne_of_gt (Heap.lt_size hol)) hS (fun h' tk acc' c' hk hS' hacc => ?_)⟩
  exact ⟨rfl, hQ h' tk acc' c' (fun b o hb e => hk b o (Nat.ne_of_lt (Heap.lt_size e)) hb (Heap.get?_push_of_some _ e)) hS' hacc⟩
end
def tLstRev (K : PySem.W.Frag) (te : TE) : TE := fun σ H Q => te σ H fun v H1 => ∃ (a : Addr) (xs : List V), v = .ref a ∧ SqL K H1 a xs ∧ ∀ q, H1 q = none → Q (.ref q) (upd H1 q (.lst xs.reverse))
section
variable {X : Cx}
theorem pe_listRev {e : Expr} {te : TE} {p p2 pos pos2 : Pos} (hc : X.calm = true) (hg : Gl X "list") (hm : X.mg "list" = none) (hg2 : Gl X "reversed") (hm2 : X.mg "reversed" = none) (he : PE X e te)
    (hs : starEach [e] X.env = (false, eval e X.env) :: starEach [] X.env := by rfl)
    (hs2 : starEach [.Call (.Name "reversed" p2) [e] [] pos2] X.env = (false, eval (.Call (.Name "reversed" p2) [e] [] pos2) X.env) :: starEach [] X.env := by rfl) :
    PE X (.Call (.Name "list" p) [.Call (.Name "reversed" p2) [e] [] pos2] [] pos) (tLstRev X.K te) := by
  refine ⟨fun pins s σ H Q I h => ?_⟩
  refine Call_ (ld_blt I hg hm boot_list (PyProof.Rows.callWith_type1 (args_cons (Call_ (ld_blt I hg2 hm2 PyProof.Rows.boot_reversed (PyProof.Rows.callWith_type1 (args_cons (thn (he.run pins s σ H _ I h) fun u s1 ⟨v, H1, I1, r1, q1⟩ => args_nil ?_) hs) hs rfl))) hs2) hs2 rfl))
  obtain ⟨a, xs, ev, hq, q⟩ := q1
  subst ev
  obtain rfl : u = Value.ref a := r1
  obtain ⟨its, rv, p', hz⟩ := I1.list hq
  refine call_reversed_list p'.isList (args_nil ?_)
  have k0 : ∀ b o, s1.heap.get? b = some o → (s1.heap.push (revObj a ((its.toArray.size : Int) - 1))).get? b = some o := fun b o e => Heap.get?_push_of_some _ e
  have I2 : Inv X pins σ H1 { s1 with heap := s1.heap.push (revObj a ((its.toArray.size : Int) - 1)) } := I1.kept (t' := s1.toks) k0
  obtain ⟨f0, f1, f2, f3, f4, f5⟩ := I1.fpOk (H' := H1) (b := s1.heap.objs.size) (Nat.le_refl _) (I1.hok.fresh (Nat.le_refl _))
  have hl := p'.isList
  obtain ⟨ol, hol, _⟩ := id hl
  have hne : a ≠ s1.heap.objs.size := Nat.ne_of_lt (Heap.lt_size hol)
  have hn : its.toArray.size ≤ sizeLine := by rw [List.size_toArray, ← rv.length]; exact hz
  refine call_list_rev (s := { s1 with heap := s1.heap.push (revObj a ((its.toArray.size : Int) - 1)) }) (I1.ok.hd hc) ⟨_, Heap.get?_push_size _ rfl, rfl, rfl⟩ (hl.push _) hne hn fun h' tk acc c' hk hS hi => ?_
  have eS : (s1.heap.push (revObj a ((its.toArray.size : Int) - 1))).objs.size = s1.heap.objs.size + 1 := Heap.size_push _ _
  have keep : ∀ b o, s1.heap.get? b = some o → h'.get? b = some o := fun b o e => hk b o (Nat.ne_of_lt (Heap.lt_size e)) (k0 b o e)
  have le : s1.heap.objs.size ≤ (s1.heap.push (revObj a ((its.toArray.size : Int) - 1))).objs.size := by rw [eS]; exact Nat.le_succ _
  refine ⟨V.ref (s1.heap.push (revObj a ((its.toArray.size : Int) - 1))).objs.size, upd H1 _ (.lst xs.reverse), I1.laid keep le (show ObjOk X.prog X.w _ _ _ (.lst xs.reverse) from ⟨by rw [List.length_reverse]; exact hz, acc.toList, c', vals_rev rv hi, ?_⟩), rfl, q _ (I1.hok.fresh le)⟩
  rw [Array.toArray_toList]
  exact hS
end
end RX
namespace RX
open PySem PySem.Spec PyProof.Rows L2 L2H HotX
/-! ### defs that raise where the context of what they raise is known -/
section
variable {P : Program} {w : World} {K : PySem.W.Frag} {mg : Str → Option Value} {base : Heap} {x qual : Str} {st : Stmt} {f : Addr} {fd : FuncData} {N ps : List Str} {k : Nat} {sp : Sp}
theorem okN (F : Fun K x qual st f fd) (S : FnScope N ps (defScope st)) (len : ∀ vs H Q E, sp vs H Q E → vs.length = ps.length)
    (body : ∀ (cdv : Value) (A : Around) (outer : List Env) (s : Shared) (H : Hp) (vs : List V) (Q : VK) (E : XK), Room k (A.deeper (envOfC qual (defScope st) s.heap.objs.size f cdv)) → sp vs H Q E →
      ∃ t, PSs (cxOf (L2N.CX P w) P w K mg base N qual (defScope st) f cdv A outer s H E) (defBody st) t ∧ t { nx := fun _ H' => Q .non H', rt := Q } (start N vs) H) : FnOk P w K mg base (L2N.CX P w) (k + 1) f fd ps sp := by
  obtain ⟨_, _, _, _, _, _, cdv, _, _, rfl, lk, hcd⟩ := F.ex
  exact fn_of lk hcd S len fun A outer s H vs Q E r q => body cdv A outer s H vs Q E r q
theorem okH (F : Fun K x qual st f fd) (S : FnScope N ps (defScope st)) (len : ∀ vs H Q E, sp vs H Q E → vs.length = ps.length)
    (body : ∀ (cdv : Value) (A : Around) (outer : List Env) (s : Shared) (H : Hp) (vs : List V) (Q : VK) (E : XK) (p : Addr × Obj), Hot1 A p → RoomH k (A.deeper (envOfC qual (defScope st) s.heap.objs.size f cdv)) → sp vs H Q E →
      ∃ t, PSs (cxH CX0 P w K mg base N qual (defScope st) f cdv A outer s H E p) (defBody st) t ∧ t { nx := fun _ H' => Q .non H', rt := Q } (start N vs) H) : FnH P w K mg base CX0 (k + 1) f fd ps sp := by
  obtain ⟨_, _, _, _, _, _, cdv, _, _, rfl, lk, hcd⟩ := F.ex
  exact fn_ofH lk hcd S len fun A outer s H vs Q E p r q => body cdv A outer s H vs Q E p r q
variable {scope : Scope} {cd : Value} {A : Around} {outer : List PySem.Env} {s : Shared} {H : Hp} {E : XK}
theorem passXN : Passes (L2N.CX P w) (cxOf (L2N.CX P w) P w K mg base N qual scope f cd A outer s H E) E := L2N.passes_call (L2N.takes_of rfl rfl rfl rfl) (fun _ _ _ _ h => h)
theorem takesXN : L2N.Takes (cxOf (L2N.CX P w) P w K mg base N qual scope f cd A outer s H E) (fun cls d _ H => E cls d H) := L2N.takes_of rfl rfl rfl rfl
theorem passLN {X : Cx} : Passes (L2N.CX X.prog X.w) X E0 := fun _ _ _ _ _ _ _ h => by
  obtain ⟨_, _, _, _, _, _, _, _, _, _, _, _, e⟩ := h
  exact e.elim
theorem pass0H {X : Cx} : ∀ σ, PassesAt CX0 X σ ((fun _ => E0) σ) := fun _ _ _ _ _ _ _ h => h.elim
end
/-! ### an own exception with its own __init__, made -/
section
variable {X : Cx} {x : Str} {e : Expr} {es : List Expr} {ta : TA} {p pos : Pos}
theorem made_end {pins : List (Addr × Obj)} {σ : L2.St} {H1 H2 : Hp} {Q : XK} {hp hp2 h2 : Heap} {g1 g2 : Array GenState} {d1 d2 : Drawn} {t1 t2 : Nat} {os1 os2 : OsState} {a C d : Addr} {fs : List (Str × V)} (r : Raises X (.ref C))
    (I : Inv X pins σ H1 ⟨hp, g1, d1, t1, os1⟩) (ha : hp.objs.size ≤ a) (k : ∀ b o, hp.get? b = some o → hp2.get? b = some o) (un : Un (frs X.stack) [] (upd H1 a (exo a C none)) H2 hp2 h2) (ok : HOk X.prog X.w H2 h2) (eo : os2 = os1) (hb : AllBare g2)
    (ea : H2 a = some (exo a C (some d))) (ed : H2 d = some (exd d fs)) (hd : H1 d = none) (q : Q (.ref C) (some d) (upd (del H2 a) d (.xd fs))) : L2N.MkP X pins σ Q (.ref a) ⟨h2, g2, d2, t2, os2⟩ := by
  obtain ⟨t0, G, J, kG, ge, hoe, na⟩ := mk_end0 (d2 := d2) (t2 := t2) I ha k un ok eo hb ea ed hd
  refine ⟨a, _, _, ⟨G, g2, d2, t2, os2⟩, _, .ref C, some d, rfl, J, kG, ge, hoe, ⟨rfl, rfl, fun vs z => ?_⟩, rfl, rfl, na, rfl, hb, r, q⟩
  cases z
  rfl
theorem pmk_oexN {CX : CXT} {C fI : Addr} {k : Nat} {fd : FuncData} {ps : List Str} {sp : Sp} (T : OexC X.K C) (iC : PySem.W.findIn X.K (.ref C) "__init__" = some (some (.ref fI))) (tI : PySem.W.typeIn X.K (.ref fI) = some (.type "function"))
    (G : FnOk X.prog X.w X.K X.mg X.base CX k fI fd ps sp) (room : Room (k + 1) X.A) (bs : Binds X.K fd ps []) (hx : Passes CX X (fun _ _ _ => False)) (hg : Gl X x) (hm : X.mg x = some (.ref C)) (ha : PA X (e :: es) ta)
    (hdb : (x == ("__debug__" : Str)) = false := by decide) (he : starEach (e :: es) X.env = (false, eval e X.env) :: starEach es X.env := by rfl) (hpl : (backTo pos (starEach es X.env)).any (·.1) = false := by rfl) :
    L2N.PMk X (.Call (.Name x p) (e :: es) [] pos) (tMkO C sp [] ta) := by
  intro pins s σ H Q I h
  obtain ⟨_, _, _, _, bm, _, _, _, _, _, _, _, _, _, _, clsC, inVE⟩ := T.cls
  refine wpAny_Call_Name_kw (ld_glob I hg hm ?_ hdb)
  refine PySem.W.callWith_K (h₀ := X.base) I.ok.mod.kin T.kC (thn (ha.run pos pins s σ H _ I h) fun us s1 ⟨vs, H1, I1, rv, few, next⟩ => ⟨I1.kIn, ?_⟩) he hpl
  show wpAny _ _ (call (.ref C) us) _ _ _
  obtain ⟨h1, gens, drawn, toks, os⟩ := s1
  have above : h1.objs.size ≤ h1.objs.size + 1 := Nat.le_succ _
  have run := next (h1.objs.size + 1) (I1.hok.fresh above)
  rw [List.append_nil] at run
  have stay : ∀ b o, h1.get? b = some o → ((h1.push (PySem.W.kdv_tup us)).push (PySem.HandSPX.excO C h1.objs.size)).get? b = some o := fun b o q => Heap.get?_push_of_some _ (Heap.get?_push_of_some _ q)
  have there : ((h1.push (PySem.W.kdv_tup us)).push (PySem.HandSPX.excO C h1.objs.size)).get? (h1.objs.size + 1) = some (PySem.HandSPX.excO C h1.objs.size) := by heap_get
  have I2 : Inv X pins σ (upd H1 (h1.objs.size + 1) (exo (h1.objs.size + 1) C none)) ⟨(h1.push (PySem.W.kdv_tup us)).push (PySem.HandSPX.excO C h1.objs.size), gens, drawn, toks, os⟩ :=
    I1.laid (t' := toks) (a := h1.objs.size + 1) (o := exo (h1.objs.size + 1) C none) (h' := (h1.push (PySem.W.kdv_tup us)).push (PySem.HandSPX.excO C h1.objs.size)) stay above (exo_ok there)
  have vals : Vals (V.ref (h1.objs.size + 1) :: vs) (Value.ref (h1.objs.size + 1) :: us) := .cons rfl rv
  have count : (Value.ref (h1.objs.size + 1) :: us).length = ps.length := vals.length.symm.trans (G.len _ _ _ _ run)
  have small : us.length ≤ sizeLine := by
    rw [← Paired.length rv, sizeLine_eq]
    omega
  have bound := bs _ (Value.ref (h1.objs.size + 1) :: us) I2.kIn (by rw [List.append_nil]; exact count)
  rw [List.append_nil] at bound
  refine wpAny_call (PySem.HandSPX.call_own PySem.F.excBase_ValueError (fun Y => PySem.HandSPX.refsVE_contains Y bm inVE) (I1.kIn _ _ clsC) (PySem.W.looks_findIn I1.kIn iC) (fun self => PySem.W.bind_fn I1.kIn self tI) small ?_)
  refine codeAny_mono (G.run _ X.stack _ _ ⟨Value.ref (h1.objs.size + 1) :: us, []⟩ _ _ _ (fun _ _ _ => False) (room.make C us []) (I2.env0.make C us []) bound vals run) fun r s' done => ?_
  cases r with
  | error er => exact hx pins σ _ _ er s' I2 done
  | ok fl =>
    cases fl with
    | ret u =>
      obtain ⟨v, H2, os2, bare, un, hok, ru, ev, d, fs, ea, ed, hd, q⟩ := done
      subst ev
      obtain ⟨h2, g2, d2, t2, os'⟩ := s'
      exact ⟨ru, made_end (raises_own T.exC T.tyC) I1 above stay un hok os2 bare ea ed hd q⟩
    | next => exact False.elim done
    | brk => exact False.elim done
    | cont => exact False.elim done
end
end RX
namespace K0
open PySem PySem.Spec L2 RX
/-! ### the text -/
def top (i : Nat) : Stmt := PySem.Challenge.pw_retroact_k00_tokens_of_a_line.main.body.getD i (.Pass ⟨0, 0, 0, 0⟩)
abbrev sInit : Stmt := inClass (top 2) 0
abbrev sTok : Stmt := top 10
abbrev sAt : Stmt := top 11
abbrev sRow : Stmt := top 12
abbrev sNum : Stmt := top 13
abbrev sDraws : Stmt := top 15
abbrev sTake : Stmt := top 16
abbrev sSame : Stmt := top 17
abbrev sPiece : Stmt := top 18
abbrev sBad : Stmt := top 19
abbrev sGrows : Stmt := top 20
abbrev sLaw : Stmt := top 21
theorem boot_isi : bootBuiltins "isinstance" = some (.builtin "isinstance") := by decide +kernel
theorem boot_abs0 : bootBuiltins "abs" = some (.builtin "abs") := by decide +kernel
theorem boot_int0 : bootBuiltins "int" = some (.type "int") := by decide +kernel
theorem boot_bool0 : bootBuiltins "bool" = some (.type "bool") := by decide +kernel
theorem boot_str0 : bootBuiltins "str" = some (.type "str") := by decide +kernel
theorem boot_list0 : bootBuiltins "list" = some (.type "list") := by decide +kernel
theorem boot_tuple0 : bootBuiltins "tuple" = some (.type "tuple") := by decide +kernel
/-! ### heaps and tests -/
def But (p : Addr) (H H' : Hp) : Prop := ∀ b o, b ≠ p → H b = some o → H' b = some o
theorem But.refl (p : Addr) (H : Hp) : But p H H := fun _ _ _ h => h
theorem Same.but {p : Addr} {H H' : Hp} (s : Same H H') : But p H H' := fun b o _ h => s b o h
theorem But.trans {p : Addr} {H H1 H2 : Hp} (a : But p H H1) (b : But p H1 H2) : But p H H2 := fun c o n h => b c o n (a c o n h)
theorem same_new {H : Hp} {p : Addr} (h : H p = none) (o : HO) : Same H (upd H p o) := fun b u q => by rw [upd_ne (ne_of_none q h)]; exact q
theorem but_upd {p : Addr} {H : Hp} (o : HO) : But p H (upd H p o) := fun b u n q => by rw [upd_ne n]; exact q
theorem Same.upd {H H' : Hp} {p : Addr} (s : Same H H') (n : H p = none) (o : HO) : Same H (upd H' p o) := fun b u q => by rw [upd_ne (ne_of_none q n)]; exact s b u q
theorem ifT {c : Prop} [Decidable c] {A B : Prop} (h : c) (k : A) : if decide c = true then A else B := by rw [decide_eq_true h]; exact iteT k
theorem ifF {c : Prop} [Decidable c] {A B : Prop} (h : ¬ c) (k : B) : if decide c = true then A else B := by rw [decide_eq_false h]; exact iteF k
theorem ifNT {c : Prop} [Decidable c] {A B : Prop} (h : ¬ c) (k : A) : if (!decide c) = true then A else B := by rw [decide_eq_false h]; exact iteT k
theorem ifNF {c : Prop} [Decidable c] {A B : Prop} (h : c) (k : B) : if (!decide c) = true then A else B := by rw [decide_eq_true h]; exact iteF k
theorem int_eq {i j : Int} : (V.int i = V.int j) ↔ i = j := ⟨fun h => V.int.inj h, fun h => by rw [h]⟩
theorem str_eq {i j : Str} : (V.str i = V.str j) ↔ i = j := ⟨fun h => V.str.inj h, fun h => by rw [h]⟩
/-! ### texts as lists of signs -/
def mk (l : List Nat) : Str := ⟨l.toArray⟩
theorem mk_l (l : List Nat) : (mk l).cps.toList = l := by simp [mk]
theorem mk_len (l : List Nat) : (mk l).length = l.length := by simp [mk, Str.length]
theorem mk_of (z : Str) : mk z.cps.toList = z := by cases z; simp [mk]
theorem mk_inj {a b : List Nat} : mk a = mk b ↔ a = b := ⟨fun h => by rw [← mk_l a, h, mk_l], fun h => by rw [h]⟩
theorem mk_app (a b : List Nat) : mk a ++ mk b = mk (a ++ b) := by
  show Str.mk (a.toArray ++ b.toArray) = _
  simp [mk]
theorem mk_one (c : Nat) : (⟨#[c]⟩ : Str) = mk [c] := rfl
def low : Str := "abcdefghijklmnopqrstuvwxyz"
def dig : Str := "0123456789"
def sgn : Str := "<=>+-*/(),"
def isIn (z : Str) (c : Nat) : Bool := decide (c ∈ z.cps.toList)
abbrev isL : Nat → Bool := isIn low
abbrev isD : Nat → Bool := isIn dig
abbrev isG : Nat → Bool := isIn sgn
theorem low_l : low.cps.toList = [97, 98, 99, 100, 101, 102, 103, 104, 105, 106, 107, 108, 109, 110, 111, 112, 113, 114, 115, 116, 117, 118, 119, 120, 121, 122] := by decide +kernel
theorem dig_l : dig.cps.toList = [48, 49, 50, 51, 52, 53, 54, 55, 56, 57] := by decide +kernel
theorem sgn_l : sgn.cps.toList = [60, 61, 62, 43, 45, 42, 47, 40, 41, 44] := by decide +kernel
theorem isL_iff {c : Nat} : isL c = true ↔ 97 ≤ c ∧ c ≤ 122 := by
  unfold isL isIn
  rw [low_l, decide_eq_true_iff]
  simp only [List.mem_cons, List.not_mem_nil, or_false]
  omega
theorem isD_iff {c : Nat} : isD c = true ↔ 48 ≤ c ∧ c ≤ 57 := by
  unfold isD isIn
  rw [dig_l, decide_eq_true_iff]
  simp only [List.mem_cons, List.not_mem_nil, or_false]
  omega
theorem isL_false {c : Nat} : isL c = false ↔ ¬ (97 ≤ c ∧ c ≤ 122) := by rw [← isL_iff]; cases isL c <;> simp
theorem isD_false {c : Nat} : isD c = false ↔ ¬ (48 ≤ c ∧ c ≤ 57) := by rw [← isD_iff]; cases isD c <;> simp
/-! ### the tokens of a line -/
inductive Tk | ok (k : Str) (w : List Nat) | bad (r : Str)
def numB (w : List Nat) : Bool := decide (w.length ≤ 10) && ((!decide (w.head? = some 48) || decide (w = [48])) && decide (NumText.digitsVal w ≤ 1000000000))
def tokAt : List Nat → Tk
  | [] => .bad "character"
  | c :: r =>
    if isL c = true then (if 12 < ((c :: r).takeWhile isL).length then .bad "word" else .ok "word" ((c :: r).takeWhile isL))
    else if isD c = true then (if numB ((c :: r).takeWhile isD) = true then .ok "number" ((c :: r).takeWhile isD) else .bad "number")
    else if (c :: r).take 2 = [60, 61] ∨ (c :: r).take 2 = [62, 61] then .ok "sign" ((c :: r).take 2)
    else if isG c = true then .ok "sign" [c] else .bad "character"
theorem tokAt_cons (c : Nat) (r : List Nat) : tokAt (c :: r) =
    if isL c = true then (if 12 < ((c :: r).takeWhile isL).length then .bad "word" else .ok "word" ((c :: r).takeWhile isL))
    else if isD c = true then (if numB ((c :: r).takeWhile isD) = true then .ok "number" ((c :: r).takeWhile isD) else .bad "number")
    else if (c :: r).take 2 = [60, 61] ∨ (c :: r).take 2 = [62, 61] then .ok "sign" ((c :: r).take 2)
    else if isG c = true then .ok "sign" [c] else .bad "character" := rfl
abbrev Item := Str × List Nat × Nat
inductive Toks : Nat → List Nat → List Item → Option (Nat × Str) → Prop
  | nil {n : Nat} : Toks n [] [] none
  | sp {n : Nat} {r : List Nat} {is : List Item} {e : Option (Nat × Str)} (q : Toks (n + 1) r is e) : Toks n (32 :: r) is e
  | tok {n c : Nat} {r : List Nat} {k : Str} {w : List Nat} {is : List Item} {e : Option (Nat × Str)} (h : c ≠ 32) (t : tokAt (c :: r) = .ok k w) (q : Toks (n + w.length) ((c :: r).drop w.length) is e) : Toks n (c :: r) ((k, w, n + 1) :: is) e
  | bad {n c : Nat} {r : List Nat} {z : Str} (h : c ≠ 32) (t : tokAt (c :: r) = .bad z) : Toks n (c :: r) [] (some (n + 1, z))
theorem takeWhile_pos {f : Nat → Bool} {c : Nat} {r : List Nat} (h : f c = true) : 1 ≤ ((c :: r).takeWhile f).length := by
  rw [List.takeWhile_cons, if_pos h, List.length_cons]
  omega
theorem tokAt_len {c : Nat} {r : List Nat} {k : Str} {w : List Nat} (h : tokAt (c :: r) = .ok k w) : 1 ≤ w.length ∧ w.length ≤ (c :: r).length := by
  rw [tokAt_cons] at h
  split at h
  · split at h
    · cases h
    · cases h
      exact ⟨takeWhile_pos (by assumption), (List.takeWhile_sublist _).length_le⟩
  · split at h
    · split at h
      · cases h
        exact ⟨takeWhile_pos (by assumption), (List.takeWhile_sublist _).length_le⟩
      · cases h
    · split at h
      · cases h
        rename_i q
        have e : ((c :: r).take 2).length = 2 := by rcases q with q | q <;> rw [q] <;> rfl
        exact ⟨by omega, (List.take_sublist _ _).length_le⟩
      · split at h
        · cases h
          exact ⟨by simp, by simp⟩
        · cases h
/-! ### pieces that a law draws -/
def growsB (l r : List Nat) : Bool := match l.getLast?, r.head? with
  | some a, some b => ((isL a && isL b) || (isD a && isD b)) || ((decide (l = [60]) || decide (l = [62])) && decide (b = 61))
  | _, _ => false
def signs : List (List Nat) := [[60, 61], [62, 61], [60], [61], [62], [43], [45], [42], [47], [40], [41], [44]]
inductive Good : Str → List Nat → Prop
  | word {w : List Nat} (h : w ≠ []) (n : w.length ≤ 12) (a : ∀ c ∈ w, isL c = true) : Good "word" w
  | num {w : List Nat} (h : w ≠ []) (a : ∀ c ∈ w, isD c = true) (n : numB w = true) : Good "number" w
  | sign {w : List Nat} (h : w ∈ signs) : Good "sign" w
inductive Bad : Str → List Nat → Prop
  | char {w : List Nat} (h : w ∈ [[65], [95], [35], [46], [36], [58], [59]]) : Bad "character" w
  | word {w : List Nat} (n : 12 < w.length) (a : ∀ c ∈ w, isL c = true) : Bad "word" w
  | num {w : List Nat} (h : w ≠ []) (a : ∀ c ∈ w, isD c = true) (n : numB w = false) : Bad "number" w
theorem tw_all {f : Nat → Bool} : ∀ {w r : List Nat}, (∀ c ∈ w, f c = true) → (∀ b, r.head? = some b → f b = false) → (w ++ r).takeWhile f = w
  | [], [], _, _ => rfl
  | [], b :: r, _, h => by rw [List.nil_append, List.takeWhile_cons, if_neg (by rw [h b rfl]; decide)]
  | c :: w, r, a, h => by rw [List.cons_append, List.takeWhile_cons, if_pos (a c (List.mem_cons_self ..)), tw_all (fun x q => a x (List.mem_cons_of_mem _ q)) h]
theorem last_all {f : Nat → Bool} {w : List Nat} (h : w ≠ []) (a : ∀ c ∈ w, f c = true) : ∃ x, w.getLast? = some x ∧ f x = true :=
  ⟨w.getLast h, List.getLast?_eq_getLast h, a _ (List.getLast_mem h)⟩
theorem sep_L {w r : List Nat} (h : w ≠ []) (a : ∀ c ∈ w, isL c = true) (g : growsB w r = false) : ∀ b, r.head? = some b → isL b = false := by
  intro b hb
  obtain ⟨x, hx, hf⟩ := last_all h a
  unfold growsB at g
  rw [hx, hb] at g
  dsimp only at g
  rw [hf] at g
  cases q : isL b with
  | false => rfl
  | true => rw [q] at g; simp at g
theorem sep_D {w r : List Nat} (h : w ≠ []) (a : ∀ c ∈ w, isD c = true) (g : growsB w r = false) : ∀ b, r.head? = some b → isD b = false := by
  intro b hb
  obtain ⟨x, hx, hf⟩ := last_all h a
  unfold growsB at g
  rw [hx, hb] at g
  dsimp only at g
  rw [hf] at g
  cases q : isD b with
  | false => rfl
  | true => rw [q] at g; simp at g
theorem tok_word {w r : List Nat} (h : w ≠ []) (a : ∀ c ∈ w, isL c = true) (g : growsB w r = false) : tokAt (w ++ r) = if 12 < w.length then .bad "word" else .ok "word" w := by
  have e := tw_all (r := r) a (sep_L h a g)
  cases w with
  | nil => exact absurd rfl h
  | cons c w =>
    rw [List.cons_append] at e ⊢
    rw [tokAt_cons, if_pos (a c (List.mem_cons_self ..)), e]
theorem tok_num {w r : List Nat} (h : w ≠ []) (a : ∀ c ∈ w, isD c = true) (g : growsB w r = false) : tokAt (w ++ r) = if numB w = true then .ok "number" w else .bad "number" := by
  have e := tw_all (r := r) a (sep_D h a g)
  cases w with
  | nil => exact absurd rfl h
  | cons c w =>
    have hc := a c (List.mem_cons_self ..)
    have hl : ¬ isL c = true := by rw [isL_iff]; rw [isD_iff] at hc; omega
    rw [List.cons_append] at e ⊢
    rw [tokAt_cons, if_neg hl, if_pos hc, e]
theorem good_tok {k : Str} {w r : List Nat} (G : Good k w) (g : growsB w r = false) : tokAt (w ++ r) = .ok k w := by
  cases G with
  | word h n a => rw [tok_word h a g, if_neg (by omega)]
  | num h a n => rw [tok_num h a g, if_pos n]
  | sign h =>
    have one : ∀ c, isL c = false → isD c = false → isG c = true → (c = 60 ∨ c = 62 → r.head? ≠ some 61) → tokAt ([c] ++ r) = .ok "sign" [c] := fun c h1 h2 h3 h4 => by
      show tokAt (c :: r) = _
      rw [tokAt_cons, if_neg (by rw [h1]; decide), if_neg (by rw [h2]; decide), if_neg ?_, if_pos h3]
      cases r with
      | nil => rintro (q | q) <;> simp at q
      | cons b r =>
        rintro (q | q)
        · simp at q
          exact h4 (.inl q.1) (by rw [q.2]; rfl)
        · simp at q
          exact h4 (.inr q.1) (by rw [q.2]; rfl)
    have two : ∀ c, c = 60 ∨ c = 62 → tokAt ([c, 61] ++ r) = .ok "sign" [c, 61] := fun c hc => by
      show tokAt (c :: 61 :: r) = _
      have h1 : ¬ isL c = true := by rw [isL_iff]; omega
      have h2 : ¬ isD c = true := by rw [isD_iff]; omega
      rw [tokAt_cons, if_neg h1, if_neg h2, if_pos (by rcases hc with rfl | rfl <;> simp)]
      rfl
    have gg : ∀ c, c = 60 ∨ c = 62 → growsB [c] r = false → r.head? ≠ some 61 := fun c hc q z => by
      unfold growsB at q
      rw [z] at q
      rcases hc with rfl | rfl <;> simp at q
    simp only [signs, List.mem_cons, List.not_mem_nil, or_false] at h
    rcases h with rfl | rfl | rfl | rfl | rfl | rfl | rfl | rfl | rfl | rfl | rfl | rfl
    · exact two 60 (.inl rfl)
    · exact two 62 (.inr rfl)
    · exact one 60 (by decide +kernel) (by decide +kernel) (by decide +kernel) (fun q => gg 60 q g)
    · exact one 61 (by decide +kernel) (by decide +kernel) (by decide +kernel) (fun q => by omega)
    · exact one 62 (by decide +kernel) (by decide +kernel) (by decide +kernel) (fun q => gg 62 q g)
    all_goals exact one _ (by decide +kernel) (by decide +kernel) (by decide +kernel) (fun q => by omega)
theorem bad_tok {k : Str} {w r : List Nat} (B : Bad k w) (g : growsB w r = false) : tokAt (w ++ r) = .bad k := by
  cases B with
  | word n a => rw [tok_word (by rintro rfl; simp at n) a g, if_pos n]
  | num h a n => rw [tok_num h a g, if_neg (by rw [n]; decide)]
  | char h =>
    have one : ∀ c, isL c = false → isD c = false → isG c = false → c ≠ 60 ∧ c ≠ 62 → tokAt ([c] ++ r) = .bad "character" := fun c h1 h2 h3 h4 => by
      show tokAt (c :: r) = _
      rw [tokAt_cons, if_neg (by rw [h1]; decide), if_neg (by rw [h2]; decide), if_neg ?_, if_neg (by rw [h3]; decide)]
      rintro (q | q)
      · cases r <;> simp at q
        exact h4.1 q.1
      · cases r <;> simp at q
        exact h4.2 q.1
    simp only [List.mem_cons, List.not_mem_nil, or_false] at h
    rcases h with rfl | rfl | rfl | rfl | rfl | rfl | rfl
    all_goals exact one _ (by decide +kernel) (by decide +kernel) (by decide +kernel) ⟨by decide, by decide⟩
theorem Good.ne {k : Str} {w : List Nat} (G : Good k w) : w ≠ [] := by
  cases G with
  | word h => exact h
  | num h => exact h
  | sign h => rintro rfl; simp [signs] at h
theorem Bad.ne {k : Str} {w : List Nat} (G : Bad k w) : w ≠ [] := by
  cases G with
  | word n => rintro rfl; simp at n
  | num h => exact h
  | char h => rintro rfl; simp at h
theorem all_ne32 {f : Nat → Bool} (h : f 32 = false) {w : List Nat} (a : ∀ c ∈ w, f c = true) : ∀ c ∈ w, c ≠ 32 := fun c q z => by
  have := a c q
  rw [z, h] at this
  cases this
theorem Good.no32 {k : Str} {w : List Nat} (G : Good k w) : ∀ c ∈ w, c ≠ 32 := by
  cases G with
  | word h n a => exact all_ne32 (by decide +kernel) a
  | num h a => exact all_ne32 (by decide +kernel) a
  | sign h =>
    simp only [signs, List.mem_cons, List.not_mem_nil, or_false] at h
    rcases h with rfl | rfl | rfl | rfl | rfl | rfl | rfl | rfl | rfl | rfl | rfl | rfl <;> decide
theorem Bad.no32 {k : Str} {w : List Nat} (G : Bad k w) : ∀ c ∈ w, c ≠ 32 := by
  cases G with
  | word n a => exact all_ne32 (by decide +kernel) a
  | num h a => exact all_ne32 (by decide +kernel) a
  | char h =>
    simp only [List.mem_cons, List.not_mem_nil, or_false] at h
    rcases h with rfl | rfl | rfl | rfl | rfl | rfl | rfl <;> decide
/-! ### a line of pieces -/
theorem toks_sp {n : Nat} {r : List Nat} {is : List Item} {e : Option (Nat × Str)} : ∀ {s : Nat}, Toks (n + s) r is e → Toks n (List.replicate s 32 ++ r) is e
  | 0, h => h
  | s + 1, h => by
    rw [List.replicate_succ, List.cons_append]
    exact .sp (toks_sp (n := n + 1) (s := s) (by rw [show n + 1 + s = n + (s + 1) by omega]; exact h))
theorem toks_good {n : Nat} {k : Str} {w r : List Nat} {is : List Item} {e : Option (Nat × Str)} (G : Good k w) (g : growsB w r = false) (h : Toks (n + w.length) r is e) : Toks n (w ++ r) ((k, w, n + 1) :: is) e := by
  have t := good_tok G g
  have n32 := G.no32
  have ne := G.ne
  have d : (w ++ r).drop w.length = r := List.drop_left ..
  cases w with
  | nil => exact absurd rfl ne
  | cons c w => exact .tok (n32 c (List.mem_cons_self ..)) t (by show Toks _ (((c :: w) ++ r).drop _) _ _; rw [d]; exact h)
theorem toks_bad {n : Nat} {k : Str} {w r : List Nat} (G : Bad k w) (g : growsB w r = false) : Toks n (w ++ r) [] (some (n + 1, k)) := by
  have t := bad_tok G g
  have n32 := G.no32
  have ne := G.ne
  cases w with
  | nil => exact absurd rfl ne
  | cons c w => exact .bad (n32 c (List.mem_cons_self ..)) t
theorem grows_app {b w r : List Nat} (h : w ≠ []) : growsB b (w ++ r) = growsB b w := by
  cases w with
  | nil => exact absurd rfl h
  | cons c w => rfl
theorem grows_sp {b r : List Nat} {s : Nat} (h : 0 < s) : growsB b (List.replicate s 32 ++ r) = false := by
  cases s with
  | zero => omega
  | succ s =>
    rw [List.replicate_succ, List.cons_append]
    unfold growsB
    cases b.getLast? with
    | none => rfl
    | some a =>
      show (((isL a && isL 32) || (isD a && isD 32)) || ((decide (b = [60]) || decide (b = [62])) && decide ((32 : Nat) = 61))) = false
      rw [show isL 32 = false by decide +kernel, show isD 32 = false by decide +kernel, show decide ((32 : Nat) = 61) = false by decide]
      simp
inductive Pre : List Item → List Nat → List Nat → Prop
  | nil (s : Nat) : Pre [] (List.replicate s 32) []
  | snoc {is : List Item} {x b : List Nat} {k : Str} {w : List Nat} {s : Nat} (p : Pre is x b) (G : Good k w) (g : s = 0 → growsB b w = false) : Pre (is ++ [(k, w, x.length + s + 1)]) (x ++ (List.replicate s 32 ++ w)) w
theorem pre_toks {is : List Item} {x b : List Nat} (p : Pre is x b) : ∀ {r : List Nat} {is' : List Item} {e : Option (Nat × Str)}, Toks x.length r is' e → growsB b r = false → Toks 0 (x ++ r) (is ++ is') e := by
  induction p with
  | nil s =>
    intro r is' e h _
    rw [List.length_replicate] at h
    exact toks_sp (by rw [Nat.zero_add]; exact h)
  | @snoc is x b k w s p G g ih =>
    intro r is' e h hg
    rw [List.append_assoc, List.append_assoc, List.append_assoc]
    refine ih (toks_sp (toks_good G hg ?_)) ?_
    · rw [List.length_append, List.length_append, List.length_replicate, ← Nat.add_assoc] at h
      exact h
    · by_cases hs : s = 0
      · subst hs
        rw [List.replicate_zero, List.nil_append, grows_app G.ne]
        exact g rfl
      · exact grows_sp (by omega)
theorem toks_end {n s : Nat} : Toks n (List.replicate s 32) [] none := by
  have := toks_sp (n := n) (s := s) (r := []) Toks.nil
  rw [List.append_nil] at this
  exact this
end K0
namespace K0
open PySem PySem.Spec L2 RX TL
/-! ### promises of the program -/
def txF (m c : Nat) (z : Str) : List (Str × V) := [("reason", .str z), ("column", .int c), ("line", .int m)]
def Te (C : Addr) (H : Hp) (E : XK) (m c : Nat) (z : Str) : Prop := ∀ d H', Same H H' → H d = none → H' d = some (.xd (txF m c z)) → E (.ref C) (some d) H'
theorem Te.same {C : Addr} {H H1 : Hp} {E : XK} {m c : Nat} {z : Str} (s : Same H H1) (f : Te C H E m c z) : Te C H1 E m c z := fun d H' s' n h => f d H' (s.trans s') (s.free n) h
def spInit (C : Addr) : Sp := fun vs H Q _ => ∃ (a : Addr) (m c : Nat) (z : Str), vs = [.ref a, .int m, .int c, .str z] ∧ m < 10 ^ 18 ∧ c < 10 ^ 18 ∧ z.length ≤ 100 ∧ H a = some (exo a C none) ∧
  ∀ d H2, H d = none → d ≠ a → H2 a = some (exo a C (some d)) → H2 d = some (exd d (txF m c z)) → (∀ b, b ≠ a → b ≠ d → H2 b = H b) → Q .non H2
def tw (z : Str) (l : List Nat) : List Nat := l.takeWhile (isIn z)
def spRow : Sp := fun vs H Q _ => ∃ (l : List Nat) (n : Nat) (z : Str), vs = [.str (mk l), .int n, .str z] ∧ n ≤ l.length ∧ l.length ≤ 1000000 ∧ Q (.str (mk (tw z (l.drop n)))) H
def spNum : Sp := fun vs H Q _ => ∃ w : List Nat, vs = [.str (mk w)] ∧ w ≠ [] ∧ (∀ c ∈ w, isD c = true) ∧ w.length ≤ 1000000 ∧ Q (.bl (numB w)) H
def OutT (C : Addr) (H : Hp) (Q : VK) (E : XK) (m n : Nat) : Tk → Prop
  | .ok k w => ∀ p H', Same H H' → H' p = some (.tup [.str k, .str (mk w)]) → Q (.ref p) H'
  | .bad z => Te C H E m (n + 1) z
def spAt (C : Addr) : Sp := fun vs H Q E => ∃ (l : List Nat) (n m c : Nat) (r : List Nat), vs = [.str (mk l), .int n, .int m] ∧ l.drop n = c :: r ∧ l.length ≤ 1000000 ∧ m < 10 ^ 18 ∧ OutT C H Q E m n (tokAt (c :: r))
def ItAt (H : Hp) (v : V) (i : Item) : Prop := ∃ a, v = .ref a ∧ H a = some (.tup [.str i.1, .str (mk i.2.1), .int (i.2.2 : Nat)])
inductive Its (H : Hp) : List V → List Item → Prop
  | nil : Its H [] []
  | cons {v : V} {vs : List V} {e : Item} {es : List Item} (h : ItAt H v e) (r : Its H vs es) : Its H (v :: vs) (e :: es)
theorem Its.snoc {H : Hp} {us : List V} {es : List Item} {v : V} {e : Item} (h : Its H us es) (k : ItAt H v e) : Its H (us ++ [v]) (es ++ [e]) := by
  induction h with
  | nil => exact .cons k .nil
  | cons h r ih => exact .cons h ih
theorem ItAt.but {p : Addr} {H H' : Hp} {v : V} {i : Item} (s : But p H H') (hp : ∀ xs, H p ≠ some (.tup xs)) (h : ItAt H v i) : ItAt H' v i := by
  obtain ⟨a, rfl, h⟩ := h
  exact ⟨a, rfl, s _ _ (fun z => hp _ (by rw [← z]; exact h)) h⟩
theorem Its.but {p : Addr} {H H' : Hp} (s : But p H H') (hp : ∀ xs, H p ≠ some (.tup xs)) : ∀ {vs : List V} {es : List Item}, Its H vs es → Its H' vs es
  | _, _, .nil => .nil
  | _, _, .cons h r => .cons (h.but s hp) (Its.but s hp r)
theorem ItAt.same {H H' : Hp} {v : V} {i : Item} (s : Same H H') (h : ItAt H v i) : ItAt H' v i := by
  obtain ⟨a, rfl, h⟩ := h
  exact ⟨a, rfl, s _ _ h⟩
theorem Its.same {H H' : Hp} (s : Same H H') : ∀ {vs : List V} {es : List Item}, Its H vs es → Its H' vs es
  | _, _, .nil => .nil
  | _, _, .cons h r => .cons (h.same s) (Its.same s r)
theorem Its.len {H : Hp} : ∀ {vs : List V} {es : List Item}, Its H vs es → vs.length = es.length
  | _, _, .nil => rfl
  | _, _, .cons h r => by rw [List.length_cons, List.length_cons, Its.len r]
def OutTs (C : Addr) (H : Hp) (Q : VK) (E : XK) (m : Nat) (is : List Item) : Option (Nat × Str) → Prop
  | none => ∀ p H' us, Same H H' → H' p = some (.lst us) → Its H' us is → Q (.ref p) H'
  | some (c, z) => Te C H E m c z
def spTok (C : Addr) : Sp := fun vs H Q E => ∃ (l : List Nat) (m : Nat) (is : List Item) (e : Option (Nat × Str)), vs = [.str (mk l), .int m] ∧ l.length ≤ 1000000 ∧ m < 10 ^ 18 ∧ Toks 0 l is e ∧ OutTs C H Q E m is e
/-- what the written part says -/
structure Txt (P : Program) (K : PySem.W.Frag) (mg : Str → Option Value) (C fI cc cda : Addr) : Prop where
  su : SupC P K mg C cc cda
  noL : PySem.W.findIn K (.ref C) "line" = some none
  noC : PySem.W.findIn K (.ref C) "column" = some none
  noR : PySem.W.findIn K (.ref C) "reason" = some none
  iC : PySem.W.findIn K (.ref C) "__init__" = some (some (.ref fI))
  tI : PySem.W.typeIn K (.ref fI) = some (.type "function")
  gF : mg "TextError" = some (.ref C)
  xf : XfC K C
  te : PySem.W.exmOne K (.ref C) (.ref C) = some true
  zisi : mg "isinstance" = none
  zint : mg "int" = none
  zbool : mg "bool" = none
  zstr : mg "str" = none
  zlen : mg "len" = none
  zlist : mg "list" = none
  ztuple : mg "tuple" = none
  zrev : mg "reversed" = none
  zrng : mg "range" = none
  zabs : mg "abs" = none
  gLow : ∃ t, mg "SMALL_LETTERS" = some (.str low t)
  gDig : ∃ t, mg "DIGITS" = some (.str dig t)
  gSgn : ∃ t, mg "SIGNS" = some (.str sgn t)
  gLn : ∃ t, mg "LONGEST_NAME" = some (.int 12 t)
  gLu : ∃ t, mg "LONGEST_NUMBER" = some (.int 10 t)
  gGv : ∃ t, mg "GREATEST_VALUE" = some (.int 1000000000 t)
structure Cal (K : PySem.W.Frag) (mg : Str → Option Value) (x : Str) (f : Addr) (fd : FuncData) (ps : List Str) : Prop where
  g : mg x = some (.ref f)
  k : PySem.W.keepIn K (.ref f) = true
  b : Binds K fd ps []
theorem size_of {n : Nat} (h : n ≤ 1000) : n ≤ sizeLine := Nat.le_of_lt (small1000 h)
theorem size_m {n : Nat} (h : n ≤ 1000000) : n ≤ sizeLine := Nat.le_trans h (by decide)
section
variable {P : Program} {w : World} {K : PySem.W.Frag} {mg : Str → Option Value} {base : Heap} {N : List Str} {qual : Str} {scope : Scope} {f : Addr} {cd : Value} {A : Around} {outer : List PySem.Env} {s : Shared} {H : Hp} {E : XK}
theorem passX : Passes (L2.CX P w) (cxOf (L2.CX P w) P w K mg base N qual scope f cd A outer s H E) E := passes_call (takes_of rfl rfl rfl rfl) (fun _ _ _ _ h => h)
theorem takesX : Takes (cxOf (L2.CX P w) P w K mg base N qual scope f cd A outer s H E) (fun cls d _ H => E cls d H) := takes_of rfl rfl rfl rfl
theorem passF {X : Cx} : Passes CX0 X (fun _ _ _ => False) := fun _ _ _ _ _ _ _ h => h.elim
end
section
variable {P : Program} {w : World} {K : PySem.W.Frag} {mg : Str → Option Value} {base : Heap} {C fI cc cda : Addr}
theorem nsI : NdefX.NScope ["self", "line", "column", "reason", "__class__"] ["self", "line", "column", "reason"] ["__class__"] (defScope sInit) := NdefX.nscope_by (by decide +kernel)
theorem str_app_len (a b : Str) : (a ++ b).length = a.length + b.length := by
  show (_ ++ _ : Array Nat).size = _
  simp [Str.length]
theorem num_len {n : Nat} (h : n < 10 ^ 18) : (Str.ofString (toString ((n : Nat) : Int))).length ≤ 18 := by
  have e : (Str.ofString (toString ((n : Nat) : Int))).length = (numL n).length := by
    rw [← tl_num]
    show _ = (Array.toList _).length
    rw [Array.length_toList]
    rfl
  rw [e]
  exact numL_len (by decide) h
theorem log_ok {n : Nat} (h : n < 10 ^ 18) : ((n : Nat) : Int).natAbs.log2 < 1920 := by
  rw [Int.natAbs_natCast]
  by_cases h0 : n = 0
  · subst h0; decide
  · exact (Nat.log2_lt h0).mpr (Nat.lt_of_lt_of_le h (by decide +kernel))
theorem ok_init {oc kV doc pm ct : Value} {od an : Option Addr} {osl : Array (Option Value)} (T : Txt P K mg C fI cc cda)
    (lk : K.lookup fI = some ⟨oc, od, .func (PySem.W.ksFn "__init__" "TextError.__init__" (defArgs sInit) (defBody sInit) (defScope sInit) .none kV doc pm an (.ref cda) ct cc), osl⟩) (hcd : PySem.W.codeIn K (.ref cda) "TextError.__init__" = true) :
    FnOk P w K mg base CX0 1 fI (PySem.W.ksFn "__init__" "TextError.__init__" (defArgs sInit) (defBody sInit) (defScope sInit) .none kV doc pm an (.ref cda) ct cc) ["self", "line", "column", "reason"] (spInit C) := by
  refine fn_super T.su nsI rfl lk hcd rfl rfl rfl (fun vs H Q E h => ?_) (fun _ => rfl) (fun L => ⟨_, rfl⟩) (fun A outer s H vs Q E hr h => ?_)
  · obtain ⟨a, m, c, z, rfl, _⟩ := h
    rfl
  · obtain ⟨a, m, c, z, rfl, hm, hc, hz, ha, k⟩ := h
    refine ⟨a, [.int m, .int c, .str z], _, _, rfl, ha, pe_joined (.cons pe_str (.cons (pe_fmt (pv 1)) (.cons pe_str (.cons (pe_fmt (pv 2)) (.cons pe_str (.cons (pe_fmt (pv 3)) .nil)))))),
      pss_cons (ps_ost (pv 0) (pv 1)) (pss_cons (ps_ost (pv 0) (pv 2)) (pss_one (ps_ost (pv 0) (pv 3)))), ?_⟩
    have lm := num_len hm
    have lc := num_len hc
    have k0 : Str.empty.length = 0 := by decide +kernel
    have k3 : ("line " : Str).length = 5 := by decide +kernel
    have k1 : (", column " : Str).length = 9 := by decide +kernel
    have k2 : (": " : Str).length = 2 := by decide +kernel
    refine ⟨_, rfl, size_of (by simp only [str_app_len]; omega), _, rfl, .inr ⟨_, rfl, log_ok hm, _, rfl, size_of (by simp only [str_app_len]; omega), _, rfl, size_of (by simp only [str_app_len]; omega), _, rfl, .inr ⟨_, rfl, log_ok hc, _, rfl, size_of (by simp only [str_app_len]; omega), _, rfl, size_of (by simp only [str_app_len]; omega), _, rfl, .inl ⟨z, rfl, size_of (by omega), _, rfl, size_of (by simp only [str_app_len]; omega), rfl, ha, ?_⟩⟩⟩⟩
    refine ⟨_, rfl, _, rfl, a, C, rfl, T.su.ox, T.noL, .inl ⟨ha, fun d hd hda => ?_⟩⟩
    refine ⟨_, rfl, _, rfl, a, C, rfl, T.su.ox, T.noC, .inr ⟨d, [("line", .int m)], upd_same, by rw [upd_ne hda, upd_same], (by show 1 ≤ 900; decide), ?_⟩⟩
    refine ⟨_, rfl, _, rfl, a, C, rfl, T.su.ox, T.noR, .inr ⟨d, [("column", .int c), ("line", .int m)], by rw [upd_ne (Ne.symm hda), upd_same], upd_same, (by show 2 ≤ 900; decide), ?_⟩⟩
    refine k d _ hd hda ?_ upd_same fun b nb nd => ?_
    · rw [upd_ne (Ne.symm hda), upd_ne (Ne.symm hda), upd_same]
    · rw [upd_ne nd, upd_ne nd, upd_ne nb, upd_ne nd]
end
end K0
namespace K0
open PySem PySem.Spec L2 RX TL
theorem iteT' {b : Bool} {A B : Prop} (h : b = true) (k : A) : if b = true then A else B := by rw [h]; exact iteT k
theorem iteF' {b : Bool} {A B : Prop} (h : b = false) (k : B) : if b = true then A else B := by rw [h]; exact iteF k
section
variable {P : Program} {w : World} {K : PySem.W.Frag} {mg : Str → Option Value} {base : Heap} {C fI cc cda : Addr}
theorem te_mk {E : XK} {H : Hp} {m c : Nat} {z : Str} (f : Te C H E m c z) (hm : m < 10 ^ 18) (hc : c < 10 ^ 18) (hz : z.length ≤ 100) : ∀ a, H a = none → spInit C (.ref a :: ([.int m, .int c, .str z] ++ [])) (upd H a (exo a C none))
    (fun v H2 => v = .non ∧ ∃ (d : Addr) (fs : List (Str × V)), H2 a = some (exo a C (some d)) ∧ H2 d = some (exd d fs) ∧ H d = none ∧ E (.ref C) (some d) (upd (del H2 a) d (.xd fs))) (fun _ _ _ => False) := by
  intro a ha
  refine ⟨a, m, c, z, rfl, hm, hc, hz, upd_same, fun d H2 hd hda h1 h2 h3 => ⟨rfl, d, txF m c z, h1, h2, ?_, ?_⟩⟩
  · rw [upd_ne hda] at hd
    exact hd
  · rw [upd_ne hda] at hd
    refine f d _ (fun b o hb => ?_) hd upd_same
    have nb : b ≠ d := ne_of_none hb hd
    have na : b ≠ a := ne_of_none hb ha
    rw [upd_ne nb, del_ne na, h3 b na nb, upd_ne na]
    exact hb
theorem tw_cut {f : Nat → Bool} {l : List Nat} {n e : Nat} (h : ∀ i c, n ≤ i → i < e → l[i]? = some c → f c = true) (ne : n ≤ e) (el : e ≤ l.length) (stop : ∀ c, l[e]? = some c → f c = false) : (l.drop n).takeWhile f = (l.drop n).take (e - n) := by
  have d : (l.drop n).drop (e - n) = l.drop e := by rw [List.drop_drop]; congr 1; omega
  have s : l.drop n = (l.drop n).take (e - n) ++ l.drop e := by rw [← d, List.take_append_drop]
  conv => lhs; rw [s]
  refine tw_all (fun c hc => ?_) (fun b hb => stop b ?_)
  · obtain ⟨i, hi⟩ := List.mem_iff_getElem?.mp hc
    have hlt : i < e - n := by
      have := (List.getElem?_eq_some_iff.mp hi).1
      rw [List.length_take] at this
      omega
    rw [List.getElem?_take, if_pos hlt, List.getElem?_drop] at hi
    exact h (n + i) c (by omega) (by omega) hi
  · rw [List.head?_drop] at hb
    exact hb
theorem cut_mk {l : List Nat} {n e : Nat} (h1 : n ≤ e) (h2 : e ≤ l.length) : cutS (mk l) (some (n : Int)) (some (e : Int)) = mk ((l.drop n).take (e - n)) := by
  unfold cutS
  rw [HT.sIx_nat, HT.sIx_nat, mk_len, mk_l, Nat.min_eq_left h2, Nat.min_eq_left (Nat.le_trans h1 h2)]
  rfl
theorem at_str {l : List Nat} {n c : Nat} (h : l[n]? = some c) : atI (mk l).cps.toList (n : Int) = some c := by rw [mk_l]; exact atI_nat h
theorem scRo : FnScope ["line", "at", "characters", "end"] ["line", "at", "characters"] (defScope sRow) := ⟨rfl, rfl, rfl, by decide +kernel, rfl, by decide +kernel, by decide +kernel⟩
theorem ok_row {f : Addr} {fd : FuncData} (F : Fun K "_row_at" "_row_at" sRow f fd) (T : Txt P K mg C fI cc cda) : FnOk P w K mg base CX0 1 f fd ["line", "at", "characters"] spRow := by
  refine F.ok scRo (fun vs H Q E h => ?_) (fun cdv A outer s H vs Q E hr h => ?_)
  · obtain ⟨l, n, z, rfl, _⟩ := h
    rfl
  · obtain ⟨l, n, z, rfl, hn, hl, k⟩ := h
    refine ⟨_, (pss_cons (ps_set (i := 3) scRo.nd rfl (Or.inl rfl) (pv 1))
 (pss_cons (ps_while PassesOwn.never (PW.pt (pw_and (pt_cmpR op_lt (pv 3) (pe_callB call_len_str rfl T.zlen PySem.boot_len (pa_cons (pv 0) pa_nil)) (nomark _)) (pw_and1 (pt_cmpR op_in_sign (pe_ix ix_str (pv 0) (pv 3) (fun _ _ => rfl)) (pv 2) (by rfl)))))
 (pss_one (ps_aug (i := 3) scRo.nd rfl (.inl rfl) pe_int ip_add)))
 (pss_one (ps_ret (pe_slice sl_str (pv 0) (po_some (pv 1)) (po_some (pv 3))))))), ?_⟩
    refine ⟨_, rfl, ?_⟩
    refine ⟨fun m σ H1 => ∃ e : Nat, σ = [some (.str (mk l)), some (.int n), some (.str z), some (.int e)] ∧ H1 = H ∧ m + e = l.length ∧ n ≤ e ∧ (∀ i c, n ≤ i → i < e → l[i]? = some c → isIn z c = true), ⟨l.length - n, n, rfl, rfl, by omega, Nat.le_refl _, fun i c h1 h2 => by omega⟩, ?_⟩
    rintro m σ H1 ⟨e, rfl, rfl, hme, hne, hall⟩
    refine ⟨_, rfl, _, rfl, mk l, rfl, by rw [mk_len]; exact size_m hl, _, _, rfl, rfl, _, rfl, ?_⟩
    have fin : (∀ c, l[e]? = some c → isIn z c = false) → e ≤ l.length → tRet (tSl rSlS (tVar 0) (tPart (tVar 1)) (tPart (tVar 3))) { nx := fun x H' => Q V.non H', rt := Q } [some (.str (mk l)), some (.int n), some (.str z), some (.int e)] H1 := fun st le => by
      refine ⟨_, rfl, _, rfl, _, rfl, _, rfl, _, rfl, mk l, rfl, by rw [mk_len]; exact size_m hl, ?_⟩
      rw [cut_mk hne le]
      unfold tw at k
      rw [tw_cut hall hne le st] at k
      exact k
    rw [mk_len]
    by_cases he : e < l.length
    · refine ifT (by omega) ?_
      have hc : l[e]? = some l[e] := List.getElem?_eq_getElem he
      refine ⟨_, rfl, _, rfl, _, _, _, rfl, rfl, by rw [mk_len]; exact size_m hl, at_str hc, _, rfl, l[e], z, rfl, rfl, _, rfl, ?_⟩
      by_cases hz : isIn z l[e] = true
      · refine iteT' hz ?_
        refine ⟨fun σ' H' => ∃ e' : Nat, σ' = [some (.str (mk l)), some (.int n), some (.str z), some (.int e')] ∧ H' = H1 ∧ e' = e + 1, ?_, ?_⟩
        · rintro σ' H' ⟨e', rfl, rfl, rfl⟩
          refine ⟨m - 1, by omega, e + 1, rfl, rfl, by omega, by omega, fun i c h1 h2 h3 => ?_⟩
          by_cases hi : i < e
          · exact hall i c h1 hi h3
          · obtain rfl : i = e := by omega
            rw [hc] at h3
            cases h3
            exact hz
        · exact ⟨_, rfl, _, _, rfl, rfl, e + 1, rfl, rfl, rfl⟩
      · refine iteF' (show isIn z l[e] = false from Bool.eq_false_iff.mpr hz) ?_
        exact fin (fun c h => by rw [hc] at h; cases h; exact Bool.eq_false_iff.mpr hz) (Nat.le_of_lt he)
    · refine ifF (by omega) ?_
      exact fin (fun c h => by rw [List.getElem?_eq_none (by omega)] at h; cases h) (by omega)
end
end K0
namespace K0
open PySem PySem.Spec L2 RX TL
section
variable {P : Program} {w : World} {K : PySem.W.Frag} {mg : Str → Option Value} {base : Heap} {C fI cc cda : Addr}
theorem scNu : FnScope ["digits"] ["digits"] (defScope sNum) := ⟨rfl, rfl, rfl, by decide +kernel, rfl, by decide +kernel, by decide +kernel⟩
theorem ok_num {f : Addr} {fd : FuncData} (F : Fun K "_is_number" "_is_number" sNum f fd) (T : Txt P K mg C fI cc cda) : FnOk P w K mg base CX0 1 f fd ["digits"] spNum := by
  refine F.ok scNu (fun vs H Q E h => ?_) (fun cdv A outer s H vs Q E hr h => ?_)
  · obtain ⟨l, rfl, _⟩ := h
    rfl
  · obtain ⟨l, rfl, hne, hd, hl, k⟩ := h
    obtain ⟨tu, gLu⟩ := T.gLu
    obtain ⟨tg, gGv⟩ := T.gGv
    refine ⟨_, (pss_cons (ps_if (PW.pt (pw_or (pt_cmpR op_gt (pe_callB call_len_str rfl T.zlen PySem.boot_len (pa_cons (pv 0) pa_nil)) (pe_glob (v := .int 10) rfl gLu ⟨_, rfl⟩) (nomark _)) (pw_or1 (PW.pt (pw_and (pt_cmpR op_eq (pe_ix ix_str (pv 0) pe_int (fun _ _ => rfl)) pe_str (nomark _)) (pw_and1 (pt_cmpR op_ne (pv 0) pe_str (nomark _))))))))
 (pss_one (ps_ret pe_bl))
 pss_nil)
 (pss_one (ps_ret (pe_cmpR op_le (pe_callTy call_int_str rfl T.zint boot_int0 (pa_cons (pv 0) pa_nil)) (pe_glob (v := .int 1000000000) rfl gGv ⟨_, rfl⟩) (nomark _))))), ?_⟩
    refine ⟨_, rfl, mk l, rfl, by rw [mk_len]; exact size_m hl, _, _, rfl, rfl, _, rfl, ?_⟩
    rw [mk_len]
    obtain ⟨c, r, rfl⟩ : ∃ c r, l = c :: r := by
      cases l with
      | nil => exact absurd rfl hne
      | cons c r => exact ⟨c, r, rfl⟩
    have hb : numB (c :: r) = (decide ((c :: r).length ≤ 10) && ((!decide (some c = some 48) || decide (c :: r = [48])) && decide (NumText.digitsVal (c :: r) ≤ 1000000000))) := rfl
    rw [hb] at k
    by_cases h10 : (10 : Int) < ((c :: r).length : Nat)
    · refine ifT h10 ?_
      rw [show decide ((c :: r).length ≤ 10) = false from decide_eq_false (by omega)] at k
      exact iteT k
    · refine ifF h10 ?_
      have h10' : (c :: r).length ≤ 10 := by omega
      rw [show decide ((c :: r).length ≤ 10) = true from decide_eq_true h10'] at k
      have z0 : ("0" : Str) = mk [48] := by decide +kernel
      have hz : (mk (c :: r)).length ≤ sizeLine := by rw [mk_len]; exact size_m hl
      have fin : (!decide (some c = some 48) || decide (c :: r = [48])) = true → tRet (tOp (rI0 fun i j => V.bl (decide (i ≤ j)))
          (tCB (fun xs H Q => ∃ a n, xs = [V.str a] ∧ intText? a = some n ∧ a.length ≤ 640 ∧ Q (V.int n) H) (tCons (tVar 0) tNil)) (tC (V.int 1000000000))) { nx := fun x H' => Q V.non H', rt := Q } [some (.str (mk (c :: r)))] H := fun hh => by
        rw [hh] at k
        refine ⟨_, rfl, mk (c :: r), _, rfl, SX.int_S (List.all_eq_true.mpr fun x hx => ?_) (by simp) (by omega), by rw [mk_len]; omega, _, _, rfl, rfl, ?_⟩
        · have := isD_iff.mp (hd x hx)
          rw [Bool.and_eq_true, decide_eq_true_eq, decide_eq_true_eq]
          exact this
        · have e : decide (((NumText.digitsVal (c :: r) : Nat) : Int) ≤ 1000000000) = decide (NumText.digitsVal (c :: r) ≤ 1000000000) := decide_eq_decide.mpr (by omega)
          show Q (.bl (decide (((NumText.digitsVal (c :: r) : Nat) : Int) ≤ 1000000000))) H
          rw [e]
          exact k
      refine ⟨_, rfl, mk (c :: r), _, _, rfl, rfl, hz, at_str (n := 0) (l := c :: r) rfl, rfl, _, rfl, ?_⟩
      by_cases hc : c = 48
      · subst hc
        refine ifT (by rw [z0]; rfl) ⟨_, rfl, rfl, _, rfl, ?_⟩
        by_cases hr0 : (48 :: r : List Nat) = [48]
        · refine ifNF (by rw [hr0, z0]) ?_
          exact fin (by rw [decide_eq_true hr0]; simp)
        · refine ifNT (fun z => hr0 (mk_inj.mp (by rw [← z0]; exact V.str.inj z))) ?_
          rw [decide_eq_false hr0] at k
          exact k
      · refine ifF (fun z => hc ?_) (iteF ?_)
        · have := V.str.inj z
          rw [z0, mk_one, mk_inj] at this
          cases this
          rfl
        · exact fin (by rw [show decide (some c = some 48) = false from decide_eq_false fun z => hc (Option.some.inj z)]; rfl)
theorem scA : FnScope ["line", "at", "number", "text"] ["line", "at", "number"] (defScope sAt) := ⟨rfl, rfl, rfl, by decide +kernel, rfl, by decide +kernel, by decide +kernel⟩
theorem ok_at {f fR fN : Addr} {fd fdR fdN fdI : FuncData} (F : Fun K "_token_at" "_token_at" sAt f fd) (T : Txt P K mg C fI cc cda)
    (GI : FnOk P w K mg base CX0 1 fI fdI ["self", "line", "column", "reason"] (spInit C)) (bI : Binds K fdI ["self", "line", "column", "reason"] [])
    (GR : FnOk P w K mg base CX0 1 fR fdR ["line", "at", "characters"] spRow) (LR : Cal K mg "_row_at" fR fdR ["line", "at", "characters"])
    (GN : FnOk P w K mg base CX0 1 fN fdN ["digits"] spNum) (LN : Cal K mg "_is_number" fN fdN ["digits"]) :
    FnOk P w K mg base (L2N.CX P w) 3 f fd ["line", "at", "number"] (spAt C) := by
  refine okN F scA (fun vs H Q E h => ?_) (fun cdv A outer s H vs Q E hr h => ?_)
  · obtain ⟨l, n, m, c, r, rfl, _⟩ := h
    rfl
  · obtain ⟨l, n, m, c, r, rfl, hdr, hl, hm, k⟩ := h
    have hr1 : Room 1 _ := hr.mono (by decide)
    obtain ⟨tl, gLow⟩ := T.gLow
    obtain ⟨td, gDig⟩ := T.gDig
    obtain ⟨ts, gSgn⟩ := T.gSgn
    obtain ⟨tn, gLn⟩ := T.gLn
    refine ⟨_, (pss_cons (ps_if (pt_cmpR op_in_sign (pe_ix ix_str (pv 0) (pv 1) (fun _ _ => rfl)) (pe_glob (v := .str low) rfl gLow ⟨_, rfl⟩) (by rfl))
 (pss_cons (ps_set (i := 3) scA.nd rfl (Or.inl rfl) (pe_call GR hr1 rfl LR.g LR.k LR.b .nil pass0 (pa_cons (pv 0) (pa_cons (pv 1) (pa_cons (pe_glob (v := .str low) rfl gLow ⟨_, rfl⟩) pa_nil)))))
 (pss_cons (ps_if (pt_cmpR op_gt (pe_callB call_len_str rfl T.zlen PySem.boot_len (pa_cons (pv 3) pa_nil)) (pe_glob (v := .int 12) rfl gLn ⟨_, rfl⟩) (nomark _))
 (pss_one (L2N.ps_raise rfl takesXN (pmk_oexN T.su.ox T.iC T.tI GI hr bI passF rfl T.gF (pa_cons (pv 2) (pa_cons (pe_op op_add (pv 1) pe_int) (pa_cons pe_str pa_nil))))))
 pss_nil)
 (pss_one (ps_ret (pe_tup (pa_cons pe_str (pa_cons (pv 3) pa_nil)))))))
 pss_nil)
 (pss_cons (ps_if (pt_cmpR op_in_sign (pe_ix ix_str (pv 0) (pv 1) (fun _ _ => rfl)) (pe_glob (v := .str dig) rfl gDig ⟨_, rfl⟩) (by rfl))
 (pss_cons (ps_set (i := 3) scA.nd rfl (Or.inl rfl) (pe_call GR hr1 rfl LR.g LR.k LR.b .nil pass0 (pa_cons (pv 0) (pa_cons (pv 1) (pa_cons (pe_glob (v := .str dig) rfl gDig ⟨_, rfl⟩) pa_nil)))))
 (pss_cons (ps_if (pt_not (pt_val (pe_call GN hr1 rfl LN.g LN.k LN.b .nil pass0 (pa_cons (pv 3) pa_nil))))
 (pss_one (L2N.ps_raise rfl takesXN (pmk_oexN T.su.ox T.iC T.tI GI hr bI passF rfl T.gF (pa_cons (pv 2) (pa_cons (pe_op op_add (pv 1) pe_int) (pa_cons pe_str pa_nil))))))
 pss_nil)
 (pss_one (ps_ret (pe_tup (pa_cons pe_str (pa_cons (pv 3) pa_nil)))))))
 pss_nil)
 (pss_cons (ps_if (pt_cmpR op_in_seq (pe_slice sl_str (pv 0) (po_some (pv 1)) (po_some (pe_op op_add (pv 1) pe_int))) (pe_tup (pa_cons pe_str (pa_cons pe_str pa_nil))) (by rfl))
 (pss_one (ps_ret (pe_tup (pa_cons pe_str (pa_cons (pe_slice sl_str (pv 0) (po_some (pv 1)) (po_some (pe_op op_add (pv 1) pe_int))) pa_nil)))))
 pss_nil)
 (pss_cons (ps_if (pt_cmpR op_in_sign (pe_ix ix_str (pv 0) (pv 1) (fun _ _ => rfl)) (pe_glob (v := .str sgn) rfl gSgn ⟨_, rfl⟩) (by rfl))
 (pss_one (ps_ret (pe_tup (pa_cons pe_str (pa_cons (pe_ix ix_str (pv 0) (pv 1) (fun _ _ => rfl)) pa_nil)))))
 pss_nil)
 (pss_one (L2N.ps_raise rfl takesXN (pmk_oexN T.su.ox T.iC T.tI GI hr bI passF rfl T.gF (pa_cons (pv 2) (pa_cons (pe_op op_add (pv 1) pe_int) (pa_cons pe_str pa_nil)))))))))), ?_⟩
    have hc : l[n]? = some c := by
      have : (l.drop n)[0]? = some c := by rw [hdr]; rfl
      rw [List.getElem?_drop] at this
      exact this
    have hlen : n < l.length := (List.getElem?_eq_some_iff.mp hc).1
    have hz : (mk l).length ≤ sizeLine := by rw [mk_len]; exact size_m hl
    rw [tokAt_cons] at k
    refine ⟨_, rfl, _, rfl, mk l, _, _, rfl, rfl, hz, at_str hc, c, low, rfl, rfl, _, rfl, ?_⟩
    by_cases hL : isL c = true
    · rw [if_pos hL] at k
      refine iteT' hL ?_
      refine ⟨_, rfl, _, rfl, l, n, low, rfl, Nat.le_of_lt hlen, hl, ?_⟩
      rw [hdr]
      have tl : (tw low (c :: r)).length ≤ 1000000 := Nat.le_trans (List.takeWhile_sublist _).length_le (by rw [← hdr, List.length_drop]; omega)
      refine ⟨_, rfl, mk (tw low (c :: r)), rfl, by rw [mk_len]; exact size_m tl, _, _, rfl, rfl, _, rfl, ?_⟩
      rw [mk_len]
      by_cases h12 : 12 < (tw low (c :: r)).length
      · have k : OutT C H Q E m n (if 12 < (tw low (c :: r)).length then .bad "word" else .ok "word" (tw low (c :: r))) := k
        rw [if_pos h12] at k
        refine ifT (by omega) ?_
        exact ⟨_, rfl, _, rfl, _, _, rfl, rfl, by show 3 ≤ 1000; decide, te_mk (m := m) (c := n + 1) k hm (by omega) (by decide +kernel)⟩
      · have k : OutT C H Q E m n (if 12 < (tw low (c :: r)).length then .bad "word" else .ok "word" (tw low (c :: r))) := k
        rw [if_neg h12] at k
        refine ifF (by omega) ?_
        exact ⟨_, rfl, (by show 2 ≤ sizeLine; decide), fun p hp => k p _ (same_new hp _) upd_same⟩
    · rw [if_neg hL] at k
      refine iteF' (Bool.eq_false_iff.mpr hL) ?_
      refine ⟨_, rfl, _, rfl, mk l, _, _, rfl, rfl, hz, at_str hc, c, dig, rfl, rfl, _, rfl, ?_⟩
      by_cases hD : isD c = true
      · rw [if_pos hD] at k
        refine iteT' hD ?_
        refine ⟨_, rfl, _, rfl, l, n, dig, rfl, Nat.le_of_lt hlen, hl, ?_⟩
        rw [hdr]
        have tl : (tw dig (c :: r)).length ≤ 1000000 := Nat.le_trans (List.takeWhile_sublist _).length_le (by rw [← hdr, List.length_drop]; omega)
        have tne : tw dig (c :: r) ≠ [] := fun z => by
          have := takeWhile_pos (f := isD) (r := r) hD
          rw [show (c :: r).takeWhile isD = [] from z] at this
          simp at this
        have tall : ∀ x ∈ tw dig (c :: r), isD x = true := fun x hx => by
          have := List.all_takeWhile (p := isD) (l := c :: r)
          exact List.all_eq_true.mp this x hx
        refine ⟨_, rfl, tw dig (c :: r), rfl, tne, tall, tl, _, rfl, ?_⟩
        have k : OutT C H Q E m n (if numB (tw dig (c :: r)) = true then .ok "number" (tw dig (c :: r)) else .bad "number") := k
        cases hb : numB (tw dig (c :: r)) with
        | true =>
          rw [hb] at k
          refine iteF ?_
          exact ⟨_, rfl, (by show 2 ≤ sizeLine; decide), fun p hp => k p _ (same_new hp _) upd_same⟩
        | false =>
          rw [hb] at k
          refine iteT ?_
          exact ⟨_, rfl, _, rfl, _, _, rfl, rfl, by show 3 ≤ 1000; decide, te_mk (m := m) (c := n + 1) k hm (by omega) (by decide +kernel)⟩
      · rw [if_neg hD] at k
        refine iteF' (Bool.eq_false_iff.mpr hD) ?_
        have hcut : cutS (mk l) (some (n : Int)) (some ((n : Int) + 2)) = mk ((c :: r).take 2) := by
          unfold cutS
          rw [show ((n : Int) + 2) = ((n + 2 : Nat) : Int) from rfl, HT.sIx_nat, HT.sIx_nat, mk_len, mk_l, Nat.min_eq_left (Nat.le_of_lt hlen), hdr]
          have e : (c :: r).length = l.length - n := by rw [← hdr, List.length_drop]
          show mk ((c :: r).take (min (n + 2) l.length - n)) = _
          congr 1
          by_cases h2 : n + 2 ≤ l.length
          · rw [Nat.min_eq_left h2]
            congr 1
            omega
          · rw [Nat.min_eq_right (by omega), List.take_of_length_le (by omega), List.take_of_length_le (by omega)]
        refine ⟨_, rfl, _, rfl, _, rfl, _, rfl, _, _, rfl, rfl, _, rfl, mk l, rfl, hz, ?_⟩
        rw [hcut]
        have e60 : ("<=" : Str) = mk [60, 61] := by decide +kernel
        have e62 : (">=" : Str) = mk [62, 61] := by decide +kernel
        refine ⟨(by show 2 ≤ sizeLine; decide), fun p hp => ⟨p, _, rfl, .inr (SqT.of upd_same), rfl, rfl, _, rfl, ?_⟩⟩
        have sp := same_new hp (.tup [.str "<=", .str ">="])
        have hin : L2.inV (.str (mk ((c :: r).take 2))) [.str "<=", .str ">="] = decide ((c :: r).take 2 = [60, 61] ∨ (c :: r).take 2 = [62, 61]) := by
          rw [e60, e62]
          show (decide (mk [60, 61] = mk ((c :: r).take 2)) || (decide (mk [62, 61] = mk ((c :: r).take 2)) || false)) = _
          rw [Bool.or_false, decide_eq_decide.mpr mk_inj, decide_eq_decide.mpr mk_inj, ← Bool.decide_or]
          exact decide_eq_decide.mpr ⟨fun h => h.imp Eq.symm Eq.symm, fun h => h.imp Eq.symm Eq.symm⟩
        show if L2.inV (.str (mk ((c :: r).take 2))) [.str "<=", .str ">="] = true then _ else _
        rw [hin]
        by_cases h2 : (c :: r).take 2 = [60, 61] ∨ (c :: r).take 2 = [62, 61]
        · rw [if_pos h2] at k
          refine ifT h2 ?_
          refine ⟨_, rfl, _, rfl, _, rfl, _, rfl, _, _, rfl, rfl, _, rfl, mk l, rfl, hz, ?_⟩
          rw [hcut]
          exact ⟨(by show 2 ≤ sizeLine; decide), fun q hq => k q _ (sp.trans (same_new hq _)) upd_same⟩
        · rw [if_neg h2] at k
          refine ifF h2 ?_
          refine ⟨_, rfl, _, rfl, mk l, _, _, rfl, rfl, hz, at_str hc, c, sgn, rfl, rfl, _, rfl, ?_⟩
          by_cases hG : isG c = true
          · rw [if_pos hG] at k
            refine iteT' hG ?_
            exact ⟨_, rfl, _, rfl, mk l, _, _, rfl, rfl, hz, at_str hc, (by show 2 ≤ sizeLine; decide), fun q hq => k q _ (sp.trans (same_new hq _)) upd_same⟩
          · rw [if_neg hG] at k
            refine iteF' (Bool.eq_false_iff.mpr hG) ?_
            exact ⟨_, rfl, _, rfl, _, _, rfl, rfl, by show 3 ≤ 1000; decide, te_mk (m := m) (c := n + 1) (Te.same sp k) hm (by omega) (by decide +kernel)⟩
end
end K0
namespace K0
open PySem PySem.Spec L2 RX TL
section
variable {P : Program} {w : World} {K : PySem.W.Frag} {mg : Str → Option Value} {base : Heap} {C fI cc cda : Addr}
theorem scT : FnScope ["line", "number", "found", "at", "kind", "text"] ["line", "number"] (defScope sTok) := ⟨rfl, rfl, rfl, by decide +kernel, rfl, by decide +kernel, by decide +kernel⟩
theorem ok_tok {f fA : Addr} {fd fdA : FuncData} (F : Fun K "tokens" "tokens" sTok f fd) (T : Txt P K mg C fI cc cda)
    (GA : FnOk P w K mg base (L2N.CX P w) 3 fA fdA ["line", "at", "number"] (spAt C)) (LA : Cal K mg "_token_at" fA fdA ["line", "at", "number"]) :
    FnOk P w K mg base (L2N.CX P w) 4 f fd ["line", "number"] (spTok C) := by
  refine okN F scT (fun vs H Q E h => ?_) (fun cdv A outer s H vs Q E hr h => ?_)
  · obtain ⟨l, m, is, e, rfl, _⟩ := h
    rfl
  · obtain ⟨l, m0, is, e, rfl, hl, hm, ht, k⟩ := h
    refine ⟨_, (pss_cons (ps_set (i := 2) scT.nd rfl (Or.inl rfl) (pe_lst pa_nil))
 (pss_cons (ps_set (i := 3) scT.nd rfl (Or.inl rfl) pe_int)
 (pss_cons (ps_while (passes_of rfl) (pt_cmpR op_lt (pv 3) (pe_callB call_len_str rfl T.zlen PySem.boot_len (pa_cons (pv 0) pa_nil)) (nomark _))
 (pss_one (ps_if (pt_cmpR op_eq (pe_ix ix_str (pv 0) (pv 3) (fun _ _ => rfl)) pe_str (nomark _))
 (pss_one (ps_aug (i := 3) scT.nd rfl (.inl rfl) pe_int ip_add))
 (pss_cons (ps_asg (pe_call GA hr rfl LA.g LA.k LA.b .nil passXN (pa_cons (pv 0) (pa_cons (pv 3) (pa_cons (pv 1) pa_nil)))) (pg_tup rfl (pgs_cons (pg_name (i := 4) scT.nd rfl (Or.inl rfl)) (pgs_cons (pg_name (i := 5) scT.nd rfl (Or.inl rfl)) pgs_nil))))
 (pss_cons (ps_expr (pe_bm PySem.F.plainAttrs_list PySem.F.slot_list_append PySem.F.type_list_append mt_append (pv 2) (pa_cons (pe_tup (pa_cons (pv 4) (pa_cons (pv 5) (pa_cons (pe_op op_add (pv 3) pe_int) pa_nil)))) pa_nil)))
 (pss_one (ps_aug (i := 3) scT.nd rfl (.inl rfl) (pe_callB call_len_str rfl T.zlen PySem.boot_len (pa_cons (pv 5) pa_nil)) ip_add)))))))
 (pss_one (ps_ret (pv 2)))))), ?_⟩
    have hz : (mk l).length ≤ sizeLine := by rw [mk_len]; exact size_m hl
    refine ⟨(by show 0 ≤ sizeLine; decide), fun fo hfo => ?_⟩
    refine ⟨fun m σ H1 => ∃ (n : Nat) (us : List V) (don rst : List Item) (x4 x5 : Option V), σ = [some (.str (mk l)), some (.int m0), some (.ref fo), some (.int n), x4, x5] ∧ m + n = l.length ∧ Same H H1 ∧ H1 fo = some (.lst us) ∧ Its H1 us don ∧ us.length ≤ n ∧ Toks n (l.drop n) rst e ∧ is = don ++ rst,
      ⟨l.length, 0, [], [], is, none, none, rfl, rfl, same_new hfo _, upd_same, .nil, Nat.le_refl _, by rw [List.drop_zero]; exact ht, rfl⟩, ?_⟩
    rintro m σ H1 ⟨n, us, don, rst, x4, x5, rfl, hmn, s1, h1, hits, hun, ht1, his⟩
    refine ⟨_, rfl, _, rfl, mk l, rfl, hz, _, _, rfl, rfl, _, rfl, ?_⟩
    rw [mk_len]
    generalize hd : l.drop n = d at ht1
    have hlt : ∀ c r, d = c :: r → n < l.length ∧ l[n]? = some c ∧ l.drop (n + 1) = r := fun c r q => by
      rw [q] at hd
      have hc : l[n]? = some c := by
        have : (l.drop n)[0]? = some c := by rw [hd]; rfl
        rw [List.getElem?_drop] at this
        exact this
      refine ⟨(List.getElem?_eq_some_iff.mp hc).1, hc, ?_⟩
      rw [← List.drop_drop, hd]
      rfl
    have e32 : (" " : Str) = mk [32] := by decide +kernel
    cases ht1 with
    | nil =>
      have hge : l.length ≤ n := by
        have := congrArg List.length hd
        rw [List.length_drop] at this
        simp at this
        omega
      refine ifF (by omega) ⟨_, rfl, ?_⟩
      rw [List.append_nil] at his
      subst his
      exact k fo H1 us s1 h1 hits
    | @sp _ r _ _ q =>
      obtain ⟨hlen, hc, hr'⟩ := hlt 32 r rfl
      refine ifT (by omega) ?_
      refine ⟨fun σ' H' => σ' = [some (.str (mk l)), some (.int m0), some (.ref fo), some (.int ((n + 1 : Nat) : Int)), x4, x5] ∧ H' = H1, ?_, ?_⟩
      · rintro σ' H' ⟨rfl, rfl⟩
        exact ⟨m - 1, by omega, n + 1, us, don, rst, x4, x5, rfl, by omega, s1, h1, hits, by omega, by rw [hr']; exact q, his⟩
      · refine ⟨_, rfl, _, rfl, mk l, _, _, rfl, rfl, hz, at_str hc, rfl, _, rfl, ?_⟩
        refine ifT (by rw [e32]; rfl) ?_
        exact ⟨_, rfl, _, _, rfl, rfl, rfl, rfl⟩
    | @tok _ c r kk ww is' _ h32 t q =>
      obtain ⟨hlen, hc, hr'⟩ := hlt c r rfl
      refine ifT (by omega) ?_
      obtain ⟨w1, w2⟩ := tokAt_len t
      have hwl : ww.length + n ≤ l.length := by
        have := congrArg List.length hd
        rw [List.length_drop] at this
        omega
      refine ⟨fun σ' H' => ∃ (us' : List V) (x4 x5 : Option V), σ' = [some (.str (mk l)), some (.int m0), some (.ref fo), some (.int ((n + ww.length : Nat) : Int)), x4, x5] ∧ Same H H' ∧ H' fo = some (.lst us') ∧ Its H' us' (don ++ [(kk, ww, n + 1)]) ∧ us'.length ≤ n + 1, ?_, ?_⟩
      · rintro σ' H' ⟨us', x4, x5, rfl, s2, h2, hi2, hu2⟩
        refine ⟨m - ww.length, by omega, n + ww.length, us', don ++ [(kk, ww, n + 1)], is', x4, x5, rfl, by omega, s2, h2, hi2, by omega, ?_, by rw [his, List.append_assoc]; rfl⟩
        rw [← List.drop_drop, hd]
        exact q
      · refine ⟨_, rfl, _, rfl, mk l, _, _, rfl, rfl, hz, at_str hc, rfl, _, rfl, ?_⟩
        refine ifF (fun z => h32 ?_) ?_
        · have := V.str.inj z
          rw [e32, mk_one, mk_inj] at this
          cases this
          rfl
        refine ⟨_, rfl, _, rfl, _, rfl, l, n, m0, c, r, rfl, hd, hl, hm, ?_⟩
        rw [t]
        intro p H2 s2 h2
        refine ⟨p, _, rfl, SqT.of h2, rfl, _, _, rfl, _, _, rfl, rfl, ?_⟩
        refine ⟨_, rfl, .inl ⟨rfl, _, SqL.of (s2 _ _ h1)⟩, _, rfl, _, rfl, _, rfl, _, _, rfl, rfl, (by show 3 ≤ sizeLine; decide), fun t3 ht3 => ?_⟩
        have s3 := same_new ht3 (.tup [.str kk, .str (mk ww), .int ((n + 1 : Nat) : Int)])
        have h3 := s3 _ _ (s2 _ _ h1)
        have nt : t3 ≠ fo := fun z => by rw [z, s2 _ _ h1] at ht3; cases ht3
        refine ⟨fo, us, _, rfl, rfl, h3, Nat.lt_of_le_of_lt (Nat.le_trans hun (Nat.le_trans (Nat.le_of_lt hlen) hl)) (by decide), ?_⟩
        refine ⟨_, rfl, _, rfl, mk ww, rfl, by rw [mk_len]; exact size_m (by omega), _, _, rfl, rfl, ?_⟩
        rw [mk_len]
        refine ⟨us ++ [.ref t3], _, _, rfl, ?_, upd_same, ?_, by rw [List.length_append]; simp; omega⟩
        · exact fun b o hb => by rw [upd_ne (ne_of_none hb hfo)]; exact s3 _ _ (s2 _ _ (s1 b o hb))
        · have nf : ∀ xs, upd H2 t3 (.tup [.str kk, .str (mk ww), .int ((n + 1 : Nat) : Int)]) fo ≠ some (.tup xs) := fun xs z => by rw [h3] at z; cases z
          exact (((hits.same s2).same s3).but (but_upd _) nf).snoc ⟨t3, rfl, by rw [upd_ne nt]; exact upd_same⟩
    | @bad _ c r z h32 t =>
      obtain ⟨hlen, hc, hr'⟩ := hlt c r rfl
      refine ifT (by omega) ?_
      refine ⟨fun σ' H' => False, fun _ _ z => z.elim, ?_⟩
      refine ⟨_, rfl, _, rfl, mk l, _, _, rfl, rfl, hz, at_str hc, rfl, _, rfl, ?_⟩
      refine ifF (fun z => h32 ?_) ?_
      · have := V.str.inj z
        rw [e32, mk_one, mk_inj] at this
        cases this
        rfl
      refine ⟨_, rfl, _, rfl, _, rfl, l, n, m0, c, r, rfl, hd, hl, hm, ?_⟩
      rw [t]
      exact Te.same s1 k
end
end K0
namespace K0
open PySem PySem.Spec L2 RX TL
/-- drawn numbers stand at p -/
def DrAt (H : Hp) (p : Addr) : Prop := ∃ ns : List Int, H p = some (.lst (ns.map V.int))
theorem DrAt.same {H H' : Hp} {p : Addr} (s : Same H H') (h : DrAt H p) : DrAt H' p := by
  obtain ⟨ns, h⟩ := h
  exact ⟨ns, s _ _ h⟩
theorem DrAt.ne {H : Hp} {p q : Addr} (h : DrAt H p) (hq : H q = none) : q ≠ p := fun z => by
  obtain ⟨ns, h⟩ := h
  rw [z, h] at hq
  cases hq
def spTake : Sp := fun vs H Q _ => ∃ (p : Addr) (m : Int), vs = [.ref p, .int m] ∧ DrAt H p ∧ 0 < m ∧ m < 1000000 ∧ ∀ r H', 0 ≤ r → r < m → But p H H' → DrAt H' p → Q (.int r) H'
def spDraws (K : PySem.W.Frag) : Sp := fun vs H Q _ => ∃ (l : Addr) (ns : List Int), vs = [.ref l] ∧ SqL K H l (ns.map V.int) ∧ ns.length ≤ 63 ∧ ∀ p H', Same H H' → H p = none → DrAt H' p → Q (.ref p) H'
theorem at_mem {xs : List V} {r : Int} (h0 : 0 ≤ r) (h1 : r < xs.length) : ∃ v, atI xs r = some v ∧ v ∈ xs := by
  have hj : r.toNat < xs.length := by omega
  exact ⟨xs[r.toNat], at_of (j := r.toNat) (by omega) (List.getElem?_eq_getElem hj), List.getElem_mem hj⟩
theorem mk_deq (a b : List Nat) : decide (mk a = mk b) = decide (b = a) := decide_eq_decide.mpr (mk_inj.trans eq_comm)
theorem at_memN {xs : List Nat} {r : Int} (h0 : 0 ≤ r) (h1 : r < xs.length) : ∃ v, atI xs r = some v ∧ v ∈ xs := by
  have hj : r.toNat < xs.length := by omega
  refine ⟨xs[r.toNat], ?_, List.getElem_mem hj⟩
  have := atI_nat (List.getElem?_eq_getElem hj)
  rw [show ((r.toNat : Nat) : Int) = r by omega] at this
  exact this
theorem and_of {t u : TT} {σ : St} {H : Hp} {Q : Bool → Hp → Prop} {x y : Bool} (ht : ∀ Q : Bool → Hp → Prop, Q x H → t σ H Q) (hu : ∀ Q : Bool → Hp → Prop, Q y H → u σ H Q) (k : Q (x && y) H) : tAnd t u σ H Q := by
  refine ht _ ?_
  cases x with
  | false => exact iteF k
  | true => exact iteT (hu _ k)
theorem or_of {t u : TT} {σ : St} {H : Hp} {Q : Bool → Hp → Prop} {x y : Bool} (ht : ∀ Q : Bool → Hp → Prop, Q x H → t σ H Q) (hu : ∀ Q : Bool → Hp → Prop, Q y H → u σ H Q) (k : Q (x || y) H) : tOr t u σ H Q := by
  refine ht _ ?_
  cases x with
  | true => exact iteT k
  | false => exact iteF (hu _ k)
section
variable {P : Program} {w : World} {K : PySem.W.Frag} {mg : Str → Option Value} {base : Heap} {C fI cc cda : Addr}
theorem scK : FnScope ["draws", "bound"] ["draws", "bound"] (defScope sTake) := ⟨rfl, rfl, rfl, by decide +kernel, rfl, by decide +kernel, by decide +kernel⟩
theorem ok_take {f : Addr} {fd : FuncData} (F : Fun K "_law_take" "_law_take" sTake f fd) (T : Txt P K mg C fI cc cda) : FnOk P w K mg base CX0 1 f fd ["draws", "bound"] spTake := by
  refine F.ok scK (fun vs H Q E h => ?_) (fun cdv A outer s H vs Q E hr h => ?_)
  · obtain ⟨p, m, rfl, _⟩ := h
    rfl
  · obtain ⟨p, m, rfl, ⟨ns, hp⟩, hm0, hm1, k⟩ := h
    refine ⟨_, (pss_cons (ps_if (pt_cmpR op_eq (pe_callB call_len_seq rfl T.zlen PySem.boot_len (pa_cons (pv 0) pa_nil)) pe_int (nomark _))
 (pss_one (ps_ret pe_int))
 pss_nil)
 (pss_one (ps_ret (pe_op op_modN (pe_callTy call_int1 rfl T.zint boot_int0 (pa_cons (pe_bm0 PySem.F.plainAttrs_list PySem.F.slot_list_pop PySem.F.type_list_pop mt_pop (pv 0)) pa_nil)) (pv 1))))), ?_⟩
    refine ⟨_, rfl, p, _, rfl, .inl (SqL.of hp), rfl, _, rfl, ?_⟩
    rw [List.length_map]
    by_cases h0 : ns = []
    · subst h0
      refine ifT rfl ?_
      exact k 0 H (Int.le_refl 0) hm0 (But.refl p H) ⟨[], hp⟩
    · refine ifF (fun z => h0 (List.length_eq_zero_iff.mp (by have := int_eq.mp z; omega))) ?_
      have hl : ns.length - 1 < ns.length := by have := List.length_pos_iff.mpr h0; omega
      refine ⟨_, rfl, .inl ⟨rfl, _, SqL.of hp⟩, p, _, .int (ns[ns.length - 1]), rfl, rfl, hp, by rw [List.length_map, List.getElem?_map, List.getElem?_eq_getElem hl]; rfl, ?_⟩
      refine .inl ⟨_, rfl, _, rfl, _, _, rfl, rfl, by omega, ?_⟩
      refine k _ _ (Int.fmod_nonneg_of_pos _ hm0) (Int.fmod_lt_of_pos _ hm0) (but_upd _) ⟨ns.dropLast, ?_⟩
      rw [← List.map_dropLast]
      exact upd_same
theorem scG : FnScope ["left", "right", "letters", "digits", "last"] ["left", "right"] (defScope sGrows) := ⟨rfl, rfl, rfl, by decide +kernel, rfl, by decide +kernel, by decide +kernel⟩
def spGrows : Sp := fun vs H Q _ => ∃ l r : List Nat, vs = [.str (mk l), .str (mk r)] ∧ l.length ≤ 1000 ∧ r.length ≤ 1000 ∧ ∀ H', Same H H' → Q (.bl (growsB l r)) H'
theorem ok_grows {f : Addr} {fd : FuncData} (F : Fun K "_law_grows" "_law_grows" sGrows f fd) (T : Txt P K mg C fI cc cda) : FnOk P w K mg base CX0 1 f fd ["left", "right"] spGrows := by
  refine F.ok scG (fun vs H Q E h => ?_) (fun cdv A outer s H vs Q E hr h => ?_)
  · obtain ⟨l, r, rfl, _⟩ := h
    rfl
  · obtain ⟨l, r, rfl, hl, hrl, k⟩ := h
    refine ⟨_, (pss_cons (ps_if (PW.pt (pw_or (pt_cmpR op_eq (pv 0) pe_str (nomark _)) (pw_or1 (pt_cmpR op_eq (pv 1) pe_str (nomark _)))))
 (pss_one (ps_ret pe_bl))
 pss_nil)
 (pss_cons (ps_set (i := 2) scG.nd rfl (Or.inl rfl) pe_str)
 (pss_cons (ps_set (i := 3) scG.nd rfl (Or.inl rfl) pe_str)
 (pss_cons (ps_set (i := 4) scG.nd rfl (Or.inl rfl) (pe_ix ix_str (pv 0) (pe_op op_sub (pe_callB call_len_str rfl T.zlen PySem.boot_len (pa_cons (pv 0) pa_nil)) pe_int) (fun _ _ => rfl)))
 (pss_cons (ps_if (PW.pt (pw_or (PW.pt (pw_and (pt_cmpR op_in_sign (pv 4) (pv 2) (by rfl)) (pw_and1 (pt_cmpR op_in_sign (pe_ix ix_str (pv 1) pe_int (fun _ _ => rfl)) (pv 2) (by rfl))))) (pw_or1 (PW.pt (pw_and (pt_cmpR op_in_sign (pv 4) (pv 3) (by rfl)) (pw_and1 (pt_cmpR op_in_sign (pe_ix ix_str (pv 1) pe_int (fun _ _ => rfl)) (pv 3) (by rfl))))))))
 (pss_one (ps_ret pe_bl))
 pss_nil)
 (pss_one (ps_ret (pe_and (pe_cmpR op_in_seq (pv 0) (pe_lst (pa_cons pe_str (pa_cons pe_str pa_nil))) (by rfl)) (pe_one (pe_cmpR op_eq (pe_ix ix_str (pv 1) pe_int (fun _ _ => rfl)) pe_str (nomark _))))))))))), ?_⟩
    have ze : ("" : Str) = mk [] := by decide +kernel
    have emp : ∀ x : List Nat, decide (V.str (mk x) = V.str "") = decide (x = []) := fun x => decide_eq_decide.mpr (by rw [str_eq, ze, mk_inj])
    have sl : (mk l).length ≤ sizeLine := by rw [mk_len]; exact size_of hl
    have sr : (mk r).length ≤ sizeLine := by rw [mk_len]; exact size_of hrl
    refine ⟨_, rfl, rfl, _, rfl, ?_⟩
    by_cases h1 : l = []
    · refine ifT (by rw [str_eq, ze, mk_inj]; exact h1) (iteT ?_)
      subst h1
      exact k H (Same.refl H)
    refine ifF (by rw [str_eq, ze, mk_inj]; exact h1) ⟨_, rfl, rfl, _, rfl, ?_⟩
    by_cases h2 : r = []
    · refine ifT (by rw [str_eq, ze, mk_inj]; exact h2) ?_
      subst h2
      have q := k H (Same.refl H)
      have e : growsB l [] = false := by unfold growsB; cases l.getLast? <;> rfl
      rw [e] at q
      exact q
    refine ifF (by rw [str_eq, ze, mk_inj]; exact h2) ?_
    obtain ⟨b, r', rfl⟩ : ∃ b r', r = b :: r' := by
      cases r with
      | nil => exact absurd rfl h2
      | cons b r' => exact ⟨b, r', rfl⟩
    have hlast : l[l.length - 1]? = some (l.getLast h1) := by rw [← List.getLast?_eq_getElem?, List.getLast?_eq_getLast h1]
    generalize ha : l.getLast h1 = a at hlast
    have hpos := List.length_pos_iff.mpr h1
    have hg : growsB l (b :: r') = (((isL a && isL b) || (isD a && isD b)) || ((decide (l = [60]) || decide (l = [62])) && decide (b = 61))) := by
      unfold growsB
      rw [List.getLast?_eq_getLast h1, ha]
      rfl
    rw [hg] at k
    refine ⟨_, rfl, _, rfl, mk l, rfl, sl, _, _, rfl, rfl, mk l, _, a, rfl, rfl, sl, ?_, ?_⟩
    · rw [mk_len, mk_l, show ((l.length : Nat) : Int) - 1 = ((l.length - 1 : Nat) : Int) by omega]
      exact atI_nat hlast
    have hb0 : atI (mk (b :: r')).cps.toList 0 = some b := at_str (n := 0) (l := b :: r') rfl
    dsimp only [gName, tSeq]
    refine or_of (x := isL a && isL b) (y := isD a && isD b)
      (fun Q q => and_of (x := isL a) (y := isL b) (fun Q q => ⟨_, rfl, _, rfl, a, low, rfl, rfl, _, rfl, q⟩) (fun Q q => ⟨_, rfl, mk (b :: r'), _, b, rfl, rfl, sr, hb0, _, rfl, b, low, rfl, rfl, _, rfl, q⟩) q)
      (fun Q q => and_of (x := isD a) (y := isD b) (fun Q q => ⟨_, rfl, _, rfl, a, dig, rfl, rfl, _, rfl, q⟩) (fun Q q => ⟨_, rfl, mk (b :: r'), _, b, rfl, rfl, sr, hb0, _, rfl, b, dig, rfl, rfl, _, rfl, q⟩) q) ?_
    cases hx : (isL a && isL b || isD a && isD b) with
    | true =>
      refine iteT ?_
      rw [hx] at k
      exact k H (Same.refl H)
    | false =>
      refine iteF ?_
      rw [hx] at k
      have z60 : ("<" : Str) = mk [60] := by decide +kernel
      have z62 : (">" : Str) = mk [62] := by decide +kernel
      have z61 : ("=" : Str) = mk [61] := by decide +kernel
      refine ⟨_, rfl, (by show 2 ≤ sizeLine; decide), fun p hp => ⟨p, _, rfl, .inl (SqL.of upd_same), rfl, rfl, _, rfl, ?_⟩⟩
      have hin : L2.inV (.str (mk l)) [.str "<", .str ">"] = (decide (l = [60]) || decide (l = [62])) := by
        rw [z60, z62]
        show (decide (mk [60] = mk l) || (decide (mk [62] = mk l) || false)) = _
        rw [Bool.or_false, mk_deq, mk_deq]
      show if L2.inV (.str (mk l)) [.str "<", .str ">"] = true then _ else _
      rw [hin]
      have k' := k _ (same_new hp (.lst [.str "<", .str ">"]))
      cases hy : (decide (l = [60]) || decide (l = [62])) with
      | false =>
        rw [hy] at k'
        exact iteF k'
      | true =>
        rw [hy] at k'
        refine iteT ⟨_, rfl, mk (b :: r'), _, b, rfl, rfl, sr, hb0, rfl, ?_⟩
        have e : decide (V.str ⟨#[b]⟩ = V.str "=") = decide (b = 61) := decide_eq_decide.mpr (by rw [str_eq, z61, mk_one, mk_inj]; exact ⟨fun z => by cases z; rfl, fun z => by rw [z]⟩)
        show Q (.bl (decide (V.str ⟨#[b]⟩ = V.str "="))) _
        rw [e]
        exact k'
end
end K0
namespace K0
open PySem PySem.Spec L2 RX TL
section
variable {P : Program} {w : World} {K : PySem.W.Frag} {mg : Str → Option Value} {base : Heap} {C fI cc cda : Addr}
theorem scD : FnScope ["script", "draws", "cell", "number", "first", "k", "seed"] ["script"] (defScope sDraws) := ⟨rfl, rfl, rfl, by decide +kernel, rfl, by decide +kernel, by decide +kernel⟩
theorem mulR {i j : Int} (h1 : -(2 ^ 64) < j) (h2 : j < 2 ^ 64) : CMul i j := .inr ⟨h1, h2⟩
theorem ints_snoc (ds : List Int) (z : Int) : ds.map V.int ++ [V.int z] = (ds ++ [z]).map V.int := by rw [List.map_append]; rfl
theorem small5 {n : Nat} (h : n ≤ 10000) : n < sizeLine := Nat.lt_of_le_of_lt h (by decide)
theorem ok_draws {f : Addr} {fd : FuncData} (F : Fun K "_law_draws" "_law_draws" sDraws f fd) (T : Txt P K mg C fI cc cda) : FnOk P w K mg base CX0 1 f fd ["script"] (spDraws K) := by
  refine F.ok scD (fun vs H Q E h => ?_) (fun cdv A outer s H vs Q E hr h => ?_)
  · obtain ⟨l, ns, rfl, _⟩ := h
    rfl
  · obtain ⟨l, ns, rfl, hl, h63, k⟩ := h
    refine ⟨_, (pss_cons (ps_set (i := 1) scD.nd rfl (Or.inl rfl) (pe_lst pa_nil))
 (pss_cons (ps_for PassesOwn.never rfl (pi_list (pv 0)) (pg_name (i := 2) scD.nd rfl (Or.inl rfl))
 (pss_cons (ps_set (i := 3) scD.nd rfl (Or.inl rfl) (pe_callB call_abs rfl T.zabs boot_abs0 (pa_cons (pv 2) pa_nil)))
 (pss_cons (ps_if (pt_cmpR op_lt (pv 3) (pe_op op_pow pe_int pe_int) (nomark _))
 (pss_cons (ps_set (i := 4) scD.nd rfl (Or.inl rfl) (pe_op op_modN (pe_callTy call_int1 rfl T.zint boot_int0 (pa_cons (pe_op op_add (pe_op op_mul (pv 3) pe_int) pe_int) pa_nil)) pe_int))
 (pss_cons (ps_expr (pe_bm PySem.F.plainAttrs_list PySem.F.slot_list_append PySem.F.type_list_append mt_append (pv 1) (pa_cons (pe_op op_modN (pe_callTy call_int1 rfl T.zint boot_int0 (pa_cons (pe_op op_add (pe_op op_mul (pv 4) pe_int) (pv 3)) pa_nil)) pe_int) pa_nil)))
 (pss_cons (ps_expr (pe_bm PySem.F.plainAttrs_list PySem.F.slot_list_append PySem.F.type_list_append mt_append (pv 1) (pa_cons (pe_op op_modN (pe_callTy call_int1 rfl T.zint boot_int0 (pa_cons (pe_op op_add (pv 4) (pe_op op_fdivN (pv 3) pe_int)) pa_nil)) pe_int) pa_nil)))
 (pss_one (ps_set (i := 3) scD.nd rfl (Or.inl rfl) pe_int)))))
 pss_nil)
 (pss_one (ps_for PassesOwn.never rfl (pi_range1 rfl T.zrng (pa_cons pe_int pa_nil)) (pg_name (i := 5) scD.nd rfl (Or.inl rfl))
 (pss_one (ps_if (pt_cmpR op_gt (pv 3) pe_int (nomark _))
 (pss_cons (ps_expr (pe_bm PySem.F.plainAttrs_list PySem.F.slot_list_append PySem.F.type_list_append mt_append (pv 1) (pa_cons (pe_op op_modN (pe_callTy call_int1 rfl T.zint boot_int0 (pa_cons (pv 3) pa_nil)) pe_int) pa_nil)))
 (pss_one (ps_set (i := 3) scD.nd rfl (Or.inl rfl) (pe_op op_fdivN (pv 3) pe_int))))
 pss_nil)))))))
 (pss_cons (ps_set (i := 6) scD.nd rfl (Or.inl rfl) pe_int)
 (pss_cons (ps_if (pt_cmpR op_gt (pe_callB call_len_seq rfl T.zlen PySem.boot_len (pa_cons (pv 0) pa_nil)) pe_int (nomark _))
 (pss_one (ps_set (i := 6) scD.nd rfl (Or.inl rfl) (pe_op op_add pe_int (pe_callB call_abs rfl T.zabs boot_abs0 (pa_cons (pe_ix ix_list (pv 0) pe_int (fun _ _ => rfl)) pa_nil)))))
 pss_nil)
 (pss_cons (ps_for PassesOwn.never rfl (pi_range1 rfl T.zrng (pa_cons pe_int pa_nil)) (pg_name (i := 5) scD.nd rfl (Or.inl rfl))
 (pss_cons (ps_set (i := 6) scD.nd rfl (Or.inl rfl) (pe_op op_modN (pe_callTy call_int1 rfl T.zint boot_int0 (pa_cons (pe_op op_add (pe_op op_mul (pv 6) pe_int) pe_int) pa_nil)) pe_int))
 (pss_one (ps_expr (pe_bm PySem.F.plainAttrs_list PySem.F.slot_list_append PySem.F.type_list_append mt_append (pv 1) (pa_cons (pe_op op_fdivN (pv 6) pe_int) pa_nil))))))
 (pss_one (ps_ret (pe_listRev rfl rfl T.zlist rfl T.zrev (pv 1))))))))), ?_⟩
    refine ⟨(by show 0 ≤ sizeLine; decide), fun D hD => ?_⟩
    have app : ∀ {H1 : Hp} {ds : List Int} (z : Int), Same H H1 → H1 D = some (.lst (ds.map V.int)) → Same H (upd H1 D (.lst (ds.map V.int ++ [.int z]))) ∧ upd H1 D (.lst (ds.map V.int ++ [.int z])) D = some (.lst ((ds ++ [z]).map V.int)) := fun z s h =>
      ⟨Same.upd s hD _, by rw [ints_snoc]; exact upd_same⟩
    refine ⟨_, rfl, l, rfl, ⟨_, (same_new hD _).seq hl⟩, for_list (K := K) (a := l) (xs := ns.map V.int)
      (fun i σ H' => ∃ (ds : List Int) (x2 x3 x4 x5 : Option V), σ = [some (.ref l), some (.ref D), x2, x3, x4, x5, none] ∧ Same H H' ∧ H' D = some (.lst (ds.map V.int)) ∧ ds.length ≤ 62 * i)
      ⟨[], none, none, none, none, rfl, same_new hD _, upd_same, Nat.le_refl _⟩ (fun i σ H' _ ⟨_, _, _, _, _, _, s, _⟩ => s.seq hl) ?_ ?_⟩
    · rintro i x σ H1 hx ⟨ds, x2, x3, x4, x5, rfl, s1, h1, hds⟩
      have hi : i < 63 := by
        have := (List.getElem?_eq_some_iff.mp hx).1
        rw [List.length_map] at this
        omega
      obtain ⟨z, rfl⟩ : ∃ z, x = .int z := by
        rw [List.getElem?_map] at hx
        cases e : ns[i]? with
        | none => rw [e] at hx; cases hx
        | some z => rw [e] at hx; exact ⟨z, (Option.some.inj hx).symm⟩
      refine ⟨_, rfl, _, rfl, ?_⟩
      generalize (if z < 0 then -z else z) = q
      refine ⟨_, rfl, _, _, rfl, rfl, ⟨by decide, by decide, by decide⟩, _, _, rfl, rfl, _, rfl, ?_⟩
      refine ite2 (fun _ => ?_) (fun _ => ?_)
      · refine ⟨_, rfl, _, _, rfl, rfl, mulR (by decide) (by decide), _, _, rfl, rfl, .inl ⟨_, rfl, _, _, rfl, rfl, (show (2147483647 : Int) ≠ 0 by decide), ?_⟩⟩
        refine ⟨_, rfl, .inl ⟨rfl, _, SqL.of h1⟩, _, rfl, _, _, rfl, rfl, mulR (by decide) (by decide), _, rfl, _, _, rfl, rfl, .inl ⟨_, rfl, _, _, rfl, rfl, (show (2147483629 : Int) ≠ 0 by decide), D, _, _, rfl, rfl, h1, small5 (by rw [List.length_map]; omega), ?_⟩⟩
        obtain ⟨s3, h3⟩ := app ((Int.fmod (q * 48271 + 11) 2147483647 * 69621 + q).fmod 2147483629) s1 h1
        refine ⟨_, rfl, .inl ⟨rfl, _, SqL.of h3⟩, _, rfl, _, rfl, _, _, rfl, rfl, ⟨by decide, by decide⟩, _, _, rfl, rfl, .inl ⟨_, rfl, _, _, rfl, rfl, (show (1000003 : Int) ≠ 0 by decide), D, _, _, rfl, rfl, h3, small5 (by rw [List.length_map, List.length_append, List.length_singleton]; omega), ?_⟩⟩
        obtain ⟨s4, h4⟩ := app ((Int.fmod (q * 48271 + 11) 2147483647 + q.fdiv 7).fmod 1000003) s3 h3
        refine ⟨60, rfl, by decide, by decide, for_range (lo := 0) (n := 60)
          (fun j σ H' => ∃ (ds' : List Int) (q' : Int) (x5 : Option V), σ = [some (.ref l), some (.ref D), some (.int z), some (.int q'), some (.int (Int.fmod (q * 48271 + 11) 2147483647)), x5, none] ∧ Same H H' ∧ H' D = some (.lst (ds'.map V.int)) ∧ ds'.length ≤ 62 * i + 2 + j) ?_ ?_ ?_⟩
        · exact ⟨_, _, _, rfl, s4, h4, by rw [List.length_append, List.length_append, List.length_singleton, List.length_singleton]; omega⟩
        · rintro j σ H2 hj ⟨ds', q', y5, rfl, s2, h2, hl2⟩
          refine ⟨_, rfl, _, _, rfl, rfl, _, rfl, ?_⟩
          refine ite2 (fun _ => ?_) (fun _ => ?_)
          · refine ⟨_, rfl, .inl ⟨rfl, _, SqL.of h2⟩, _, rfl, .inl ⟨_, rfl, _, _, rfl, rfl, (show (997 : Int) ≠ 0 by decide), D, _, _, rfl, rfl, h2, small5 (by rw [List.length_map]; omega), ?_⟩⟩
            obtain ⟨s3, h3⟩ := app (q'.fmod 997) s2 h2
            exact ⟨_, rfl, _, _, rfl, rfl, ⟨by decide, by decide⟩, _, _, _, rfl, s3, h3, by rw [List.length_append, List.length_singleton]; omega⟩
          · exact ⟨_, _, _, rfl, s2, h2, by omega⟩
        · rintro σ H2 ⟨ds', q', y5, rfl, s2, h2, hl2⟩
          exact ⟨ds', _, _, _, _, rfl, s2, h2, by omega⟩
      · -- a great cell
        refine ⟨60, rfl, by decide, by decide, for_range (lo := 0) (n := 60)
          (fun j σ H' => ∃ (ds' : List Int) (q' : Int) (x5 : Option V), σ = [some (.ref l), some (.ref D), some (.int z), some (.int q'), x4, x5, none] ∧ Same H H' ∧ H' D = some (.lst (ds'.map V.int)) ∧ ds'.length ≤ 62 * i + 2 + j) ?_ ?_ ?_⟩
        · exact ⟨_, _, _, rfl, s1, h1, by omega⟩
        · rintro j σ H2 hj ⟨ds', q', y5, rfl, s2, h2, hl2⟩
          refine ⟨_, rfl, _, _, rfl, rfl, _, rfl, ?_⟩
          refine ite2 (fun _ => ?_) (fun _ => ?_)
          · refine ⟨_, rfl, .inl ⟨rfl, _, SqL.of h2⟩, _, rfl, .inl ⟨_, rfl, _, _, rfl, rfl, (show (997 : Int) ≠ 0 by decide), D, _, _, rfl, rfl, h2, small5 (by rw [List.length_map]; omega), ?_⟩⟩
            obtain ⟨s3, h3⟩ := app (q'.fmod 997) s2 h2
            exact ⟨_, rfl, _, _, rfl, rfl, ⟨by decide, by decide⟩, _, _, _, rfl, s3, h3, by rw [List.length_append, List.length_singleton]; omega⟩
          · exact ⟨_, _, _, rfl, s2, h2, by omega⟩
        · rintro σ H2 ⟨ds', q', y5, rfl, s2, h2, hl2⟩
          exact ⟨ds', _, _, _, _, rfl, s2, h2, by omega⟩
    · rintro σ H1 ⟨ds, x2, x3, x4, x5, rfl, s1, h1, hds⟩
      rw [List.length_map] at hds
      have hds' : ds.length ≤ 62 * 63 := Nat.le_trans hds (Nat.mul_le_mul_left _ h63)
      refine ⟨_, rfl, l, _, rfl, .inl (s1.seq hl), _, _, rfl, rfl, _, rfl, ?_⟩
      rw [List.length_map]
      refine ite2 (fun hp => ?_) (fun _ => ?_)
      · have hp : 0 < ((ns.length : Nat) : Int) := of_decide_eq_true hp
        have h0 : (ns.map V.int)[0]? = some (.int (ns[0]'(by omega))) := by rw [List.getElem?_map, List.getElem?_eq_getElem (by omega)]; rfl
        refine ⟨_, rfl, l, _, _, _, rfl, rfl, s1.seq hl, at_of (j := 0) rfl h0, _, rfl, _, _, rfl, rfl, ?_⟩
        refine ⟨240, rfl, by decide, by decide, for_range (lo := 0) (n := 240)
          (fun j σ H' => ∃ (ds' : List Int) (sd : Int) (x5 : Option V), σ = [some (.ref l), some (.ref D), x2, x3, x4, x5, some (.int sd)] ∧ Same H H' ∧ H' D = some (.lst (ds'.map V.int)) ∧ ds'.length ≤ 62 * 63 + j) ?_ ?_ ?_⟩
        · exact ⟨_, _, _, rfl, s1, h1, hds'⟩
        · rintro j σ H2 hj ⟨ds', sd, y5, rfl, s2, h2, hl2⟩
          refine ⟨_, rfl, _, _, rfl, rfl, mulR (by decide) (by decide), _, _, rfl, rfl, .inl ⟨_, rfl, _, _, rfl, rfl, (show (2147483647 : Int) ≠ 0 by decide), ?_⟩⟩
          refine ⟨_, rfl, .inl ⟨rfl, _, SqL.of h2⟩, _, rfl, _, _, rfl, rfl, ⟨by decide, by decide⟩, D, _, _, rfl, rfl, h2, small5 (by rw [List.length_map]; omega), ?_⟩
          obtain ⟨s3, h3⟩ := app ((Int.fmod (sd * 48271 + 69621) 2147483647).fdiv 5) s2 h2
          exact ⟨_, _, _, rfl, s3, h3, by rw [List.length_append, List.length_singleton]; omega⟩
        · rintro σ H2 ⟨ds', sd, y5, rfl, s2, h2, hl2⟩
          exact ⟨_, rfl, D, _, rfl, SqL.of h2, fun p hp => k p _ (s2.trans (same_new hp _)) (s2.free hp) ⟨ds'.reverse, by rw [List.map_reverse]; exact upd_same⟩⟩
      · -- the empty script
        refine ⟨240, rfl, by decide, by decide, for_range (lo := 0) (n := 240)
          (fun j σ H' => ∃ (ds' : List Int) (sd : Int) (x5 : Option V), σ = [some (.ref l), some (.ref D), x2, x3, x4, x5, some (.int sd)] ∧ Same H H' ∧ H' D = some (.lst (ds'.map V.int)) ∧ ds'.length ≤ 62 * 63 + j) ?_ ?_ ?_⟩
        · exact ⟨_, _, _, rfl, s1, h1, hds'⟩
        · rintro j σ H2 hj ⟨ds', sd, y5, rfl, s2, h2, hl2⟩
          refine ⟨_, rfl, _, _, rfl, rfl, mulR (by decide) (by decide), _, _, rfl, rfl, .inl ⟨_, rfl, _, _, rfl, rfl, (show (2147483647 : Int) ≠ 0 by decide), ?_⟩⟩
          refine ⟨_, rfl, .inl ⟨rfl, _, SqL.of h2⟩, _, rfl, _, _, rfl, rfl, ⟨by decide, by decide⟩, D, _, _, rfl, rfl, h2, small5 (by rw [List.length_map]; omega), ?_⟩
          obtain ⟨s3, h3⟩ := app ((Int.fmod (sd * 48271 + 69621) 2147483647).fdiv 5) s2 h2
          exact ⟨_, _, _, rfl, s3, h3, by rw [List.length_append, List.length_singleton]; omega⟩
        · rintro σ H2 ⟨ds', sd, y5, rfl, s2, h2, hl2⟩
          exact ⟨_, rfl, D, _, rfl, SqL.of h2, fun p hp => k p _ (s2.trans (same_new hp _)) (s2.free hp) ⟨ds'.reverse, by rw [List.map_reverse]; exact upd_same⟩⟩
end
end K0
namespace K0
open PySem PySem.Spec L2 RX TL
theorem numL_head : ∀ n : Nat, n ≠ 0 → (numL n).head? ≠ some 48 := by
  intro n
  induction n using Nat.strongRecOn with
  | ind n ih =>
    intro h0
    by_cases h : n < 10
    · rw [numL_lt h]
      intro z
      have := Option.some.inj z
      omega
    · rw [numL_step (by omega)]
      have e : ∀ (a b : List Nat), a ≠ [] → (a ++ b).head? = a.head? := fun a b h => by cases a with | nil => exact absurd rfl h | cons x a => rfl
      rw [e _ _ (numL_ne _)]
      exact ih (n / 10) (by omega) (by omega)
theorem numL_D (n : Nat) : ∀ c ∈ numL n, isD c = true := fun c h => isD_iff.mpr (numL_digits n c h)
theorem num_good {n : Nat} (h : n ≤ 1000000000) : numB (numL n) = true := by
  unfold numB
  rw [numL_val, decide_eq_true (numL_len (k := 10) (by decide) (by omega)), decide_eq_true h]
  by_cases h0 : n = 0
  · subst h0
    rw [show numL 0 = [48] from numL_lt (by decide)]
    rfl
  · rw [decide_eq_false (numL_head n h0)]
    rfl
theorem num_bad {n : Nat} (h : 1000000000 < n) : numB (numL n) = false := by
  unfold numB
  rw [numL_val, show decide (n ≤ 1000000000) = false from decide_eq_false (by omega)]
  simp
theorem num_mk (n : Nat) : Str.ofString (toString ((n : Nat) : Int)) = mk (numL n) := SX.num_S n
theorem log_ok' {i : Int} (h0 : 0 ≤ i) (h : i < 10 ^ 18) : i.natAbs.log2 < 1920 := by
  obtain ⟨n, rfl⟩ : ∃ n : Nat, i = n := ⟨i.toNat, by omega⟩
  exact log_ok (by omega)
def spPiece : Sp := fun vs H Q _ => ∃ p : Addr, vs = [.ref p] ∧ DrAt H p ∧ ∀ a k w H', But p H H' → DrAt H' p → H' a = some (.lst [.str k, .str (mk w)]) → Good k w → Q (.ref a) H'
def spBad : Sp := fun vs H Q _ => ∃ p : Addr, vs = [.ref p] ∧ DrAt H p ∧ ∀ a k w H', But p H H' → DrAt H' p → H' a = some (.lst [.str k, .str (mk w)]) → Bad k w ∧ w.length ≤ 13 → Q (.ref a) H'
section
variable {P : Program} {w : World} {K : PySem.W.Frag} {mg : Str → Option Value} {base : Heap} {C fI cc cda : Addr}
theorem scP : FnScope ["draws", "kind", "word", "k"] ["draws"] (defScope sPiece) := ⟨rfl, rfl, rfl, by decide +kernel, rfl, by decide +kernel, by decide +kernel⟩
theorem ok_piece {f fK : Addr} {fd fdK : FuncData} (F : Fun K "_law_piece" "_law_piece" sPiece f fd) (T : Txt P K mg C fI cc cda)
    (GK : FnOk P w K mg base CX0 1 fK fdK ["draws", "bound"] spTake) (LK : Cal K mg "_law_take" fK fdK ["draws", "bound"]) : FnOk P w K mg base CX0 2 f fd ["draws"] spPiece := by
  refine F.ok scP (fun vs H Q E h => ?_) (fun cdv A outer s H vs Q E hr h => ?_)
  · obtain ⟨p, rfl, _⟩ := h
    rfl
  · obtain ⟨p, rfl, hp, k⟩ := h
    refine ⟨_, (pss_cons (ps_set (i := 1) scP.nd rfl (Or.inl rfl) (pe_call GK hr rfl LK.g LK.k LK.b .nil pass0 (pa_cons (pv 0) (pa_cons pe_int pa_nil))))
 (pss_cons (ps_if (pt_cmpR op_eq (pv 1) pe_int (nomark _))
 (pss_cons (ps_set (i := 2) scP.nd rfl (Or.inl rfl) pe_str)
 (pss_cons (ps_for PassesOwn.never rfl (pi_range1 rfl T.zrng (pa_cons (pe_op op_add pe_int (pe_call GK hr rfl LK.g LK.k LK.b .nil pass0 (pa_cons (pv 0) (pa_cons pe_int pa_nil)))) pa_nil)) (pg_name (i := 3) scP.nd rfl (Or.inl rfl))
 (pss_one (ps_set (i := 2) scP.nd rfl (Or.inl rfl) (pe_op op_add_str (pv 2) (pe_ix ix_str pe_str (pe_call GK hr rfl LK.g LK.k LK.b .nil pass0 (pa_cons (pv 0) (pa_cons pe_int pa_nil))) (fun _ _ => rfl))))))
 (pss_one (ps_ret (pe_lst (pa_cons pe_str (pa_cons (pv 2) pa_nil)))))))
 pss_nil)
 (pss_cons (ps_if (pt_cmpR op_eq (pv 1) pe_int (nomark _))
 (pss_one (ps_ret (pe_lst (pa_cons pe_str (pa_cons (pe_callTy call_str_int rfl T.zstr boot_str0 (pa_cons (pe_ix ix_list (pe_lst (pa_cons (pe_call GK hr rfl LK.g LK.k LK.b .nil pass0 (pa_cons (pv 0) (pa_cons pe_int pa_nil))) (pa_cons (pe_op op_sub (pe_op op_pow pe_int pe_int) (pe_call GK hr rfl LK.g LK.k LK.b .nil pass0 (pa_cons (pv 0) (pa_cons pe_int pa_nil)))) (pa_cons pe_int pa_nil)))) (pe_call GK hr rfl LK.g LK.k LK.b .nil pass0 (pa_cons (pv 0) (pa_cons pe_int pa_nil))) (fun _ _ => rfl)) pa_nil)) pa_nil)))))
 pss_nil)
 (pss_one (ps_ret (pe_lst (pa_cons pe_str (pa_cons (pe_ix ix_list (pe_lst (pa_cons pe_str (pa_cons pe_str (pa_cons pe_str (pa_cons pe_str (pa_cons pe_str (pa_cons pe_str (pa_cons pe_str (pa_cons pe_str (pa_cons pe_str (pa_cons pe_str (pa_cons pe_str (pa_cons pe_str pa_nil))))))))))))) (pe_call GK hr rfl LK.g LK.k LK.b .nil pass0 (pa_cons (pv 0) (pa_cons pe_int pa_nil))) (fun _ _ => rfl)) pa_nil)))))))), ?_⟩
    refine ⟨_, rfl, p, 4, rfl, hp, by decide, by decide, fun r H1 h0 h1 b1 D1 => ?_⟩
    refine ⟨_, rfl, rfl, _, rfl, ?_⟩
    by_cases hk0 : r = 0
    · refine ifT (int_eq.mpr hk0) ?_
      refine ⟨_, rfl, p, 12, rfl, D1, by decide, by decide, fun r2 H2 h20 h21 b2 D2 => ⟨_, _, rfl, rfl, ?_⟩⟩
      refine ⟨1 + r2, rfl, by omega, by omega, for_range (lo := 0) (n := (1 + r2).toNat)
        (fun i σ H' => ∃ (ws : List Nat) (x3 : Option V), σ = [some (.ref p), some (.int r), some (.str (mk ws)), x3] ∧ But p H H' ∧ DrAt H' p ∧ ws.length = i ∧ ∀ c ∈ ws, isL c = true) ?_ ?_ ?_⟩
      · exact ⟨[], none, rfl, b1.trans b2, D2, rfl, fun c h => by cases h⟩
      · rintro i σ H3 hi ⟨ws, x3, rfl, b3, D3, hws, hall⟩
        refine ⟨_, rfl, _, rfl, p, 26, rfl, D3, by decide, by decide, fun r4 H4 h40 h41 b4 D4 => ?_⟩
        obtain ⟨c, hc, hm⟩ := at_memN (xs := low.cps.toList) h40 (by rw [low_l]; exact h41)
        refine ⟨low, _, c, rfl, rfl, by decide +kernel, hc, mk ws, ⟨#[c]⟩, rfl, rfl, ?_, ?_⟩
        · rw [mk_len, hws]
          exact size_of (by show i + 1 ≤ 1000; omega)
        · refine ⟨ws ++ [c], some (.int (0 + ((i : Nat) : Int))), ?_, b3.trans b4, D4, by rw [List.length_append, hws]; rfl, fun x hx => ?_⟩
          · rw [mk_one, mk_app]
            rfl
          · rcases List.mem_append.mp hx with hx | hx
            · exact hall x hx
            · rw [List.mem_singleton.mp hx]
              exact decide_eq_true hm
      · rintro σ H3 ⟨ws, x3, rfl, b3, D3, hws, hall⟩
        refine ⟨_, rfl, (by show 2 ≤ sizeLine; decide), fun a ha => ?_⟩
        exact k a "word" ws _ (b3.trans (Same.but (same_new ha _))) (D3.same (same_new ha _)) upd_same (.word (fun z => by rw [z] at hws; simp at hws; omega) (by omega) hall)
    · refine ifF (fun z => hk0 (int_eq.mp z)) ⟨_, rfl, rfl, _, rfl, ?_⟩
      by_cases hk1 : r = 1
      · refine ifT (int_eq.mpr hk1) ?_
        refine ⟨_, rfl, p, 100, rfl, D1, by decide, by decide, fun r2 H2 h20 h21 b2 D2 => ?_⟩
        refine ⟨_, _, rfl, rfl, ⟨by decide, by decide, by decide⟩, _, rfl, p, 9, rfl, D2, by decide, by decide, fun r3 H3 h30 h31 b3 D3 => ⟨_, _, rfl, rfl, (by show 3 ≤ sizeLine; decide), fun u hu => ?_⟩⟩
        have hup := D3.ne hu
        have su := same_new hu (.lst [.int r2, .int (1000000000 - r3), .int 0])
        refine ⟨_, rfl, p, 3, rfl, D3.same su, by decide, by decide, fun r4 H4 h40 h41 b4 D4 => ?_⟩
        obtain ⟨v, hv, hm⟩ := at_mem (xs := [.int r2, .int (1000000000 - r3), .int 0]) h40 h41
        obtain ⟨n, rfl, hn⟩ : ∃ n : Nat, v = .int (n : Int) ∧ n ≤ 1000000000 := by
          simp only [List.mem_cons, List.not_mem_nil, or_false] at hm
          rcases hm with rfl | rfl | rfl
          · exact ⟨r2.toNat, by rw [show ((r2.toNat : Nat) : Int) = r2 by omega], by omega⟩
          · exact ⟨(1000000000 - r3).toNat, by rw [show (((1000000000 - r3).toNat : Nat) : Int) = 1000000000 - r3 by omega], by omega⟩
          · exact ⟨0, rfl, by omega⟩
        refine ⟨u, _, _, _, rfl, rfl, SqL.of (b4 _ _ hup upd_same), hv, _, rfl, log_ok (by omega), (by show 2 ≤ sizeLine; decide), fun a ha => ?_⟩
        rw [num_mk]
        exact k a "number" (numL n) _ (b1.trans (b2.trans (b3.trans ((Same.but su).trans (b4.trans (Same.but (same_new ha _))))))) (D4.same (same_new ha _)) upd_same (.num (numL_ne n) (numL_D n) (num_good hn))
      · refine ifF (fun z => hk1 (int_eq.mp z)) ?_
        refine ⟨(by show 12 ≤ sizeLine; decide), fun u hu => ?_⟩
        have hup := D1.ne hu
        have su := same_new hu (.lst [.str "<=", .str ">=", .str "<", .str "=", .str ">", .str "+", .str "-", .str "*", .str "/", .str "(", .str ")", .str ","])
        refine ⟨_, rfl, p, 12, rfl, D1.same su, by decide, by decide, fun r2 H2 h20 h21 b2 D2 => ?_⟩
        obtain ⟨v, hv, hm⟩ := at_mem (xs := [.str "<=", .str ">=", .str "<", .str "=", .str ">", .str "+", .str "-", .str "*", .str "/", .str "(", .str ")", .str ","]) h20 h21
        have hvx : ∃ x ∈ signs, v = .str (mk x) := by
          simp only [List.mem_cons, List.not_mem_nil, or_false] at hm
          rcases hm with rfl | rfl | rfl | rfl | rfl | rfl | rfl | rfl | rfl | rfl | rfl | rfl
          · exact ⟨[60, 61], by decide, congrArg V.str (by decide +kernel)⟩
          · exact ⟨[62, 61], by decide, congrArg V.str (by decide +kernel)⟩
          · exact ⟨[60], by decide, congrArg V.str (by decide +kernel)⟩
          · exact ⟨[61], by decide, congrArg V.str (by decide +kernel)⟩
          · exact ⟨[62], by decide, congrArg V.str (by decide +kernel)⟩
          · exact ⟨[43], by decide, congrArg V.str (by decide +kernel)⟩
          · exact ⟨[45], by decide, congrArg V.str (by decide +kernel)⟩
          · exact ⟨[42], by decide, congrArg V.str (by decide +kernel)⟩
          · exact ⟨[47], by decide, congrArg V.str (by decide +kernel)⟩
          · exact ⟨[40], by decide, congrArg V.str (by decide +kernel)⟩
          · exact ⟨[41], by decide, congrArg V.str (by decide +kernel)⟩
          · exact ⟨[44], by decide, congrArg V.str (by decide +kernel)⟩
        obtain ⟨x, hx, rfl⟩ := hvx
        refine ⟨u, _, _, _, rfl, rfl, SqL.of (b2 _ _ hup upd_same), hv, (by show 2 ≤ sizeLine; decide), fun a ha => ?_⟩
        exact k a "sign" x _ (b1.trans ((Same.but su).trans (b2.trans (Same.but (same_new ha _))))) (D2.same (same_new ha _)) upd_same (.sign hx)
end
end K0
namespace K0
open PySem PySem.Spec L2 RX TL
section
variable {P : Program} {w : World} {K : PySem.W.Frag} {mg : Str → Option Value} {base : Heap} {C fI cc cda : Addr}
theorem scB : FnScope ["draws", "rows"] ["draws"] (defScope sBad) := ⟨rfl, rfl, rfl, by decide +kernel, rfl, by decide +kernel, by decide +kernel⟩
theorem DrAt.neS {H : Hp} {p a : Addr} {z : Str} {xs : List V} (h : DrAt H p) (q : H a = some (.lst (.str z :: xs))) : a ≠ p := fun e => by
  obtain ⟨ns, h⟩ := h
  rw [e, h] at q
  cases ns <;> simp at q
theorem DrAt.neR {H : Hp} {p a b : Addr} {xs : List V} (h : DrAt H p) (q : H a = some (.lst (.ref b :: xs))) : a ≠ p := fun e => by
  obtain ⟨ns, h⟩ := h
  rw [e, h] at q
  cases ns <;> simp at q
def l13 : List Nat := [97, 98, 99, 100, 101, 102, 103, 104, 105, 106, 107, 108, 109]
def l11 : List Nat := [49, 48, 48, 48, 48, 48, 48, 48, 48, 48, 48]
theorem ok_bad {f fK : Addr} {fd fdK : FuncData} (F : Fun K "_law_bad" "_law_bad" sBad f fd) (T : Txt P K mg C fI cc cda)
    (GK : FnOk P w K mg base CX0 1 fK fdK ["draws", "bound"] spTake) (LK : Cal K mg "_law_take" fK fdK ["draws", "bound"]) : FnOk P w K mg base CX0 2 f fd ["draws"] spBad := by
  refine F.ok scB (fun vs H Q E h => ?_) (fun cdv A outer s H vs Q E hr h => ?_)
  · obtain ⟨p, rfl, _⟩ := h
    rfl
  · obtain ⟨p, rfl, hp, k⟩ := h
    refine ⟨_, (pss_cons (ps_set (i := 1) scB.nd rfl (Or.inl rfl) (pe_lst (pa_cons (pe_lst (pa_cons pe_str (pa_cons (pe_ix ix_list (pe_lst (pa_cons pe_str (pa_cons pe_str (pa_cons pe_str (pa_cons pe_str (pa_cons pe_str (pa_cons pe_str (pa_cons pe_str pa_nil)))))))) (pe_call GK hr rfl LK.g LK.k LK.b .nil pass0 (pa_cons (pv 0) (pa_cons pe_int pa_nil))) (fun _ _ => rfl)) pa_nil))) (pa_cons (pe_lst (pa_cons pe_str (pa_cons pe_str pa_nil))) pa_nil))))
 (pss_cons (ps_set (i := 1) scB.nd rfl (Or.inl rfl) (pe_op op_cat (pv 1) (pe_lst (pa_cons (pe_lst (pa_cons pe_str (pa_cons pe_str pa_nil))) (pa_cons (pe_lst (pa_cons pe_str (pa_cons pe_str pa_nil))) (pa_cons (pe_lst (pa_cons pe_str (pa_cons (pe_callTy call_str_int rfl T.zstr boot_str0 (pa_cons (pe_op op_add (pe_op op_add (pe_op op_pow pe_int pe_int) pe_int) (pe_call GK hr rfl LK.g LK.k LK.b .nil pass0 (pa_cons (pv 0) (pa_cons pe_int pa_nil)))) pa_nil)) pa_nil))) pa_nil))))))
 (pss_one (ps_ret (pe_ix ix_list (pe_op op_cat (pv 1) (pe_lst (pa_cons (pe_lst (pa_cons pe_str (pa_cons (pe_op op_add_str pe_str (pe_op op_mul_str pe_str pe_int)) pa_nil))) pa_nil))) (pe_call GK hr rfl LK.g LK.k LK.b .nil pass0 (pa_cons (pv 0) (pa_cons pe_int pa_nil))) (fun _ _ => rfl)))))), ?_⟩
    refine ⟨(by show 7 ≤ sizeLine; decide), fun u hu => ?_⟩
    have hup := hp.ne hu
    have su := same_new hu (.lst [.str "A", .str "_", .str "#", .str ".", .str "$", .str ":", .str ";"])
    refine ⟨_, rfl, p, 7, rfl, hp.same su, by decide, by decide, fun r H1 h0 h1 b1 D1 => ?_⟩
    obtain ⟨v, hv, hm⟩ := at_mem (xs := [.str "A", .str "_", .str "#", .str ".", .str "$", .str ":", .str ";"]) h0 h1
    have hvx : ∃ x ∈ ([[65], [95], [35], [46], [36], [58], [59]] : List (List Nat)), v = .str (mk x) ∧ x.length ≤ 13 := by
      simp only [List.mem_cons, List.not_mem_nil, or_false] at hm
      rcases hm with rfl | rfl | rfl | rfl | rfl | rfl | rfl
      · exact ⟨[65], by decide, congrArg V.str (by decide +kernel), by decide⟩
      · exact ⟨[95], by decide, congrArg V.str (by decide +kernel), by decide⟩
      · exact ⟨[35], by decide, congrArg V.str (by decide +kernel), by decide⟩
      · exact ⟨[46], by decide, congrArg V.str (by decide +kernel), by decide⟩
      · exact ⟨[36], by decide, congrArg V.str (by decide +kernel), by decide⟩
      · exact ⟨[58], by decide, congrArg V.str (by decide +kernel), by decide⟩
      · exact ⟨[59], by decide, congrArg V.str (by decide +kernel), by decide⟩
    obtain ⟨x1, hx1, rfl, hx1l⟩ := hvx
    refine ⟨u, _, _, _, rfl, rfl, SqL.of (b1 _ _ hup upd_same), hv, (by show 2 ≤ sizeLine; decide), fun a1 ha1 => ⟨(by show 2 ≤ sizeLine; decide), fun a2 ha2 => ⟨(by show 2 ≤ sizeLine; decide), fun R1 hR1 => ?_⟩⟩⟩
    have n1 := D1.ne ha1
    have s1 := same_new ha1 (.lst [.str "character", .str (mk x1)])
    have n2 := (D1.same s1).ne ha2
    have s2 := same_new ha2 (.lst [.str "word", .str "abcdefghijklm"])
    have D2 := (D1.same s1).same s2
    have m1 := D2.ne hR1
    have s3 := same_new hR1 (.lst [.ref a1, .ref a2])
    have D3 := D2.same s3
    have A1 := s3 _ _ (s2 _ _ (upd_same (H := H1) (a := a1) (o := .lst [.str "character", .str (mk x1)])))
    have A2 := s3 _ _ (upd_same (H := upd H1 a1 (.lst [.str "character", .str (mk x1)])) (a := a2) (o := .lst [.str "word", .str "abcdefghijklm"]))
    have B1 := upd_same (H := upd (upd H1 a1 (.lst [.str "character", .str (mk x1)])) a2 (.lst [.str "word", .str "abcdefghijklm"])) (a := R1) (o := .lst [.ref a1, .ref a2])
    have bb : But p H _ := (Same.but su).trans (b1.trans (Same.but (s1.trans (s2.trans s3))))
    clear s1 s2 s3
    revert A1 A2 B1 bb D3
    generalize upd (upd (upd H1 a1 (.lst [.str "character", .str (mk x1)])) a2 (.lst [.str "word", .str "abcdefghijklm"])) R1 (.lst [.ref a1, .ref a2]) = H3
    intro D3 A1 A2 B1 bb
    refine ⟨_, rfl, (by show 2 ≤ sizeLine; decide), fun a3 ha3 => ⟨(by show 2 ≤ sizeLine; decide), fun a4 ha4 => ?_⟩⟩
    have s1 := same_new ha3 (.lst [.str "number", .str "00"])
    have s2 := same_new ha4 (.lst [.str "number", .str "012"])
    have D4 := (D3.same s1).same s2
    have A3 := s2 _ _ (upd_same (H := H3) (a := a3) (o := .lst [.str "number", .str "00"]))
    have A4 := upd_same (H := upd H3 a3 (.lst [.str "number", .str "00"])) (a := a4) (o := .lst [.str "number", .str "012"])
    replace bb := bb.trans (Same.but (s1.trans s2))
    replace A1 := s2 _ _ (s1 _ _ A1)
    replace A2 := s2 _ _ (s1 _ _ A2)
    replace B1 := s2 _ _ (s1 _ _ B1)
    clear s1 s2 D3
    revert A1 A2 B1 bb D4 A3 A4
    generalize upd (upd H3 a3 (.lst [.str "number", .str "00"])) a4 (.lst [.str "number", .str "012"]) = H4
    intro D4 A3 A4 bb A1 A2 B1
    refine ⟨_, _, rfl, rfl, ⟨by decide, by decide, by decide⟩, _, _, rfl, rfl, _, rfl, p, 9, rfl, D4, by decide, by decide, fun r2 H5 h20 h21 b5 D5 => ?_⟩
    obtain ⟨n, hn⟩ : ∃ n : Nat, (1000000001 : Int) + r2 = (n : Int) := ⟨(1000000001 + r2).toNat, by omega⟩
    refine ⟨_, _, rfl, rfl, _, rfl, ?_⟩
    have e9 : (10 : Int) ^ Int.toNat 9 + 1 + r2 = (n : Int) := hn
    show ((10 : Int) ^ Int.toNat 9 + 1 + r2).natAbs.log2 < 1920 ∧ _
    rw [e9]
    refine ⟨log_ok (by omega), ?_⟩
    rw [num_mk]
    refine ⟨(by show 2 ≤ sizeLine; decide), fun a5 ha5 => ⟨(by show 3 ≤ sizeLine; decide), fun R2 hR2 => ?_⟩⟩
    replace A1 := b5 _ _ (D4.neS A1) A1
    replace A2 := b5 _ _ (D4.neS A2) A2
    replace A3 := b5 _ _ (D4.neS A3) A3
    replace A4 := b5 _ _ (D4.neS A4) A4
    replace B1 := b5 _ _ (D4.neR B1) B1
    replace bb := bb.trans b5
    have s1 := same_new ha5 (.lst [.str "number", .str (mk (numL n))])
    have s2 := same_new hR2 (.lst [.ref a3, .ref a4, .ref a5])
    refine ⟨R1, R2, _, _, rfl, rfl, s2 _ _ (s1 _ _ B1), upd_same, (by show 2 + 3 ≤ sizeLine; decide), fun R3 hR3 => ?_⟩
    have s3 := same_new hR3 (.lst ([.ref a1, .ref a2] ++ [.ref a3, .ref a4, .ref a5]))
    have A5 := s3 _ _ (s2 _ _ (upd_same (H := H5) (a := a5) (o := .lst [.str "number", .str (mk (numL n))])))
    have B3 := upd_same (H := upd (upd H5 a5 (.lst [.str "number", .str (mk (numL n))])) R2 (.lst [.ref a3, .ref a4, .ref a5])) (a := R3) (o := .lst ([.ref a1, .ref a2] ++ [.ref a3, .ref a4, .ref a5]))
    have ss := s1.trans (s2.trans s3)
    have D6 := D5.same ss
    replace A1 := ss _ _ A1
    replace A2 := ss _ _ A2
    replace A3 := ss _ _ A3
    replace A4 := ss _ _ A4
    replace bb := bb.trans (Same.but ss)
    clear s1 s2 s3 ss B1 D5 D4
    revert A1 A2 A3 A4 A5 B3 bb D6
    generalize upd (upd (upd H5 a5 (.lst [.str "number", .str (mk (numL n))])) R2 (.lst [.ref a3, .ref a4, .ref a5])) R3 (.lst ([.ref a1, .ref a2] ++ [.ref a3, .ref a4, .ref a5])) = H6
    intro A5 B3 D6 A1 A2 A3 A4 bb
    refine ⟨_, rfl, _, _, rfl, rfl, ⟨by decide +kernel, fun _ _ => by decide +kernel, fun _ _ => by decide +kernel⟩, _, _, rfl, rfl, by decide +kernel, (by show 2 ≤ sizeLine; decide), fun a6 ha6 => ⟨(by show 1 ≤ sizeLine; decide), fun R4 hR4 => ?_⟩⟩
    rw [show ("1" : Str) ++ Txt.mul "0" 10 = mk l11 by decide +kernel] at hR4 ⊢
    have s1 := same_new ha6 (.lst [.str "number", .str (mk l11)])
    have s2 := same_new hR4 (.lst [.ref a6])
    refine ⟨R3, R4, _, _, rfl, rfl, s2 _ _ (s1 _ _ B3), upd_same, (by show 5 + 1 ≤ sizeLine; decide), fun R5 hR5 => ?_⟩
    have s3 := same_new hR5 (.lst ([.ref a1, .ref a2] ++ [.ref a3, .ref a4, .ref a5] ++ [.ref a6]))
    have A6 := s3 _ _ (s2 _ _ (upd_same (H := H6) (a := a6) (o := .lst [.str "number", .str (mk l11)])))
    have B5 := upd_same (H := upd (upd H6 a6 (.lst [.str "number", .str (mk l11)])) R4 (.lst [.ref a6])) (a := R5) (o := .lst ([.ref a1, .ref a2] ++ [.ref a3, .ref a4, .ref a5] ++ [.ref a6]))
    have ss := s1.trans (s2.trans s3)
    have D7 := D6.same ss
    replace A1 := ss _ _ A1
    replace A2 := ss _ _ A2
    replace A3 := ss _ _ A3
    replace A4 := ss _ _ A4
    replace A5 := ss _ _ A5
    replace bb := bb.trans (Same.but ss)
    refine ⟨_, rfl, p, 6, rfl, D7, by decide, by decide, fun r3 H8 h30 h31 b8 D8 => ?_⟩
    obtain ⟨v, hv', hm'⟩ := at_mem (xs := [V.ref a1, V.ref a2] ++ [V.ref a3, V.ref a4, V.ref a5] ++ [V.ref a6]) h30 (show r3 < ((6 : Nat) : Int) from h31)
    refine ⟨R5, _, _, _, rfl, rfl, SqL.of (b8 _ _ (D7.neR B5) B5), hv', ?_⟩
    have go : ∀ (a : Addr) (kk : Str) (ww : List Nat), _ = some (HO.lst [.str kk, .str (mk ww)]) → Bad kk ww ∧ ww.length ≤ 13 → Q (.ref a) H8 := fun a kk ww ha hb => k a kk ww H8 (bb.trans b8) D8 (b8 _ _ (D7.neS ha) ha) hb
    simp only [List.cons_append, List.nil_append, List.mem_cons, List.not_mem_nil, or_false] at hm'
    rcases hm' with rfl | rfl | rfl | rfl | rfl | rfl
    · exact go a1 "character" x1 A1 ⟨.char hx1, hx1l⟩
    · exact go a2 "word" l13 (by rw [show mk l13 = ("abcdefghijklm" : Str) by decide +kernel]; exact A2) ⟨.word (by decide) (by decide +kernel), by decide⟩
    · exact go a3 "number" [48, 48] (by rw [show mk [48, 48] = ("00" : Str) by decide +kernel]; exact A3) ⟨.num (by simp) (by decide +kernel) (by decide +kernel), by decide⟩
    · exact go a4 "number" [48, 49, 50] (by rw [show mk [48, 49, 50] = ("012" : Str) by decide +kernel]; exact A4) ⟨.num (by simp) (by decide +kernel) (by decide +kernel), by decide⟩
    · exact go a5 "number" (numL n) A5 ⟨.num (numL_ne n) (numL_D n) (num_bad (by omega)), Nat.le_trans (numL_len (k := 10) (by decide) (by omega)) (by decide)⟩
    · exact go a6 "number" l11 A6 ⟨.num (by simp [l11]) (by decide +kernel) (by decide +kernel), by decide⟩
end
end K0
namespace K0
open PySem PySem.Spec L2 RX TL
/-- the same data -/
def Eqv (H : Hp) : Nat → V → V → Prop
  | 0, _, _ => False
  | n + 1, x, y => (∃ i, x = .int i ∧ y = .int i) ∨ (∃ z, x = .str z ∧ y = .str z) ∨ (∃ (a b : Addr) (xs ys : List V), x = .ref a ∧ y = .ref b ∧ ((H a = some (.lst xs) ∧ H b = some (.lst ys)) ∨ (H a = some (.tup xs) ∧ H b = some (.tup ys))) ∧ xs.length = ys.length ∧ ys.length ≤ 1000 ∧ ∀ (i : Nat) (u v : V), xs[i]? = some u → ys[i]? = some v → Eqv H n u v)
def spSame (n : Nat) : Sp := fun vs H Q _ => ∃ x y, vs = [x, y] ∧ Eqv H n x y ∧ Q (.bl true) H
/-- a value's type among the four -/
def Tg (K : PySem.W.Frag) (H : Hp) (t : String) (x : V) : Prop := TyX K H x (.type t) ∧ (t = "int" ∨ t = "str" ∨ t = "list" ∨ t = "tuple")
theorem kb {t c : String} (ht : t = "int" ∨ t = "str" ∨ t = "list" ∨ t = "tuple") (hc : c = "int" ∨ c = "str" ∨ c = "list" ∨ c = "tuple" ∨ c = "bool") : kitB t c = some (decide (t = c)) := by
  rcases ht with rfl | rfl | rfl | rfl <;> rcases hc with rfl | rfl | rfl | rfl | rfl <;> decide +kernel
section
variable {P : Program} {w : World} {K : PySem.W.Frag} {mg : Str → Option Value} {base : Heap} {C fI cc cda : Addr}
theorem neS (b : Bool) : (!decide (V.bl b = V.bl b)) = false := by simp
theorem scS : FnScope ["actual", "due", "k"] ["actual", "due"] (defScope sSame) := ⟨rfl, rfl, rfl, by decide +kernel, rfl, by decide +kernel, by decide +kernel⟩
theorem same_zero {f : Addr} {fd : FuncData} : FnOk P w K mg base CX0 1 f fd ["actual", "due"] (spSame 0) := by
  have no : ∀ vs H Q E, ¬ spSame 0 vs H Q E := fun vs H Q E h => by
    obtain ⟨x, y, _, h, _⟩ := h
    exact h
  exact ⟨fun vs H Q E h => absurd h (no vs H Q E), fun A outer s H args us vs Q E _ _ _ _ h => absurd h (no vs H Q E)⟩
theorem ok_same_one {n : Nat} {f : Addr} {fd : FuncData} (F : Fun K "_law_same" "_law_same" sSame f fd) (T : Txt P K mg C fI cc cda) (LS : Cal K mg "_law_same" f fd ["actual", "due"])
    (GS : FnOk P w K mg base CX0 (1 + n) f fd ["actual", "due"] (spSame n)) : FnOk P w K mg base CX0 (1 + (n + 1)) f fd ["actual", "due"] (spSame (n + 1)) := by
  refine F.ok scS (fun vs H Q E h => ?_) (fun cdv A outer s H vs Q E hr h => ?_)
  · obtain ⟨x, y, rfl, _⟩ := h
    rfl
  · obtain ⟨x, y, rfl, hxy, k⟩ := h
    refine ⟨_, (pss_cons (ps_if (PW.pt (pw_or (pt_val (pe_callB call_isi rfl T.zisi boot_isi (pa_cons (pv 1) (pa_cons (pe_bltn (v := .ty "tuple") rfl T.ztuple boot_tuple0 rfl) pa_nil)))) (pw_or1 (pt_val (pe_callB call_isi rfl T.zisi boot_isi (pa_cons (pv 1) (pa_cons (pe_bltn (v := .ty "list") rfl T.zlist boot_list0 rfl) pa_nil)))))))
 (pss_cons (ps_if (PW.pt (pw_or (pt_cmpR op_ne (pe_callB call_isi rfl T.zisi boot_isi (pa_cons (pv 1) (pa_cons (pe_bltn (v := .ty "tuple") rfl T.ztuple boot_tuple0 rfl) pa_nil))) (pe_callB call_isi rfl T.zisi boot_isi (pa_cons (pv 0) (pa_cons (pe_bltn (v := .ty "tuple") rfl T.ztuple boot_tuple0 rfl) pa_nil))) (nomark _)) (pw_or1 (pt_cmpR op_ne (pe_callB call_isi rfl T.zisi boot_isi (pa_cons (pv 1) (pa_cons (pe_bltn (v := .ty "list") rfl T.zlist boot_list0 rfl) pa_nil))) (pe_callB call_isi rfl T.zisi boot_isi (pa_cons (pv 0) (pa_cons (pe_bltn (v := .ty "list") rfl T.zlist boot_list0 rfl) pa_nil))) (nomark _)))))
 (pss_one (ps_ret pe_bl))
 pss_nil)
 (pss_cons (ps_if (pt_cmpR op_ne (pe_callB call_len_seq rfl T.zlen PySem.boot_len (pa_cons (pv 0) pa_nil)) (pe_callB call_len_seq rfl T.zlen PySem.boot_len (pa_cons (pv 1) pa_nil)) (nomark _))
 (pss_one (ps_ret pe_bl))
 pss_nil)
 (pss_cons (ps_for PassesOwn.never rfl (pi_range1 rfl T.zrng (pa_cons (pe_callB call_len_seq rfl T.zlen PySem.boot_len (pa_cons (pv 1) pa_nil)) pa_nil)) (pg_name (i := 2) scS.nd rfl (Or.inl rfl))
 (pss_one (ps_if (pt_not (pt_val (pe_call GS hr rfl LS.g LS.k LS.b .nil pass0 (pa_cons (pe_ix ix_seq (pv 0) (pv 2) (fun _ _ => rfl)) (pa_cons (pe_ix ix_seq (pv 1) (pv 2) (fun _ _ => rfl)) pa_nil)))))
 (pss_one (ps_ret pe_bl))
 pss_nil)))
 (pss_one (ps_ret pe_bl)))))
 pss_nil)
 (pss_cons (ps_if (pt_cmpR op_ne (pe_callB call_isi rfl T.zisi boot_isi (pa_cons (pv 1) (pa_cons (pe_bltn (v := .ty "bool") rfl T.zbool boot_bool0 rfl) pa_nil))) (pe_callB call_isi rfl T.zisi boot_isi (pa_cons (pv 0) (pa_cons (pe_bltn (v := .ty "bool") rfl T.zbool boot_bool0 rfl) pa_nil))) (nomark _))
 (pss_one (ps_ret pe_bl))
 pss_nil)
 (pss_cons (ps_if (PW.pt (pw_or (pt_cmpR op_ne (pe_callB call_isi rfl T.zisi boot_isi (pa_cons (pv 1) (pa_cons (pe_bltn (v := .ty "int") rfl T.zint boot_int0 rfl) pa_nil))) (pe_callB call_isi rfl T.zisi boot_isi (pa_cons (pv 0) (pa_cons (pe_bltn (v := .ty "int") rfl T.zint boot_int0 rfl) pa_nil))) (nomark _)) (pw_or1 (pt_cmpR op_ne (pe_callB call_isi rfl T.zisi boot_isi (pa_cons (pv 1) (pa_cons (pe_bltn (v := .ty "str") rfl T.zstr boot_str0 rfl) pa_nil))) (pe_callB call_isi rfl T.zisi boot_isi (pa_cons (pv 0) (pa_cons (pe_bltn (v := .ty "str") rfl T.zstr boot_str0 rfl) pa_nil))) (nomark _)))))
 (pss_one (ps_ret pe_bl))
 pss_nil)
 (pss_one (ps_ret (pe_cmpR op_eq (pv 0) (pv 1) (nomark _))))))), ?_⟩
    have tagged : ∃ t, Tg K H t x ∧ Tg K H t y ∧ ((x = y ∧ scal x y = true ∧ t ≠ "tuple" ∧ t ≠ "list") ∨ ((t = "tuple" ∨ t = "list") ∧ ∃ (a b : Addr) (xs ys : List V), x = .ref a ∧ y = .ref b ∧ ((SqL K H a xs ∧ SqL K H b ys) ∨ (SqT K H a xs ∧ SqT K H b ys)) ∧ xs.length = ys.length ∧ ys.length ≤ 1000 ∧ ∀ (i : Nat) (u v : V), xs[i]? = some u → ys[i]? = some v → Eqv H n u v)) := by
      rcases hxy with ⟨i, rfl, rfl⟩ | ⟨z, rfl, rfl⟩ | ⟨a, b, xs, ys, rfl, rfl, hs, hl, h1, he⟩
      · exact ⟨"int", ⟨.base (.int i), .inl rfl⟩, ⟨.base (.int i), .inl rfl⟩, .inl ⟨rfl, rfl, by decide, by decide⟩⟩
      · exact ⟨"str", ⟨.base (.str z), .inr (.inl rfl)⟩, ⟨.base (.str z), .inr (.inl rfl)⟩, .inl ⟨rfl, rfl, by decide, by decide⟩⟩
      · rcases hs with ⟨ha, hb⟩ | ⟨ha, hb⟩
        · exact ⟨"list", ⟨.base (.lst ha), .inr (.inr (.inl rfl))⟩, ⟨.base (.lst hb), .inr (.inr (.inl rfl))⟩, .inr ⟨.inr rfl, a, b, xs, ys, rfl, rfl, .inl ⟨SqL.of ha, SqL.of hb⟩, hl, h1, he⟩⟩
        · exact ⟨"tuple", ⟨.base (.tup ha), .inr (.inr (.inr rfl))⟩, ⟨.base (.tup hb), .inr (.inr (.inr rfl))⟩, .inr ⟨.inl rfl, a, b, xs, ys, rfl, rfl, .inr ⟨SqT.of ha, SqT.of hb⟩, hl, h1, he⟩⟩
    obtain ⟨t, tx, ty, cs⟩ := tagged
    have ct : ("tuple" : String) = "int" ∨ ("tuple" : String) = "str" ∨ ("tuple" : String) = "list" ∨ ("tuple" : String) = "tuple" ∨ ("tuple" : String) = "bool" := by decide
    have cl : ("list" : String) = "int" ∨ ("list" : String) = "str" ∨ ("list" : String) = "list" ∨ ("list" : String) = "tuple" ∨ ("list" : String) = "bool" := by decide
    have cb : ("bool" : String) = "int" ∨ ("bool" : String) = "str" ∨ ("bool" : String) = "list" ∨ ("bool" : String) = "tuple" ∨ ("bool" : String) = "bool" := by decide
    have ci : ("int" : String) = "int" ∨ ("int" : String) = "str" ∨ ("int" : String) = "list" ∨ ("int" : String) = "tuple" ∨ ("int" : String) = "bool" := by decide
    have cs' : ("str" : String) = "int" ∨ ("str" : String) = "str" ∨ ("str" : String) = "list" ∨ ("str" : String) = "tuple" ∨ ("str" : String) = "bool" := by decide
    dsimp only [tSeq]
    refine or_of (x := decide (t = "tuple")) (y := decide (t = "list")) (fun Q q => ⟨_, rfl, _, _, _, _, _, rfl, .ty "tuple", ty.1, kit_ty (kb ty.2 ct), _, rfl, q⟩) (fun Q q => ⟨_, rfl, _, _, _, _, _, rfl, .ty "list", ty.1, kit_ty (kb ty.2 cl), _, rfl, q⟩) ?_
    rcases cs with ⟨rfl, sc, nt, nl⟩ | ⟨htl, a, b, xs, ys, rfl, rfl, hsq, hlen, h1000, he⟩
    · rw [decide_eq_false nt, decide_eq_false nl]
      refine iteF ?_
      refine ⟨_, rfl, _, _, _, _, _, rfl, .ty "bool", ty.1, kit_ty (kb ty.2 cb), _, rfl, _, _, _, _, _, rfl, .ty "bool", tx.1, kit_ty (kb tx.2 cb), rfl, _, rfl, ?_⟩
      rw [neS]
      refine iteF ?_
      dsimp only [tSeq, tNext]
      refine or_of (x := false) (y := false) (fun Q q => ⟨_, rfl, _, _, _, _, _, rfl, .ty "int", ty.1, kit_ty (kb ty.2 ci), _, rfl, _, _, _, _, _, rfl, .ty "int", tx.1, kit_ty (kb tx.2 ci), rfl, _, rfl, by rw [neS]; exact q⟩) (fun Q q => ⟨_, rfl, _, _, _, _, _, rfl, .ty "str", ty.1, kit_ty (kb ty.2 cs'), _, rfl, _, _, _, _, _, rfl, .ty "str", tx.1, kit_ty (kb tx.2 cs'), rfl, _, rfl, by rw [neS]; exact q⟩) (iteF ?_)
      refine ⟨_, rfl, _, rfl, sc, ?_⟩
      rw [decide_eq_true rfl]
      exact k
    · refine iteT' (by rcases htl with rfl | rfl <;> decide) ?_
      dsimp only [tSeq]
      refine or_of (x := false) (y := false) (fun Q q => ⟨_, rfl, _, _, _, _, _, rfl, .ty "tuple", ty.1, kit_ty (kb ty.2 ct), _, rfl, _, _, _, _, _, rfl, .ty "tuple", tx.1, kit_ty (kb tx.2 ct), rfl, _, rfl, by rw [neS]; exact q⟩) (fun Q q => ⟨_, rfl, _, _, _, _, _, rfl, .ty "list", ty.1, kit_ty (kb ty.2 cl), _, rfl, _, _, _, _, _, rfl, .ty "list", tx.1, kit_ty (kb tx.2 cl), rfl, _, rfl, by rw [neS]; exact q⟩) (iteF ?_)
      have la : SqL K H a xs ∨ SqT K H a xs := hsq.imp And.left And.left
      have lb : SqL K H b ys ∨ SqT K H b ys := hsq.imp And.right And.right
      refine ⟨_, rfl, a, xs, rfl, la, _, rfl, b, ys, rfl, lb, rfl, _, rfl, ?_⟩
      rw [hlen]
      refine ifNF rfl ?_
      refine ⟨_, rfl, b, ys, rfl, lb, _, rfl, by omega, by omega, for_range (lo := 0) (n := ys.length)
        (fun i σ H' => ∃ x2 : Option V, σ = [some (.ref a), some (.ref b), x2] ∧ H' = H) ?_ ?_ ?_⟩
      · exact ⟨none, rfl, rfl⟩
      · rintro i σ H1 hi ⟨x2, rfl, rfl⟩
        have hu : xs[i]? = some (xs[i]'(by omega)) := List.getElem?_eq_getElem (by omega)
        have hv : ys[i]? = some ys[i] := List.getElem?_eq_getElem hi
        have e : (0 : Int) + ((i : Nat) : Int) = ((i : Nat) : Int) := by omega
        rcases hsq with ⟨qa, qb⟩ | ⟨qa, qb⟩
        · refine ⟨_, rfl, _, rfl, .inl ⟨a, xs, _, _, rfl, rfl, qa, at_of e hu, _, rfl, _, rfl, .inl ⟨b, ys, _, _, rfl, rfl, qb, at_of e hv, _, _, rfl, he i _ _ hu hv, ?_⟩⟩⟩
          exact ⟨_, rfl, iteF ⟨_, rfl, rfl⟩⟩
        · refine ⟨_, rfl, _, rfl, .inr (.inl ⟨a, xs, _, _, rfl, rfl, qa, at_of e hu, _, rfl, _, rfl, .inr (.inl ⟨b, ys, _, _, rfl, rfl, qb, at_of e hv, _, _, rfl, he i _ _ hu hv, ?_⟩)⟩)⟩
          exact ⟨_, rfl, iteF ⟨_, rfl, rfl⟩⟩
      · rintro σ H1 ⟨x2, rfl, rfl⟩
        exact k
theorem ok_same {f : Addr} {fd : FuncData} (F : Fun K "_law_same" "_law_same" sSame f fd) (T : Txt P K mg C fI cc cda) (LS : Cal K mg "_law_same" f fd ["actual", "due"]) : ∀ n, FnOk P w K mg base CX0 (1 + n) f fd ["actual", "due"] (spSame n)
  | 0 => same_zero
  | n + 1 => ok_same_one F T LS (ok_same F T LS n)
end
end K0
namespace K0
open PySem PySem.Spec L2 RX TL
section
variable {P : Program} {w : World} {K : PySem.W.Frag} {mg : Str → Option Value} {base : Heap} {C fI cc cda : Addr}
theorem same_zeroH {f : Addr} {fd : FuncData} : L2H.FnH P w K mg base CX0 1 f fd ["actual", "due"] (spSame 0) := by
  have no : ∀ vs H Q E, ¬ spSame 0 vs H Q E := fun vs H Q E h => by
    obtain ⟨x, y, _, h, _⟩ := h
    exact h
  exact ⟨fun vs H Q E h => absurd h (no vs H Q E), fun A outer s H args us vs Q E p _ _ _ _ _ _ h => absurd h (no vs H Q E)⟩
theorem ok_same_oneH {n : Nat} {f : Addr} {fd : FuncData} (F : Fun K "_law_same" "_law_same" sSame f fd) (T : Txt P K mg C fI cc cda) (LS : Cal K mg "_law_same" f fd ["actual", "due"])
    (GS : L2H.FnH P w K mg base CX0 (1 + n) f fd ["actual", "due"] (spSame n)) : L2H.FnH P w K mg base CX0 (1 + (n + 1)) f fd ["actual", "due"] (spSame (n + 1)) := by
  refine okH F scS (fun vs H Q E h => ?_) (fun cdv A outer s H vs Q E p hot hr h => ?_)
  · obtain ⟨x, y, rfl, _⟩ := h
    rfl
  · obtain ⟨x, y, rfl, hxy, k⟩ := h
    have hc : L2H.HotC (L2H.cxH CX0 P w K mg base ["actual", "due", "k"] "_law_same" (defScope sSame) f cdv A outer s H E p) := ⟨p, hot, List.mem_cons_self ..⟩
    refine ⟨_, (pss_cons (ps_if (PW.pt (pw_or (pt_val (pe_callB call_isi rfl T.zisi boot_isi (pa_cons (pv 1) (pa_cons (pe_bltn (v := .ty "tuple") rfl T.ztuple boot_tuple0 rfl) pa_nil)))) (pw_or1 (pt_val (pe_callB call_isi rfl T.zisi boot_isi (pa_cons (pv 1) (pa_cons (pe_bltn (v := .ty "list") rfl T.zlist boot_list0 rfl) pa_nil)))))))
 (pss_cons (ps_if (PW.pt (pw_or (pt_cmpR op_ne (pe_callB call_isi rfl T.zisi boot_isi (pa_cons (pv 1) (pa_cons (pe_bltn (v := .ty "tuple") rfl T.ztuple boot_tuple0 rfl) pa_nil))) (pe_callB call_isi rfl T.zisi boot_isi (pa_cons (pv 0) (pa_cons (pe_bltn (v := .ty "tuple") rfl T.ztuple boot_tuple0 rfl) pa_nil))) (nomark _)) (pw_or1 (pt_cmpR op_ne (pe_callB call_isi rfl T.zisi boot_isi (pa_cons (pv 1) (pa_cons (pe_bltn (v := .ty "list") rfl T.zlist boot_list0 rfl) pa_nil))) (pe_callB call_isi rfl T.zisi boot_isi (pa_cons (pv 0) (pa_cons (pe_bltn (v := .ty "list") rfl T.zlist boot_list0 rfl) pa_nil))) (nomark _)))))
 (pss_one (ps_ret pe_bl))
 pss_nil)
 (pss_cons (ps_if (pt_cmpR op_ne (pe_callB call_len_seq rfl T.zlen PySem.boot_len (pa_cons (pv 0) pa_nil)) (pe_callB call_len_seq rfl T.zlen PySem.boot_len (pa_cons (pv 1) pa_nil)) (nomark _))
 (pss_one (ps_ret pe_bl))
 pss_nil)
 (pss_cons (L2H.ps_forH (passes_of rfl) hc (L2H.pi_range1H rfl T.zrng (pa_cons (pe_callB call_len_seq rfl T.zlen PySem.boot_len (pa_cons (pv 1) pa_nil)) pa_nil)) (pg_name (i := 2) scS.nd rfl (Or.inl rfl))
 (pss_one (ps_if (pt_not (pt_val (L2H.pe_callH GS hr hc rfl LS.g LS.k LS.b pass0H (pa_cons (pe_ix ix_seq (pv 0) (pv 2) (fun _ _ => rfl)) (pa_cons (pe_ix ix_seq (pv 1) (pv 2) (fun _ _ => rfl)) pa_nil)))))
 (pss_one (ps_ret pe_bl))
 pss_nil)))
 (pss_one (ps_ret pe_bl)))))
 pss_nil)
 (pss_cons (ps_if (pt_cmpR op_ne (pe_callB call_isi rfl T.zisi boot_isi (pa_cons (pv 1) (pa_cons (pe_bltn (v := .ty "bool") rfl T.zbool boot_bool0 rfl) pa_nil))) (pe_callB call_isi rfl T.zisi boot_isi (pa_cons (pv 0) (pa_cons (pe_bltn (v := .ty "bool") rfl T.zbool boot_bool0 rfl) pa_nil))) (nomark _))
 (pss_one (ps_ret pe_bl))
 pss_nil)
 (pss_cons (ps_if (PW.pt (pw_or (pt_cmpR op_ne (pe_callB call_isi rfl T.zisi boot_isi (pa_cons (pv 1) (pa_cons (pe_bltn (v := .ty "int") rfl T.zint boot_int0 rfl) pa_nil))) (pe_callB call_isi rfl T.zisi boot_isi (pa_cons (pv 0) (pa_cons (pe_bltn (v := .ty "int") rfl T.zint boot_int0 rfl) pa_nil))) (nomark _)) (pw_or1 (pt_cmpR op_ne (pe_callB call_isi rfl T.zisi boot_isi (pa_cons (pv 1) (pa_cons (pe_bltn (v := .ty "str") rfl T.zstr boot_str0 rfl) pa_nil))) (pe_callB call_isi rfl T.zisi boot_isi (pa_cons (pv 0) (pa_cons (pe_bltn (v := .ty "str") rfl T.zstr boot_str0 rfl) pa_nil))) (nomark _)))))
 (pss_one (ps_ret pe_bl))
 pss_nil)
 (pss_one (ps_ret (pe_cmpR op_eq (pv 0) (pv 1) (nomark _))))))), ?_⟩
    have tagged : ∃ t, Tg K H t x ∧ Tg K H t y ∧ ((x = y ∧ scal x y = true ∧ t ≠ "tuple" ∧ t ≠ "list") ∨ ((t = "tuple" ∨ t = "list") ∧ ∃ (a b : Addr) (xs ys : List V), x = .ref a ∧ y = .ref b ∧ ((SqL K H a xs ∧ SqL K H b ys) ∨ (SqT K H a xs ∧ SqT K H b ys)) ∧ xs.length = ys.length ∧ ys.length ≤ 1000 ∧ ∀ (i : Nat) (u v : V), xs[i]? = some u → ys[i]? = some v → Eqv H n u v)) := by
      rcases hxy with ⟨i, rfl, rfl⟩ | ⟨z, rfl, rfl⟩ | ⟨a, b, xs, ys, rfl, rfl, hs, hl, h1, he⟩
      · exact ⟨"int", ⟨.base (.int i), .inl rfl⟩, ⟨.base (.int i), .inl rfl⟩, .inl ⟨rfl, rfl, by decide, by decide⟩⟩
      · exact ⟨"str", ⟨.base (.str z), .inr (.inl rfl)⟩, ⟨.base (.str z), .inr (.inl rfl)⟩, .inl ⟨rfl, rfl, by decide, by decide⟩⟩
      · rcases hs with ⟨ha, hb⟩ | ⟨ha, hb⟩
        · exact ⟨"list", ⟨.base (.lst ha), .inr (.inr (.inl rfl))⟩, ⟨.base (.lst hb), .inr (.inr (.inl rfl))⟩, .inr ⟨.inr rfl, a, b, xs, ys, rfl, rfl, .inl ⟨SqL.of ha, SqL.of hb⟩, hl, h1, he⟩⟩
        · exact ⟨"tuple", ⟨.base (.tup ha), .inr (.inr (.inr rfl))⟩, ⟨.base (.tup hb), .inr (.inr (.inr rfl))⟩, .inr ⟨.inl rfl, a, b, xs, ys, rfl, rfl, .inr ⟨SqT.of ha, SqT.of hb⟩, hl, h1, he⟩⟩
    obtain ⟨t, tx, ty, cs⟩ := tagged
    have ct : ("tuple" : String) = "int" ∨ ("tuple" : String) = "str" ∨ ("tuple" : String) = "list" ∨ ("tuple" : String) = "tuple" ∨ ("tuple" : String) = "bool" := by decide
    have cl : ("list" : String) = "int" ∨ ("list" : String) = "str" ∨ ("list" : String) = "list" ∨ ("list" : String) = "tuple" ∨ ("list" : String) = "bool" := by decide
    have cb : ("bool" : String) = "int" ∨ ("bool" : String) = "str" ∨ ("bool" : String) = "list" ∨ ("bool" : String) = "tuple" ∨ ("bool" : String) = "bool" := by decide
    have ci : ("int" : String) = "int" ∨ ("int" : String) = "str" ∨ ("int" : String) = "list" ∨ ("int" : String) = "tuple" ∨ ("int" : String) = "bool" := by decide
    have cs' : ("str" : String) = "int" ∨ ("str" : String) = "str" ∨ ("str" : String) = "list" ∨ ("str" : String) = "tuple" ∨ ("str" : String) = "bool" := by decide
    dsimp only [tSeq]
    refine or_of (x := decide (t = "tuple")) (y := decide (t = "list")) (fun Q q => ⟨_, rfl, _, _, _, _, _, rfl, .ty "tuple", ty.1, kit_ty (kb ty.2 ct), _, rfl, q⟩) (fun Q q => ⟨_, rfl, _, _, _, _, _, rfl, .ty "list", ty.1, kit_ty (kb ty.2 cl), _, rfl, q⟩) ?_
    rcases cs with ⟨rfl, sc, nt, nl⟩ | ⟨htl, a, b, xs, ys, rfl, rfl, hsq, hlen, h1000, he⟩
    · rw [decide_eq_false nt, decide_eq_false nl]
      refine iteF ?_
      refine ⟨_, rfl, _, _, _, _, _, rfl, .ty "bool", ty.1, kit_ty (kb ty.2 cb), _, rfl, _, _, _, _, _, rfl, .ty "bool", tx.1, kit_ty (kb tx.2 cb), rfl, _, rfl, ?_⟩
      rw [neS]
      refine iteF ?_
      dsimp only [tSeq, tNext]
      refine or_of (x := false) (y := false) (fun Q q => ⟨_, rfl, _, _, _, _, _, rfl, .ty "int", ty.1, kit_ty (kb ty.2 ci), _, rfl, _, _, _, _, _, rfl, .ty "int", tx.1, kit_ty (kb tx.2 ci), rfl, _, rfl, by rw [neS]; exact q⟩) (fun Q q => ⟨_, rfl, _, _, _, _, _, rfl, .ty "str", ty.1, kit_ty (kb ty.2 cs'), _, rfl, _, _, _, _, _, rfl, .ty "str", tx.1, kit_ty (kb tx.2 cs'), rfl, _, rfl, by rw [neS]; exact q⟩) (iteF ?_)
      refine ⟨_, rfl, _, rfl, sc, ?_⟩
      rw [decide_eq_true rfl]
      exact k
    · refine iteT' (by rcases htl with rfl | rfl <;> decide) ?_
      dsimp only [tSeq]
      refine or_of (x := false) (y := false) (fun Q q => ⟨_, rfl, _, _, _, _, _, rfl, .ty "tuple", ty.1, kit_ty (kb ty.2 ct), _, rfl, _, _, _, _, _, rfl, .ty "tuple", tx.1, kit_ty (kb tx.2 ct), rfl, _, rfl, by rw [neS]; exact q⟩) (fun Q q => ⟨_, rfl, _, _, _, _, _, rfl, .ty "list", ty.1, kit_ty (kb ty.2 cl), _, rfl, _, _, _, _, _, rfl, .ty "list", tx.1, kit_ty (kb tx.2 cl), rfl, _, rfl, by rw [neS]; exact q⟩) (iteF ?_)
      have la : SqL K H a xs ∨ SqT K H a xs := hsq.imp And.left And.left
      have lb : SqL K H b ys ∨ SqT K H b ys := hsq.imp And.right And.right
      refine ⟨_, rfl, a, xs, rfl, la, _, rfl, b, ys, rfl, lb, rfl, _, rfl, ?_⟩
      rw [hlen]
      refine ifNF rfl ?_
      refine ⟨_, rfl, b, ys, rfl, lb, _, rfl, by omega, by omega, for_range (lo := 0) (n := ys.length)
        (fun i σ H' => ∃ x2 : Option V, σ = [some (.ref a), some (.ref b), x2] ∧ H' = H) ?_ ?_ ?_⟩
      · exact ⟨none, rfl, rfl⟩
      · rintro i σ H1 hi ⟨x2, rfl, rfl⟩
        have hu : xs[i]? = some (xs[i]'(by omega)) := List.getElem?_eq_getElem (by omega)
        have hv : ys[i]? = some ys[i] := List.getElem?_eq_getElem hi
        have e : (0 : Int) + ((i : Nat) : Int) = ((i : Nat) : Int) := by omega
        rcases hsq with ⟨qa, qb⟩ | ⟨qa, qb⟩
        · refine ⟨_, rfl, _, rfl, .inl ⟨a, xs, _, _, rfl, rfl, qa, at_of e hu, _, rfl, _, rfl, .inl ⟨b, ys, _, _, rfl, rfl, qb, at_of e hv, _, _, rfl, he i _ _ hu hv, ?_⟩⟩⟩
          exact ⟨_, rfl, iteF ⟨_, rfl, rfl⟩⟩
        · refine ⟨_, rfl, _, rfl, .inr (.inl ⟨a, xs, _, _, rfl, rfl, qa, at_of e hu, _, rfl, _, rfl, .inr (.inl ⟨b, ys, _, _, rfl, rfl, qb, at_of e hv, _, _, rfl, he i _ _ hu hv, ?_⟩)⟩)⟩
          exact ⟨_, rfl, iteF ⟨_, rfl, rfl⟩⟩
      · rintro σ H1 ⟨x2, rfl, rfl⟩
        exact k
theorem ok_sameH {f : Addr} {fd : FuncData} (F : Fun K "_law_same" "_law_same" sSame f fd) (T : Txt P K mg C fI cc cda) (LS : Cal K mg "_law_same" f fd ["actual", "due"]) : ∀ n, L2H.FnH P w K mg base CX0 (1 + n) f fd ["actual", "due"] (spSame n)
  | 0 => same_zeroH
  | n + 1 => ok_same_oneH F T LS (ok_sameH F T LS n)
end
end K0
namespace K0
open PySem PySem.Spec L2 RX TL
abbrev Pc := Str × List Nat
def PcAt (H : Hp) (v : V) (x : Pc) : Prop := ∃ a, v = .ref a ∧ H a = some (.lst [.str x.1, .str (mk x.2)])
inductive Pcs (H : Hp) : List V → List Pc → Prop
  | nil : Pcs H [] []
  | cons {v : V} {vs : List V} {e : Pc} {es : List Pc} (h : PcAt H v e) (r : Pcs H vs es) : Pcs H (v :: vs) (e :: es)
theorem Pcs.app {H : Hp} {us vs : List V} {es fs : List Pc} (h : Pcs H us es) (k : Pcs H vs fs) : Pcs H (us ++ vs) (es ++ fs) := by
  induction h with
  | nil => exact k
  | cons h r ih => exact .cons h ih
theorem Pcs.imp {H H' : Hp} (f : ∀ v x, PcAt H v x → PcAt H' v x) : ∀ {us : List V} {es : List Pc}, Pcs H us es → Pcs H' us es
  | _, _, .nil => .nil
  | _, _, .cons h r => .cons (f _ _ h) (Pcs.imp f r)
theorem Pcs.take {H : Hp} : ∀ {us : List V} {es : List Pc} (n : Nat), Pcs H us es → Pcs H (us.take n) (es.take n)
  | _, _, 0, _ => .nil
  | _, _, n + 1, .nil => .nil
  | _, _, n + 1, .cons h r => .cons h (Pcs.take n r)
theorem Pcs.drop {H : Hp} : ∀ {us : List V} {es : List Pc} (n : Nat), Pcs H us es → Pcs H (us.drop n) (es.drop n)
  | _, _, 0, h => h
  | _, _, n + 1, .nil => .nil
  | _, _, n + 1, .cons h r => Pcs.drop n r
theorem Pcs.len {H : Hp} : ∀ {us : List V} {es : List Pc}, Pcs H us es → us.length = es.length
  | _, _, .nil => rfl
  | _, _, .cons h r => by rw [List.length_cons, List.length_cons, Pcs.len r]
theorem Pcs.at {H : Hp} : ∀ {us : List V} {es : List Pc} {i : Nat}, Pcs H us es → i < es.length → ∃ v x, us[i]? = some v ∧ es[i]? = some x ∧ PcAt H v x
  | _, _, i, .nil, h => by simp at h
  | _, _, 0, .cons h r, _ => ⟨_, _, rfl, rfl, h⟩
  | _, _, i + 1, .cons h r, q => by
    obtain ⟨v, x, a, b, c⟩ := Pcs.at (i := i) r (by simpa using q)
    exact ⟨v, x, by simpa using a, by simpa using b, c⟩
theorem PcAt.same {H H' : Hp} {v : V} {x : Pc} (s : Same H H') (h : PcAt H v x) : PcAt H' v x := by
  obtain ⟨a, rfl, h⟩ := h
  exact ⟨a, rfl, s _ _ h⟩
theorem PcAt.but {p : Addr} {H H' : Hp} {v : V} {x : Pc} (s : But p H H') (d : DrAt H p) (h : PcAt H v x) : PcAt H' v x := by
  obtain ⟨a, rfl, h⟩ := h
  exact ⟨a, rfl, s _ _ (d.neS h) h⟩
/-- a list of references at q is changed -/
theorem PcAt.upd {q : Addr} {H : Hp} {v : V} {x : Pc} {us : List V} {o : HO} (hq : H q = some (.lst us)) (hr : ∀ u ∈ us, ∃ b, u = .ref b) (h : PcAt H v x) : PcAt (upd H q o) v x := by
  obtain ⟨a, rfl, h⟩ := h
  refine ⟨a, rfl, ?_⟩
  rw [upd_ne ?_]
  · exact h
  · rintro rfl
    rw [h] at hq
    cases hq
    obtain ⟨b, e⟩ := hr _ (List.mem_cons_self ..)
    cases e
theorem Pcs.refs {H : Hp} : ∀ {us : List V} {es : List Pc}, Pcs H us es → ∀ u ∈ us, ∃ b, u = .ref b
  | _, _, .nil, _, h => by cases h
  | _, _, .cons h r, u, q => by
    rcases List.mem_cons.mp q with rfl | q
    · obtain ⟨a, e, _⟩ := h
      exact ⟨a, e⟩
    · exact Pcs.refs r u q
theorem Its.refs {H : Hp} : ∀ {us : List V} {es : List Item}, Its H us es → ∀ u ∈ us, ∃ b, u = .ref b
  | _, _, .nil, _, h => by cases h
  | _, _, .cons h r, u, q => by
    rcases List.mem_cons.mp q with rfl | q
    · obtain ⟨a, e, _⟩ := h
      exact ⟨a, e⟩
    · exact Its.refs r u q
theorem Its.at {H : Hp} : ∀ {us : List V} {es : List Item} {i : Nat} {v : V}, Its H us es → us[i]? = some v → ∃ x, es[i]? = some x ∧ ItAt H v x
  | _, _, i, v, .nil, h => by simp at h
  | _, _, 0, v, .cons h r, q => by
    simp at q
    subst q
    exact ⟨_, rfl, h⟩
  | _, _, i + 1, v, .cons h r, q => by
    obtain ⟨x, b, c⟩ := Its.at (i := i) (v := v) r (by simpa using q)
    exact ⟨x, by simpa using b, c⟩
theorem eqv_scal {H : Hp} {x : V} (h : (∃ i, x = .int i) ∨ (∃ z, x = .str z)) : Eqv H 1 x x := by
  rcases h with ⟨i, rfl⟩ | ⟨z, rfl⟩
  · exact .inl ⟨i, rfl, rfl⟩
  · exact .inr (.inl ⟨z, rfl, rfl⟩)
theorem eqv_scals {H : Hp} {xs : List V} (h : ∀ x ∈ xs, (∃ i, x = .int i) ∨ (∃ z, x = .str z)) : ∀ (i : Nat) (u v : V), xs[i]? = some u → xs[i]? = some v → Eqv H 1 u v := fun i u v hu hv => by
  rw [hu] at hv
  cases hv
  exact eqv_scal (h _ (List.mem_of_getElem? hu))
theorem Eqv.up {H : Hp} : ∀ {n : Nat} {x y : V}, Eqv H n x y → Eqv H (n + 1) x y
  | 0, _, _, h => h.elim
  | n + 1, x, y, h => by
    rcases h with h | h | ⟨a, b, xs, ys, h1, h2, h3, h4, h5, h6⟩
    · exact .inl h
    · exact .inr (.inl h)
    · exact .inr (.inr ⟨a, b, xs, ys, h1, h2, h3, h4, h5, fun i u v hu hv => Eqv.up (h6 i u v hu hv)⟩)
theorem its_eqv {H : Hp} {a b : Addr} {us vs : List V} {is : List Item} (ha : H a = some (.lst us)) (hb : H b = some (.lst vs)) (h1 : Its H us is) (h2 : Its H vs is) (hl : is.length ≤ 1000) : Eqv H 3 (.ref a) (.ref b) := by
  refine .inr (.inr ⟨a, b, us, vs, rfl, rfl, .inl ⟨ha, hb⟩, h1.len.trans h2.len.symm, by rw [h2.len]; exact hl, fun i u v hu hv => ?_⟩)
  obtain ⟨x, hx, c, rfl, hc⟩ := h1.at hu
  obtain ⟨y, hy, d, rfl, hd⟩ := h2.at hv
  rw [hx] at hy
  cases hy
  refine .inr (.inr ⟨c, d, _, _, rfl, rfl, .inr ⟨hc, hd⟩, rfl, by show 3 ≤ 1000; decide, eqv_scals fun z hz => ?_⟩)
  simp only [List.mem_cons, List.not_mem_nil, or_false] at hz
  rcases hz with rfl | rfl | rfl
  · exact .inr ⟨_, rfl⟩
  · exact .inr ⟨_, rfl⟩
  · exact .inl ⟨_, rfl⟩
theorem sp_mul : ∀ s : Nat, s ≤ 3 → MulOk " " (s : Int) ∧ Txt.mul " " (s : Int) = mk (List.replicate s 32)
  | 0, _ => ⟨⟨by decide +kernel, fun h => absurd (show (0 : Int) < 1 by decide) h, fun h => absurd (show (0 : Int) < 1 by decide) h⟩, by decide +kernel⟩
  | 1, _ => ⟨⟨by decide +kernel, fun _ _ => by decide +kernel, fun _ _ => by decide +kernel⟩, by decide +kernel⟩
  | 2, _ => ⟨⟨by decide +kernel, fun _ _ => by decide +kernel, fun _ _ => by decide +kernel⟩, by decide +kernel⟩
  | 3, _ => ⟨⟨by decide +kernel, fun _ _ => by decide +kernel, fun _ _ => by decide +kernel⟩, by decide +kernel⟩
  | n + 4, h => by omega
theorem cutV_take {us : List V} {n : Nat} (h : n ≤ us.length) : cutV us none (some (n : Int)) = us.take n := by
  unfold cutV
  rw [HT.sIx_nat, HT.sIx_none, Nat.min_eq_left h]
  rfl
theorem cutV_drop {us : List V} {n : Nat} (h : n ≤ us.length) : cutV us (some (n : Int)) none = us.drop n := by
  unfold cutV
  rw [HT.sIx_nat, HT.sIx_none, Nat.min_eq_left h, List.take_of_length_le (by rw [List.length_drop]; omega)]
theorem at0 {x : V} {xs : List V} : atI (x :: xs) 0 = some x := atI_nat (j := 0) rfl
theorem at1 {x y : V} {xs : List V} : atI (x :: y :: xs) 1 = some y := atI_nat (j := 1) rfl
theorem lk_reason {m c : Nat} {z : Str} : (txF m c z).lookup ("reason" : Str) = some (V.str z) := by
  unfold txF
  rw [List.lookup_cons, show (("reason" : Str) == "reason") = true by decide +kernel]
theorem lk_column {m c : Nat} {z : Str} : (txF m c z).lookup ("column" : Str) = some (V.int c) := by
  unfold txF
  rw [List.lookup_cons, show (("column" : Str) == "reason") = false by decide +kernel]
  dsimp only
  rw [List.lookup_cons, show (("column" : Str) == "column") = true by decide +kernel]
theorem lk_line {m c : Nat} {z : Str} : (txF m c z).lookup ("line" : Str) = some (V.int m) := by
  unfold txF
  rw [List.lookup_cons, show (("line" : Str) == "reason") = false by decide +kernel]
  dsimp only
  rw [List.lookup_cons, show (("line" : Str) == "column") = false by decide +kernel]
  dsimp only
  rw [List.lookup_cons, show (("line" : Str) == "line") = true by decide +kernel]
theorem rest_first {c : TT} {A B : TS} {D : Ends} {σ : St} {H : Hp} (I : St → Hp → Prop) (h1 : ∀ σ' H', I σ' H' → D.nx σ' H') (h2 : (∀ σ' H', I σ' H' → D.nx σ' H') → tIfS c A B D σ H) : tIfS c A B D σ H := h2 h1
theorem Good.len {k : Str} {w : List Nat} (G : Good k w) : w.length ≤ 13 := by
  cases G with
  | word h n a => omega
  | num h a n =>
    unfold numB at n
    have := of_decide_eq_true (Bool.and_eq_true_iff.mp n).1
    omega
  | sign h =>
    simp only [signs, List.mem_cons, List.not_mem_nil, or_false] at h
    rcases h with rfl | rfl | rfl | rfl | rfl | rfl | rfl | rfl | rfl | rfl | rfl | rfl <;> decide
/-- what the pieces are: all in order, or one not -/
def Plan (n : Int) (pcs : List Pc) : Prop := (n = -1 ∧ ∀ (i : Nat) (x : Pc), pcs[i]? = some x → Good x.1 x.2) ∨ (∃ (m : Nat) (x : Pc), n = (m : Int) ∧ pcs[m]? = some x ∧ Bad x.1 x.2 ∧ x.2.length ≤ 13 ∧ ∀ (i : Nat) (y : Pc), i ≠ m → pcs[i]? = some y → Good y.1 y.2)
theorem Plan.len {n : Int} {pcs : List Pc} (h : Plan n pcs) {i : Nat} {x : Pc} (hx : pcs[i]? = some x) : x.2.length ≤ 13 := by
  rcases h with ⟨_, h⟩ | ⟨m, y, _, hy, _, hl, h⟩
  · exact (h i x hx).len
  · by_cases e : i = m
    · subst e
      rw [hx] at hy
      cases hy
      exact hl
    · exact (h i x e hx).len
/-- how far a line is -/
def Far (n : Int) (i : Nat) (items : List Item) (X bf : List Nat) (bd : Int) (pcs : List Pc) : Prop :=
  ((n = -1 ∨ (i : Int) ≤ n) ∧ Pre items X bf) ∨
  (∃ (m : Nat) (x : Pc) (is0 : List Item) (X0 b0 : List Nat) (s : Nat) (rest : List Nat), n = (m : Int) ∧ m < i ∧ pcs[m]? = some x ∧ Bad x.1 x.2 ∧ Pre is0 X0 b0 ∧ X = X0 ++ (List.replicate s 32 ++ (x.2 ++ rest)) ∧ (s = 0 → growsB b0 x.2 = false) ∧ growsB x.2 rest = false ∧ (rest = [] → bf = x.2) ∧ bd = ((X0.length + s + 1 : Nat) : Int))
theorem Far.step {n : Int} {i : Nat} {items : List Item} {X bf : List Nat} {bd bd' : Int} {pcs : List Pc} {x : Pc} {s : Nat} (h : Far n i items X bf bd pcs) (pl : Plan n pcs) (hx : pcs[i]? = some x) (hs : s = 0 → growsB bf x.2 = false)
    (h1 : (i : Int) = n → bd' = ((X.length + s + 1 : Nat) : Int)) (h2 : (i : Int) ≠ n → bd' = bd) : Far n (i + 1) (items ++ [(x.1, x.2, X.length + s + 1)]) (X ++ (List.replicate s 32 ++ x.2)) x.2 bd' pcs := by
  rcases h with ⟨hn, hp⟩ | ⟨m, y, is0, X0, b0, s0, rest, hn, hm, hy, B, hp, hX, hs0, hg, hr, hb⟩
  · by_cases hi : (i : Int) = n
    · -- the bad one
      rcases pl with ⟨e, _⟩ | ⟨m, y, e, hy, B, _, _⟩
      · omega
      · obtain rfl : i = m := by omega
        rw [hx] at hy
        cases hy
        refine .inr ⟨i, x, items, X, bf, s, [], e, by omega, hx, B, hp, by rw [List.append_nil], hs, ?_, fun _ => rfl, h1 hi⟩
        unfold growsB
        cases x.2.getLast? <;> rfl
    · refine .inl ⟨by omega, .snoc hp ?_ hs⟩
      rcases pl with ⟨_, h⟩ | ⟨m, y, e, hy, B, _, h⟩
      · exact h i x hx
      · exact h i x (by omega) hx
  · have hx' : x.2 ≠ [] := by
      rcases pl with ⟨e, h⟩ | ⟨m', y', e, hy', B', _, h⟩
      · exact (h i x hx).ne
      · by_cases q : i = m'
        · subst q
          rw [hx] at hy'
          cases hy'
          exact B'.ne
        · exact (h i x q hx).ne
    refine .inr ⟨m, y, is0, X0, b0, s0, rest ++ (List.replicate s 32 ++ x.2), hn, by omega, hy, B, hp, by rw [hX]; simp only [List.append_assoc], hs0, ?_, fun z => ?_, by rw [h2 (by omega)]; exact hb⟩
    · by_cases e : rest = []
      · subst e
        rw [List.nil_append]
        rw [hr rfl] at hs
        by_cases h0 : s = 0
        · subst h0
          exact hs rfl
        · exact grows_sp (by omega)
      · rw [grows_app e]
        exact hg
    · exfalso
      have := congrArg List.length z
      simp only [List.length_append, List.length_nil] at this
      exact hx' (List.length_eq_zero_iff.mp (by omega))
end K0
namespace K0
open PySem PySem.Spec L2 RX TL
def NL : List Str := ["script", "draws", "pieces", "k", "number", "at", "line", "due", "bad", "before", "spaces", "e"]
theorem scL : FnScope ["script", "draws", "pieces", "k", "number", "at", "line", "due", "bad", "before", "spaces", "e"] ["script"] (defScope sLaw) := ⟨rfl, rfl, rfl, by decide +kernel, rfl, by decide +kernel, by decide +kernel⟩
def spLaw (K : PySem.W.Frag) : Sp := fun vs H Q _ => ∃ (a : Addr) (ns : List Int), vs = [.ref a] ∧ SqL K H a (ns.map V.int) ∧ ns.length ≤ 63 ∧ ∀ H', Q (.bl true) H'
theorem takes0N {X : Cx} : L2N.Takes X (fun _ _ _ _ => False) := fun _ _ h => by
  obtain ⟨_, _, _, _, _, _, _, _, _, _, _, _, _, _, _, _, q⟩ := h
  exact q.elim
section
variable {P : Program} {w : World} {K : PySem.W.Frag} {mg : Str → Option Value} {base : Heap} {C fI cc cda : Addr}
theorem ok_law {f fD fK fP fB fG fS fT : Addr} {fd fdD fdK fdP fdB fdG fdS fdT : FuncData} (F : Fun K "law" "law" sLaw f fd) (T : Txt P K mg C fI cc cda)
    (GD : FnOk P w K mg base CX0 1 fD fdD ["script"] (spDraws K)) (LD : Cal K mg "_law_draws" fD fdD ["script"])
    (GK : FnOk P w K mg base CX0 1 fK fdK ["draws", "bound"] spTake) (LK : Cal K mg "_law_take" fK fdK ["draws", "bound"])
    (GP : FnOk P w K mg base CX0 2 fP fdP ["draws"] spPiece) (LP : Cal K mg "_law_piece" fP fdP ["draws"])
    (GB : FnOk P w K mg base CX0 2 fB fdB ["draws"] spBad) (LB : Cal K mg "_law_bad" fB fdB ["draws"])
    (GG : FnOk P w K mg base CX0 1 fG fdG ["left", "right"] spGrows) (LG : Cal K mg "_law_grows" fG fdG ["left", "right"])
    (GS : FnOk P w K mg base CX0 4 fS fdS ["actual", "due"] (spSame 3)) (LS : Cal K mg "_law_same" fS fdS ["actual", "due"])
    (GSH : L2H.FnH P w K mg base CX0 4 fS fdS ["actual", "due"] (spSame 3))
    (GT : FnOk P w K mg base (L2N.CX P w) 4 fT fdT ["line", "number"] (spTok C)) (LT : Cal K mg "tokens" fT fdT ["line", "number"]) :
    FnOk P w K mg base CX0 6 f fd ["script"] (spLaw K) := by
  refine F.ok scL (fun vs H Q E h => ?_) (fun cdv A outer s H vs Q E hr h => ?_)
  · obtain ⟨l, ns, rfl, _⟩ := h
    rfl
  · obtain ⟨l, ns, rfl, hl, h63, k⟩ := h
    have hr1 : Room 1 _ := hr.mono (by decide)
    have hr2 : Room 2 _ := hr.mono (by decide)
    have hr4 : Room 4 _ := hr.mono (by decide)
    refine ⟨_, (pss_cons (ps_set (i := 1) scL.nd rfl (Or.inr rfl) (pe_call GD hr1 rfl LD.g LD.k LD.b .nil pass0 (pa_cons (pv 0) pa_nil)))
 (pss_cons (ps_setLc (i := 2) (own := [("k", 3)]) (g := gName 3) (tt := tYes) rfl scL.nd rfl rfl (sw_true rfl rfl rfl (by decide +kernel)) (pi_range1 rfl T.zrng (pa_cons (pe_call GK hr1 rfl LK.g LK.k LK.b .nil pass0 (pa_cons (pv 1) (pa_cons pe_int pa_nil))) pa_nil))
          (blkOk_by (own := [("k", 3)]) (N := NL) (sc := defScope sLaw) (by decide +kernel)) (fun _ _ _ _ _ => pg_name (i := 3) scL.nd rfl (Or.inl rfl)) (fun _ _ _ _ _ => pts_nil)
          (fun _ _ _ _ _ => pe_call GP hr2 rfl LP.g LP.k LP.b .nil pass0 (pa_cons (pv 1) pa_nil)))
 (pss_cons (ps_set (i := 4) scL.nd rfl (Or.inl rfl) (pe_op op_add pe_int (pe_call GK hr1 rfl LK.g LK.k LK.b .nil pass0 (pa_cons (pv 1) (pa_cons pe_int pa_nil)))))
 (pss_cons (ps_set (i := 5) scL.nd rfl (Or.inl rfl) (pe_un un_neg pe_int))
 (pss_cons (ps_if (pt_cmpR op_eq (pe_call GK hr1 rfl LK.g LK.k LK.b .nil pass0 (pa_cons (pv 1) (pa_cons pe_int pa_nil))) pe_int (nomark _))
 (pss_cons (ps_set (i := 5) scL.nd rfl (Or.inl rfl) (pe_call GK hr1 rfl LK.g LK.k LK.b .nil pass0 (pa_cons (pv 1) (pa_cons (pe_op op_add (pe_callB call_len_seq rfl T.zlen PySem.boot_len (pa_cons (pv 2) pa_nil)) pe_int) pa_nil))))
 (pss_one (ps_set (i := 2) scL.nd rfl (Or.inl rfl) (pe_op op_cat (pe_op op_cat (pe_slice sl_list (pv 2) po_none (po_some (pv 5))) (pe_lst (pa_cons (pe_call GB hr2 rfl LB.g LB.k LB.b .nil pass0 (pa_cons (pv 1) pa_nil)) pa_nil))) (pe_slice sl_list (pv 2) (po_some (pv 5)) po_none)))))
 pss_nil)
 (pss_cons (ps_set (i := 6) scL.nd rfl (Or.inl rfl) (pe_op op_mul_str pe_str (pe_call GK hr1 rfl LK.g LK.k LK.b .nil pass0 (pa_cons (pv 1) (pa_cons pe_int pa_nil)))))
 (pss_cons (ps_set (i := 7) scL.nd rfl (Or.inl rfl) (pe_lst pa_nil))
 (pss_cons (ps_set (i := 8) scL.nd rfl (Or.inl rfl) pe_int)
 (pss_cons (ps_set (i := 9) scL.nd rfl (Or.inl rfl) pe_str)
 (pss_cons (ps_for PassesOwn.never rfl (pi_range1 rfl T.zrng (pa_cons (pe_callB call_len_seq rfl T.zlen PySem.boot_len (pa_cons (pv 2) pa_nil)) pa_nil)) (pg_name (i := 3) scL.nd rfl (Or.inl rfl))
 (pss_cons (ps_set (i := 10) scL.nd rfl (Or.inl rfl) (pe_call GK hr1 rfl LK.g LK.k LK.b .nil pass0 (pa_cons (pv 1) (pa_cons pe_int pa_nil))))
 (pss_cons (ps_if (PW.pt (pw_and (pt_cmpR op_eq (pv 10) pe_int (nomark _)) (pw_and1 (pt_val (pe_call GG hr1 rfl LG.g LG.k LG.b .nil pass0 (pa_cons (pv 9) (pa_cons (pe_ix ix_list (pe_ix ix_list (pv 2) (pv 3) (fun _ _ => rfl)) pe_int (fun _ _ => rfl)) pa_nil)))))))
 (pss_one (ps_set (i := 10) scL.nd rfl (Or.inl rfl) pe_int))
 pss_nil)
 (pss_cons (ps_set (i := 6) scL.nd rfl (Or.inl rfl) (pe_op op_add_str (pv 6) (pe_op op_mul_str pe_str (pv 10))))
 (pss_cons (ps_if (pt_cmpR op_eq (pv 3) (pv 5) (nomark _))
 (pss_one (ps_set (i := 8) scL.nd rfl (Or.inl rfl) (pe_op op_add (pe_callB call_len_str rfl T.zlen PySem.boot_len (pa_cons (pv 6) pa_nil)) pe_int)))
 pss_nil)
 (pss_cons (ps_expr (pe_bm PySem.F.plainAttrs_list PySem.F.slot_list_append PySem.F.type_list_append mt_append (pv 7) (pa_cons (pe_tup (pa_cons (pe_ix ix_list (pe_ix ix_list (pv 2) (pv 3) (fun _ _ => rfl)) pe_int (fun _ _ => rfl)) (pa_cons (pe_ix ix_list (pe_ix ix_list (pv 2) (pv 3) (fun _ _ => rfl)) pe_int (fun _ _ => rfl)) (pa_cons (pe_op op_add (pe_callB call_len_str rfl T.zlen PySem.boot_len (pa_cons (pv 6) pa_nil)) pe_int) pa_nil)))) pa_nil)))
 (pss_cons (ps_set (i := 6) scL.nd rfl (Or.inl rfl) (pe_op op_add_str (pv 6) (pe_ix ix_list (pe_ix ix_list (pv 2) (pv 3) (fun _ _ => rfl)) pe_int (fun _ _ => rfl))))
 (pss_one (ps_set (i := 9) scL.nd rfl (Or.inl rfl) (pe_ix ix_list (pe_ix ix_list (pv 2) (pv 3) (fun _ _ => rfl)) pe_int (fun _ _ => rfl)))))))))))
 (pss_cons (ps_set (i := 6) scL.nd rfl (Or.inl rfl) (pe_op op_add_str (pv 6) (pe_op op_mul_str pe_str (pe_call GK hr1 rfl LK.g LK.k LK.b .nil pass0 (pa_cons (pv 1) (pa_cons pe_int pa_nil))))))
 (pss_cons (ps_if (pt_cmpR op_lt (pv 5) pe_int (nomark _))
 (pss_one (ps_ret (pe_call GS hr4 rfl LS.g LS.k LS.b .nil pass0 (pa_cons (pe_call GT hr4 rfl LT.g LT.k LT.b .nil passLN (pa_cons (pv 6) (pa_cons (pv 4) pa_nil))) (pa_cons (pv 7) pa_nil)))))
 pss_nil)
 (pss_cons (L2N.ps_try_as (i := 11) (tb := fun W => tDrop (tCallS (spTok C) (WE W) (tCons (tVar 6) (tCons (tVar 4) tNil))))
      (ts := fun a cls d => tRet (tCallS (spSame 3) (fun _ => E0) (tCons (tLst (tCons (tXf a cls d C "line" (tVar 11)) (tCons (tXf a cls d C "column" (tVar 11)) (tCons (tXf a cls d C "reason" (tVar 11)) tNil)))) (tCons (tLst (tCons (tVar 4) (tCons (tVar 8) (tCons (tOp (rIxL K) (tOp (rIxL K) (tVar 2) (tVar 5)) (tC (.int 0))) tNil)))) tNil)))) (Wout := fun _ _ _ _ => False) rfl rfl scL.nd rfl rfl ⟨rfl, by decide, Or.inl T.gF⟩ takes0N
      (fun W pn xe tk _ => pss_one (ps_expr (by exact (pe_callS GT hr4 rfl LT.g LT.k LT.b (fun σ => L2N.passAt tk σ) (by exact (pa_cons (pv 6) (pa_cons (pv 4) pa_nil)))))))
      (fun a oe cls d pn hz hf => pss_one (ps_ret (by exact (L2H.pe_callH GSH (L2H.roomH_mark hr4 _) (hf.elim fun vs hd => ⟨(a, oe), ⟨rfl, vs, hd, hz.2.2 vs hd⟩, List.mem_cons_self ..⟩) rfl LS.g LS.k LS.b pass0H (pa_cons (pe_lst (pa_cons (pe_xf T.xf T.noL ⟨hz.1, hz.2.1⟩ hf (pv 11)) (pa_cons (pe_xf T.xf T.noC ⟨hz.1, hz.2.1⟩ hf (pv 11)) (pa_cons (pe_xf T.xf T.noR ⟨hz.1, hz.2.1⟩ hf (pv 11)) pa_nil)))) (pa_cons (pe_lst (pa_cons (pv 4) (pa_cons (pv 8) (pa_cons (pe_ix ix_list (pe_ix ix_list (pv 2) (pv 5) (fun _ _ => rfl)) pe_int (fun _ _ => rfl)) pa_nil)))) pa_nil)))))))
 (pss_one (ps_ret pe_bl))))))))))))))), ?_⟩
    refine ⟨_, rfl, l, ns, rfl, hl, h63, fun p H1 s1 np D1 => ?_⟩
    -- the pieces
    refine ⟨_, rfl, p, 9, rfl, D1, by decide, by decide, fun r1 H2 h10 h11 b2 D2 => ⟨r1, rfl, by omega, by omega, fun Dp hDp => lc_range (lo := 0) (n := r1.toNat)
      (fun i H' => ∃ (us : List V) (pcs : List Pc), DrAt H' p ∧ H' Dp = some (.lst us) ∧ us.length = i ∧ Pcs H' us pcs ∧ ∀ (j : Nat) (x : Pc), pcs[j]? = some x → Good x.1 x.2) ?_ ?_ ?_⟩⟩
    · exact ⟨[], [], D2.same (same_new hDp _), upd_same, rfl, .nil, fun j x h => by simp at h⟩
    · rintro i H' hi ⟨us, pcs, D, hD, hlen, hp, hg⟩
      refine ⟨rfl, _, rfl, p, rfl, D, fun a kk ww H4 b4 D4 ha G => ?_⟩
      have hDp : Dp ≠ p := fun z => by
        obtain ⟨ns', q⟩ := D2
        rw [z, q] at hDp
        cases hDp
      have hD4 := b4 _ _ hDp hD
      have hp4 : Pcs H4 us pcs := hp.imp fun v x h => h.but b4 D
      have hna : a ≠ Dp := fun z => by
        rw [z, hD4] at ha
        cases ha
        obtain ⟨b, e⟩ := hp4.refs _ (List.mem_cons_self ..)
        cases e
      have hnp : p ≠ Dp := Ne.symm hDp
      refine ⟨us, hD4, small5 (by omega), us ++ [.ref a], pcs ++ [(kk, ww)], ?_, upd_same, by rw [List.length_append, hlen]; rfl, ?_, ?_⟩
      · obtain ⟨ns', q⟩ := D4
        exact ⟨ns', by rw [upd_ne hnp]; exact q⟩
      · exact (hp4.imp fun v x h => h.upd hD4 hp4.refs).app (.cons ⟨a, rfl, by rw [upd_ne hna]; exact ha⟩ .nil)
      · intro j x hj
        have hpl := hp4.len
        by_cases e : j < pcs.length
        · rw [List.getElem?_append_left e] at hj
          exact hg j x hj
        · rw [List.getElem?_append_right (by omega)] at hj
          have : j - pcs.length = 0 := by
            by_cases z : j - pcs.length = 0
            · exact z
            · rw [List.getElem?_eq_none (by simp; omega)] at hj
              cases hj
          rw [this] at hj
          cases hj
          exact G
    rintro H3 ⟨us, pcs, D3, hD3, hlen, hp3, hg3⟩
    refine ⟨_, rfl, p, 60, rfl, D3, by decide, by decide, fun r2 H4 h20 h21 b4 D4 => ⟨_, _, rfl, rfl, ?_⟩⟩
    obtain ⟨q2, rfl⟩ : ∃ q2 : Nat, r2 = (q2 : Int) := ⟨r2.toNat, by omega⟩
    have hDp : Dp ≠ p := fun z => by
      obtain ⟨ns', q⟩ := D2
      rw [z, q] at hDp
      cases hDp
    have hD4 := b4 _ _ hDp hD3
    have hp4 : Pcs H4 us pcs := hp3.imp fun v x h => h.but b4 D3
    refine ⟨_, rfl, ?_⟩
    dsimp only [tSeq, gName]
    refine rest_first (fun σ' H' => ∃ (Pp : Addr) (us : List V) (pcs : List Pc) (n : Int), σ' = [some (.ref l), some (.ref p), some (.ref Pp), none, some (.int ((1 + q2 : Nat) : Int)), some (.int n), none, none, none, none, none, none] ∧ DrAt H' p ∧ Pp ≠ p ∧ H' Pp = some (.lst us) ∧ Pcs H' us pcs ∧ us.length ≤ 9 ∧ Plan n pcs) ?_ (fun rest => ?_)
    case refine_2 =>
      refine ⟨_, rfl, p, 2, rfl, D4, by decide, by decide, fun r3 H5 h30 h31 b5 D5 => ⟨rfl, _, rfl, ?_⟩⟩
      have hD5 := b5 _ _ hDp hD4
      have hp5 : Pcs H5 us pcs := hp4.imp fun v x h => h.but b5 D4
      by_cases hb : r3 = 1
      · refine ifT (int_eq.mpr hb) ?_
        refine ⟨_, rfl, _, rfl, Dp, us, rfl, .inl (SqL.of hD5), _, _, rfl, rfl, p, _, rfl, D5, by omega, by omega, fun r4 H6 h40 h41 b6 D6 => ?_⟩
        obtain ⟨m, rfl⟩ : ∃ m : Nat, r4 = (m : Int) := ⟨r4.toNat, by omega⟩
        have hm : m ≤ us.length := by omega
        have hD6 := b6 _ _ hDp hD5
        have hp6 : Pcs H6 us pcs := hp5.imp fun v x h => h.but b6 D5
        refine ⟨_, rfl, _, rfl, _, rfl, Dp, us, rfl, SqL.of hD6, fun q1 hq1 => ?_⟩
        rw [cutV_take hm]
        have s1' := same_new hq1 (.lst (us.take m))
        have D6' := D6.same s1'
        have n1 : q1 ≠ p := D6.ne hq1
        refine ⟨_, rfl, p, rfl, D6', fun a kk ww H7 b7 D7 ha ⟨B, hBl⟩ => ⟨(by show 1 ≤ sizeLine; decide), fun q2 hq2 => ?_⟩⟩
        have hq1' := b7 _ _ n1 (upd_same (H := H6) (a := q1) (o := .lst (us.take m)))
        have hD7 := b7 _ _ hDp (s1' _ _ hD6)
        have hp7 : Pcs H7 us pcs := (hp6.imp fun v x h => h.same s1').imp fun v x h => h.but b7 D6'
        have s2' := same_new hq2 (.lst [.ref a])
        have h8 : us.length ≤ 8 := by omega
        refine ⟨q1, q2, _, _, rfl, rfl, s2' _ _ hq1', upd_same, Nat.le_of_lt (small5 (by rw [List.length_take]; show min m us.length + 1 ≤ 10000; omega)), fun q3 hq3 => ?_⟩
        have s3' := same_new hq3 (.lst (us.take m ++ [.ref a]))
        refine ⟨_, rfl, _, rfl, _, rfl, Dp, us, rfl, SqL.of (s3' _ _ (s2' _ _ hD7)), fun q4 hq4 => ?_⟩
        rw [cutV_drop hm]
        have s4' := same_new hq4 (.lst (us.drop m))
        refine ⟨q3, q4, _, _, rfl, rfl, s4' _ _ upd_same, upd_same, Nat.le_of_lt (small5 (by simp only [List.length_append, List.length_take, List.length_drop, List.length_singleton]; omega)), fun q5 hq5 => ?_⟩
        have s5' := same_new hq5 (.lst (us.take m ++ [.ref a] ++ us.drop m))
        have ss := s2'.trans (s3'.trans (s4'.trans s5'))
        have hpl := hp7.len
        have hml : m ≤ pcs.length := by omega
        refine rest _ _ ⟨q5, us.take m ++ [.ref a] ++ us.drop m, pcs.take m ++ [(kk, ww)] ++ pcs.drop m, (m : Int), rfl, D7.same ss, (((D7.same s2').same s3').same s4').ne hq5, upd_same, ?_, by simp only [List.length_append, List.length_take, List.length_drop, List.length_singleton]; omega, ?_⟩
        · exact (((hp7.take m).app (.cons ⟨a, rfl, ha⟩ .nil)).app (hp7.drop m)).imp fun v x h => h.same ss
        · refine .inr ⟨m, (kk, ww), rfl, ?_, B, hBl, fun i y hi hy => ?_⟩
          · rw [List.append_assoc, List.getElem?_append_right (by rw [List.length_take]; omega), List.length_take, Nat.min_eq_left hml, Nat.sub_self]
            rfl
          · by_cases h1 : i < m
            · rw [List.append_assoc, List.getElem?_append_left (by rw [List.length_take]; omega), List.getElem?_take, if_pos h1] at hy
              exact hg3 i y hy
            · rw [List.getElem?_append_right (by rw [List.length_append, List.length_take, List.length_singleton]; omega), List.getElem?_drop] at hy
              exact hg3 _ y hy
      · refine ifF (fun z => hb (int_eq.mp z)) ?_
        exact rest _ _ ⟨Dp, us, pcs, -1, rfl, D5, hDp, hD5, hp5, by omega, .inl ⟨rfl, hg3⟩⟩
    rintro σ H5 ⟨Pp, us, pcs, n, rfl, D5, nP, hP5, hp5, h9, plan⟩
    clear hp4 hD4 hDp D4 b4 hg3 hp3 hD3 D3 hlen b2 D2 D1 np s1
    -- the line
    refine ⟨_, rfl, p, 3, rfl, D5, by decide, by decide, fun r3 H6 h30 h31 b6 D6 => ?_⟩
    obtain ⟨s0, rfl⟩ : ∃ s0 : Nat, r3 = (s0 : Int) := ⟨r3.toNat, by omega⟩
    have hs0 : s0 ≤ 3 := by omega
    refine ⟨_, _, rfl, rfl, (sp_mul s0 hs0).1, ?_⟩
    rw [(sp_mul s0 hs0).2]
    refine ⟨(by show 0 ≤ sizeLine; decide), fun du hdu => ?_⟩
    have ndu : du ≠ p := D6.ne hdu
    have sd := same_new hdu (.lst [])
    have hP6 := b6 _ _ nP hP5
    have nPd : Pp ≠ du := ne_of_none hP6 hdu
    have hplen := hp5.len
    refine ⟨_, rfl, Pp, us, rfl, .inl (SqL.of (sd _ _ hP6)), us.length, rfl, by omega, by omega, for_range (lo := 0) (n := us.length)
      (fun i σ H' => ∃ (X bf : List Nat) (bd : Int) (items : List Item) (vs : List V) (x3 x10 : Option V), σ = [some (.ref l), some (.ref p), some (.ref Pp), x3, some (.int ((1 + q2 : Nat) : Int)), some (.int n), some (.str (mk X)), some (.ref du), some (.int bd), some (.str (mk bf)), x10, none] ∧
        DrAt H' p ∧ H' Pp = some (.lst us) ∧ Pcs H' us pcs ∧ H' du = some (.lst vs) ∧ Its H' vs items ∧ vs.length = i ∧ X.length ≤ 3 + 20 * i ∧ bf.length ≤ 13 ∧ Far n i items X bf bd pcs) ?_ ?_ ?_⟩
    · refine ⟨List.replicate s0 32, [], 0, [], [], none, none, ?_, D6.same sd, sd _ _ hP6, (hp5.imp fun v x h => h.but b6 D5).imp fun v x h => h.same sd, upd_same, .nil, rfl, by rw [List.length_replicate]; omega, by simp, .inl ⟨?_, .nil s0⟩⟩
      · rw [show mk [] = ("" : Str) by decide +kernel]
        rfl
      · rcases plan with ⟨e, _⟩ | ⟨m, x, e, _⟩
        · exact .inl e
        · exact .inr (by omega)
    · rintro i σ H7 hi ⟨X, bf, bd, items, vs, x3, x10, rfl, D7, hP7, hp7, hd7, hits, hvl, hXl, hbl, far⟩
      obtain ⟨v, x, hv, hx, a, rfl, ha⟩ := hp7.at (i := i) (by omega)
      have ei : (0 : Int) + ((i : Nat) : Int) = ((i : Nat) : Int) := by omega
      have hxl := plan.len hx
      refine ⟨_, rfl, p, 4, rfl, D7, by decide, by decide, fun r H8 hr0 hr1' b8 D8 => ?_⟩
      obtain ⟨s, rfl⟩ : ∃ s : Nat, r = (s : Int) := ⟨r.toNat, by omega⟩
      have hP8 := b8 _ _ nP hP7
      have hd8 := b8 _ _ ndu hd7
      have ha8 := b8 _ _ (D7.neS ha) ha
      have hp8 : Pcs H8 us pcs := hp7.imp fun v x h => h.but b8 D7
      have hits8 : Its H8 vs items := hits.but b8 (fun xs z => by obtain ⟨ns', q⟩ := D7; rw [z] at q; cases q)
      clear hP7 hd7 hp7 hits ha D7 b8
      dsimp only [tSeq, gName]
      refine rest_first (fun σ' H' => ∃ s : Nat, σ' = [some (.ref l), some (.ref p), some (.ref Pp), some (.int (0 + ((i : Nat) : Int))), some (.int ((1 + q2 : Nat) : Int)), some (.int n), some (.str (mk X)), some (.ref du), some (.int bd), some (.str (mk bf)), some (.int (s : Int)), none] ∧ s ≤ 3 ∧ (s = 0 → growsB bf x.2 = false) ∧ Same H8 H') ?_ (fun rest => ?_)
      case refine_2 =>
        refine ⟨_, rfl, rfl, _, rfl, ?_⟩
        by_cases hs0 : s = 0
        · refine ifT (by rw [hs0]; rfl) ?_
          refine ⟨_, rfl, _, rfl, _, rfl, Pp, us, _, _, rfl, rfl, SqL.of hP8, at_of ei hv, a, _, _, _, rfl, rfl, SqL.of ha8, at1, bf, x.2, rfl, by omega, by omega, fun H9 s9 => ⟨_, rfl, ?_⟩⟩
          cases hg : growsB bf x.2 with
          | true => exact iteT (rest _ _ ⟨1, rfl, by omega, fun z => by omega, s9⟩)
          | false => exact iteF (rest _ _ ⟨s, rfl, by omega, fun _ => hg, s9⟩)
        · refine ifF (fun z => hs0 (by have := int_eq.mp z; omega)) (iteF ?_)
          exact rest _ _ ⟨s, rfl, by omega, fun z => absurd z hs0, Same.refl _⟩
      rintro σ H9 ⟨s, rfl, hs3, hsg, s9⟩
      have hP9 := s9 _ _ hP8
      have hd9 := s9 _ _ hd8
      have ha9 := s9 _ _ ha8
      have hp9 : Pcs H9 us pcs := hp8.imp fun v x h => h.same s9
      have hits9 := hits8.same s9
      have D9 := D8.same s9
      clear hP8 hd8 ha8 hp8 hits8 D8 s9
      refine ⟨_, rfl, _, rfl, _, _, rfl, rfl, (sp_mul s hs3).1, ?_⟩
      rw [(sp_mul s hs3).2]
      refine ⟨_, _, rfl, rfl, size_of (by rw [mk_len, mk_len, List.length_replicate]; omega), ?_⟩
      rw [mk_app]
      dsimp only [tSeq, gName]
      have sX : (mk (X ++ List.replicate s 32)).length = X.length + s := by rw [mk_len, List.length_append, List.length_replicate]
      have szX : (mk (X ++ List.replicate s 32)).length ≤ sizeLine := by rw [sX]; exact size_of (by omega)
      refine rest_first (fun σ' H' => ∃ bd' : Int, σ' = [some (.ref l), some (.ref p), some (.ref Pp), some (.int (0 + ((i : Nat) : Int))), some (.int ((1 + q2 : Nat) : Int)), some (.int n), some (.str (mk (X ++ List.replicate s 32))), some (.ref du), some (.int bd'), some (.str (mk bf)), some (.int (s : Int)), none] ∧ H' = H9 ∧ ((i : Int) = n → bd' = ((X.length + s + 1 : Nat) : Int)) ∧ ((i : Int) ≠ n → bd' = bd)) ?_ (fun rest => ?_)
      case refine_2 =>
        refine ⟨_, rfl, _, rfl, rfl, _, rfl, ?_⟩
        by_cases hin : (i : Int) = n
        · refine ifT (by rw [ei, hin]) ?_
          refine ⟨_, rfl, mk (X ++ List.replicate s 32), rfl, szX, _, _, rfl, rfl, rest _ _ ⟨_, rfl, rfl, fun _ => ?_, fun z => absurd hin z⟩⟩
          rw [sX]
          rfl
        · refine ifF (fun z => hin (by have := int_eq.mp z; omega)) ?_
          exact rest _ _ ⟨bd, rfl, rfl, fun z => absurd z hin, fun _ => rfl⟩
      rintro σ H10 ⟨bd', rfl, rfl, hb1, hb2⟩
      refine ⟨_, rfl, .inl ⟨rfl, _, SqL.of hd9⟩, _, rfl, _, rfl, Pp, us, _, _, rfl, rfl, SqL.of hP9, at_of ei hv, a, _, _, _, rfl, rfl, SqL.of ha9, at0, _, rfl, _, rfl, Pp, us, _, _, rfl, rfl, SqL.of hP9, at_of ei hv, a, _, _, _, rfl, rfl, SqL.of ha9, at1, _, rfl, mk (X ++ List.replicate s 32), rfl, szX, _, _, rfl, rfl, (by show 3 ≤ sizeLine; decide), fun t3 ht3 => ⟨du, vs, _, rfl, rfl, (same_new ht3 _) _ _ hd9, small5 (by omega), ?_⟩⟩
      rw [sX]
      have s3 := same_new ht3 (.tup [.str x.1, .str (mk x.2), .int ((X.length + s + 1 : Nat) : Int)])
      have nt : t3 ≠ du := fun z => by rw [z, hd9] at ht3; cases ht3
      have hd10 := s3 _ _ hd9
      have hits10 := hits9.same s3
      have hc : ∀ v y, PcAt H10 v y → PcAt (upd (upd H10 t3 (.tup [.str x.1, .str (mk x.2), .int ((X.length + s + 1 : Nat) : Int)])) du (.lst (vs ++ [.ref t3]))) v y := fun v y h => (h.same s3).upd hd10 hits10.refs
      have hP11 : upd (upd H10 t3 (.tup [.str x.1, .str (mk x.2), .int ((X.length + s + 1 : Nat) : Int)])) du (.lst (vs ++ [.ref t3])) Pp = some (.lst us) := by rw [upd_ne nPd]; exact s3 _ _ hP9
      obtain ⟨a2, e2, ha11⟩ := hc (.ref a) x ⟨a, rfl, ha9⟩
      cases e2
      have D11 : DrAt (upd (upd H10 t3 (.tup [.str x.1, .str (mk x.2), .int ((X.length + s + 1 : Nat) : Int)])) du (.lst (vs ++ [.ref t3]))) p := by
        obtain ⟨ns', q⟩ := D9.same s3
        exact ⟨ns', by rw [upd_ne (Ne.symm ndu)]; exact q⟩
      have nf : ∀ xs, upd H10 t3 (.tup [.str x.1, .str (mk x.2), .int ((X.length + s + 1 : Nat) : Int)]) du ≠ some (.tup xs) := fun xs z => by rw [hd10] at z; cases z
      refine ⟨_, rfl, _, rfl, _, rfl, Pp, us, _, _, rfl, rfl, SqL.of hP11, at_of ei hv, a, _, _, _, rfl, rfl, SqL.of ha11, at1, _, _, rfl, rfl, size_of (by rw [sX, mk_len]; omega), ?_⟩
      rw [mk_app]
      refine ⟨_, rfl, _, rfl, Pp, us, _, _, rfl, rfl, SqL.of hP11, at_of ei hv, a, _, _, _, rfl, rfl, SqL.of ha11, at1, ?_⟩
      refine ⟨X ++ List.replicate s 32 ++ x.2, x.2, bd', items ++ [(x.1, x.2, X.length + s + 1)], vs ++ [.ref t3], some (.int (0 + ((i : Nat) : Int))), some (.int (s : Int)), rfl, D11, hP11, hp9.imp hc, upd_same,
        (hits10.but (but_upd _) nf).snoc ⟨t3, rfl, by rw [upd_ne nt]; exact upd_same⟩, by rw [List.length_append, hvl]; rfl, by simp only [List.length_append, List.length_replicate]; omega, hxl, ?_⟩
      rw [List.append_assoc]
      exact far.step plan hx hsg hb1 hb2
    · rintro σ H7 ⟨X, bf, bd, items, vs, x3, x10, rfl, D7, hP7, hp7, hd7, hits, hvl, hXl, hbl, far⟩
      have X183 : X.length ≤ 3 + 20 * 9 := Nat.le_trans hXl (by omega)
      refine ⟨_, rfl, _, rfl, p, 3, rfl, D7, by decide, by decide, fun r H8 hr0 hr1' b8 D8 => ?_⟩
      obtain ⟨s9, rfl⟩ : ∃ s9 : Nat, r = (s9 : Int) := ⟨r.toNat, by omega⟩
      have hs9 : s9 ≤ 3 := by omega
      refine ⟨_, _, rfl, rfl, (sp_mul s9 hs9).1, ?_⟩
      rw [(sp_mul s9 hs9).2]
      refine ⟨_, _, rfl, rfl, size_of (by rw [mk_len, mk_len, List.length_replicate]; omega), ?_⟩
      rw [mk_app]
      have hP8 := b8 _ _ nP hP7
      have hd8 := b8 _ _ ndu hd7
      have hp8 : Pcs H8 us pcs := hp7.imp fun v x h => h.but b8 D7
      have hits8 : Its H8 vs items := hits.but b8 (fun xs z => by obtain ⟨ns', q⟩ := D7; rw [z] at q; cases q)
      have Ll : (X ++ List.replicate s9 32).length ≤ 1000000 := by rw [List.length_append, List.length_replicate]; omega
      have gEnd : ∀ b : List Nat, growsB b (List.replicate s9 32) = false := fun b => by
        by_cases h0 : s9 = 0
        · subst h0
          unfold growsB
          cases b.getLast? <;> rfl
        · have := grows_sp (b := b) (r := []) (s := s9) (by omega)
          rw [List.append_nil] at this
          exact this
      have hnum : 1 + q2 < 10 ^ 18 := by omega
      refine ⟨_, rfl, _, _, rfl, rfl, _, rfl, ?_⟩
      rcases plan with ⟨en, hgood⟩ | ⟨m, x, en, hx, B, hxl, hgood⟩
      · -- a line in order
        refine ifT (by omega) ?_
        have hpre : Pre items X bf := by
          rcases far with ⟨_, h⟩ | ⟨m, _, _, _, _, _, _, e, _⟩
          · exact h
          · omega
        have ht : Toks 0 (X ++ List.replicate s9 32) items none := by
          have := pre_toks hpre (is' := []) toks_end (gEnd bf)
          rw [List.append_nil] at this
          exact this
        refine ⟨_, rfl, _, rfl, X ++ List.replicate s9 32, 1 + q2, items, none, rfl, Ll, hnum, ht, fun p' H9 us' s9' hp' hits' => ?_⟩
        exact ⟨_, rfl, _, _, rfl, its_eqv hp' (s9' _ _ hd8) hits' (hits8.same s9') (by rw [← hits8.len, hvl]; omega), k _⟩
      · -- a line with an incorrect piece
        refine ifF (by omega) ?_
        have hml : m < us.length := by rw [hplen]; exact (List.getElem?_eq_some_iff.mp hx).1
        obtain ⟨s2, is0, X0, b0, rest, hX, hp0, hs0', hg, hb⟩ : ∃ (s2 : Nat) (is0 : List Item) (X0 b0 rest : List Nat), X = X0 ++ (List.replicate s2 32 ++ (x.2 ++ rest)) ∧ Pre is0 X0 b0 ∧ (s2 = 0 → growsB b0 x.2 = false) ∧ growsB x.2 rest = false ∧ bd = ((X0.length + s2 + 1 : Nat) : Int) := by
          rcases far with ⟨h, _⟩ | ⟨m', y, is0, X0, b0, s2, rest, e, _, hy, _, hp0, hX, hs, hg, _, hb⟩
          · omega
          · obtain rfl : m = m' := by omega
            rw [hx] at hy
            cases hy
            exact ⟨s2, is0, X0, b0, rest, hX, hp0, hs, hg, hb⟩
        have ht : Toks 0 (X ++ List.replicate s9 32) is0 (some (X0.length + s2 + 1, x.1)) := by
          have gr : growsB x.2 (rest ++ List.replicate s9 32) = false := by
            by_cases e : rest = []
            · subst e
              exact gEnd x.2
            · rw [grows_app e]
              exact hg
          have t1 := toks_bad (n := X0.length + s2) B gr
          have t2 := pre_toks hp0 (toks_sp t1) (by
            by_cases h0 : s2 = 0
            · subst h0
              rw [List.replicate_zero, List.nil_append, grows_app B.ne]
              exact hs0' rfl
            · exact grows_sp (by omega))
          rw [List.append_nil] at t2
          rw [hX]
          simp only [List.append_assoc] at t2 ⊢
          exact t2
        subst hX hb
        refine ⟨_, rfl, _, rfl, _, 1 + q2, is0, some (X0.length + s2 + 1, x.1), rfl, Ll, hnum, ht, fun d H9 s9' nd hxd => ?_⟩
        refine ⟨true, T.te, fun _ ea nea => ?_, fun q => Bool.noConfusion q⟩
        obtain ⟨v, x', hv, hx', a, rfl, ha⟩ := hp8.at (i := m) (by omega)
        rw [hx] at hx'
        cases hx'
        have hP9 := s9' _ _ hP8
        have ha9 := s9' _ _ ha
        refine ⟨_, rfl, rfl, rfl, d, _, .int ((1 + q2 : Nat) : Int), rfl, hxd, lk_line, ?_⟩
        refine ⟨_, rfl, rfl, rfl, d, _, .int ((X0.length + s2 + 1 : Nat) : Int), rfl, hxd, lk_column, ?_⟩
        refine ⟨_, rfl, rfl, rfl, d, _, .str x.1, rfl, hxd, lk_reason, ?_⟩
        refine ⟨(by show 3 ≤ sizeLine; decide), fun q1 hq1 => ?_⟩
        have t1 := same_new hq1 (.lst [.int ((1 + q2 : Nat) : Int), .int ((X0.length + s2 + 1 : Nat) : Int), .str x.1])
        refine ⟨_, rfl, _, rfl, _, rfl, _, rfl, Pp, us, _, _, rfl, rfl, SqL.of (t1 _ _ hP9), at_of en hv, a, _, _, _, rfl, rfl, SqL.of (t1 _ _ ha9), at0, (by show 3 ≤ sizeLine; decide), fun q2' hq2 => ?_⟩
        have t2 := same_new hq2 (.lst [.int ((1 + q2 : Nat) : Int), .int ((X0.length + s2 + 1 : Nat) : Int), .str x.1])
        refine ⟨_, _, rfl, .inr (.inr ⟨q1, q2', _, _, rfl, rfl, .inl ⟨t2 _ _ upd_same, upd_same⟩, rfl, by show 3 ≤ 1000; decide, fun i u v hu hv => (eqv_scals (fun z hz => ?_) i u v hu hv).up⟩), k _⟩
        simp only [List.mem_cons, List.not_mem_nil, or_false] at hz
        rcases hz with rfl | rfl | rfl
        · exact .inl ⟨_, rfl⟩
        · exact .inl ⟨_, rfl⟩
        · exact .inr ⟨_, rfl⟩
end
end K0
namespace K0
open PySem PySem.Spec L2 RX TL
theorem exm_own {K : PySem.W.Frag} {S : Addr} (h1 : PySem.W.subIn K (.ref S) (.type "BaseException") = some true) (h2 : PySem.W.isClsIn K S = true) (h3 : PySem.W.typeIn K (.ref S) = some (.type "type")) (h4 : PySem.W.subIn K (.ref S) (.ref S) = some true) :
    PySem.W.exmOne K (.ref S) (.ref S) = some true := by
  have e1 : (PySem.W.subIn K (.ref S) (.type "BaseException") == some true) = true := by rw [h1] <;> rfl
  have e2 : ((PySem.W.clsIn K S).isSome && PySem.W.typeIn K (.ref S) == some (.type "type")) = true := by
    have q : (PySem.W.clsIn K S).isSome = true := h2
    rw [q, h3] <;> rfl
  show (if (PySem.W.subIn K (.ref S) (.type "BaseException") == some true) = true then (if ((PySem.W.clsIn K S).isSome && PySem.W.typeIn K (.ref S) == some (.type "type")) = true then PySem.W.subIn K (.ref S) (.ref S) else none) else none) = some true
  rw [if_pos e1, if_pos e2]
  exact h4

theorem ks_of {K : PySem.W.Frag} {C N R : Addr} {nm q n : Str} {bs bm : List Value} {sn : List Str} {sub : List Value} {ab : Bool} {col : Option Bool} {dd : Option Addr} {m0 m1 m2 m3 m5 : Option Value} {cR : Value} {dR : Option Addr} {cdR : ClassData} {sR : Array (Option Value)} {r : Option (Option Value)}
    (xL : K.lookup C = some (excClassObj nm q C N bs bm true sn sub ab col dd m0 m1 m2 m3 m5 "ValueError.__new__")) (xR : K.lookup R = some ⟨cR, dR, .cls cdR, sR⟩) (mR : cdR.mro = bm) (iR : PySem.W.findIn K (.ref R) n = r) : PySem.W.ks_superIn K C C n = r := by
  have hcl : PySem.W.clsIn K C = some { name := nm, bases := bs, mro := .ref C :: bm, ns := N, qualname := q, hasDict := true, slotNames := sn, subclasses := sub, abstract := ab, collection := col, hasDel := false } := by unfold PySem.W.clsIn; rw [xL] <;> rfl
  have e : ((Value.ref C :: bm).dropWhile (· != Value.ref C)).drop 1 = bm := by simp [List.dropWhile]
  have f : PySem.W.findIn K (.ref R) n = PySem.W.alongIn K n bm := by
    rw [← mR]
    show (match K.lookup R with | some ⟨_, _, .cls cd, _⟩ => PySem.W.alongIn K n cd.mro | _ => none) = _
    rw [xR]
  unfold PySem.W.ks_superIn
  rw [hcl]
  show PySem.W.alongIn K n (((Value.ref C :: bm).dropWhile (· != Value.ref C)).drop 1) = r
  rw [e, ← f]
  exact iR
theorem all_mk {P : Program} {w : World} {K : PySem.W.Frag} {h : Heap} {mg : Str → Option Value} {fa C R cc cda f0 f1 f2 f3 f4 f5 f6 f7 f8 f9 f10 f11 : Addr} (X : K.In h) (G : h.Ns mainGlobals mg) (hfa : mg "law" = some (.ref fa))
    {nm q : Str} {N : Addr} {bs bm : List Value} {sn : List Str} {sub : List Value} {ab : Bool} {col : Option Bool} {dd : Option Addr} {m0 m1 m2 m3 m5 : Option Value} {cl ccl : Value} {cld cdd : Option Addr} {csl ccs : Array (Option Value)} {vs : Array Value} {file : Str} {tf tg0 tg1 tg2 tg3 tg4 tg5 : Nat} {cR : Value} {dR : Option Addr} {cdR : ClassData} {sR : Array (Option Value)}
    {od0 an0 od1 an1 od2 an2 od3 an3 od4 an4 od5 an5 od6 an6 od7 an7 od8 an8 od9 an9 od10 an10 od11 an11 : Option Addr} {sl0 sl1 sl2 sl3 sl4 sl5 sl6 sl7 sl8 sl9 sl10 sl11 : Array (Option Value)} {oc0 kV0 dc0 pm0 ct0 oc1 kV1 dc1 pm1 ct1 oc2 kV2 dc2 pm2 ct2 oc3 kV3 dc3 pm3 ct3 oc4 kV4 dc4 pm4 ct4 oc5 kV5 dc5 pm5 ct5 oc6 kV6 dc6 pm6 ct6 oc7 kV7 dc7 pm7 ct7 oc8 kV8 dc8 pm8 ct8 oc9 kV9 dc9 pm9 ct9 oc10 kV10 dc10 pm10 ct10 oc11 kV11 dc11 pm11 ct11 cd1 cd2 cd3 cd4 cd5 cd6 cd7 cd8 cd9 cd10 cd11 : Value}
    (aC : PySem.W.nsIn K mainGlobals "TextError" = some (some (.ref C)))
    (xL : K.lookup C = some (excClassObj nm q C N bs bm true sn sub ab col dd m0 m1 m2 m3 m5 "ValueError.__new__"))
    (bv : PySem.HandSPX.refsVE bm = true)
    (sa : PySem.W.findIn K (.ref C) "__setattr__" = some (some (.builtin "object.__setattr__")))
    (eC : PySem.W.subIn K (.ref C) (.type "BaseException") = some true)
    (tC : PySem.W.typeIn K (.ref C) = some (.type "type"))
    (kC : PySem.W.keepIn K (.ref C) = true)
    (nL : PySem.W.findIn K (.ref C) "line" = some none)
    (nCo : PySem.W.findIn K (.ref C) "column" = some none)
    (nR : PySem.W.findIn K (.ref C) "reason" = some none)
    (iC : PySem.W.findIn K (.ref C) "__init__" = some (some (.ref f0)))
    (tI : PySem.W.typeIn K (.ref f0) = some (.type "function"))
    (l0 : K.lookup f0 = some ⟨oc0, od0, .func (PySem.W.ksFn "__init__" "TextError.__init__" (defArgs sInit) (defBody sInit) (defScope sInit) .none kV0 dc0 pm0 an0 (.ref cda) ct0 cc), sl0⟩)
    (c0 : PySem.W.codeIn K (.ref cda) "TextError.__init__" = true)
    (xc : K.lookup cc = some ⟨cl, cld, .cell (some (.ref C)), csl⟩)
    (xd : K.lookup cda = some ⟨ccl, cdd, .fields vs, ccs⟩)
    (xv : vs[2]? = some (.str file tf))
    (xf : ((P.main.file : Str) == file) = true)
    (se : PySem.W.mroIn K C (.ref C) = some true)
    (tp : (P.main.scope.names.lookup ("super" : Str)).isSome = false)
    (oq : PySem.W.nsIn K cStatics "thirdparty.any" = some none)
    (aR : PySem.W.nsIn K mainGlobals "RetroactError" = some (some (.ref R)))
    (xR : K.lookup R = some ⟨cR, dR, .cls cdR, sR⟩)
    (mR : cdR.mro = bm)
    (iR : PySem.W.findIn K (.ref R) "__init__" = some (some (.builtin "ValueError.__init__")))
    (vE : PySem.W.subIn K (.ref C) (.type "ValueError") = some true)
    (ga : PySem.W.findIn K (.ref C) "__getattribute__" = some (some (.builtin "BaseException.__getattribute__")))
    (gg : PySem.W.findIn K (.ref C) "__getattr__" = some none)
    (hC : PySem.W.hasDictIn K C = true)
    (ic : PySem.W.isClsIn K C = true)
    (sC : PySem.W.subIn K (.ref C) (.ref C) = some true)
    (z0 : PySem.W.nsIn K mainGlobals "isinstance" = some none)
    (z1 : PySem.W.nsIn K mainGlobals "int" = some none)
    (z2 : PySem.W.nsIn K mainGlobals "bool" = some none)
    (z3 : PySem.W.nsIn K mainGlobals "str" = some none)
    (z4 : PySem.W.nsIn K mainGlobals "len" = some none)
    (z5 : PySem.W.nsIn K mainGlobals "list" = some none)
    (z6 : PySem.W.nsIn K mainGlobals "tuple" = some none)
    (z7 : PySem.W.nsIn K mainGlobals "reversed" = some none)
    (z8 : PySem.W.nsIn K mainGlobals "range" = some none)
    (z9 : PySem.W.nsIn K mainGlobals "super" = some none)
    (z10 : PySem.W.nsIn K mainGlobals "abs" = some none)
    (gl0 : PySem.W.nsIn K mainGlobals "SMALL_LETTERS" = some (some (.str low tg0)))
    (gl1 : PySem.W.nsIn K mainGlobals "DIGITS" = some (some (.str dig tg1)))
    (gl2 : PySem.W.nsIn K mainGlobals "SIGNS" = some (some (.str sgn tg2)))
    (gl3 : PySem.W.nsIn K mainGlobals "LONGEST_NAME" = some (some (.int 12 tg3)))
    (gl4 : PySem.W.nsIn K mainGlobals "LONGEST_NUMBER" = some (some (.int 10 tg4)))
    (gl5 : PySem.W.nsIn K mainGlobals "GREATEST_VALUE" = some (some (.int 1000000000 tg5)))
    (a1 : PySem.W.nsIn K mainGlobals "tokens" = some (some (.ref f1)))
    (l1 : K.lookup f1 = some ⟨oc1, od1, .func (PySem.W.fnOf "tokens" "tokens" (defArgs sTok) (defBody sTok) (defScope sTok) .none kV1 dc1 pm1 an1 cd1 ct1), sl1⟩)
    (c1 : PySem.W.codeIn K cd1 "tokens" = true)
    (k1 : PySem.W.keepIn K (.ref f1) = true)
    (a2 : PySem.W.nsIn K mainGlobals "_token_at" = some (some (.ref f2)))
    (l2 : K.lookup f2 = some ⟨oc2, od2, .func (PySem.W.fnOf "_token_at" "_token_at" (defArgs sAt) (defBody sAt) (defScope sAt) .none kV2 dc2 pm2 an2 cd2 ct2), sl2⟩)
    (c2 : PySem.W.codeIn K cd2 "_token_at" = true)
    (k2 : PySem.W.keepIn K (.ref f2) = true)
    (a3 : PySem.W.nsIn K mainGlobals "_row_at" = some (some (.ref f3)))
    (l3 : K.lookup f3 = some ⟨oc3, od3, .func (PySem.W.fnOf "_row_at" "_row_at" (defArgs sRow) (defBody sRow) (defScope sRow) .none kV3 dc3 pm3 an3 cd3 ct3), sl3⟩)
    (c3 : PySem.W.codeIn K cd3 "_row_at" = true)
    (k3 : PySem.W.keepIn K (.ref f3) = true)
    (a4 : PySem.W.nsIn K mainGlobals "_is_number" = some (some (.ref f4)))
    (l4 : K.lookup f4 = some ⟨oc4, od4, .func (PySem.W.fnOf "_is_number" "_is_number" (defArgs sNum) (defBody sNum) (defScope sNum) .none kV4 dc4 pm4 an4 cd4 ct4), sl4⟩)
    (c4 : PySem.W.codeIn K cd4 "_is_number" = true)
    (k4 : PySem.W.keepIn K (.ref f4) = true)
    (a5 : PySem.W.nsIn K mainGlobals "_law_draws" = some (some (.ref f5)))
    (l5 : K.lookup f5 = some ⟨oc5, od5, .func (PySem.W.fnOf "_law_draws" "_law_draws" (defArgs sDraws) (defBody sDraws) (defScope sDraws) .none kV5 dc5 pm5 an5 cd5 ct5), sl5⟩)
    (c5 : PySem.W.codeIn K cd5 "_law_draws" = true)
    (k5 : PySem.W.keepIn K (.ref f5) = true)
    (a6 : PySem.W.nsIn K mainGlobals "_law_take" = some (some (.ref f6)))
    (l6 : K.lookup f6 = some ⟨oc6, od6, .func (PySem.W.fnOf "_law_take" "_law_take" (defArgs sTake) (defBody sTake) (defScope sTake) .none kV6 dc6 pm6 an6 cd6 ct6), sl6⟩)
    (c6 : PySem.W.codeIn K cd6 "_law_take" = true)
    (k6 : PySem.W.keepIn K (.ref f6) = true)
    (a7 : PySem.W.nsIn K mainGlobals "_law_same" = some (some (.ref f7)))
    (l7 : K.lookup f7 = some ⟨oc7, od7, .func (PySem.W.fnOf "_law_same" "_law_same" (defArgs sSame) (defBody sSame) (defScope sSame) .none kV7 dc7 pm7 an7 cd7 ct7), sl7⟩)
    (c7 : PySem.W.codeIn K cd7 "_law_same" = true)
    (k7 : PySem.W.keepIn K (.ref f7) = true)
    (a8 : PySem.W.nsIn K mainGlobals "_law_piece" = some (some (.ref f8)))
    (l8 : K.lookup f8 = some ⟨oc8, od8, .func (PySem.W.fnOf "_law_piece" "_law_piece" (defArgs sPiece) (defBody sPiece) (defScope sPiece) .none kV8 dc8 pm8 an8 cd8 ct8), sl8⟩)
    (c8 : PySem.W.codeIn K cd8 "_law_piece" = true)
    (k8 : PySem.W.keepIn K (.ref f8) = true)
    (a9 : PySem.W.nsIn K mainGlobals "_law_bad" = some (some (.ref f9)))
    (l9 : K.lookup f9 = some ⟨oc9, od9, .func (PySem.W.fnOf "_law_bad" "_law_bad" (defArgs sBad) (defBody sBad) (defScope sBad) .none kV9 dc9 pm9 an9 cd9 ct9), sl9⟩)
    (c9 : PySem.W.codeIn K cd9 "_law_bad" = true)
    (k9 : PySem.W.keepIn K (.ref f9) = true)
    (a10 : PySem.W.nsIn K mainGlobals "_law_grows" = some (some (.ref f10)))
    (l10 : K.lookup f10 = some ⟨oc10, od10, .func (PySem.W.fnOf "_law_grows" "_law_grows" (defArgs sGrows) (defBody sGrows) (defScope sGrows) .none kV10 dc10 pm10 an10 cd10 ct10), sl10⟩)
    (c10 : PySem.W.codeIn K cd10 "_law_grows" = true)
    (k10 : PySem.W.keepIn K (.ref f10) = true)
    (a11 : PySem.W.nsIn K mainGlobals "law" = some (some (.ref f11)))
    (l11 : K.lookup f11 = some ⟨oc11, od11, .func (PySem.W.fnOf "law" "law" (defArgs sLaw) (defBody sLaw) (defScope sLaw) .none kV11 dc11 pm11 an11 cd11 ct11), sl11⟩)
    (c11 : PySem.W.codeIn K cd11 "law" = true)
    (k11 : PySem.W.keepIn K (.ref f11) = true) :
    ∃ fd : FuncData, (∀ (s : Shared) (u : Value), BindsTo s fd ⟨[u], []⟩ [("script", u)]) ∧ ∀ base : Heap, K.In base → base.Ns mainGlobals mg → FnOk P w K mg base CX0 6 fa fd ["script"] (spLaw K) := by
  have e := hfa.symm.trans (PySem.W.mg_of X G a11)
  cases e
  have zz : ∀ {x : Str}, PySem.W.nsIn K mainGlobals x = some none → mg x = none := fun e => PySem.W.mg_none_of X G e
  have su : SupC P K mg C cc cda :=
    { ox := ⟨⟨nm, q, N, bs, bm, sn, sub, ab, col, dd, m0, m1, m2, m3, m5, xL, bv⟩, sa, eC, tC, kC⟩, cell := ⟨_, _, _, xc⟩, code := ⟨_, _, _, _, _, _, xd, xv, xf⟩, self := se, sup := zz z9, top := tp, opq := oq, ini := ks_of xL xR mR iR, vE := vE }
  have T : Txt P K mg C f0 cc cda :=
    { su := su, noL := nL, noC := nCo, noR := nR, iC := iC, tI := tI, gF := PySem.W.mg_of X G aC, xf := ⟨ga, gg, eC, hC⟩, te := exm_own eC ic tC sC, zisi := zz z0, zint := zz z1, zbool := zz z2, zstr := zz z3, zlen := zz z4, zlist := zz z5, ztuple := zz z6, zrev := zz z7, zrng := zz z8, zabs := zz z10, gLow := ⟨_, PySem.W.mg_of X G gl0⟩, gDig := ⟨_, PySem.W.mg_of X G gl1⟩, gSgn := ⟨_, PySem.W.mg_of X G gl2⟩, gLn := ⟨_, PySem.W.mg_of X G gl3⟩, gLu := ⟨_, PySem.W.mg_of X G gl4⟩, gGv := ⟨_, PySem.W.mg_of X G gl5⟩ }
  have bI : Binds K (PySem.W.ksFn "__init__" "TextError.__init__" (defArgs sInit) (defBody sInit) (defScope sInit) .none kV0 dc0 pm0 an0 (.ref cda) ct0 cc) ["self", "line", "column", "reason"] [] := .all fun us hl => match us, hl with | [_, _, _, _], _ => rfl
  have FTO := fun_mk (st := sTok) l1 c1 k1
  have LTO : Cal K mg "tokens" _ _ ["line", "number"] := ⟨PySem.W.mg_of X G a1, k1, FTO.binds fun _ _ _ _ _ _ us hl => match us, hl with | [_, _], _ => rfl⟩
  have FAT := fun_mk (st := sAt) l2 c2 k2
  have LAT : Cal K mg "_token_at" _ _ ["line", "at", "number"] := ⟨PySem.W.mg_of X G a2, k2, FAT.binds fun _ _ _ _ _ _ us hl => match us, hl with | [_, _, _], _ => rfl⟩
  have FRO := fun_mk (st := sRow) l3 c3 k3
  have LRO : Cal K mg "_row_at" _ _ ["line", "at", "characters"] := ⟨PySem.W.mg_of X G a3, k3, FRO.binds fun _ _ _ _ _ _ us hl => match us, hl with | [_, _, _], _ => rfl⟩
  have FNU := fun_mk (st := sNum) l4 c4 k4
  have LNU : Cal K mg "_is_number" _ _ ["digits"] := ⟨PySem.W.mg_of X G a4, k4, FNU.binds fun _ _ _ _ _ _ us hl => match us, hl with | [_], _ => rfl⟩
  have FDR := fun_mk (st := sDraws) l5 c5 k5
  have LDR : Cal K mg "_law_draws" _ _ ["script"] := ⟨PySem.W.mg_of X G a5, k5, FDR.binds fun _ _ _ _ _ _ us hl => match us, hl with | [_], _ => rfl⟩
  have FTK := fun_mk (st := sTake) l6 c6 k6
  have LTK : Cal K mg "_law_take" _ _ ["draws", "bound"] := ⟨PySem.W.mg_of X G a6, k6, FTK.binds fun _ _ _ _ _ _ us hl => match us, hl with | [_, _], _ => rfl⟩
  have FSA := fun_mk (st := sSame) l7 c7 k7
  have LSA : Cal K mg "_law_same" _ _ ["actual", "due"] := ⟨PySem.W.mg_of X G a7, k7, FSA.binds fun _ _ _ _ _ _ us hl => match us, hl with | [_, _], _ => rfl⟩
  have FPC := fun_mk (st := sPiece) l8 c8 k8
  have LPC : Cal K mg "_law_piece" _ _ ["draws"] := ⟨PySem.W.mg_of X G a8, k8, FPC.binds fun _ _ _ _ _ _ us hl => match us, hl with | [_], _ => rfl⟩
  have FBD := fun_mk (st := sBad) l9 c9 k9
  have LBD : Cal K mg "_law_bad" _ _ ["draws"] := ⟨PySem.W.mg_of X G a9, k9, FBD.binds fun _ _ _ _ _ _ us hl => match us, hl with | [_], _ => rfl⟩
  have FGR := fun_mk (st := sGrows) l10 c10 k10
  have LGR : Cal K mg "_law_grows" _ _ ["left", "right"] := ⟨PySem.W.mg_of X G a10, k10, FGR.binds fun _ _ _ _ _ _ us hl => match us, hl with | [_, _], _ => rfl⟩
  have FLW := fun_mk (st := sLaw) l11 c11 k11
  have LLW : Cal K mg "law" _ _ ["script"] := ⟨PySem.W.mg_of X G a11, k11, FLW.binds fun _ _ _ _ _ _ us hl => match us, hl with | [_], _ => rfl⟩
  refine ⟨PySem.W.fnOf "law" "law" (defArgs sLaw) (defBody sLaw) (defScope sLaw) .none kV11 dc11 pm11 an11 cd11 ct11, fun s u => .of_eq rfl, fun base _ _ => ?_⟩
  have GI := ok_init (w := w) (base := base) T l0 c0
  have GRO := ok_row (w := w) (base := base) FRO T
  have GNU := ok_num (w := w) (base := base) FNU T
  have GAT := ok_at FAT T GI bI GRO LRO GNU LNU
  have GTO := ok_tok FTO T GAT LAT
  have GDR := ok_draws (w := w) (base := base) FDR T
  have GTK := ok_take (w := w) (base := base) FTK T
  have GPC := ok_piece FPC T GTK LTK
  have GBD := ok_bad FBD T GTK LTK
  have GGR := ok_grows (w := w) (base := base) FGR T
  have GSA := ok_same (w := w) (base := base) FSA T LSA 3
  have GSH := ok_sameH (w := w) (base := base) FSA T LSA 3
  exact ok_law FLW T GDR LDR GTK LTK GPC LPC GBD LBD GGR LGR GSA LSA GSH GTO LTO
theorem walk {l : PySem.W.OpenLaw} {q : Program} {loose : List Str} {XP : (Str → Option Value) → Heap → Prop} {YP : World → Heap → Prop} {d : DefRec} {K : Params → PySem.W.Frag} (hn : l.most = some 63) (hdf : d.params.defaults = [])
    (hY : ∀ (w : World) (h : Heap), YP w h → (K w.params).In h)
    (F : ∀ (w : World) (mg : Str → Option Value) (fa : Addr) (h : Heap), (K w.params).In h → h.Ns mainGlobals mg → mg d.name = some (.ref fa) →
      ∃ fd : FuncData, (∀ (s : Shared) (u : Value), BindsTo s fd ⟨[u], []⟩ [("script", u)]) ∧ ∀ base : Heap, (K w.params).In base → base.Ns mainGlobals mg → FnOk l.prog w (K w.params) mg base CX0 6 fa fd ["script"] (spLaw (K w.params))) :
    PySem.W.WalkO q loose XP YP l.row.toRowW d [] (fun f vs => PySem.call f vs) :=
  L2.walk_of (n := 63) (k := 6) (x := "script") (CX := fun _ => CX0) (sp := fun w => spLaw (K w.params)) hn (by decide) hdf ⟨rfl, by decide, by decide⟩ hY F (fun _ _ a ns hl _ hS => ⟨a, ns, rfl, hS, hl, fun _ => rfl⟩) fun _ _ _ _ _ z => z
end K0
open PySem PySem.W PyProof.Rows
set_option maxRecDepth 100000 in
set_option maxHeartbeats 0 in
theorem PySem.Challenge.cw_retroact_k00_tokens_of_a_line_holds : PySem.Challenge.rw_retroact_k00_tokens_of_a_line.Holds := by
  w_on; o_law; k_head; (case hw => w_witness2)
  k_fill
  refine K0.walk (l := PySem.Challenge.rw_retroact_k00_tokens_of_a_line) rfl rfl (fun w h Y => PySem.W.kIn_of Y) ?F
  case F =>
    intro w mg fa h KX G hmg
    refine' K0.all_mk KX G hmg ?aC ?xL ?bv ?sa ?eC ?tC ?kC ?nL ?nCo ?nR ?iC ?tI ?l0 ?c0 ?xc ?xd ?xv ?xf ?se ?tp ?oq ?aR ?xR ?mR ?iR ?vE ?ga ?gg ?hC ?ic ?sC ?z0 ?z1 ?z2 ?z3 ?z4 ?z5 ?z6 ?z7 ?z8 ?z9 ?z10 ?gl0 ?gl1 ?gl2 ?gl3 ?gl4 ?gl5 ?a1 ?l1 ?c1 ?k1 ?a2 ?l2 ?c2 ?k2 ?a3 ?l3 ?c3 ?k3 ?a4 ?l4 ?c4 ?k4 ?a5 ?l5 ?c5 ?k5 ?a6 ?l6 ?c6 ?k6 ?a7 ?l7 ?c7 ?k7 ?a8 ?l8 ?c8 ?k8 ?a9 ?l9 ?c9 ?k9 ?a10 ?l10 ?c10 ?k10 ?a11 ?l11 ?c11 ?k11
    (case aC => k_is)
    (case xL => k_is)
    (case bv => decide +kernel)
    (case sa => k_is)
    (case eC => k_is)
    (case tC => k_is)
    (case kC => k_is)
    (case nL => k_is)
    (case nCo => k_is)
    (case nR => k_is)
    (case iC => k_is)
    (case tI => k_is)
    (case l0 => k_is)
    (case c0 => k_is)
    (case xc => k_is)
    (case xd => k_is)
    (case xv => rfl)
    (case xf => decide +kernel)
    (case se => k_is)
    (case tp => decide +kernel)
    (case oq => k_is)
    (case aR => k_is)
    (case xR => k_is)
    (case mR => rfl)
    (case iR => k_is)
    (case vE => k_is)
    (case ga => k_is)
    (case gg => k_is)
    (case hC => k_is)
    (case ic => k_is)
    (case sC => first | rfl | k_is)
    (case z0 => k_is)
    (case z1 => k_is)
    (case z2 => k_is)
    (case z3 => k_is)
    (case z4 => k_is)
    (case z5 => k_is)
    (case z6 => k_is)
    (case z7 => k_is)
    (case z8 => k_is)
    (case z9 => k_is)
    (case z10 => k_is)
    (case gl0 => k_is)
    (case gl1 => k_is)
    (case gl2 => k_is)
    (case gl3 => k_is)
    (case gl4 => k_is)
    (case gl5 => k_is)
    (case a1 => k_is)
    (case l1 => k_is)
    (case c1 => k_is)
    (case k1 => k_is)
    (case a2 => k_is)
    (case l2 => k_is)
    (case c2 => k_is)
    (case k2 => k_is)
    (case a3 => k_is)
    (case l3 => k_is)
    (case c3 => k_is)
    (case k3 => k_is)
    (case a4 => k_is)
    (case l4 => k_is)
    (case c4 => k_is)
    (case k4 => k_is)
    (case a5 => k_is)
    (case l5 => k_is)
    (case c5 => k_is)
    (case k5 => k_is)
    (case a6 => k_is)
    (case l6 => k_is)
    (case c6 => k_is)
    (case k6 => k_is)
    (case a7 => k_is)
    (case l7 => k_is)
    (case c7 => k_is)
    (case k7 => k_is)
    (case a8 => k_is)
    (case l8 => k_is)
    (case c8 => k_is)
    (case k8 => k_is)
    (case a9 => k_is)
    (case l9 => k_is)
    (case c9 => k_is)
    (case k9 => k_is)
    (case a10 => k_is)
    (case l10 => k_is)
    (case c10 => k_is)
    (case k10 => k_is)
    (case a11 => k_is)
    (case l11 => k_is)
    (case c11 => k_is)
    (case k11 => k_is)
#print axioms PySem.Challenge.cw_retroact_k00_tokens_of_a_line_holds
