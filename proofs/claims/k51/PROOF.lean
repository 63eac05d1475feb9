import PyProof.Rows.All
import Wide.All
import OpenK.AllK
import Wide.FinOn
import KE.KExcSuper
import HandS.ForSpec
import HandS.ExcInit
import HandS.Nested
import HandS.FStr
import PyProof.StrBlock2
import KE.KDictList
import KE.KRevIter
import HandS.Rev
import HandS.Conv
import KE.SortData
import KE.SortKeyHeap
import HandS.SortInts
import HandS.ForMost
import HandS.DeepEq
import HandS.IsInst
import HandS.Walk
import HandS.DictComp
import HandS.Style
import HandS.Star
import HandS.Deep
import HandS.CallLocal
import HandS.CallSlots
import HandS.Wide
import PySem.Challenge.RW_retroact_k51_forms_and_intervals
set_option Elab.async false
set_option linter.all false
set_option maxRecDepth 100000
set_option maxHeartbeats 4000000
namespace RX
open PySem PySem.Spec PyProof.Rows L2 LamX NdefX
open PySem.W (kxs_mw KxsAt)
/-! ### the bound built-in __init__ of an exception that is being made, called -/
section
variable {prog : Program} {w : World} {A : Around} {E : Value → Shared → Prop} {h : Heap} {g : Array GenState} {d : Drawn} {t : Nat} {os : OsState}
variable {nm q : Str} {C N : Addr} {bs bm : List Value} {hdct : Bool} {sn : List Str} {sub : List Value} {ab : Bool} {col : Option Bool} {dd : Option Addr} {k0 k1 k2 k3 k5 : Option Value}
theorem call_mw {u e t0 : Addr} {rest : List Value} {Q : Value → Shared → Prop}
    (hC : h.get? C = some (excClassObj nm q C N bs bm hdct sn sub ab col dd k0 k1 k2 k3 k5 "ValueError.__new__")) (he : h.get? e = some (HandSPX.excO C t0)) (hu : h.get? u = some (kxs_mw "ValueError.__init__" e)) (hrest : rest.length ≤ sizeLine)
    (hq : ∀ h' t1, (∀ b o, b ≠ e → h.get? b = some o → h'.get? b = some o) → h'.get? e = some (HandSPX.excO C t1) → Q .none ⟨h', g, d, t, os⟩) :
    wpAny (model prog w) A (call (.ref u) rest) Q E ⟨h, g, d, t, os⟩ := by
  refine wpAny_call (codeAny_of_tree ?_)
  show wpAny _ A.in1 (callAny (.ref u) ⟨rest, []⟩) _ _ _
  simp only [callAny]
  refine wpAny_bind (wpAny_load hu ?_)
  simp only [kxs_mw, show (Value.type "method-wrapper" == Value.type "method" || Value.type "method-wrapper" == Value.type "builtin_function_or_method" || Value.type "method-wrapper" == Value.type "method-wrapper") = true by decide, if_true]
  refine W.KFB.if_so (by decide) ?_
  refine wpAny_bind (W.check_bound_init F.excBase_ValueError.toExcCallFacts hC he rfl ?_)
  refine wpAny_bind (wpAny_pure (wpAny_pure ?_))
  refine ⟨Code.quiet_builtin _ (by decide +kernel), codeAny_builtin F.excBase_ValueError.initEntry ?_⟩
  rw [Around.under_plainId F.excBase_ValueError.init.plain _]
  wp_walk
  refine hq _ h.objs.size (fun b o hb ho => ?_) ?_
  · rw [Heap.get?_update_other _ _ (Ne.symm hb)]
    exact Heap.get?_push_of_some _ ho
  · rw [Heap.get?_update_self _ (Heap.get?_push_of_some _ he) rfl]
    rfl
end
/-- what the written part says of the class for super().__init__ -/
structure SupC (prog : Program) (K : PySem.W.Frag) (mg : Str → Option Value) (C cc cda : Addr) : Prop where
  ox : OexC K C
  cell : ∃ cl cld csl, K.lookup cc = some ⟨cl, cld, .cell (some (.ref C)), csl⟩
  code : ∃ ccl cdd vs ccs file tf, K.lookup cda = some ⟨ccl, cdd, .fields vs, ccs⟩ ∧ vs[2]? = some (.str file tf) ∧ ((prog.main.file : Str) == file) = true
  self : PySem.W.mroIn K C (.ref C) = some true
  sup : mg "super" = none
  top : (prog.main.scope.names.lookup ("super" : Str)).isSome = false
  opq : PySem.W.nsIn K cStatics "thirdparty.any" = some none
  ini : PySem.W.ks_superIn K C C "__init__" = some (some (.builtin "ValueError.__init__"))
  vE : PySem.W.subIn K (.ref C) (.type "ValueError") = some true
theorem startF_head {N : List Str} {a : Addr} {vs : List V} {ws : List (Option V)} : (startF N (.ref a :: vs) ws)[0]? = some (some (.ref a)) := rfl

section
variable {CX : CXT} {P : Program} {w : World} {K : PySem.W.Frag} {mg : Str → Option Value} {base : Heap} {N ps : List Str} {fI cc cda C : Addr} {k : Nat} {sp : Sp}
  {nm qual : Str} {params : Arguments} {body rest : List Stmt} {scope : Scope} {kV doc pm ct oc : Value} {an od : Option Addr} {osl : Array (Option Value)} {e : Expr} {p0 p1 p2 p3 p4 : Pos} {ar : Arg}
abbrev supF (nm qual : Str) (params : Arguments) (body : List Stmt) (scope : Scope) (cc cda : Addr) : NF := ⟨nm, qual, params, body, scope, [("__class__", cc)], cda⟩
theorem fn_super (T : SupC P K mg C cc cda) (S : NScope N ps ["__class__"] scope) (hbd : body = .Expr (.Call (.Attribute (.Call (.Name "super" p0) [] [] p1) "__init__" p2) [e] [] p3) p4 :: rest)
    (lk : K.lookup fI = some ⟨oc, od, .func (PySem.W.ksFn nm qual params body scope .none kV doc pm an (.ref cda) ct cc), osl⟩) (hcd : PySem.W.codeIn K (.ref cda) qual = true)
    (hks : scope.names.lookup ("super" : Str) = some .globalImplicit) (hp : (params.posonlyargs ++ params.args).head? = some ar) (hps : ps.head? = some ar.arg)
    (len : ∀ vs H Q E, sp vs H Q E → vs.length = ps.length)
    (hst : ∀ env : Env, starEach [e] env = (false, eval e env) :: starEach [] env)
    (hev : ∀ L : Addr, ∃ pl : Sem Bool, eval (.Call (.Attribute (.Call (.Name "super" p0) [] [] p1) "__init__" p2) [e] [] p3) (envF (supF nm qual params body scope cc cda) fI L) = (do
      let ov ← attributeBase (.Call (.Name "super" p0) [] [] p1) "__init__" (envF (supF nm qual params body scope cc cda) fI L) (eval (.Call (.Name "super" p0) [] [] p1) (envF (supF nm qual params body scope cc cda) fI L))
      standAt p2.atName
      let (f, first) ← holding [ov] (getMethod ov "__init__" pl)
      callWith p3 f first (backTo p3 (starEach [e] (envF (supF nm qual params body scope cc cda) fI L))) []))
    (hbody : ∀ (A : Around) (outer : List Env) (s : Shared) (H : Hp) (vs : List V) (Q : VK) (E : XK), Room k (A.deeper (envF (supF nm qual params body scope cc cda) fI s.heap.objs.size)) → sp vs H Q E →
      ∃ (a : Addr) (vr : List V) (te : TE) (t : TS), vs = .ref a :: vr ∧ H a = some (exo a C none) ∧ PE (ncx CX P w K mg base N (supF nm qual params body scope cc cda) fI A outer s H E) e te ∧
        PSs (ncx CX P w K mg base N (supF nm qual params body scope cc cda) fI A outer s H E) rest t ∧
        te (startF N vs [none]) H (fun x H1 => ([x] : List V).length = 1 ∧ H1 a = some (exo a C none) ∧ t { nx := fun _ H' => Q .non H', rt := Q } (startF N vs [none]) H1)) :
    FnOk P w K mg base CX (k + 1) fI (PySem.W.ksFn nm qual params body scope .none kV doc pm an (.ref cda) ct cc) ps sp := by
  refine ⟨len, fun A outer s H args us vs Q E hr e0 hb r hsp => ?_⟩
  have hl := len _ _ _ _ hsp
  have X : K.In s.heap := e0.mod.kin.keeps fun b o q => (e0.bs b o q).1
  have lim : s.heap.NoLimit := e0.mod.nolimit.keeps fun b o q => (e0.bs b o q).1
  obtain ⟨cl, cld, csl, hcell⟩ := T.cell
  obtain ⟨ccl, cdd, vsA, ccs, file, tf, hcode, hvs, hfile⟩ := T.code
  obtain ⟨cn, cq, cN, cbs, cbm, csn, csub, cab, ccol, cdd0, k0, k1, k2, k3, k5, hC, hbm⟩ := T.ox.cls
  have hclsC : PySem.W.clsIn K C = some { name := cn, bases := cbs, mro := .ref C :: cbm, ns := cN, qualname := cq, hasDict := true, slotNames := csn, subclasses := csub, abstract := cab, collection := ccol, hasDel := false } := by unfold PySem.W.clsIn; rw [hC] <;> rfl
  refine PySem.ks_codeAny_call_defAt (fd := PySem.W.ksFn nm qual params _ scope .none kV doc pm an (.ref cda) ct cc) (binds := ps.zip us) hr.depth (X _ _ lk) rfl lim (PySem.W.codeRec_of X hcd) rfl hb S.nocell (fun ⟨n, _⟩ hy => S.par n (List.of_mem_zip hy).1) (fun h₁ hns kp => ?_) S.co S.gen S.kind
  obtain ⟨a, vr, te, t, rfl, hexo, hpe, hss, hq⟩ := hbody A outer s H vs Q E (hr.deeper _) hsp
  have ocell : s.heap.get? cc = some ⟨cl, cld, .cell (some (.ref C)), csl⟩ := X _ _ hcell
  have CA : CellsAt (supF nm qual params body scope cc cda).cl ["__class__"] [none] s.heap H := by
    have one : ∀ {y : Str} {c : Addr}, List.lookup y [(("__class__" : Str), cc)] = some c → y = "__class__" ∧ c = cc := fun {y c} z => by
      by_cases hy : y = ("__class__" : Str)
      · subst hy
        simp [List.lookup] at z
        exact ⟨rfl, z.symm⟩
      · have : (y == ("__class__" : Str)) = false := by simpa using hy
        simp [List.lookup, this] at z
    refine ⟨rfl, fun y c z => ?_, fun x y c z1 z2 => ?_, fun i y hy => ?_⟩
    · obtain ⟨_, rfl⟩ := one z
      exact ⟨(e0.bs _ _ (e0.mod.kin _ _ hcell)).2, _, _, ocell, rfl⟩
    · rw [(one z1).1, (one z2).1]
    · refine ⟨cc, ?_, fun v hv => ?_⟩
      · have : y = "__class__" := by
          cases i with
          | zero => simpa using hy.symm
          | succ i => simp at hy
        subst this
        simp [List.lookup]
      · cases i with
        | zero => simp at hv
        | succ i => simp at hv
  have I : Inv (ncx CX P w K mg base N (supF nm qual params body scope cc cda) fI A outer s H E) [] (startF N (.ref a :: vr) [none]) H { s with heap := h₁, toks := s.toks + (ps.zip us).length } :=
    inv_startN S hr.hd e0 hl r CA hns kp
  have ha0 : (startF N (.ref a :: vr) [none])[0]? = some (some (.ref a)) := rfl
  have hN0 : N[0]? = some ar.arg := by
    have e1 : ps[0]? = some ar.arg := by rw [← List.head?_eq_getElem?]; exact hps
    have hlt : 0 < ps.length := (List.getElem?_eq_some_iff.mp e1).1
    have e2 : (ps ++ [("__class__" : Str)])[0]? = some ar.arg := by rw [List.getElem?_append_left hlt]; exact e1
    rw [← S.pre, List.getElem?_take_of_lt (by omega)] at e2
    exact e2
  have hka : scope.names.lookup ar.arg = some .local := S.par _ (List.mem_of_mem_head? hps)
  obtain ⟨m, hn, hl2⟩ := id I.loc
  obtain ⟨ua, ra, la⟩ := hl2 0 ar.arg (.ref a) hN0 ha0 (.inl hka)
  obtain rfl : ua = Value.ref a := ra
  have hma : m ar.arg = some (.ref a) := by
    rcases la with ⟨_, z⟩ | ⟨z, _⟩
    · exact z
    · have hka' : scope.names.lookup ar.arg = some .cell ∨ scope.names.lookup ar.arg = some .free := z
      rw [hka] at hka'
      rcases hka' with z | z <;> cases z
  obtain ⟨mb, hb1, hb2⟩ := I.mod.blt
  obtain ⟨t1, hoa⟩ := exo_at I.hok hexo
  have XI := I.kIn
  show PySem.wpAt (model P w) (A.deeper (envF (supF nm qual params body scope cc cda) fI s.heap.objs.size)) (.func body (envF (supF nm qual params body scope cc cda) fI s.heap.objs.size)) (execs body (envF (supF nm qual params body scope cc cda) fI s.heap.objs.size)) _ (ncx CX P w K mg base N (supF nm qual params body scope cc cda) fI A outer s H E).xe _
  have hex : execs body (envF (supF nm qual params body scope cc cda) fI s.heap.objs.size) = execs (.Expr (.Call (.Attribute (.Call (.Name "super" p0) [] [] p1) "__init__" p2) [e] [] p3) p4 :: rest) (envF (supF nm qual params body scope cc cda) fI s.heap.objs.size) := by rw [← hbd]
  rw [hex]
  obtain ⟨pl, hevL⟩ := hev s.heap.objs.size
  refine ks_wpAt_execs_cons (ks_wpAt_Expr_any (ks_wpAt_MethodCall (pl := pl) ?_ hevL) I.quiet)
  refine ks_wpAt_super_base hks (S.frk _ List.mem_cons_self) rfl rfl (XI _ _ lk) rfl hp rfl (XI _ _ hcode) rfl hvs hfile T.top ?_
  refine PySem.W.ks_loadName_global S.kind hks (Calls.loadGlobal_builtin (I.mod.glob.keeps I.bk) T.sup (hb1.keeps I.bk) ((hb2 _ (by decide)).trans Boot.super) ⟨rfl, ?_⟩)
  refine wpAny_loadName_free S.kind (S.frk _ List.mem_cons_self) rfl ⟨_, XI _ _ hcell, rfl⟩ ?_
  refine wpAny_loadName_local S.kind hka hn hma ?_
  have hD1 : h₁.get? C = some (excClassObj cn cq C cN cbs cbm true csn csub cab ccol cdd0 k0 k1 k2 k3 k5 "ValueError.__new__") := XI _ _ hC
  refine ks_wpAny_isType_cls hD1 rfl ⟨rfl, ?_⟩
  refine ks_wpAny_call_super hD1 rfl hoa rfl (fun c z => by cases z) (PySem.W.looks_mroIn XI T.self) (fun h2 hso k2 => ?_)
  have I2 : Inv (ncx CX P w K mg base N (supF nm qual params body scope cc cda) fI A outer s H E) [] (startF N (.ref a :: vr) [none]) H { s with heap := h2, toks := s.toks + (ps.zip us).length } := I.kept (t' := s.toks + (ps.zip us).length) k2
  have hs12 : h₁.objs.size < h2.objs.size := Heap.lt_size hso
  have IA : PySem.W.InstAt h2 a (HandSPX.excO C t1) C none := ⟨k2 _ _ hoa, rfl, rfl, trivial⟩
  have hI2 : PySem.W.Looks (model P w) h2 (isInstance (.ref a) (.type "ValueError")) true := IA.type.andThen (PySem.W.looks_subIn I2.kIn T.vE)
  have hini : PySem.W.alongIn K "__init__" ((((Value.ref C :: cbm)).dropWhile (· != .ref C)).drop 1) = some (some (.builtin "ValueError.__init__")) := by
    have z := T.ini
    unfold PySem.W.ks_superIn at z
    rw [hclsC] at z
    exact z
  refine PySem.W.kxs_getMethod PySem.W.kxs_ValueError hso (PySem.W.looks_opaque I2.kIn T.opq) (l₀ := .ref C :: cbm) ((PySem.W.looks_clsIn I2.kIn hclsC).andThen .now) rfl I2.kIn hini hI2 (PySem.W.ks_ne I2.kIn IA hclsC) (by decide) ?_
  have hu3 : (h2.push (kxs_mw "ValueError.__init__" a)).get? h2.objs.size = some (kxs_mw "ValueError.__init__" a) := Heap.get?_push_size _ rfl
  have I3 : Inv (ncx CX P w K mg base N (supF nm qual params body scope cc cda) fI A outer s H E) [] (startF N (.ref a :: vr) [none]) H { s with heap := h2.push (kxs_mw "ValueError.__init__" a), toks := s.toks + (ps.zip us).length + 1 } :=
    I2.kept (t' := s.toks + (ps.zip us).length + 1) (fun b o z => Heap.get?_push_of_some _ z)
  have I4 : Inv (ncx CX P w K mg base N (supF nm qual params body scope cc cda) fI A outer s H E) [(h2.objs.size, kxs_mw "ValueError.__init__" a)] (startF N (.ref a :: vr) [none]) H { s with heap := h2.push (kxs_mw "ValueError.__init__" a), toks := s.toks + (ps.zip us).length + 1 } :=
    I3.pins_of fun p hp => by
      have hp' : p = (h2.objs.size, kxs_mw "ValueError.__init__" a) := by simpa using hp
      subst hp'
      exact ⟨hu3, I2.hok.fresh (Nat.le_refl _), Nat.ne_of_gt I2.lt, I2.nofs (Nat.le_refl _), fun v z => by cases z⟩
  have hargs := (pa_cons hpe pa_nil (hs := hst _)).run p3 [(h2.objs.size, kxs_mw "ValueError.__init__" a)] { s with heap := h2.push (kxs_mw "ValueError.__init__" a), toks := s.toks + (ps.zip us).length + 1 } (startF N (.ref a :: vr) [none]) H (fun vs H1 => vs.length = 1 ∧ H1 a = some (exo a C none) ∧ t { nx := fun _ H' => Q .non H', rt := Q } (startF N (.ref a :: vr) [none]) H1) I4 hq
  have hst' : starEach [e] (ncx CX P w K mg base N (supF nm qual params body scope cc cda) fI A outer s H E).env = (false, eval e (envF (supF nm qual params body scope cc cda) fI s.heap.objs.size)) :: starEach [] (envF (supF nm qual params body scope cc cda) fI s.heap.objs.size) := hst _
  rw [hst'] at hargs
  rw [hst]
  refine PySem.W.kxs_callWith (i := "ValueError.__init__") (x := a) rfl ?_
  refine Calls.evalArgs_plain ?_
  refine thn hargs fun us' s5 hh => ?_
  obtain ⟨vs5, H5, I5, r5, hl5, he5, hq5⟩ := hh
  obtain ⟨hmw5, _⟩ := I5.pin _ (List.mem_append_right _ List.mem_cons_self)
  refine ⟨hmw5, ?_⟩
  obtain ⟨t5, ho5⟩ := exo_at I5.hok he5
  obtain ⟨hp5, g5, dr5, tk5, os5⟩ := s5
  have hlen5 : us'.length ≤ sizeLine := by
    rw [← Paired.length r5, hl5, sizeLine_eq]
    decide
  refine call_mw (t0 := t5) (I5.kIn _ _ hC) ho5 hmw5 hlen5 fun h6 t6 k6 hx6 => ?_
  have J := I5.write (t' := tk5) (x := a) (e := a) (o := exo a C none) (h' := h6) (by rw [he5]; exact True.intro) (.inl rfl) k6 ⟨_, hx6⟩ (exo_ok hx6)
  have eu : upd H5 a (exo a C none) = H5 := by
    funext b
    by_cases hb : b = a
    · rw [hb, upd_same, he5]
    · rw [upd_ne hb]
  rw [eu] at J
  refine PySem.wpAt_of_wpAny (wpAny_mono (hss.run _ _ _ _ _ J hq5) (fun fl s' hs => ?_) fun e s' hs => hs)
  have fin : ∀ {σ' : L2.St} {H' : Hp} {v : V} {u : Value}, Inv (ncx CX P w K mg base N (supF nm qual params body scope cc cda) fI A outer s H E) [(h2.objs.size, kxs_mw "ValueError.__init__" a)] σ' H' s' → L2.RelV v u → Q v H' → CE outer P w H s Q u s' :=
    fun {σ' H' v u} J rv q => ⟨v, H', J.os, J.bare, J.base, J.hok, rv, q⟩
  cases fl with
  | ret u =>
    obtain ⟨v, σ', H', J, rv, q⟩ := hs
    exact fin J rv q
  | next =>
    obtain ⟨σ', H', J, q⟩ := hs
    exact fin (v := V.non) (u := Value.none) J rfl q
  | brk =>
    obtain ⟨_, _, _, q⟩ := hs
    exact False.elim q
  | cont =>
    obtain ⟨_, _, _, q⟩ := hs
    exact False.elim q
end
end RX
namespace RX
open PySem PySem.Spec PyProof.Rows L2 RT
/-! ### a text some times -/
section
variable {X : Cx}
theorem op_mul_str : OpR X (binaryOp .Mult) (fun x y H Q => ∃ z n, x = .str z ∧ y = .int n ∧ MulOk z n ∧ Q (.str (Txt.mul z n)) H) := by
  intro pins s σ H x y v u Q I rx ry h
  obtain ⟨z, n, rfl, rfl, ok, q⟩ := h
  obtain ⟨t, rfl⟩ := rx
  obtain ⟨t', rfl⟩ := ry
  exact SB.mul ok fun t2 tk => ⟨.str (Txt.mul z n), H, I.tok _, ⟨_, rfl⟩, q⟩
end
/-! ### list(reversed(x)), x a list -/
section
variable {prog : Program} {w : World} {A : Around} {E : Value → Shared → Prop} {s : Shared} {it l S : Addr} {items : Array Value}
theorem rl_grow {R : Result → Shared → Prop} (hh : A.handled = none) (hit : s.heap.IsRevIter it l ((items.size : Int) - 1)) (hl : s.heap.IsList l items) (hne : l ≠ it) (hn : items.size ≤ sizeLine) (hSi : S ≠ it) (hSl : S ≠ l) (res : Value) (c₀ : Nat)
    (hS : s.heap.get? S = some { cls := .type "list", data := .seq #[] c₀ })
    (hR : ∀ h' tk acc' c', (∀ b o, b ≠ S → b ≠ it → s.heap.get? b = some o → h'.get? b = some o) → h'.get? S = some { cls := .type "list", dict := none, data := .seq acc' c', slots := #[] } → ItemsOf (fun i v => items[items.size - 1 - i]? = some v) acc' items.size → R (.ok (.ret res)) { s with heap := h', toks := tk }) :
    wpAny (model prog w) A.in1 (Builtin.List.listExtendWith (.ref S) (.ref it) res)
      (fun fin s' => match fin with | .done f => R (.ok f) s' | .again c' => c'.quiet = true ∧ codeAny (model prog w) A c' R s') (fun e s' => R (.error e) s') s := by
  have W := (Walks.listRev (prog := prog) (w := w) (A := A.in1) hh it l hne items).toS
  have hSf : S ∉ [it, l] := by simp only [List.mem_cons, List.not_mem_nil, or_false, not_or]; exact ⟨hSi, hSl⟩
  have hT : s.TypeIs (.ref it) "list_reverseiterator" := hit.typeIs
  have same : Builtin.List.listSameRef (.ref S) (.ref it) = false := by simp [Builtin.List.listSameRef, hSi]
  unfold Builtin.List.listExtendWith
  refine wpAny_bind (wpAny_typeOf hT ?_)
  rw [if_neg (by rw [same]; decide)]
  refine wpAny_bind (wpAny_pyIter_revIter hit ?_)
  refine wpAny_bind (wpAny_holding ?_)
  unfold Builtin.List.listLengthHint
  refine wpAny_bind (wpAny_specialOf hT nolen_lri ?_)
  show wpAny _ A.in1 (specialOf (Value.ref it) (Str.ofString "__length_hint__") >>= _) _ _ _
  refine wpAny_bind (wpAny_specialOf hT hint_lri ?_)
  generalize hid : ("list_reverseiterator.__length_hint__" : String) = id0
  wp_delta
  rw [show splitId id0 = some ("list_reverseiterator", "__length_hint__") from by subst hid; decide +kernel]
  subst hid
  refine wpAny_bind (wpAny_isInstance (b := true) hT (by rw [isSubtype_type]; kernel_rfl) ?_)
  refine wpAny_pure ?_
  rw [if_neg (by decide)]
  have e0 : ((items.size : Nat) : Int) - 1 - ((0 : Nat) : Int) = (items.size : Int) - 1 := by omega
  refine wpAny_pure ⟨plainId_quiet F.plain_extend_loop _, codeAny_extend_loopS W hn _ hSf _ items.size 0 _ _ _ rfl (Nat.zero_le _) ⟨Nat.zero_le _, by rw [e0]; exact hit, hl⟩ hS (ItemsOf.nil _) fun s' acc' c' hm hS' hacc => ?_⟩
  rw [Moved.eq_with hm]
  refine hR s'.heap s'.toks acc' c' (fun b o hb hb2 e => hm.heap b o (fun hmem => ?_) e) hS' hacc
  rcases List.mem_cons.mp hmem with e' | hmem
  · exact hb e'
  · exact hb2 (List.mem_singleton.mp hmem)
theorem rl_fill {R : Result → Shared → Prop} (hh : A.handled = none) (hit : s.heap.IsRevIter it l ((items.size : Int) - 1)) (hl : s.heap.IsList l items) (hne : l ≠ it) (hn : items.size ≤ sizeLine) (hSi : S ≠ it) (hSl : S ≠ l)
    (hS : s.heap.get? S = some { cls := .type "list", data := .seq #[] })
    (hR : ∀ h' tk acc' c', (∀ b o, b ≠ S → b ≠ it → s.heap.get? b = some o → h'.get? b = some o) → h'.get? S = some { cls := .type "list", dict := none, data := .seq acc' c', slots := #[] } → ItemsOf (fun i v => items[items.size - 1 - i]? = some v) acc' items.size → R (.ok (.ret .none)) { s with heap := h', toks := tk }) :
    wpAny (model prog w) A.in1 (Builtin.«list.__init__» ⟨[.ref S, .ref it], []⟩)
      (fun fin s' => match fin with | .done f => R (.ok f) s' | .again c' => c'.quiet = true ∧ codeAny (model prog w) A c' R s') (fun e s' => R (.error e) s') s := by
  show wpAny _ _ (do let old ← Builtin.List.listItems (.ref S); Builtin.List.listUpdate (.ref S) (fun _ => #[]); letGo old.toList.reverse; Builtin.List.listExtendWith (.ref S) (.ref it) .none) _ _ s
  refine wpAny_bind ?_
  unfold Builtin.List.listItems
  refine wpAny_bind (wpAny_seqItems hS rfl (wpAny_pure ?_))
  show wpAny _ _ (updateSeq S (fun _ => #[]) >>= fun _ => letGo (#[] : Array Value).toList.reverse >>= fun _ => Builtin.List.listExtendWith (.ref S) (.ref it) .none) _ _ s
  refine wpAny_bind (wpAny_updateSeq hS rfl ?_)
  have oth : ∀ b o, b ≠ S → s.heap.get? b = some o → (s.heap.update S (Obj.mapSeq (fun _ => (#[] : Array Value)))).get? b = some o := fun b o hb e => (Heap.get?_update_other _ _ (Ne.symm hb)).trans e
  refine wpAny_bind (wpAny_letGo ?_)
  obtain ⟨ol, hol, hl'⟩ := id hl
  refine rl_grow hh (hit.at fun o e => oth it o (Ne.symm hSi) e) ⟨ol, oth l _ (Ne.symm hSl) hol, hl'⟩ hne hn hSi hSl .none _ (Heap.get?_update_self (Obj.mapSeq (fun _ => (#[] : Array Value))) hS rfl) (fun h' tk acc' c' hk hS' hacc => ?_)
  exact hR h' tk acc' c' (fun b o hb hb2 e => hk b o hb hb2 (oth b o hb e)) hS' hacc
theorem call_list_rev {Q : Value → Shared → Prop} (hh : A.handled = none) (hit : s.heap.IsRevIter it l ((items.size : Int) - 1)) (hl : s.heap.IsList l items) (hne : l ≠ it) (hn : items.size ≤ sizeLine)
    (hQ : ∀ h' tk acc' c', (∀ b o, b ≠ it → s.heap.get? b = some o → h'.get? b = some o) → h'.get? s.heap.objs.size = some { cls := .type "list", dict := none, data := .seq acc' c', slots := #[] } → ItemsOf (fun i v => items[items.size - 1 - i]? = some v) acc' items.size → Q (.ref s.heap.objs.size) { s with heap := h', toks := tk }) :
    wpAny (model prog w) A (call (.type "list") [.ref it]) Q E s := by
  refine callType_codes (Q₁ := fun obj s₁ => obj = .ref s.heap.objs.size ∧ s₁ = { s with heap := s.heap.push { cls := .type "list", data := .seq #[] } }) PySem.F.called_list (PySem.F.typeCall_list_1 _) PySem.F.entry_list_init
    (PySem.code_list_new _ ⟨rfl, rfl⟩) fun obj s₁ h₁ => ?_
  obtain ⟨rfl, rfl⟩ := h₁
  have hS : (s.heap.push { cls := .type "list", data := .seq #[] }).get? s.heap.objs.size = some { cls := .type "list", data := .seq #[] } := Heap.get?_push_size _ rfl
  obtain ⟨oi, hoi, _⟩ := id hit
  obtain ⟨ol, hol, _⟩ := id hl
  refine ⟨⟨_, hS, rfl⟩, PySem.F.args_list_init_2 _ _, rl_fill (A := A.in1) hh (hit.at fun o e => Heap.get?_push_of_some _ e) (hl.push _) hne hn (Nat.ne_of_gt (Heap.lt_size hoi)) (Nat.ne_of_gt (Heap.lt_size hol)) hS (fun h' tk acc' c' hk hS' hacc => ?_)⟩
  exact ⟨rfl, hQ h' tk acc' c' (fun b o hb e => hk b o (Nat.ne_of_lt (Heap.lt_size e)) hb (Heap.get?_push_of_some _ e)) hS' hacc⟩
end
def tLstRev (K : PySem.W.Frag) (te : TE) : TE := fun σ H Q => te σ H fun v H1 => ∃ (a : Addr) (xs : List V), v = .ref a ∧ SqL K H1 a xs ∧ ∀ q, H1 q = none → Q (.ref q) (upd H1 q (.lst xs.reverse))
section
variable {X : Cx}
theorem pe_listRev {e : Expr} {te : TE} {p p2 pos pos2 : Pos} (hc : X.calm = true) (hg : Gl X "list") (hm : X.mg "list" = none) (hg2 : Gl X "reversed") (hm2 : X.mg "reversed" = none) (he : PE X e te)
    (hs : starEach [e] X.env = (false, eval e X.env) :: starEach [] X.env := by rfl)
    (hs2 : starEach [.Call (.Name "reversed" p2) [e] [] pos2] X.env = (false, eval (.Call (.Name "reversed" p2) [e] [] pos2) X.env) :: starEach [] X.env := by rfl) :
    PE X (.Call (.Name "list" p) [.Call (.Name "reversed" p2) [e] [] pos2] [] pos) (tLstRev X.K te) := by
  refine ⟨fun pins s σ H Q I h => ?_⟩
  refine Call_ (ld_blt I hg hm boot_list (PyProof.Rows.callWith_type1 (args_cons (Call_ (ld_blt I hg2 hm2 PyProof.Rows.boot_reversed (PyProof.Rows.callWith_type1 (args_cons (thn (he.run pins s σ H _ I h) fun u s1 ⟨v, H1, I1, r1, q1⟩ => args_nil ?_) hs) hs rfl))) hs2) hs2 rfl))
  obtain ⟨a, xs, ev, hq, q⟩ := q1
  subst ev
  obtain rfl : u = Value.ref a := r1
  obtain ⟨its, rv, p', hz⟩ := I1.list hq
  refine call_reversed_list p'.isList (args_nil ?_)
  have k0 : ∀ b o, s1.heap.get? b = some o → (s1.heap.push (revObj a ((its.toArray.size : Int) - 1))).get? b = some o := fun b o e => Heap.get?_push_of_some _ e
  have I2 : Inv X pins σ H1 { s1 with heap := s1.heap.push (revObj a ((its.toArray.size : Int) - 1)) } := I1.kept (t' := s1.toks) k0
  obtain ⟨f0, f1, f2, f3, f4, f5⟩ := I1.fpOk (H' := H1) (b := s1.heap.objs.size) (Nat.le_refl _) (I1.hok.fresh (Nat.le_refl _))
  have hl := p'.isList
  obtain ⟨ol, hol, _⟩ := id hl
  have hne : a ≠ s1.heap.objs.size := Nat.ne_of_lt (Heap.lt_size hol)
  have hn : its.toArray.size ≤ sizeLine := by rw [List.size_toArray, ← rv.length]; exact hz
  refine call_list_rev (s := { s1 with heap := s1.heap.push (revObj a ((its.toArray.size : Int) - 1)) }) (I1.ok.hd hc) ⟨_, Heap.get?_push_size _ rfl, rfl, rfl⟩ (hl.push _) hne hn fun h' tk acc c' hk hS hi => ?_
  have eS : (s1.heap.push (revObj a ((its.toArray.size : Int) - 1))).objs.size = s1.heap.objs.size + 1 := Heap.size_push _ _
  have keep : ∀ b o, s1.heap.get? b = some o → h'.get? b = some o := fun b o e => hk b o (Nat.ne_of_lt (Heap.lt_size e)) (k0 b o e)
  have le : s1.heap.objs.size ≤ (s1.heap.push (revObj a ((its.toArray.size : Int) - 1))).objs.size := by rw [eS]; exact Nat.le_succ _
  refine ⟨V.ref (s1.heap.push (revObj a ((its.toArray.size : Int) - 1))).objs.size, upd H1 _ (.lst xs.reverse), I1.laid keep le (show ObjOk X.prog X.w _ _ _ (.lst xs.reverse) from ⟨by rw [List.length_reverse]; exact hz, acc.toList, c', vals_rev rv hi, ?_⟩), rfl, q _ (I1.hok.fresh le)⟩
  rw [Array.toArray_toList]
  exact hS
end
end RX
namespace RX
open PySem PySem.Spec PyProof.Rows L2
section
variable {β : Type}
/-- values beside what they stand for -/
theorem each_vals {R : V → β → Prop} : ∀ {us : List V} {bs : List β} {its : List Value}, PySem.W.EachIs R us bs → Vals us its → PySem.W.EachIs (fun (u : Value) b => ∃ v, RelV v u ∧ R v b) its bs
  | _, _, _, .nil, .nil => .nil
  | _, _, _, .cons h t, .cons r q => .cons ⟨_, r, h⟩ (each_vals t q)
theorem each_back {R : V → β → Prop} : ∀ {its : List Value} {bs : List β}, PySem.W.EachIs (fun (u : Value) b => ∃ v, RelV v u ∧ R v b) its bs → ∃ us, PySem.W.EachIs R us bs ∧ Vals us its
  | _, _, .nil => ⟨[], .nil, .nil⟩
  | _, _, .cons ⟨v, r, h⟩ t => by
    obtain ⟨us, a, b⟩ := each_back t
    exact ⟨v :: us, .cons h a, .cons r b⟩
end
/-- sorted(xs), items that stand for data: the list in the data's order -/
def rSortedD (K : PySem.W.Frag) (β : Type) (enc : β → PyData) : List V → Hp → VK → Prop := fun vs H Q => ∃ (a : Addr) (us : List V) (bs : List β) (R : V → β → Prop), vs = [V.ref a] ∧ SqL K H a us ∧ PySem.W.EachIs R us bs ∧ (∀ v b, R v b → Dp K H v (enc b)) ∧
  PySem.W.AllAlike (bs.map enc) ∧ PySem.W.Sortable (bs.map enc) ∧ (∀ b ∈ bs, (enc b).depth ≤ 60) ∧ ∀ (out : List V) (p : Addr), PySem.W.EachIs R out (bs.mergeSort (PySem.W.dataLe false enc)) → H p = none → Q (.ref p) (upd H p (.lst out))
section
variable {X : Cx} {β : Type} {enc : β → PyData}
theorem cr_sortedD (hu : X.A.units + 66 < cLine) : CallR X (.builtin "sorted") (rSortedD X.K β enc) := by
  intro pins s σ H vs us Q I r h
  obtain ⟨a, xs, bs, R, rfl, hs, he, hR, hal, hk, hd, q⟩ := h
  obtain ⟨its, rv, hl, hz⟩ := I.list hs
  rw [Vals.ref1 r]
  have e1 := each_vals he rv
  have e2 : PySem.W.EachIs (fun (u : Value) b => ∃ as, Reads s.heap u (enc b) as) its bs := e1.mono fun u b ⟨v, r1, h1⟩ => Dp.reads I (enc b) v u (hR v b h1) r1
  have hlen : bs.length ≤ sizeLine := by rw [← e1.length, ← rv.length]; exact hz
  refine PySem.W.sorted_data hl.isList e1 e2 hal hk hlen (fun b hb => ?_) fun out ho hO => ?_
  · have := hd b hb
    omega
  obtain ⟨ys, k1, k2⟩ := each_back hO
  obtain ⟨ep, he'⟩ := PyProof.Rows.sortedAll_at s.heap its out.toArray
  have hl2 : ys.length ≤ sizeLine := by rw [k2.length, ho]; exact hlen
  exact ⟨.ref _, upd H (s.heap.objs.size + 1) (.lst ys), I.laid (t' := s.toks) (fun _ _ => PyProof.Rows.sortedAll_old) (Nat.le_succ _) ⟨hl2, out, ep, k2, he'⟩, rfl, q _ _ k1 (I.hok.fresh (Nat.le_succ _))⟩
end
end RX
set_option autoImplicit false
namespace DL
open PySem PySem.Spec L2
/-! ### data, what it stands for in a heap -/
abbrev D := PyData
abbrev Own := Addr → Prop
/-- what is not owned stays -/
def Agr (O : Own) (H H' : Hp) : Prop := ∀ a o, ¬ O a → H a = some o → H' a = some o
/-- from a heap with its owned addresses to a later one: what is owned newly was not there -/
structure Step (O : Own) (H : Hp) (O' : Own) (H' : Hp) : Prop where
  agr : Agr O H H'
  new : ∀ a, O' a → O a ∨ H a = none
theorem Agr.refl (O : Own) (H : Hp) : Agr O H H := fun _ _ _ h => h
theorem Agr.trans {O : Own} {H H1 H2 : Hp} (a : Agr O H H1) (b : Agr O H1 H2) : Agr O H H2 := fun c o n h => b c o n (a c o n h)
theorem Agr.sub {O O' : Own} {H H' : Hp} (a : Agr O H H') (h : ∀ c, O c → O' c) : Agr O' H H' := fun c o n q => a c o (fun z => n (h c z)) q
theorem Step.refl (O : Own) (H : Hp) : Step O H O H := ⟨Agr.refl O H, fun _ h => .inl h⟩
theorem Step.trans {O O1 O2 : Own} {H H1 H2 : Hp} (a : Step O H O1 H1) (b : Step O1 H1 O2 H2) : Step O H O2 H2 where
  agr := fun c o n h => by
    refine b.agr c o (fun z => ?_) (a.agr c o n h)
    rcases a.new c z with q | q
    · exact n q
    · rw [h] at q; cases q
  new := fun c z => by
    rcases b.new c z with q | q
    · exact a.new c q
    · by_cases n : O c
      · exact .inl n
      · refine .inr ?_
        cases e : H c with
        | none => rfl
        | some o => rw [a.agr c o n e] at q; cases q
theorem Agr.step {O W : Own} {H H' : Hp} (a : Agr W H H') (h : ∀ c, W c → O c) : Step O H O H' := ⟨a.sub h, fun _ z => .inl z⟩
/-- a list, a tuple of the written part -/
def WrL (K : PySem.W.Frag) (a : Addr) (xs : List V) : Prop := SqL K (fun _ => none) a xs
def WrT (K : PySem.W.Frag) (a : Addr) (xs : List V) : Prop := SqT K (fun _ => none) a xs
theorem WrL.sq {K : PySem.W.Frag} {H : Hp} {a : Addr} {xs : List V} (h : WrL K a xs) : SqL K H a xs := by
  rcases h with (h | ⟨o, h⟩) | h
  · cases h
  · cases h
  · exact .inr h
theorem WrT.sq {K : PySem.W.Frag} {H : Hp} {a : Addr} {xs : List V} (h : WrT K a xs) : SqT K H a xs := by
  rcases h with (h | ⟨o, h⟩) | h
  · cases h
  · cases h
  · exact .inr h
def NdL (K : PySem.W.Frag) (O : Own) (H : Hp) (a : Addr) (xs : List V) : Prop := H a = some (.lst xs) ∧ ¬ O a
def NdT (K : PySem.W.Frag) (O : Own) (H : Hp) (a : Addr) (xs : List V) : Prop := (Rd H a (.tup xs) ∧ ¬ O a) ∨ WrT K a xs
theorem NdL.sq {K : PySem.W.Frag} {O : Own} {H : Hp} {a : Addr} {xs : List V} (h : NdL K O H a xs) : SqL K H a xs := SqL.of h.1
theorem NdT.sq {K : PySem.W.Frag} {O : Own} {H : Hp} {a : Addr} {xs : List V} (h : NdT K O H a xs) : SqT K H a xs := h.elim (fun z => .inl z.1) WrT.sq
theorem rd_step {O O' : Own} {H H' : Hp} {a : Addr} {u : HO} (s : Step O H O' H') (h : Rd H a u ∧ ¬ O a) : Rd H' a u ∧ ¬ O' a := by
  obtain ⟨r, n⟩ := h
  refine ⟨?_, fun z => ?_⟩
  · rcases r with r | ⟨o, r⟩
    · exact .inl (s.agr _ _ n r)
    · exact .inr ⟨o, s.agr _ _ n r⟩
  · rcases s.new _ z with q | q
    · exact n q
    · rcases r with r | ⟨o, r⟩
      · rw [r] at q; cases q
      · rw [r] at q; cases q
theorem NdL.step {K : PySem.W.Frag} {O O' : Own} {H H' : Hp} {a : Addr} {xs : List V} (s : Step O H O' H') (h : NdL K O H a xs) : NdL K O' H' a xs := ⟨s.agr _ _ h.2 h.1, (rd_step s ⟨.inl h.1, h.2⟩).2⟩
theorem NdT.step {K : PySem.W.Frag} {O O' : Own} {H H' : Hp} {a : Addr} {xs : List V} (s : Step O H O' H') (h : NdT K O H a xs) : NdT K O' H' a xs := h.elim (fun z => .inl (rd_step s z)) .inr
theorem NdL.weak {K : PySem.W.Frag} {O O' : Own} {H : Hp} {a : Addr} {xs : List V} (s : ∀ c, O' c → O c) (h : NdL K O H a xs) : NdL K O' H a xs := ⟨h.1, fun q => h.2 (s _ q)⟩
theorem NdT.weak {K : PySem.W.Frag} {O O' : Own} {H : Hp} {a : Addr} {xs : List V} (s : ∀ c, O' c → O c) (h : NdT K O H a xs) : NdT K O' H a xs := h.elim (fun z => .inl ⟨z.1, fun q => z.2 (s _ q)⟩) .inr
/-- the key of a dict: an int or a text -/
def keyD : Key → D
  | .inl i => .int i
  | .inr x => .str x
mutual
/-- v stands for d; no part of it is owned -/
inductive Rep (K : PySem.W.Frag) (O : Own) (H : Hp) : V → D → Prop
  | non : Rep K O H .non .none
  | bl (b : Bool) : Rep K O H (.bl b) (.bool b)
  | int (i : Int) : Rep K O H (.int i) (.int i)
  | str (x : Str) : Rep K O H (.str x) (.str x)
  | lst {a : Addr} {us : List V} {ds : List D} : NdL K O H a us → Reps K O H us ds → Rep K O H (.ref a) (.list ds)
  | tup {a : Addr} {us : List V} {ds : List D} : NdT K O H a us → Reps K O H us ds → Rep K O H (.ref a) (.tuple ds)
  | dic {a : Addr} {us : List (Key × V)} {ds : List (D × D)} : Rd H a (.dK us) → ¬ O a → RepK K O H us ds → Rep K O H (.ref a) (.dict ds)
inductive Reps (K : PySem.W.Frag) (O : Own) (H : Hp) : List V → List D → Prop
  | nil : Reps K O H [] []
  | cons {v : V} {vs : List V} {d : D} {ds : List D} : Rep K O H v d → Reps K O H vs ds → Reps K O H (v :: vs) (d :: ds)
inductive RepK (K : PySem.W.Frag) (O : Own) (H : Hp) : List (Key × V) → List (D × D) → Prop
  | nil : RepK K O H [] []
  | cons {k : Key} {v : V} {vs : List (Key × V)} {d : D} {ds : List (D × D)} : Rep K O H v d → RepK K O H vs ds → RepK K O H ((k, v) :: vs) ((keyD k, d) :: ds)
end
section
variable {K : PySem.W.Frag} {O O' : Own} {H H' : Hp}
mutual
theorem Rep.step (s : Step O H O' H') : ∀ {v : V} {d : D}, Rep K O H v d → Rep K O' H' v d
  | _, _, .non => .non
  | _, _, .bl b => .bl b
  | _, _, .int i => .int i
  | _, _, .str x => .str x
  | _, _, .lst n r => .lst (n.step s) (Reps.step s r)
  | _, _, .tup n r => .tup (n.step s) (Reps.step s r)
  | _, _, .dic n m r => .dic (rd_step s ⟨n, m⟩).1 (rd_step s ⟨n, m⟩).2 (RepK.step s r)
theorem Reps.step (s : Step O H O' H') : ∀ {v : List V} {d : List D}, Reps K O H v d → Reps K O' H' v d
  | _, _, .nil => .nil
  | _, _, .cons h t => .cons (Rep.step s h) (Reps.step s t)
theorem RepK.step (s : Step O H O' H') : ∀ {v : List (Key × V)} {d : List (D × D)}, RepK K O H v d → RepK K O' H' v d
  | _, _, .nil => .nil
  | _, _, .cons h t => .cons (Rep.step s h) (RepK.step s t)
end
mutual
theorem Rep.weak (s : ∀ c, O' c → O c) : ∀ {v : V} {d : D}, Rep K O H v d → Rep K O' H v d
  | _, _, .non => .non
  | _, _, .bl b => .bl b
  | _, _, .int i => .int i
  | _, _, .str x => .str x
  | _, _, .lst n r => .lst (n.weak s) (Reps.weak s r)
  | _, _, .tup n r => .tup (n.weak s) (Reps.weak s r)
  | _, _, .dic n m r => .dic n (fun z => m (s _ z)) (RepK.weak s r)
theorem Reps.weak (s : ∀ c, O' c → O c) : ∀ {v : List V} {d : List D}, Reps K O H v d → Reps K O' H v d
  | _, _, .nil => .nil
  | _, _, .cons h t => .cons (Rep.weak s h) (Reps.weak s t)
theorem RepK.weak (s : ∀ c, O' c → O c) : ∀ {v : List (Key × V)} {d : List (D × D)}, RepK K O H v d → RepK K O' H v d
  | _, _, .nil => .nil
  | _, _, .cons h t => .cons (Rep.weak s h) (RepK.weak s t)
end
theorem Reps.length : ∀ {vs : List V} {ds : List D}, Reps K O H vs ds → vs.length = ds.length
  | _, _, .nil => rfl
  | _, _, .cons _ t => congrArg (· + 1) t.length
theorem Reps.append : ∀ {vs ws : List V} {ds es : List D}, Reps K O H vs ds → Reps K O H ws es → Reps K O H (vs ++ ws) (ds ++ es)
  | _, _, _, _, .nil, r => r
  | _, _, _, _, .cons h t, r => .cons h (Reps.append t r)
theorem Reps.get : ∀ {vs : List V} {ds : List D} {i : Nat} {d : D}, Reps K O H vs ds → ds[i]? = some d → ∃ v, vs[i]? = some v ∧ Rep K O H v d
  | _, _, _, _, .nil, e => by simp at e
  | _, _, 0, _, .cons h t, e => by simp at e; subst e; exact ⟨_, rfl, h⟩
  | _, _, i + 1, _, .cons h t, e => by simpa using Reps.get (i := i) t (by simpa using e)
theorem Reps.getV : ∀ {vs : List V} {ds : List D} {i : Nat} {v : V}, Reps K O H vs ds → vs[i]? = some v → ∃ d, ds[i]? = some d ∧ Rep K O H v d
  | _, _, _, _, .nil, e => by simp at e
  | _, _, 0, _, .cons h t, e => by simp at e; subst e; exact ⟨_, rfl, h⟩
  | _, _, i + 1, _, .cons h t, e => by simpa using Reps.getV (i := i) t (by simpa using e)
theorem Reps.set : ∀ {vs : List V} {ds : List D} {v : V} {d : D} (i : Nat), Reps K O H vs ds → Rep K O H v d → Reps K O H (vs.set i v) (ds.set i d)
  | _, _, _, _, _, .nil, _ => .nil
  | _, _, _, _, 0, .cons _ t, r => .cons r t
  | _, _, _, _, i + 1, .cons h t, r => .cons h (Reps.set i t r)
theorem Reps.take : ∀ {vs : List V} {ds : List D} (i : Nat), Reps K O H vs ds → Reps K O H (vs.take i) (ds.take i)
  | _, _, 0, _ => .nil
  | _, _, _ + 1, .nil => .nil
  | _, _, i + 1, .cons h t => .cons h (Reps.take i t)
theorem Reps.drop : ∀ {vs : List V} {ds : List D} (i : Nat), Reps K O H vs ds → Reps K O H (vs.drop i) (ds.drop i)
  | _, _, 0, r => r
  | _, _, _ + 1, .nil => .nil
  | _, _, i + 1, .cons h t => Reps.drop i t
theorem Reps.reverse {vs : List V} {ds : List D} (r : Reps K O H vs ds) : Reps K O H vs.reverse ds.reverse := by
  induction vs generalizing ds with
  | nil => cases r; exact .nil
  | cons v vs ih => cases r with
    | cons h t =>
      rw [List.reverse_cons, List.reverse_cons]
      exact (ih t).append (.cons h .nil)
mutual
/-- as == asks it: no dict -/
def plainD : D → Bool
  | .none => true
  | .bool _ => true
  | .int _ => true
  | .str _ => true
  | .list xs => plainDs xs
  | .tuple xs => plainDs xs
  | .dict _ => false
def plainDs : List D → Bool
  | [] => true
  | x :: xs => plainD x && plainDs xs
end
mutual
theorem Rep.dp : ∀ {v : V} {d : D}, Rep K O H v d → plainD d = true → Dp K H v d
  | _, _, .non, _ => .non
  | _, _, .bl b, _ => .bl b
  | _, _, .int i, _ => .int i
  | _, _, .str x, _ => .str x
  | _, .list ds, .lst n r, h => .lst n.sq (Reps.dp r (by simpa [plainD] using h))
  | _, .tuple ds, .tup n r, h => .tup n.sq (Reps.dp r (by simpa [plainD] using h))
  | _, .dict ds, .dic _ _ _, h => by simp [plainD] at h
theorem Reps.dp : ∀ {v : List V} {d : List D}, Reps K O H v d → plainDs d = true → DpAll K H v d
  | _, _, .nil, _ => .nil
  | _, _, .cons h t, e => by
    simp only [plainDs, Bool.and_eq_true] at e
    exact .cons (Rep.dp h e.1) (Reps.dp t e.2)
end
end
/-! ### what a name of a def holds: a value, or an object of its own (a list, a dict) that it may change -/
inductive DCell where
  | val (d : D) | own (d : D)
abbrev DEnv := List (Option DCell)
/-- the object at p, its parts not owned; p itself may be -/
inductive Flat (K : PySem.W.Frag) (O : Own) (H : Hp) (p : Addr) : D → Prop
  | lst {us : List V} {ds : List D} : H p = some (.lst us) → Reps K O H us ds → Flat K O H p (.list ds)
  | dic {us : List (Key × V)} {ds : List (D × D)} : H p = some (.dK us) → RepK K O H us ds → Flat K O H p (.dict ds)
/-- a value that is read: it may be owned itself -/
inductive Brw (K : PySem.W.Frag) (O : Own) (H : Hp) : V → D → Prop
  | rep {v : V} {d : D} : Rep K O H v d → Brw K O H v d
  | own {p : Addr} {d : D} : Flat K O H p d → Brw K O H (.ref p) d
section
variable {K : PySem.W.Frag} {O O' : Own} {H H' : Hp}
theorem Flat.step {p : Addr} {d : D} (s : Step O H O' H') (e : H' p = H p) (h : Flat K O H p d) : Flat K O' H' p d := by
  cases h with
  | lst h r => exact .lst (e.trans h) (r.step s)
  | dic h r => exact .dic (e.trans h) (r.step s)
theorem Flat.weak {p : Addr} {d : D} (s : ∀ c, O' c → O c) (h : Flat K O H p d) : Flat K O' H p d := by
  cases h with
  | lst h r => exact .lst h (r.weak s)
  | dic h r => exact .dic h (r.weak s)
theorem Flat.rep {p : Addr} {d : D} (h : Flat K O H p d) (n : ¬ O p) : Rep K O H (.ref p) d := by
  cases h with
  | lst h r => exact .lst ⟨h, n⟩ r
  | dic h r => exact .dic (.inl h) n r
theorem Flat.there {p : Addr} {d : D} (h : Flat K O H p d) : H p ≠ none := by
  cases h with
  | lst h r => rw [h]; exact fun z => by cases z
  | dic h r => rw [h]; exact fun z => by cases z
theorem Brw.lst {v : V} {ds : List D} (h : Brw K O H v (.list ds)) : ∃ a us, v = .ref a ∧ H a = some (.lst us) ∧ Reps K O H us ds := by
  cases h with
  | rep h => cases h with
    | lst n r => exact ⟨_, _, rfl, n.1, r⟩
  | own h => cases h with
    | lst h r => exact ⟨_, _, rfl, h, r⟩
theorem Brw.tup {v : V} {ds : List D} (h : Brw K O H v (.tuple ds)) : ∃ a us, v = .ref a ∧ SqT K H a us ∧ Reps K O H us ds := by
  cases h with
  | rep h => cases h with
    | tup n r => exact ⟨_, _, rfl, n.sq, r⟩
  | own h => cases h
theorem Brw.dic {v : V} {ds : List (D × D)} (h : Brw K O H v (.dict ds)) : ∃ a us, v = .ref a ∧ Rd H a (.dK us) ∧ RepK K O H us ds := by
  cases h with
  | rep h => cases h with
    | dic n m r => exact ⟨_, _, rfl, n, r⟩
  | own h => cases h with
    | dic h r => exact ⟨_, _, rfl, .inl h, r⟩
theorem Brw.int {v : V} {i : Int} (h : Brw K O H v (.int i)) : v = .int i := by
  cases h with
  | rep h => cases h; rfl
  | own h => cases h
theorem Brw.bl {v : V} {b : Bool} (h : Brw K O H v (.bool b)) : v = .bl b := by
  cases h with
  | rep h => cases h; rfl
  | own h => cases h
theorem Brw.str {v : V} {x : Str} (h : Brw K O H v (.str x)) : v = .str x := by
  cases h with
  | rep h => cases h; rfl
  | own h => cases h
theorem Brw.non {v : V} (h : Brw K O H v .none) : v = .non := by
  cases h with
  | rep h => cases h; rfl
  | own h => cases h
theorem Brw.dp {v : V} {d : D} (h : Brw K O H v d) (p : plainD d = true) : Dp K H v d := by
  cases h with
  | rep h => exact h.dp p
  | own h => cases h with
    | lst h r => exact .lst (SqL.of h) (r.dp (by simpa [plainD] using p))
    | dic h r => simp [plainD] at p
end
/-! ### a def's run: what is fixed (Fr), what holds at a point (At) -/
structure Fr where
  Oc : Own
  H0 : Hp
  pars : List (Nat × Addr)
def Ow (σ : L2.St) (env : DEnv) : Own := fun a => ∃ (i : Nat) (d : D), env[i]? = some (some (DCell.own d)) ∧ σ[i]? = some (some (V.ref a))
structure At (K : PySem.W.Frag) (F : Fr) (σ : L2.St) (H : Hp) (env : DEnv) (O : Own) : Prop where
  len : σ.length = env.length
  sub : ∀ a, F.Oc a → O a
  new : ∀ a, O a → F.Oc a ∨ F.H0 a = none
  live : ∀ a, O a → H a ≠ none
  agr : Agr (fun a => ∃ i, (i, a) ∈ F.pars) F.H0 H
  val : ∀ (i : Nat) (d : D), env[i]? = some (some (DCell.val d)) → ∃ v, σ[i]? = some (some v) ∧ Rep K O H v d
  own : ∀ (i : Nat) (d : D), env[i]? = some (some (DCell.own d)) → ∃ p, σ[i]? = some (some (V.ref p)) ∧ O p ∧ ((∃ j, (j, p) ∈ F.pars) ∨ F.H0 p = none) ∧ Flat K O H p d
  inj : ∀ (i j : Nat) (p : Addr) (d e : D), env[i]? = some (some (DCell.own d)) → env[j]? = some (some (DCell.own e)) → σ[i]? = some (some (V.ref p)) → σ[j]? = some (some (V.ref p)) → i = j
  par : ∀ q ∈ F.pars, σ[q.1]? = some (some (V.ref q.2)) ∧ ∃ d, env[q.1]? = some (some (DCell.own d))
  poc : ∀ q ∈ F.pars, F.Oc q.2
  ocl : ∀ a, F.Oc a → F.H0 a ≠ none
/-- the objects that are owned stay so, at their names -/
def OwSub (env' env : DEnv) : Prop := ∀ i : Nat, (∃ d, env'[i]? = some (some (DCell.own d))) ↔ ∃ d, env[i]? = some (some (DCell.own d))
theorem OwSub.refl (env : DEnv) : OwSub env env := fun _ => Iff.rfl
theorem OwSub.trans {a b c : DEnv} (h : OwSub b a) (k : OwSub c b) : OwSub c a := fun i => (k i).trans (h i)
section
variable {K : PySem.W.Frag} {F : Fr} {σ : L2.St} {H H' : Hp} {env env' : DEnv} {O : Own}
theorem OwSub.ow (h : OwSub env' env) {a : Addr} (q : Ow σ env' a) : Ow σ env a := by
  obtain ⟨i, d, e, s⟩ := q
  obtain ⟨d', e'⟩ := (h i).mp ⟨d, e⟩
  exact ⟨i, d', e', s⟩
theorem At.ow (A : At K F σ H env O) {a : Addr} (h : Ow σ env a) : O a := by
  obtain ⟨i, d, e, s⟩ := h
  obtain ⟨p, s', o, _⟩ := A.own i d e
  rw [s] at s'
  cases s'
  exact o
theorem At.step (A : At K F σ H env O) (a : Agr (Ow σ env) H H') : Step O H O H' := a.step fun _ z => A.ow z
theorem At.fresh (A : At K F σ H env O) {p : Addr} (h : H p = none) : F.H0 p = none ∧ ¬ O p := by
  have nO : ¬ O p := fun z => A.live p z h
  refine ⟨?_, nO⟩
  cases e : F.H0 p with
  | none => rfl
  | some o =>
    have n : ¬ ∃ i, (i, p) ∈ F.pars := fun ⟨i, z⟩ => nO (A.sub _ (A.poc _ z))
    have := A.agr p o n e
    rw [h] at this; cases this
/-- nothing owned was touched -/
theorem At.mono (A : At K F σ H env O) (s : ∀ a o, H a = some o → H' a = some o) : At K F σ H' env O where
  len := A.len
  sub := A.sub
  new := A.new
  live := fun a h z => by
    cases e : H a with
    | none => exact A.live a h e
    | some o => rw [s a o e] at z; cases z
  agr := fun a o n h => s a o (A.agr a o n h)
  val := fun i d e => by
    obtain ⟨v, h, r⟩ := A.val i d e
    exact ⟨v, h, r.step ⟨fun a o _ h => s a o h, fun _ z => .inl z⟩⟩
  own := fun i d e => by
    obtain ⟨p, h, o, q, f⟩ := A.own i d e
    refine ⟨p, h, o, q, f.step ⟨fun a o _ h => s a o h, fun _ z => .inl z⟩ ?_⟩
    cases x : H p with
    | none => exact absurd x f.there
    | some o => exact s p o x
  inj := A.inj
  par := A.par
  poc := A.poc
  ocl := A.ocl
theorem At.new1 (A : At K F σ H env O) {p : Addr} {o : HO} (h : H p = none) : At K F σ (upd H p o) env O := A.mono fun a u e => by
  rw [upd_ne (ne_of_none e h)]; exact e
end
theorem agr_new {W : Own} {H : Hp} {p : Addr} {o : HO} (h : H p = none) : Agr W H (upd H p o) := fun a u _ e => by
  rw [upd_ne (ne_of_none e h)]; exact e
/-! ### answers -/
inductive Res (α : Type) where
  | ok (a : α) | exc (c : Str) (ds : List D) | stuck
def Res.bind {α β : Type} (r : Res α) (f : α → Res β) : Res β := match r with
  | .ok a => f a
  | .exc c ds => .exc c ds
  | .stuck => .stuck
/-- an expression: its value, and what is changed -/
abbrev EF := DEnv → Res (D × DEnv)
/-- a statement -/
inductive SR where
  | nx (env : DEnv) | ret (fr : Bool) (d : D) (env : DEnv) | bk (env : DEnv) | ct (env : DEnv) | exc (c : Str) (ds : List D) | stuck
abbrev SF := DEnv → SR
/-- how exceptions are wished for: the class by its name, the fields, the heap behind -/
abbrev Wish := Str → List D → Hp → Prop
def Post {α β : Type} (K : PySem.W.Frag) (F : Fr) (W : Wish) (σ : L2.St) (H : Hp) (env : DEnv) (O : Own) (B : PySem.W.Frag → Own → Hp → β → α → Prop) (r : Res (α × DEnv)) (Q : β → Hp → Prop) : Prop := match r with
  | .ok p => ∀ v H', At K F σ H' p.2 O → Agr (Ow σ env) H H' → OwSub p.2 env → B K O H' v p.1 → Q v H'
  | .exc c ds => ∀ H', Agr (fun a => ∃ i, (i, a) ∈ F.pars) F.H0 H' → W c ds H'
  | .stuck => False
/-- a reading computes something: a value, one that may be owned, a truth value, arguments -/
def Dn {α β : Type} (B : PySem.W.Frag → Own → Hp → β → α → Prop) (K : PySem.W.Frag) (W : Wish) (t : L2.St → Hp → (β → Hp → Prop) → Prop) (f : DEnv → Res (α × DEnv)) : Prop :=
  ∀ F σ H env O Q, At K F σ H env O → Post K F W σ H env O B (f env) Q → t σ H Q
abbrev Den (K : PySem.W.Frag) (W : Wish) (t : TE) (f : EF) : Prop := Dn Rep K W t f
abbrev DenB (K : PySem.W.Frag) (W : Wish) (t : TE) (f : EF) : Prop := Dn Brw K W t f
abbrev DenT (K : PySem.W.Frag) (W : Wish) (t : TT) (f : DEnv → Res (Bool × DEnv)) : Prop := Dn (fun _ _ _ b c => b = c) K W t f
abbrev DenA (K : PySem.W.Frag) (W : Wish) (t : TA) (f : DEnv → Res (List D × DEnv)) : Prop := Dn Reps K W t f
section
variable {α β γ δ : Type} {K : PySem.W.Frag} {F : Fr} {W : Wish} {σ : L2.St} {H H1 : Hp} {env e1 : DEnv} {O : Own} {B : PySem.W.Frag → Own → Hp → β → α → Prop} {C : PySem.W.Frag → Own → Hp → δ → γ → Prop}
theorem Post.bind {r : Res (α × DEnv)} {k : α × DEnv → Res (γ × DEnv)} {Q : δ → Hp → Prop} {Q1 : β → Hp → Prop} (P : Post K F W σ H env O C (r.bind k) Q)
    (h : ∀ a e1 v H1, r = .ok (a, e1) → At K F σ H1 e1 O → Agr (Ow σ env) H H1 → OwSub e1 env → B K O H1 v a → Post K F W σ H1 e1 O C (k (a, e1)) Q → Q1 v H1) : Post K F W σ H env O B r Q1 := by
  cases r with
  | ok p =>
    obtain ⟨a, e1⟩ := p
    intro v H1 A1 g1 w1 b1
    refine h a e1 v H1 rfl A1 g1 w1 b1 ?_
    have P' : Post K F W σ H env O C (k (a, e1)) Q := P
    cases q : k (a, e1) with
    | ok p =>
      rw [q] at P'
      intro v2 H2 A2 g2 w2 b2
      exact P' v2 H2 A2 (g1.trans (g2.sub fun c z => w1.ow z)) (w1.trans w2) b2
    | exc c ds => rw [q] at P'; exact P'
    | stuck => rw [q] at P'; exact P'
  | exc c ds => exact P
  | stuck => exact P
/-- the pure end: the value is there already -/
theorem Post.now {a : α} {v : β} {Q : β → Hp → Prop} (P : Post K F W σ H env O B (.ok (a, env)) Q) (A : At K F σ H env O) (b : B K O H v a) : Q v H := P v H A (Agr.refl _ _) (OwSub.refl _) b
/-- a new object was laid -/
theorem Post.new {a : α} {v : β} {p : Addr} {o : HO} {Q : β → Hp → Prop} (P : Post K F W σ H env O B (.ok (a, env)) Q) (A : At K F σ H env O) (n : H p = none) (b : B K O (upd H p o) v a) : Q v (upd H p o) :=
  P v _ (A.new1 n) (agr_new n) (OwSub.refl _) b
end
end DL
set_option autoImplicit false
namespace DL
open PySem PySem.Spec L2
/-! ### readings and what they compute -/
/-- the heap behind an operation: as before, or with one new object -/
def Nw (H H' : Hp) : Prop := H' = H ∨ ∃ p o, H p = none ∧ H' = upd H p o
theorem Nw.refl (H : Hp) : Nw H H := .inl rfl
theorem Nw.new {H : Hp} {p : Addr} {o : HO} (h : H p = none) : Nw H (upd H p o) := .inr ⟨p, o, h, rfl⟩
theorem Nw.agr {W : Own} {H H' : Hp} (n : Nw H H') : Agr W H H' := by
  rcases n with rfl | ⟨p, o, h, rfl⟩
  · exact Agr.refl _ _
  · exact agr_new h
theorem Nw.step {O : Own} {H H' : Hp} (n : Nw H H') : Step O H O H' := (n.agr (W := O)).step fun _ z => z
section
variable {K : PySem.W.Frag} {F : Fr} {σ : L2.St} {H H' : Hp} {env : DEnv} {O : Own}
theorem At.nw (A : At K F σ H env O) (n : Nw H H') : At K F σ H' env O := by
  rcases n with rfl | ⟨p, o, h, rfl⟩
  · exact A
  · exact A.new1 h
end
def Live (O : Own) (H : Hp) : Prop := ∀ a, O a → H a ≠ none
theorem Live.fresh {O : Own} {H : Hp} (l : Live O H) {p : Addr} (h : H p = none) : ¬ O p := fun z => l p z h
/-- what is left of a value when one computes with it -/
abbrev G1 := D → Res D
abbrev G2 := D → D → Res D
abbrev GA := List D → Res D
def S1 (K : PySem.W.Frag) (r : V → Hp → VK → Prop) (g : G1) : Prop := ∀ (O : Own) (H : Hp) (x : V) (a d : D) (Q : VK), Live O H → Brw K O H x a → g a = .ok d → (∀ v H', Nw H H' → Rep K O H' v d → Q v H') → r x H Q
def S2 (K : PySem.W.Frag) (r : R2) (g : G2) : Prop := ∀ (O : Own) (H : Hp) (x y : V) (a b d : D) (Q : VK), Live O H → Brw K O H x a → Brw K O H y b → g a b = .ok d → (∀ v H', Nw H H' → Rep K O H' v d → Q v H') → r x y H Q
def SA (K : PySem.W.Frag) (r : List V → Hp → VK → Prop) (g : GA) : Prop := ∀ (O : Own) (H : Hp) (xs : List V) (ds : List D) (d : D) (Q : VK), Live O H → Reps K O H xs ds → g ds = .ok d → (∀ v H', Nw H H' → Rep K O H' v d → Q v H') → r xs H Q
/-- .. of one argument that may be owned -/
def SB (K : PySem.W.Frag) (r : List V → Hp → VK → Prop) (g : G1) : Prop := ∀ (O : Own) (H : Hp) (x : V) (a d : D) (Q : VK), Live O H → Brw K O H x a → g a = .ok d → (∀ v H', Nw H H' → Rep K O H' v d → Q v H') → r [x] H Q
def ap1 (f : EF) (g : G1) : EF := fun env => (f env).bind fun p => (g p.1).bind fun d => .ok (d, p.2)
def ap2 (f h : EF) (g : G2) : EF := fun env => (f env).bind fun p => (h p.2).bind fun q => (g p.1 q.1).bind fun d => .ok (d, q.2)
def apA (f : DEnv → Res (List D × DEnv)) (g : GA) : EF := fun env => (f env).bind fun p => (g p.1).bind fun d => .ok (d, p.2)
section
variable {K : PySem.W.Frag} {W : Wish}
/-- the last step: an operation that may lay an object -/
theorem Post.op {F : Fr} {σ : L2.St} {H : Hp} {env : DEnv} {O : Own} {g : Res D} {Q : VK} (A : At K F σ H env O) (P : Post K F W σ H env O Rep (g.bind fun d => .ok (d, env)) Q) (ng : ∀ c ds, g ≠ .exc c ds := by intro _ _ z; cases z) {G : Prop}
    (h : ∀ d, g = .ok d → (∀ v H', Nw H H' → Rep K O H' v d → Q v H') → G) : G := by
  cases e : g with
  | ok d =>
    rw [e] at P
    exact h d e fun v H' n r => P v H' (A.nw n) n.agr (OwSub.refl _) r
  | exc c ds => exact (ng c ds e).elim
  | stuck =>
    rw [e] at P
    exact (show False from P).elim
/-- an operation raises nothing -/
def NoX {α : Type} (r : Res α) : Prop := ∀ c ds, r ≠ .exc c ds
theorem den_un {r : V → Hp → VK → Prop} {g : G1} {ta : TE} {f : EF} (hr : S1 K r g) (ng : ∀ a, NoX (g a)) (ha : DenB K W ta f) : Den K W (tUn r ta) (ap1 f g) := fun F σ H env O Q A P =>
  ha F σ H env O _ A (P.bind fun a e1 v H1 _ A1 g1 w1 b1 P1 => P1.op A1 (ng a) fun d e q => hr O H1 v a d Q A1.live b1 e q)
theorem den_op {r : R2} {g : G2} {ta tb : TE} {f h : EF} (hr : S2 K r g) (ng : ∀ a b, NoX (g a b)) (ha : Den K W ta f) (hb : DenB K W tb h) : Den K W (tOp r ta tb) (ap2 f h g) := fun F σ H env O Q A P =>
  ha F σ H env O _ A (P.bind fun a e1 v H1 _ A1 g1 w1 b1 P1 => hb F σ H1 e1 O _ A1 (P1.bind fun b e2 u H2 _ A2 g2 w2 b2 P2 => P2.op A2 (ng a b) fun d e q =>
    hr O H2 v u a b d Q A2.live (.rep (b1.step (A1.step g2))) b2 e q))
theorem den_cb {r : List V → Hp → VK → Prop} {g : GA} {t : TA} {f : DEnv → Res (List D × DEnv)} (hr : SA K r g) (ng : ∀ a, NoX (g a)) (ha : DenA K W t f) : Den K W (tCB r t) (apA f g) := fun F σ H env O Q A P =>
  ha F σ H env O _ A (P.bind fun a e1 v H1 _ A1 g1 w1 b1 P1 => P1.op A1 (ng a) fun d e q => hr O H1 v a d Q A1.live b1 e q)
/-- a built-in of one argument that may be owned -/
theorem den_cb1 {r : List V → Hp → VK → Prop} {g : G1} {te : TE} {f : EF} (hr : SB K r g) (ng : ∀ a, NoX (g a)) (ha : DenB K W te f) : Den K W (tCB r (tCons te tNil)) (ap1 f g) := fun F σ H env O Q A P =>
  ha F σ H env O _ A (P.bind fun a e1 v H1 _ A1 g1 w1 b1 P1 => P1.op A1 (ng a) fun d e q => hr O H1 v a d Q A1.live b1 e q)
theorem Dn.b {t : TE} {f : EF} (h : Den K W t f) : DenB K W t f := fun F σ H env O Q A P => h F σ H env O Q A (by
  cases e : f env with
  | ok p => rw [e] at P; exact fun v H' A' g w b => P v H' A' g w (.rep b)
  | exc c ds => rw [e] at P; exact P
  | stuck => rw [e] at P; exact P)
/-! ### names, constants, arguments, displays -/
def getV (i : Nat) : EF := fun env => match env[i]? with
  | some (some (.val d)) => .ok (d, env)
  | _ => .stuck
def getC (i : Nat) : EF := fun env => match env[i]? with
  | some (some (.val d)) => .ok (d, env)
  | some (some (.own d)) => .ok (d, env)
  | _ => .stuck
def kst (d : D) : EF := fun env => .ok (d, env)
theorem den_var {i : Nat} : Den K W (tVar i) (getV i) := fun F σ H env O Q A P => by
  unfold getV at P
  split at P
  · rename_i d e
    obtain ⟨v, hv, r⟩ := A.val i d e
    exact ⟨v, hv, P.now A r⟩
  · exact (show False from P).elim
theorem denB_var {i : Nat} : DenB K W (tVar i) (getC i) := fun F σ H env O Q A P => by
  unfold getC at P
  split at P
  · rename_i d e
    obtain ⟨v, hv, r⟩ := A.val i d e
    exact ⟨v, hv, P.now A (.rep r)⟩
  · rename_i d e
    obtain ⟨p, hp, _, _, f⟩ := A.own i d e
    exact ⟨.ref p, hp, P.now A (.own f)⟩
  · exact (show False from P).elim
theorem den_c {v : V} {d : D} (h : ∀ O H, Rep K O H v d) : Den K W (tC v) (kst d) := fun F σ H env O Q A P => P.now A (h O H)
theorem den_int {i : Int} : Den K W (tC (.int i)) (kst (.int i)) := den_c fun _ _ => .int i
theorem den_str {x : Str} : Den K W (tC (.str x)) (kst (.str x)) := den_c fun _ _ => .str x
theorem den_bl {b : Bool} : Den K W (tC (.bl b)) (kst (.bool b)) := den_c fun _ _ => .bl b
theorem den_non : Den K W (tC .non) (kst .none) := den_c fun _ _ => .non
def aNil : DEnv → Res (List D × DEnv) := fun env => .ok ([], env)
def aCons (f : EF) (g : DEnv → Res (List D × DEnv)) : DEnv → Res (List D × DEnv) := fun env => (f env).bind fun p => (g p.2).bind fun q => .ok (p.1 :: q.1, q.2)
theorem den_nil : DenA K W tNil aNil := fun F σ H env O Q A P => P.now A .nil
theorem den_cons {te : TE} {t : TA} {f : EF} {g : DEnv → Res (List D × DEnv)} (ha : Den K W te f) (hr : DenA K W t g) : DenA K W (tCons te t) (aCons f g) := fun F σ H env O Q A P =>
  ha F σ H env O _ A (P.bind fun a e1 v H1 _ A1 g1 w1 b1 P1 => hr F σ H1 e1 O _ A1 (P1.bind fun b e2 u H2 _ A2 g2 w2 b2 P2 => P2.now A2 (.cons (b1.step (A1.step g2)) b2)))
theorem few {n : Nat} (h : n ≤ 64) : n ≤ sizeLine := Nat.le_trans h (by decide)
def mkT (ds : List D) : Res D := if ds.length ≤ 64 then .ok (.tuple ds) else .stuck
def mkL (ds : List D) : Res D := if ds.length ≤ 64 then .ok (.list ds) else .stuck
theorem Rep.newL {O : Own} {H : Hp} {p : Addr} {us : List V} {ds : List D} (l : Live O H) (n : H p = none) (r : Reps K O H us ds) : Rep K O (upd H p (.lst us)) (.ref p) (.list ds) :=
  .lst ⟨upd_same, l.fresh n⟩ (r.step (Nw.new n).step)
theorem Rep.newT {O : Own} {H : Hp} {p : Addr} {us : List V} {ds : List D} (l : Live O H) (n : H p = none) (r : Reps K O H us ds) : Rep K O (upd H p (.tup us)) (.ref p) (.tuple ds) :=
  .tup (.inl ⟨.inl upd_same, l.fresh n⟩) (r.step (Nw.new n).step)
theorem den_tup {t : TA} {f : DEnv → Res (List D × DEnv)} (ha : DenA K W t f) : Den K W (tTup t) (apA f mkT) := fun F σ H env O Q A P =>
  ha F σ H env O _ A (P.bind fun ds e1 vs H1 _ A1 g1 w1 b1 P1 => P1.op A1 (by unfold mkT; split <;> (intro _ _ z; cases z)) fun d e q => by
    unfold mkT at e
    split at e
    · rename_i hl
      cases e
      exact ⟨by rw [b1.length]; exact few hl, fun p hp => q _ _ (Nw.new hp) (Rep.newT A1.live hp b1)⟩
    · cases e)
theorem den_lst {t : TA} {f : DEnv → Res (List D × DEnv)} (ha : DenA K W t f) : Den K W (tLst t) (apA f mkL) := fun F σ H env O Q A P =>
  ha F σ H env O _ A (P.bind fun ds e1 vs H1 _ A1 g1 w1 b1 P1 => P1.op A1 (by unfold mkL; split <;> (intro _ _ z; cases z)) fun d e q => by
    unfold mkL at e
    split at e
    · rename_i hl
      cases e
      exact ⟨by rw [b1.length]; exact few hl, fun p hp => q _ _ (Nw.new hp) (Rep.newL A1.live hp b1)⟩
    · cases e)
end
end DL
set_option autoImplicit false
namespace DL
open PySem PySem.Spec PyProof.Rows L2
/-! ### operations on data -/
theorem nox_ok {α : Type} (a : α) : NoX (Res.ok a) := fun _ _ z => by cases z
theorem nox_st {α : Type} : NoX (Res.stuck : Res α) := fun _ _ z => by cases z
/-- two ints -/
def int2 (g : Int → Int → Res D) : G2 := fun a b => match a, b with
  | .int i, .int j => g i j
  | _, _ => .stuck
theorem int2_nox {g : Int → Int → Res D} (h : ∀ i j, NoX (g i j)) (a b : D) : NoX (int2 g a b) := by
  unfold int2; split; exact h _ _; exact nox_st
theorem int2_ok {g : Int → Int → Res D} {a b d : D} (h : int2 g a b = .ok d) : ∃ i j, a = .int i ∧ b = .int j ∧ g i j = .ok d := by
  unfold int2 at h
  split at h
  · exact ⟨_, _, rfl, rfl, h⟩
  · cases h
def dAdd : G2 := int2 fun i j => .ok (.int (i + j))
def dSub : G2 := int2 fun i j => .ok (.int (i - j))
def dMul : G2 := int2 fun i j => if (-(2 ^ 64) < i ∧ i < 2 ^ 64) ∨ (-(2 ^ 64) < j ∧ j < 2 ^ 64) then .ok (.int (i * j)) else .stuck
/-- // by anything below 2 ^ 64 -/
def CDivG (_ j : Int) : Prop := j ≠ 0 ∧ j.natAbs < 2 ^ 64
theorem op_fdivG {X : Cx} : OpR X (binaryOp .FloorDiv) (rI CDivG fun i j => .int (i.fdiv j)) := opI fun i j _ _ _ _ _ hc q =>
  floordiv_int hc.1 q (.inl (PyProof.noPylong_of_log2 (Nat.lt_of_lt_of_le (PySem.Flt.log2_lt_of (by decide) hc.2) (by decide))))
def dDiv : G2 := int2 fun i j => if j ≠ 0 ∧ j.natAbs < 2 ^ 64 then .ok (.int (i.fdiv j)) else .stuck
def dMod : G2 := int2 fun i j => if j ≠ 0 then .ok (.int (i.fmod j)) else .stuck
def dPow : G2 := int2 fun i j => if 0 ≤ j ∧ j ≤ 1000000 ∧ i.natAbs < 2 ^ 64 then .ok (.int (i ^ j.toNat)) else .stuck
def dLt : G2 := int2 fun i j => .ok (.bool (decide (i < j)))
def dLe : G2 := int2 fun i j => .ok (.bool (decide (i ≤ j)))
def dGt : G2 := int2 fun i j => .ok (.bool (decide (j < i)))
def dGe : G2 := int2 fun i j => .ok (.bool (decide (j ≤ i)))
def dNeg : G1 := fun a => match a with
  | .int i => .ok (.int (-i))
  | _ => .stuck
theorem dAdd_x (a b : D) : NoX (dAdd a b) := int2_nox (fun _ _ => nox_ok _) a b
theorem dSub_x (a b : D) : NoX (dSub a b) := int2_nox (fun _ _ => nox_ok _) a b
theorem dMul_x (a b : D) : NoX (dMul a b) := int2_nox (fun _ _ => by split; exact nox_ok _; exact nox_st) a b
theorem dDiv_x (a b : D) : NoX (dDiv a b) := int2_nox (fun _ _ => by split; exact nox_ok _; exact nox_st) a b
theorem dMod_x (a b : D) : NoX (dMod a b) := int2_nox (fun _ _ => by split; exact nox_ok _; exact nox_st) a b
theorem dPow_x (a b : D) : NoX (dPow a b) := int2_nox (fun _ _ => by split; exact nox_ok _; exact nox_st) a b
theorem dLt_x (a b : D) : NoX (dLt a b) := int2_nox (fun _ _ => nox_ok _) a b
theorem dLe_x (a b : D) : NoX (dLe a b) := int2_nox (fun _ _ => nox_ok _) a b
theorem dGt_x (a b : D) : NoX (dGt a b) := int2_nox (fun _ _ => nox_ok _) a b
theorem dGe_x (a b : D) : NoX (dGe a b) := int2_nox (fun _ _ => nox_ok _) a b
theorem dNeg_x (a : D) : NoX (dNeg a) := by unfold dNeg; split; exact nox_ok _; exact nox_st
section
variable {K : PySem.W.Frag}
theorem s2_rI0 {f : Int → Int → V} {g : Int → Int → Res D} (h : ∀ i j, ∃ d, g i j = .ok d ∧ ∀ O H, Rep K O H (f i j) d) : S2 K (rI0 f) (int2 g) := fun O H x y a b d Q l ha hb e q => by
  obtain ⟨i, j, rfl, rfl, e⟩ := int2_ok e
  obtain ⟨d', e', r⟩ := h i j
  have e2 : d' = d := Res.ok.inj (e'.symm.trans e)
  subst e2
  exact ⟨i, j, ha.int, hb.int, q _ _ (Nw.refl _) (r O H)⟩
theorem s2_rI {C : Int → Int → Prop} {f : Int → Int → V} {g : Int → Int → Res D} (h : ∀ i j d, g i j = .ok d → C i j ∧ ∀ O H, Rep K O H (f i j) d) : S2 K (rI C f) (int2 g) := fun O H x y a b d Q l ha hb e q => by
  obtain ⟨i, j, rfl, rfl, e⟩ := int2_ok e
  obtain ⟨c, r⟩ := h i j d e
  exact ⟨i, j, ha.int, hb.int, c, q _ _ (Nw.refl _) (r O H)⟩
theorem s2_add : S2 K (rI0 fun i j => .int (i + j)) dAdd := s2_rI0 fun i j => ⟨_, rfl, fun _ _ => .int _⟩
theorem s2_sub : S2 K (rI0 fun i j => .int (i - j)) dSub := s2_rI0 fun i j => ⟨_, rfl, fun _ _ => .int _⟩
theorem s2_mul : S2 K (rI CMul fun i j => .int (i * j)) dMul := s2_rI fun i j d e => by
  split at e
  · rename_i h; cases e; exact ⟨h, fun _ _ => .int _⟩
  · cases e
theorem s2_div : S2 K (rI CDivG fun i j => .int (i.fdiv j)) dDiv := s2_rI fun i j d e => by
  split at e
  · rename_i h; cases e; exact ⟨h, fun _ _ => .int _⟩
  · cases e
theorem s2_mod : S2 K (rI (fun _ j => j ≠ 0) fun i j => .int (i.fmod j)) dMod := s2_rI fun i j d e => by
  split at e
  · rename_i h; cases e; exact ⟨h, fun _ _ => .int _⟩
  · cases e
theorem s2_pow : S2 K (rI CPow fun i j => .int (i ^ j.toNat)) dPow := s2_rI fun i j d e => by
  split at e
  · rename_i h; cases e; exact ⟨h, fun _ _ => .int _⟩
  · cases e
theorem s2_lt : S2 K (rI0 fun i j => .bl (decide (i < j))) dLt := s2_rI0 fun i j => ⟨_, rfl, fun _ _ => .bl _⟩
theorem s2_le : S2 K (rI0 fun i j => .bl (decide (i ≤ j))) dLe := s2_rI0 fun i j => ⟨_, rfl, fun _ _ => .bl _⟩
theorem s2_gt : S2 K (rI0 fun i j => .bl (decide (j < i))) dGt := s2_rI0 fun i j => ⟨_, rfl, fun _ _ => .bl _⟩
theorem s2_ge : S2 K (rI0 fun i j => .bl (decide (j ≤ i))) dGe := s2_rI0 fun i j => ⟨_, rfl, fun _ _ => .bl _⟩
theorem s1_neg : S1 K (rU fun i => .int (-i)) dNeg := fun O H x a d Q l ha e q => by
  unfold dNeg at e
  split at e
  · cases e
    exact ⟨_, ha.int, q _ _ (Nw.refl _) (.int _)⟩
  · cases e
/-! ### == and in of data -/
def okEq (d : D) : Bool := plainD d && SeqAt.shaped d
/-- scalars that == tells apart as data does -/
def scalD : D → D → Bool
  | .none, .none => true | .none, .int _ => true | .int _, .none => true | .none, .bool _ => true | .bool _, .none => true | .none, .str _ => true | .str _, .none => true
  | .int _, .int _ => true | .bool _, .bool _ => true | .str _, .str _ => true
  | .int _, .str _ => true | .str _, .int _ => true | .bool _, .str _ => true | .str _, .bool _ => true
  | _, _ => false
def dEq : G2 := fun a b => if scalD a b || (okEq a && okEq b) then .ok (.bool (PyData.eqv a b)) else .stuck
def dNe : G2 := fun a b => if scalD a b || (okEq a && okEq b) then .ok (.bool (!PyData.eqv a b)) else .stuck
theorem dec_eqv {O : Own} {H : Hp} {x y : V} {a b : D} (ha : Brw K O H x a) (hb : Brw K O H y b) (h : scalD a b = true) : scal x y = true ∧ decide (x = y) = PyData.eqv a b := by
  cases a <;> cases b <;> first
    | (exact absurd h Bool.false_ne_true)
    | (first | rw [ha.non] | rw [ha.int] | rw [ha.bl] | rw [ha.str]
       first | rw [hb.non] | rw [hb.int] | rw [hb.bl] | rw [hb.str]
       refine ⟨rfl, ?_⟩
       first
         | rfl
         | (simp only [PyData.eqv]; first | exact dec_int | exact dec_bl | exact dec_str)
         | simp [PyData.eqv])
abbrev rEqA (K : PySem.W.Frag) : R2 := fun x y H Q => rEq x y H Q ∨ rEqD K x y H Q
abbrev rNeA (K : PySem.W.Frag) : R2 := fun x y H Q => rNe x y H Q ∨ rNeD K x y H Q
theorem op_eqA {X : Cx} (hu : X.A.units + 64 < cLine) : OpR X (compareOp .Eq) (rEqA X.K) := op_eq.or (op_eqD hu)
theorem op_neA {X : Cx} (hu : X.A.units + 64 < cLine) : OpR X (compareOp .NotEq) (rNeA X.K) := op_ne.or (op_neD hu)
def dIn : G2 := fun a b => match b with
  | .list ds => if okEq a && okEq (.list ds) then .ok (.bool (ds.any fun z => PyData.eqv z a)) else .stuck
  | _ => .stuck
def dNotIn : G2 := fun a b => match b with
  | .list ds => if okEq a && okEq (.list ds) then .ok (.bool (!ds.any fun z => PyData.eqv z a)) else .stuck
  | _ => .stuck
theorem dEq_x (a b : D) : NoX (dEq a b) := by unfold dEq; split; exact nox_ok _; exact nox_st
theorem dNe_x (a b : D) : NoX (dNe a b) := by unfold dNe; split; exact nox_ok _; exact nox_st
theorem dIn_x (a b : D) : NoX (dIn a b) := by unfold dIn; split; (split; exact nox_ok _; exact nox_st); exact nox_st
theorem dNotIn_x (a b : D) : NoX (dNotIn a b) := by unfold dNotIn; split; (split; exact nox_ok _; exact nox_st); exact nox_st
theorem s2_eq : S2 K (rEqA K) dEq := fun O H x y a b d Q l ha hb e q => by
  unfold dEq at e
  split at e
  · rename_i h
    cases e
    cases hs : scalD a b with
    | true =>
      obtain ⟨h1, h2⟩ := dec_eqv ha hb hs
      refine .inl ⟨h1, ?_⟩
      rw [h2]
      exact q _ _ (Nw.refl _) (.bl _)
    | false =>
      rw [hs, Bool.false_or] at h
      simp only [okEq, Bool.and_eq_true] at h
      exact .inr ⟨a, b, ha.dp h.1.1, hb.dp h.2.1, h.1.2, h.2.2, q _ _ (Nw.refl _) (.bl _)⟩
  · cases e
theorem s2_ne : S2 K (rNeA K) dNe := fun O H x y a b d Q l ha hb e q => by
  unfold dNe at e
  split at e
  · rename_i h
    cases e
    cases hs : scalD a b with
    | true =>
      obtain ⟨h1, h2⟩ := dec_eqv ha hb hs
      refine .inl ⟨h1, ?_⟩
      rw [h2]
      exact q _ _ (Nw.refl _) (.bl _)
    | false =>
      rw [hs, Bool.false_or] at h
      simp only [okEq, Bool.and_eq_true] at h
      exact .inr ⟨a, b, ha.dp h.1.1, hb.dp h.2.1, h.1.2, h.2.2, q _ _ (Nw.refl _) (.bl _)⟩
  · cases e
theorem s2_in : S2 K (rInD K) dIn := fun O H x y a b d Q l ha hb e q => by
  unfold dIn at e
  split at e
  · rename_i ds
    split at e
    · rename_i h
      simp only [okEq, Bool.and_eq_true] at h
      cases e
      exact ⟨a, ds, ha.dp h.1.1, hb.dp h.2.1, h.1.2, h.2.2, q _ _ (Nw.refl _) (.bl _)⟩
    · cases e
  · cases e
theorem s2_notIn : S2 K (rNotInD K) dNotIn := fun O H x y a b d Q l ha hb e q => by
  unfold dNotIn at e
  split at e
  · rename_i ds
    split at e
    · rename_i h
      simp only [okEq, Bool.and_eq_true] at h
      cases e
      exact ⟨a, ds, ha.dp h.1.1, hb.dp h.2.1, h.1.2, h.2.2, q _ _ (Nw.refl _) (.bl _)⟩
    · cases e
  · cases e
/-- is None -/
def isNone : D → Bool
  | .none => true
  | _ => false
def dIsN : G2 := fun a b => match b with
  | .none => .ok (.bool (isNone a))
  | _ => .stuck
def dNotN : G2 := fun a b => match b with
  | .none => .ok (.bool (!isNone a))
  | _ => .stuck
theorem dIsN_x (a b : D) : NoX (dIsN a b) := by unfold dIsN; split; exact nox_ok _; exact nox_st
theorem dNotN_x (a b : D) : NoX (dNotN a b) := by unfold dNotN; split; exact nox_ok _; exact nox_st
theorem Brw.isN {O : Own} {H : Hp} {x : V} {a : D} (h : Brw K O H x a) : decide (x = .non) = isNone a := by
  cases h with
  | rep h => cases h <;> rfl
  | own h => cases h <;> rfl
theorem s2_isN : S2 K (fun x y H Q => y = .non ∧ Q (.bl (decide (x = .non))) H) dIsN := fun O H x y a b d Q l ha hb e q => by
  unfold dIsN at e
  split at e
  · cases e
    refine ⟨hb.non, ?_⟩
    rw [ha.isN]
    exact q _ _ (Nw.refl _) (.bl _)
  · cases e
theorem s2_notN : S2 K (fun x y H Q => y = .non ∧ Q (.bl (!decide (x = .non))) H) dNotN := fun O H x y a b d Q l ha hb e q => by
  unfold dNotN at e
  split at e
  · cases e
    refine ⟨hb.non, ?_⟩
    rw [ha.isN]
    exact q _ _ (Nw.refl _) (.bl _)
  · cases e
/-! ### subscripts -/
theorem atI_reps {O : Own} {H : Hp} {us : List V} {ds : List D} {i : Int} {d : D} (r : Reps K O H us ds) (h : atI ds i = some d) : ∃ v, atI us i = some v ∧ Rep K O H v d := by
  unfold atI at h ⊢
  rw [r.length]
  cases e : ixN ds.length i with
  | none => rw [e] at h; cases h
  | some j =>
    rw [e] at h
    exact r.get (show ds[j]? = some d from h)
def optR (o : Option D) : Res D := match o with
  | some d => .ok d
  | none => .stuck
theorem optR_x (o : Option D) : NoX (optR o) := by cases o; exact nox_st; exact nox_ok _
theorem optR_ok {o : Option D} {d : D} (h : optR o = .ok d) : o = some d := by cases o with
  | none => cases h
  | some e => cases h; rfl
def dIxL : G2 := fun a b => match a, b with
  | .list ds, .int i => optR (atI ds i)
  | _, _ => .stuck
def dIxT : G2 := fun a b => match a, b with
  | .tuple ds, .int i => optR (atI ds i)
  | _, _ => .stuck
theorem dIxL_x (a b : D) : NoX (dIxL a b) := by unfold dIxL; split; exact optR_x _; exact nox_st
theorem dIxT_x (a b : D) : NoX (dIxT a b) := by unfold dIxT; split; exact optR_x _; exact nox_st
theorem s2_ixL : S2 K (rIxL K) dIxL := fun O H x y a b d Q l ha hb e q => by
  unfold dIxL at e
  split at e
  · obtain ⟨p, us, rfl, hp, r⟩ := ha.lst
    obtain ⟨v, hv, rv⟩ := atI_reps r (optR_ok e)
    exact ⟨p, us, _, v, rfl, hb.int, SqL.of hp, hv, q _ _ (Nw.refl _) rv⟩
  · cases e
theorem s2_ixT : S2 K (rIxT K) dIxT := fun O H x y a b d Q l ha hb e q => by
  unfold dIxT at e
  split at e
  · obtain ⟨p, us, rfl, hp, r⟩ := ha.tup
    obtain ⟨v, hv, rv⟩ := atI_reps r (optR_ok e)
    exact ⟨p, us, _, v, rfl, hb.int, hp, hv, q _ _ (Nw.refl _) rv⟩
  · cases e
/-! ### slices -/
def cutD (xs : List D) (lo hi : Option Int) : List D := (xs.drop (HT.sIx xs.length 0 lo)).take (HT.sIx xs.length xs.length hi - HT.sIx xs.length 0 lo)
theorem cut_reps {O : Own} {H : Hp} {us : List V} {ds : List D} (lo hi : Option Int) (r : Reps K O H us ds) : Reps K O H (cutV us lo hi) (cutD ds lo hi) := by
  unfold cutV cutD
  rw [r.length]
  exact (r.drop _).take _
/-! ### calls of built-ins -/
def dLen : G1 := fun a => match a with
  | .list ds => .ok (.int ds.length)
  | .tuple ds => .ok (.int ds.length)
  | _ => .stuck
theorem dLen_x (a : D) : NoX (dLen a) := by unfold dLen; split; exact nox_ok _; exact nox_ok _; exact nox_st
theorem sb_len : SB K (fun xs H Q => ∃ p ys, xs = [.ref p] ∧ (SqL K H p ys ∨ SqT K H p ys) ∧ Q (.int ys.length) H) dLen := fun O H x a d Q l ha e q => by
  unfold dLen at e
  split at e
  · obtain ⟨p, us, rfl, hp, r⟩ := ha.lst
    cases e
    refine ⟨p, us, rfl, .inl (SqL.of hp), ?_⟩
    rw [r.length]
    exact q _ _ (Nw.refl _) (.int _)
  · obtain ⟨p, us, rfl, hp, r⟩ := ha.tup
    cases e
    refine ⟨p, us, rfl, .inr hp, ?_⟩
    rw [r.length]
    exact q _ _ (Nw.refl _) (.int _)
  · cases e
def dList : G1 := fun a => match a with
  | .list ds => .ok (.list ds)
  | .tuple ds => .ok (.list ds)
  | _ => .stuck
theorem dList_x (a : D) : NoX (dList a) := by unfold dList; split; exact nox_ok _; exact nox_ok _; exact nox_st
theorem sb_list : SB K (fun xs H Q => ∃ p ys, xs = [.ref p] ∧ (SqL K H p ys ∨ SqT K H p ys) ∧ ∀ l, H l = none → Q (.ref l) (upd H l (.lst ys))) dList := fun O H x a d Q l ha e q => by
  unfold dList at e
  split at e
  · obtain ⟨p, us, rfl, hp, r⟩ := ha.lst
    cases e
    exact ⟨p, us, rfl, .inl (SqL.of hp), fun l' hl => q _ _ (Nw.new hl) (Rep.newL l hl r)⟩
  · obtain ⟨p, us, rfl, hp, r⟩ := ha.tup
    cases e
    exact ⟨p, us, rfl, .inr hp, fun l' hl => q _ _ (Nw.new hl) (Rep.newL l hl r)⟩
  · cases e
def dTuple : G1 := fun a => match a with
  | .list ds => .ok (.tuple ds)
  | _ => .stuck
theorem dTuple_x (a : D) : NoX (dTuple a) := by unfold dTuple; split; exact nox_ok _; exact nox_st
theorem sb_tuple : SB K (fun xs H Q => ∃ p ys, xs = [.ref p] ∧ ((SqL K H p ys ∧ ∀ l, H l = none → Q (.ref l) (upd H l (.tup ys))) ∨ (SqT K H p ys ∧ Q (.ref p) H))) dTuple := fun O H x a d Q l ha e q => by
  unfold dTuple at e
  split at e
  · obtain ⟨p, us, rfl, hp, r⟩ := ha.lst
    cases e
    exact ⟨p, us, rfl, .inl ⟨SqL.of hp, fun l' hl => q _ _ (Nw.new hl) (Rep.newT l hl r)⟩⟩
  · cases e
def dInt1 : G1 := fun a => match a with
  | .int i => .ok (.int i)
  | .bool b => .ok (.int (if b then 1 else 0))
  | _ => .stuck
theorem dInt1_x (a : D) : NoX (dInt1 a) := by unfold dInt1; split; exact nox_ok _; exact nox_ok _; exact nox_st
theorem sb_int1 : SB K (fun xs H Q => (∃ i, xs = [.int i] ∧ Q (.int i) H) ∨ ∃ k, xs = [.bl k] ∧ Q (.int (if k then 1 else 0)) H) dInt1 := fun O H x a d Q l ha e q => by
  unfold dInt1 at e
  split at e
  · cases e
    exact .inl ⟨_, by rw [ha.int], q _ _ (Nw.refl _) (.int _)⟩
  · cases e
    exact .inr ⟨_, by rw [ha.bl], q _ _ (Nw.refl _) (.int _)⟩
  · cases e
def dMax2 : GA := fun ds => match ds with
  | [.int i, .int j] => .ok (.int (if j > i then j else i))
  | _ => .stuck
def dMin2 : GA := fun ds => match ds with
  | [.int i, .int j] => .ok (.int (if j < i then j else i))
  | _ => .stuck
theorem dMax2_x (a : List D) : NoX (dMax2 a) := by unfold dMax2; split; exact nox_ok _; exact nox_st
theorem dMin2_x (a : List D) : NoX (dMin2 a) := by unfold dMin2; split; exact nox_ok _; exact nox_st
theorem reps_int2 {O : Own} {H : Hp} {xs : List V} {i j : Int} (r : Reps K O H xs [.int i, .int j]) : xs = [.int i, .int j] := by
  cases r with
  | cons h t => cases h; cases t with
    | cons h t => cases h; cases t; rfl
theorem sa_max2 : SA K (fun xs H Q => ∃ i j, xs = [.int i, .int j] ∧ Q (.int (if j > i then j else i)) H) dMax2 := fun O H xs ds d Q l r e q => by
  unfold dMax2 at e
  split at e
  · cases e
    exact ⟨_, _, reps_int2 r, q _ _ (Nw.refl _) (.int _)⟩
  · cases e
theorem sa_min2 : SA K (fun xs H Q => ∃ i j, xs = [.int i, .int j] ∧ Q (.int (if j < i then j else i)) H) dMin2 := fun O H xs ds d Q l r e q => by
  unfold dMin2 at e
  split at e
  · cases e
    exact ⟨_, _, reps_int2 r, q _ _ (Nw.refl _) (.int _)⟩
  · cases e
/-- list + list -/
def dCat : G2 := fun a b => match a, b with
  | .list xs, .list ys => if xs.length + ys.length ≤ sizeLine then .ok (.list (xs ++ ys)) else .stuck
  | _, _ => .stuck
theorem dCat_x (a b : D) : NoX (dCat a b) := by unfold dCat; split; (split; exact nox_ok _; exact nox_st); exact nox_st
theorem s2_cat : S2 K rCat dCat := fun O H x y a b d Q l ha hb e q => by
  unfold dCat at e
  split at e
  · split at e
    · rename_i hz
      cases e
      obtain ⟨p, us, rfl, hp, r⟩ := ha.lst
      obtain ⟨p2, us2, rfl, hp2, r2⟩ := hb.lst
      exact ⟨p, p2, us, us2, rfl, rfl, hp, hp2, by rw [r.length, r2.length]; exact hz, fun l' hl => q _ _ (Nw.new hl) (Rep.newL l hl (r.append r2))⟩
    · cases e
  · cases e
end
end DL
set_option autoImplicit false
namespace DL
open PySem PySem.Spec L2
section
variable {K : PySem.W.Frag} {W : Wish}
/-! ### tests -/
abbrev TF := DEnv → Res (Bool × DEnv)
def asB (f : EF) : TF := fun env => (f env).bind fun p => match p.1 with
  | .bool b => .ok (b, p.2)
  | _ => .stuck
theorem den_tst {t : TE} {f : EF} (h : DenB K W t f) : DenT K W (tTest t) (asB f) := fun F σ H env O Q A P =>
  h F σ H env O _ A (P.bind fun a e1 v H1 _ A1 g1 w1 b1 P1 => by
    dsimp only at P1
    cases a with
    | bool b => exact ⟨b, b1.bl, P1.now A1 rfl⟩
    | _ => exact (show False from P1).elim)
theorem den_tB {t : TE} {f : EF} (h : DenB K W t f) : DenT K W (tB t) (asB f) := den_tst h
/-- by truth -/
def truD : D → Option Bool
  | .none => some false
  | .bool b => some b
  | .int i => some (i != 0)
  | .str x => if x.length ≤ sizeLine then some ((x.length : Int) != 0) else none
  | .list xs => some (!xs.isEmpty)
  | .tuple xs => some (!xs.isEmpty)
  | .dict _ => none
def truR (f : EF) : TF := fun env => (f env).bind fun p => match truD p.1 with
  | some b => .ok (b, p.2)
  | none => .stuck
theorem isEmpty_reps {O : Own} {H : Hp} {us : List V} {ds : List D} (r : Reps K O H us ds) : us.isEmpty = ds.isEmpty := by cases r <;> rfl
theorem tru_of {O : Own} {H : Hp} {v : V} {d : D} {b : Bool} (r : Brw K O H v d) (h : truD d = some b) : TruV K v H b := by
  cases d with
  | none => cases h; rw [r.non]; rfl
  | bool k => cases h; rw [r.bl]; rfl
  | int i => cases h; rw [r.int]; rfl
  | str x =>
    rw [r.str]
    have h : (if x.length ≤ sizeLine then some ((x.length : Int) != 0) else none) = some b := h
    by_cases hz : x.length ≤ sizeLine
    · rw [if_pos hz] at h; cases h; exact ⟨hz, rfl⟩
    · rw [if_neg hz] at h; cases h
  | list ds =>
    obtain ⟨a, us, rfl, hp, q⟩ := r.lst
    cases h
    exact .inl ⟨us, SqL.of hp, by rw [isEmpty_reps q]⟩
  | tuple ds =>
    obtain ⟨a, us, rfl, hp, q⟩ := r.tup
    cases h
    exact .inr (.inl ⟨us, hp, by rw [isEmpty_reps q]⟩)
  | dict ds => cases h
theorem den_tru {t : TE} {f : EF} (h : DenB K W t f) : DenT K W (fun σ H Q => t σ H fun x H1 => ∃ k, TruV K x H1 k ∧ Q k H1) (truR f) := fun F σ H env O Q A P =>
  h F σ H env O _ A (P.bind fun a e1 v H1 _ A1 g1 w1 b1 P1 => by
    dsimp only at P1
    split at P1
    · rename_i b e
      exact ⟨b, tru_of b1 e, P1.now A1 rfl⟩
    · exact (show False from P1).elim)
def andT (f g : TF) : TF := fun env => (f env).bind fun p => if p.1 = true then g p.2 else .ok (false, p.2)
def orT (f g : TF) : TF := fun env => (f env).bind fun p => if p.1 = true then .ok (true, p.2) else g p.2
def notT (f : TF) : TF := fun env => (f env).bind fun p => .ok (!p.1, p.2)
theorem den_andT {t u : TT} {f g : TF} (ha : DenT K W t f) (hb : DenT K W u g) : DenT K W (tAnd t u) (andT f g) := fun F σ H env O Q A P =>
  ha F σ H env O _ A (P.bind fun a e1 v H1 _ A1 g1 w1 b1 P1 => by
    subst b1
    cases v with
    | true => exact hb F σ H1 e1 O _ A1 P1
    | false => exact P1.now A1 rfl)
theorem den_orT {t u : TT} {f g : TF} (ha : DenT K W t f) (hb : DenT K W u g) : DenT K W (tOr t u) (orT f g) := fun F σ H env O Q A P =>
  ha F σ H env O _ A (P.bind fun a e1 v H1 _ A1 g1 w1 b1 P1 => by
    subst b1
    cases v with
    | false => exact hb F σ H1 e1 O _ A1 P1
    | true => exact P1.now A1 rfl)
theorem den_notT {t : TT} {f : TF} (ha : DenT K W t f) : DenT K W (tNot t) (notT f) := fun F σ H env O Q A P =>
  ha F σ H env O _ A (P.bind fun a e1 v H1 _ A1 g1 w1 b1 P1 => by
    subst b1
    exact P1.now A1 rfl)
/-! ### and, or, not as values; a if t else b -/
def andV (f g : EF) : EF := fun env => (asB f env).bind fun p => if p.1 = true then g p.2 else .ok (.bool false, p.2)
def orV (f g : EF) : EF := fun env => (asB f env).bind fun p => if p.1 = true then .ok (.bool true, p.2) else g p.2
def notV (f : EF) : EF := fun env => (asB f env).bind fun p => .ok (.bool (!p.1), p.2)
def ifE (t : TF) (f g : EF) : EF := fun env => (t env).bind fun p => if p.1 = true then f p.2 else g p.2
theorem den_andV {t u : TE} {f g : EF} (ha : DenB K W t f) (hb : Den K W u g) : Den K W (tAndV t u) (andV f g) := fun F σ H env O Q A P =>
  (den_tst ha) F σ H env O _ A (P.bind fun a e1 v H1 _ A1 g1 w1 b1 P1 => by
    subst b1
    cases v with
    | true => exact hb F σ H1 e1 O _ A1 P1
    | false => exact P1.now A1 (.bl _))
theorem den_orV {t u : TE} {f g : EF} (ha : DenB K W t f) (hb : Den K W u g) : Den K W (tOrV t u) (orV f g) := fun F σ H env O Q A P =>
  (den_tst ha) F σ H env O _ A (P.bind fun a e1 v H1 _ A1 g1 w1 b1 P1 => by
    subst b1
    cases v with
    | false => exact hb F σ H1 e1 O _ A1 P1
    | true => exact P1.now A1 (.bl _))
theorem den_notV {t : TE} {f : EF} (ha : DenB K W t f) : Den K W (tNotV t) (notV f) := fun F σ H env O Q A P =>
  (den_tst ha) F σ H env O _ A (P.bind fun a e1 v H1 _ A1 g1 w1 b1 P1 => by
    subst b1
    exact P1.now A1 (.bl _))
theorem den_ifE {t : TT} {u w : TE} {h : TF} {f g : EF} (ht : DenT K W t h) (hu : Den K W u f) (hw : Den K W w g) : Den K W (tIf t u w) (ifE h f g) := fun F σ H env O Q A P =>
  ht F σ H env O _ A (P.bind fun a e1 v H1 _ A1 g1 w1 b1 P1 => by
    subst b1
    cases v with
    | true => exact hu F σ H1 e1 O _ A1 P1
    | false => exact hw F σ H1 e1 O _ A1 P1)
end
/-! ### a new object as a value -/
def Ext (O : Own) (p : Addr) : Own := fun a => O a ∨ a = p
def PostF (K : PySem.W.Frag) (F : Fr) (W : Wish) (σ : L2.St) (H : Hp) (env : DEnv) (O : Own) (r : Res (D × DEnv)) (Q : VK) : Prop := match r with
  | .ok p => ∀ a H', At K F σ H' p.2 (Ext O a) → Agr (Ow σ env) H H' → OwSub p.2 env → H a = none → Flat K (Ext O a) H' a p.1 → Q (.ref a) H'
  | .exc c ds => ∀ H', Agr (fun a => ∃ i, (i, a) ∈ F.pars) F.H0 H' → W c ds H'
  | .stuck => False
def DenF (K : PySem.W.Frag) (W : Wish) (t : TE) (f : EF) : Prop := ∀ F σ H env O Q, At K F σ H env O → PostF K F W σ H env O (f env) Q → t σ H Q
section
variable {K : PySem.W.Frag} {W : Wish} {F : Fr} {σ : L2.St} {H H1 : Hp} {env e1 : DEnv} {O : Own}
theorem At.fresh_back (A : At K F σ H env O) (A1 : At K F σ H1 e1 O) (g : Agr (Ow σ env) H H1) {p : Addr} (h : H1 p = none) : H p = none := by
  cases e : H p with
  | none => rfl
  | some o =>
    have : ¬ Ow σ env p := fun z => A1.live p (A.ow z) h
    rw [g p o this e] at h
    cases h
/-- a new object is owned -/
theorem At.ext (A : At K F σ H env O) {p : Addr} {o : HO} (h : H p = none) : At K F σ (upd H p o) env (Ext O p) := by
  have B := A.new1 (o := o) h
  have st : Step O H (Ext O p) (upd H p o) := ⟨agr_new h, fun a z => z.elim .inl fun z => .inr (z ▸ h)⟩
  refine ⟨B.len, fun a z => .inl (B.sub a z), fun a z => z.elim (B.new a) fun z => .inr (z ▸ (A.fresh h).1), fun a z => z.elim (B.live a) fun z => ?_, B.agr, fun i d e => ?_, fun i d e => ?_, B.inj, B.par, B.poc, B.ocl⟩
  · rw [z, upd_same]; exact fun q => by cases q
  · obtain ⟨v, hv, r⟩ := A.val i d e
    exact ⟨v, hv, r.step st⟩
  · obtain ⟨q, hq, oq, n, f⟩ := A.own i d e
    refine ⟨q, hq, .inl oq, n, f.step st (upd_ne fun z => A.live q oq (z ▸ h))⟩
/-- ownership of what no name holds is given up -/
theorem At.lose {q : Addr} (A : At K F σ H env (Ext O q)) (s : ∀ a, F.Oc a → O a) (o : ∀ a, Ow σ env a → O a) : At K F σ H env O := by
  have w : ∀ c, O c → Ext O q c := fun c z => .inl z
  refine ⟨A.len, s, fun a z => A.new a (w a z), fun a z => A.live a (w a z), A.agr, fun i d e => ?_, fun i d e => ?_, A.inj, A.par, A.poc, A.ocl⟩
  · obtain ⟨v, hv, r⟩ := A.val i d e
    exact ⟨v, hv, r.weak w⟩
  · obtain ⟨q, hq, _, n, f⟩ := A.own i d e
    exact ⟨q, hq, o q ⟨i, d, e, hq⟩, n, f.weak w⟩
theorem DenF.den {t : TE} {f : EF} (h : DenF K W t f) : Den K W t f := fun F σ H env O Q A P => h F σ H env O Q A (by
  cases e : f env with
  | ok p =>
    rw [e] at P
    intro a H' A' g w n b
    have nO : ¬ O a := (A.fresh n).2
    have Ow' : ∀ c, Ow σ p.2 c → O c := fun c z => A.ow (w.ow z)
    exact P (.ref a) H' (A'.lose A.sub Ow') g w ((b.weak fun c z => .inl z).rep nO)
  | exc c ds => rw [e] at P; exact P
  | stuck => rw [e] at P; exact P)
theorem PostF.bindF {α β : Type} {B : PySem.W.Frag → Own → Hp → β → α → Prop} {r : Res (α × DEnv)} {k : α × DEnv → Res (D × DEnv)} {Q : VK} {Q1 : β → Hp → Prop} (P : PostF K F W σ H env O (r.bind k) Q) (A : At K F σ H env O)
    (h : ∀ a e1 v H1, r = .ok (a, e1) → At K F σ H1 e1 O → Agr (Ow σ env) H H1 → OwSub e1 env → B K O H1 v a → PostF K F W σ H1 e1 O (k (a, e1)) Q → Q1 v H1) : Post K F W σ H env O B r Q1 := by
  cases r with
  | ok p =>
    obtain ⟨a, e1⟩ := p
    intro v H1 A1 g1 w1 b1
    refine h a e1 v H1 rfl A1 g1 w1 b1 ?_
    have P' : PostF K F W σ H env O (k (a, e1)) Q := P
    cases q : k (a, e1) with
    | ok p =>
      rw [q] at P'
      intro v2 H2 A2 g2 w2 n2 b2
      exact P' v2 H2 A2 (g1.trans (g2.sub fun c z => w1.ow z)) (w1.trans w2) (A.fresh_back A1 g1 n2) b2
    | exc c ds => rw [q] at P'; exact P'
    | stuck => rw [q] at P'; exact P'
  | exc c ds => exact P
  | stuck => exact P
theorem PostF.new {d : D} {p : Addr} {o : HO} {Q : VK} (P : PostF K F W σ H env O (.ok (d, env)) Q) (A : At K F σ H env O) (n : H p = none) (b : Flat K (Ext O p) (upd H p o) p d) : Q (.ref p) (upd H p o) :=
  P p _ (A.ext n) (agr_new n) (OwSub.refl _) n b
theorem ext_step {p : Addr} {o : HO} (h : H p = none) : Step O H (Ext O p) (upd H p o) := ⟨agr_new h, fun a z => z.elim .inl fun z => .inr (z ▸ h)⟩
/-- an operation that lays a new object -/
def N2 (K : PySem.W.Frag) (r : R2) (g : G2) : Prop := ∀ (O : Own) (H : Hp) (x y : V) (a b d : D) (Q : VK), Live O H → Brw K O H x a → Brw K O H y b → g a b = .ok d → (∀ p o, H p = none → Flat K (Ext O p) (upd H p o) p d → Q (.ref p) (upd H p o)) → r x y H Q
def NB (K : PySem.W.Frag) (r : List V → Hp → VK → Prop) (g : G1) : Prop := ∀ (O : Own) (H : Hp) (x : V) (a d : D) (Q : VK), Live O H → Brw K O H x a → g a = .ok d → (∀ p o, H p = none → Flat K (Ext O p) (upd H p o) p d → Q (.ref p) (upd H p o)) → r [x] H Q
theorem PostF.op {g : Res D} {Q : VK} (A : At K F σ H env O) (P : PostF K F W σ H env O (g.bind fun d => .ok (d, env)) Q) (ng : NoX g) {G : Prop}
    (h : ∀ d, g = .ok d → (∀ p o, H p = none → Flat K (Ext O p) (upd H p o) p d → Q (.ref p) (upd H p o)) → G) : G := by
  cases e : g with
  | ok d =>
    rw [e] at P
    exact h d e fun p o n b => PostF.new (show PostF K F W σ H env O (.ok (d, env)) Q from P) A n b
  | exc c ds => exact (ng c ds e).elim
  | stuck =>
    rw [e] at P
    exact (show False from P).elim
theorem denF_op {r : R2} {g : G2} {ta tb : TE} {f h : EF} (hr : N2 K r g) (ng : ∀ a b, NoX (g a b)) (ha : Den K W ta f) (hb : DenB K W tb h) : DenF K W (tOp r ta tb) (ap2 f h g) := fun F σ H env O Q A P =>
  ha F σ H env O _ A (PostF.bindF P A fun a e1 v H1 _ A1 g1 w1 b1 P1 => hb F σ H1 e1 O _ A1 (PostF.bindF P1 A1 fun b e2 u H2 _ A2 g2 w2 b2 P2 => PostF.op A2 P2 (ng a b) fun d e q =>
    hr O H2 v u a b d Q A2.live (.rep (b1.step (A1.step g2))) b2 e q))
theorem denF_cb1 {r : List V → Hp → VK → Prop} {g : G1} {te : TE} {f : EF} (hr : NB K r g) (ng : ∀ a, NoX (g a)) (ha : DenB K W te f) : DenF K W (tCB r (tCons te tNil)) (ap1 f g) := fun F σ H env O Q A P =>
  ha F σ H env O _ A (PostF.bindF P A fun a e1 v H1 _ A1 g1 w1 b1 P1 => PostF.op A1 P1 (ng a) fun d e q => hr O H1 v a d Q A1.live b1 e q)
theorem denF_lst {t : TA} {f : DEnv → Res (List D × DEnv)} (ha : DenA K W t f) : DenF K W (tLst t) (apA f mkL) := fun F σ H env O Q A P =>
  ha F σ H env O _ A (PostF.bindF P A fun ds e1 vs H1 _ A1 g1 w1 b1 P1 => PostF.op A1 P1 (by unfold mkL; split <;> (intro _ _ z; cases z)) fun d e q => by
    unfold mkL at e
    split at e
    · rename_i hl
      cases e
      exact ⟨by rw [b1.length]; exact few hl, fun p hp => q _ _ hp (.lst upd_same (b1.step (ext_step hp)))⟩
    · cases e)
theorem nb_list : NB K (fun xs H Q => ∃ p ys, xs = [.ref p] ∧ (SqL K H p ys ∨ SqT K H p ys) ∧ ∀ l, H l = none → Q (.ref l) (upd H l (.lst ys))) dList := fun O H x a d Q l ha e q => by
  unfold dList at e
  split at e
  · obtain ⟨p, us, rfl, hp, r⟩ := ha.lst
    cases e
    exact ⟨p, us, rfl, .inl (SqL.of hp), fun l' hl => q _ _ hl (.lst upd_same (r.step (ext_step hl)))⟩
  · obtain ⟨p, us, rfl, hp, r⟩ := ha.tup
    cases e
    exact ⟨p, us, rfl, .inr hp, fun l' hl => q _ _ hl (.lst upd_same (r.step (ext_step hl)))⟩
  · cases e
theorem n2_cat : N2 K rCat dCat := fun O H x y a b d Q l ha hb e q => by
  unfold dCat at e
  split at e
  · split at e
    · rename_i hz
      cases e
      obtain ⟨p, us, rfl, hp, r⟩ := ha.lst
      obtain ⟨p2, us2, rfl, hp2, r2⟩ := hb.lst
      exact ⟨p, p2, us, us2, rfl, rfl, hp, hp2, by rw [r.length, r2.length]; exact hz, fun l' hl => q _ _ hl (.lst upd_same ((r.append r2).step (ext_step hl)))⟩
    · cases e
  · cases e
end
end DL
set_option autoImplicit false
namespace DL
open PySem PySem.Spec L2
/-! ### statements -/
/-- what a def gives back: a value, or a new object -/
def RetV (K : PySem.W.Frag) (F : Fr) (O : Own) (H : Hp) (fr : Bool) (v : V) (d : D) : Prop := match fr with
  | true => ∃ p, v = .ref p ∧ F.H0 p = none ∧ O p ∧ Flat K (Ext F.Oc p) H p d
  | false => Rep K F.Oc H v d
def PostS (K : PySem.W.Frag) (F : Fr) (W : Wish) (H : Hp) (O : Own) (r : SR) (E : Ends) : Prop := match r with
  | .nx e => ∀ σ' H' O', At K F σ' H' e O' → Step O H O' H' → E.nx σ' H'
  | .bk e => ∀ σ' H' O', At K F σ' H' e O' → Step O H O' H' → E.bk σ' H'
  | .ct e => ∀ σ' H' O', At K F σ' H' e O' → Step O H O' H' → E.ct σ' H'
  | .ret fr d e => ∀ σ' v H' O', At K F σ' H' e O' → Step O H O' H' → RetV K F O' H' fr v d → E.rt v H'
  | .exc c ds => ∀ H', Agr (fun a => ∃ i, (i, a) ∈ F.pars) F.H0 H' → W c ds H'
  | .stuck => False
/-- ps: the slots of the parameters that the def may change -/
def SDen (K : PySem.W.Frag) (W : Wish) (ps : List Nat) (t : TS) (g : SF) : Prop :=
  ∀ F σ H env O E, F.pars.map (·.1) = ps → At K F σ H env O → PostS K F W H O (g env) E → t E σ H
def ofR {α : Type} (r : Res (α × DEnv)) (k : α → DEnv → SR) : SR := match r with
  | .ok p => k p.1 p.2
  | .exc c ds => .exc c ds
  | .stuck => .stuck
def SR.seq (r : SR) (g : SF) : SR := match r with
  | .nx e => g e
  | .ret fr d e => .ret fr d e
  | .bk e => .bk e
  | .ct e => .ct e
  | .exc c ds => .exc c ds
  | .stuck => .stuck
def sNext : SF := fun env => .nx env
def sSeq (g h : SF) : SF := fun env => (g env).seq h
section
variable {K : PySem.W.Frag} {W : Wish} {F : Fr} {σ : L2.St} {H H1 : Hp} {env : DEnv} {O O1 : Own} {ps : List Nat}
theorem PostS.from {r : SR} {E : Ends} (P : PostS K F W H O r E) (s : Step O H O1 H1) : PostS K F W H1 O1 r E := by
  cases r with
  | nx e => exact fun σ' H' O' A s' => P σ' H' O' A (s.trans s')
  | bk e => exact fun σ' H' O' A s' => P σ' H' O' A (s.trans s')
  | ct e => exact fun σ' H' O' A s' => P σ' H' O' A (s.trans s')
  | ret fr d e => exact fun σ' v H' O' A s' => P σ' v H' O' A (s.trans s')
  | exc c ds => exact P
  | stuck => exact P
theorem PostS.bind {α β : Type} {B : PySem.W.Frag → Own → Hp → β → α → Prop} {r : Res (α × DEnv)} {k : α → DEnv → SR} {E : Ends} {Q1 : β → Hp → Prop} (P : PostS K F W H O (ofR r k) E) (A : At K F σ H env O)
    (h : ∀ a e1 v H1, r = .ok (a, e1) → At K F σ H1 e1 O → Agr (Ow σ env) H H1 → OwSub e1 env → B K O H1 v a → PostS K F W H1 O (k a e1) E → Q1 v H1) : Post K F W σ H env O B r Q1 := by
  cases r with
  | ok p =>
    intro v H1 A1 g1 w1 b1
    exact h p.1 p.2 v H1 rfl A1 g1 w1 b1 (PostS.from (show PostS K F W H O (k p.1 p.2) E from P) (A.step g1))
  | exc c ds => exact P
  | stuck => exact P
theorem PostS.bindF {r : Res (D × DEnv)} {k : D → DEnv → SR} {E : Ends} {Q1 : VK} (P : PostS K F W H O (ofR r k) E) (A : At K F σ H env O)
    (h : ∀ d e1 a H1, r = .ok (d, e1) → At K F σ H1 e1 (Ext O a) → H a = none → OwSub e1 env → Flat K (Ext O a) H1 a d → PostS K F W H1 (Ext O a) (k d e1) E → Q1 (.ref a) H1) : PostF K F W σ H env O r Q1 := by
  cases r with
  | ok p =>
    intro a H1 A1 g1 w1 n1 b1
    exact h p.1 p.2 a H1 rfl A1 n1 w1 b1 (PostS.from (show PostS K F W H O (k p.1 p.2) E from P) ⟨(A.step g1).agr, fun c z => z.elim .inl fun z => .inr (z ▸ n1)⟩)
  | exc c ds => exact P
  | stuck => exact P
theorem sden_next : SDen K W ps tNext sNext := fun F σ H env O E _ A P => P σ H O A (Step.refl O H)
theorem sden_seq {t u : TS} {g h : SF} (ht : SDen K W ps t g) (hu : SDen K W ps u h) : SDen K W ps (tSeq t u) (sSeq g h) := fun F σ H env O E hp A P =>
  ht F σ H env O { E with nx := u E } hp A (by
    have P : PostS K F W H O ((g env).seq h) E := P
    cases e : g env with
    | nx e1 =>
      rw [e] at P
      exact fun σ' H' O' A' s' => hu F σ' H' e1 O' E hp A' (PostS.from (show PostS K F W H O (h e1) E from P) s')
    | bk e1 => rw [e] at P; exact P
    | ct e1 => rw [e] at P; exact P
    | ret fr d e1 => rw [e] at P; exact P
    | exc c ds => rw [e] at P; exact P
    | stuck => rw [e] at P; exact P)
/-- a name gets a value -/
theorem At.setVal (A : At K F σ H env O) {i : Nat} {v : V} {d : D} (r : Rep K O H v d) (hi : i ∉ F.pars.map (·.1)) : At K F (σ.set i (some v)) H (env.set i (some (.val d))) O where
  len := by rw [List.length_set, List.length_set]; exact A.len
  sub := A.sub
  new := A.new
  live := A.live
  agr := A.agr
  val := fun j e h => by
    by_cases hj : i = j
    · subst hj
      have hl : i < env.length := by
        rcases Nat.lt_or_ge i env.length with z | z
        · exact z
        · rw [List.getElem?_eq_none (by rw [List.length_set]; exact z)] at h; cases h
      rw [List.getElem?_set_self hl] at h
      cases h
      exact ⟨v, List.getElem?_set_self (by rw [A.len]; exact hl), r⟩
    · rw [List.getElem?_set_ne hj] at h ⊢
      exact A.val j e h
  own := fun j e h => by
    by_cases hj : i = j
    · subst hj
      have hl : i < env.length := by
        rcases Nat.lt_or_ge i env.length with z | z
        · exact z
        · rw [List.getElem?_eq_none (by rw [List.length_set]; exact z)] at h; cases h
      rw [List.getElem?_set_self hl] at h
      cases h
    · rw [List.getElem?_set_ne hj] at h ⊢
      exact A.own j e h
  inj := fun j k p d1 d2 h1 h2 h3 h4 => by
    have ne : ∀ {j : Nat} {d1 : D}, (env.set i (some (.val d)))[j]? = some (some (DCell.own d1)) → i ≠ j ∧ env[j]? = some (some (DCell.own d1)) := fun {j d1} h => by
      by_cases hj : i = j
      · subst hj
        have hl : i < env.length := by
          rcases Nat.lt_or_ge i env.length with z | z
          · exact z
          · rw [List.getElem?_eq_none (by rw [List.length_set]; exact z)] at h; cases h
        rw [List.getElem?_set_self hl] at h
        cases h
      · rw [List.getElem?_set_ne hj] at h
        exact ⟨hj, h⟩
    obtain ⟨n1, h1⟩ := ne h1
    obtain ⟨n2, h2⟩ := ne h2
    rw [List.getElem?_set_ne n1] at h3
    rw [List.getElem?_set_ne n2] at h4
    exact A.inj j k p d1 d2 h1 h2 h3 h4
  par := fun q hq => by
    have ne : i ≠ q.1 := fun z => hi (z ▸ List.mem_map_of_mem hq)
    rw [List.getElem?_set_ne ne, List.getElem?_set_ne ne]
    exact A.par q hq
  poc := A.poc
  ocl := A.ocl
/-- .. a new object -/
theorem At.setOwn {a : Addr} (A : At K F σ H env (Ext O a)) (nO : ∀ c, Ow σ env c → c ≠ a) (n0 : F.H0 a = none) {i : Nat} {d : D} (r : Flat K (Ext O a) H a d) (hi : i ∉ F.pars.map (·.1)) : At K F (σ.set i (some (.ref a))) H (env.set i (some (.own d))) (Ext O a) := by
  have lt : ∀ {j : Nat} {c : DCell}, i = j → (env.set i (some (.own d)))[j]? = some (some c) → i < env.length := fun {j c} hj h => by
    rcases Nat.lt_or_ge i env.length with z | z
    · exact z
    · rw [List.getElem?_eq_none (by rw [List.length_set]; omega)] at h; cases h
  refine ⟨by rw [List.length_set, List.length_set]; exact A.len, A.sub, A.new, A.live, A.agr, fun j e h => ?_, fun j e h => ?_, fun j k p d1 d2 h1 h2 h3 h4 => ?_, fun q hq => ?_, A.poc, A.ocl⟩
  · by_cases hj : i = j
    · have hl := lt hj h
      subst hj
      rw [List.getElem?_set_self hl] at h
      cases h
    · rw [List.getElem?_set_ne hj] at h ⊢
      exact A.val j e h
  · by_cases hj : i = j
    · have hl := lt hj h
      subst hj
      rw [List.getElem?_set_self hl] at h
      cases h
      exact ⟨a, List.getElem?_set_self (by rw [A.len]; exact hl), .inr rfl, .inr n0, r⟩
    · rw [List.getElem?_set_ne hj] at h ⊢
      exact A.own j e h
  · have at_ : ∀ {j : Nat} {d1 : D}, (env.set i (some (.own d)))[j]? = some (some (DCell.own d1)) → (σ.set i (some (.ref a)))[j]? = some (some (V.ref p)) → (i = j ∧ p = a) ∨ (i ≠ j ∧ env[j]? = some (some (DCell.own d1)) ∧ σ[j]? = some (some (V.ref p))) := fun {j d1} h g => by
      by_cases hj : i = j
      · have hl := lt hj h
        subst hj
        rw [List.getElem?_set_self (by rw [A.len]; exact hl)] at g
        cases g
        exact .inl ⟨rfl, rfl⟩
      · rw [List.getElem?_set_ne hj] at h g
        exact .inr ⟨hj, h, g⟩
    rcases at_ h1 h3 with ⟨e1, p1⟩ | ⟨n1, h1, h3⟩
    · rcases at_ h2 h4 with ⟨e2, p2⟩ | ⟨n2, h2, h4⟩
      · rw [← e1, ← e2]
      · exact absurd p1 (nO p ⟨k, d2, h2, h4⟩)
    · rcases at_ h2 h4 with ⟨e2, p2⟩ | ⟨n2, h2, h4⟩
      · exact absurd p2 (nO p ⟨j, d1, h1, h3⟩)
      · exact A.inj j k p d1 d2 h1 h2 h3 h4
  · have ne : i ≠ q.1 := fun z => hi (z ▸ List.mem_map_of_mem hq)
    rw [List.getElem?_set_ne ne, List.getElem?_set_ne ne]
    exact A.par q hq
def sSet (i : Nat) (f : EF) : SF := fun env => ofR (f env) fun d e => .nx (e.set i (some (.val d)))
def sOwn (i : Nat) (f : EF) : SF := fun env => ofR (f env) fun d e => .nx (e.set i (some (.own d)))
theorem sden_set {i : Nat} {te : TE} {f : EF} (h : Den K W te f) (hi : i ∉ ps) : SDen K W ps (tAsg te (gName i)) (sSet i f) := fun F σ H env O E hp A P =>
  h F σ H env O _ A (PostS.bind P A fun d e1 v H1 _ A1 g1 w1 b1 P1 => P1 _ _ _ (A1.setVal b1 (by rw [hp]; exact hi)) (Step.refl _ _))
theorem sden_own {i : Nat} {te : TE} {f : EF} (h : DenF K W te f) (hi : i ∉ ps) : SDen K W ps (tAsg te (gName i)) (sOwn i f) := fun F σ H env O E hp A P =>
  h F σ H env O _ A (PostS.bindF P A fun d e1 a H1 _ A1 n1 w1 b1 P1 => P1 _ _ _ (A1.setOwn (fun c z q => (A.fresh n1).2 (A.ow (w1.ow (q ▸ z)))) (A.fresh n1).1 b1 (by rw [hp]; exact hi)) (Step.refl _ _))
def sDrop (f : EF) : SF := fun env => ofR (f env) fun _ e => .nx e
theorem sden_drop {te : TE} {f : EF} (h : Den K W te f) : SDen K W ps (tDrop te) (sDrop f) := fun F σ H env O E hp A P =>
  h F σ H env O _ A (PostS.bind P A fun d e1 v H1 _ A1 g1 w1 b1 P1 => P1 _ _ _ A1 (Step.refl _ _))
def sRet (f : EF) : SF := fun env => ofR (f env) fun d e => .ret false d e
def sRetF (f : EF) : SF := fun env => ofR (f env) fun d e => .ret true d e
def sRetO (i : Nat) : SF := fun env => match env[i]? with
  | some (some (.own d)) => .ret true d env
  | _ => .stuck
theorem sden_ret {te : TE} {f : EF} (h : Den K W te f) : SDen K W ps (tRet te) (sRet f) := fun F σ H env O E hp A P =>
  h F σ H env O _ A (PostS.bind P A fun d e1 v H1 _ A1 g1 w1 b1 P1 => P1 σ v H1 O A1 (Step.refl _ _) (b1.weak A1.sub))
theorem sden_retN : SDen K W ps tRetN (sRet (kst .none)) := fun F σ H env O E hp A P => P σ .non H O A (Step.refl _ _) .non
theorem sden_retF {te : TE} {f : EF} (h : DenF K W te f) : SDen K W ps (tRet te) (sRetF f) := fun F σ H env O E hp A P =>
  h F σ H env O _ A (PostS.bindF P A fun d e1 a H1 _ A1 n1 w1 b1 P1 => P1 σ _ H1 _ A1 (Step.refl _ _) ⟨a, rfl, (A.fresh n1).1, .inr rfl, b1.weak fun c z => z.elim (fun z => .inl (A.sub c z)) .inr⟩)
theorem sden_retO {i : Nat} (hi : i ∉ ps) : SDen K W ps (tRet (tVar i)) (sRetO i) := fun F σ H env O E hp A P => by
  have P : PostS K F W H O (sRetO i env) E := P
  unfold sRetO at P
  split at P
  · rename_i d e
    obtain ⟨p, hs, o, n, f⟩ := A.own i d e
    refine ⟨.ref p, hs, P σ _ H O A (Step.refl _ _) ⟨p, rfl, ?_, o, f.weak fun c z => z.elim (fun z => A.sub c z) fun z => z ▸ o⟩⟩
    rcases n with ⟨j, hj⟩ | n
    · obtain ⟨h1, d1, h2⟩ := A.par _ hj
      have : i = j := A.inj i j p d d1 e h2 hs h1
      exact (hi (by rw [this, ← hp]; exact List.mem_map_of_mem (f := (·.1)) hj)).elim
    · exact n
  · exact P.elim
def sIf (c : TF) (g h : SF) : SF := fun env => ofR (c env) fun b e => if b = true then g e else h e
theorem sden_if {c : TT} {t u : TS} {f : TF} {g h : SF} (hc : DenT K W c f) (ht : SDen K W ps t g) (hu : SDen K W ps u h) : SDen K W ps (tIfS c t u) (sIf f g h) := fun F σ H env O E hp A P =>
  hc F σ H env O _ A (PostS.bind P A fun a e1 v H1 _ A1 g1 w1 b1 P1 => by
    subst b1
    cases v with
    | true => exact ht F σ H1 e1 O E hp A1 P1
    | false => exact hu F σ H1 e1 O E hp A1 P1)
theorem sden_break : SDen K W ps tBreak (fun env => .bk env) := fun F σ H env O E _ A P => P σ H O A (Step.refl O H)
theorem sden_cont : SDen K W ps tCont (fun env => .ct env) := fun F σ H env O E _ A P => P σ H O A (Step.refl O H)
theorem sden_never : SDen K W ps tNever (fun _ => .stuck) := fun F σ H env O E _ A P => P
/-! ### targets -/
abbrev GF := D → DEnv → Res DEnv
/-- but for the slots vs nothing changes -/
def Off (vs : List Nat) (σ σ' : L2.St) : Prop := σ'.length = σ.length ∧ ∀ j, j ∉ vs → σ'[j]? = σ[j]?
theorem Off.refl (vs : List Nat) (σ : L2.St) : Off vs σ σ := ⟨rfl, fun _ _ => rfl⟩
theorem Off.trans {vs ws : List Nat} {σ σ1 σ2 : L2.St} (a : Off vs σ σ1) (b : Off ws σ1 σ2) : Off (vs ++ ws) σ σ2 := ⟨b.1.trans a.1, fun j h => (b.2 j fun z => h (List.mem_append_right _ z)).trans (a.2 j fun z => h (List.mem_append_left _ z))⟩
def GDen (K : PySem.W.Frag) (ps : List Nat) (vs : List Nat) (g : TG) (h : GF) : Prop := ∀ F σ H env O x d (Q : L2.St → Hp → Prop), F.pars.map (·.1) = ps → At K F σ H env O → Rep K O H x d → ∀ e, h d env = .ok e → (∀ σ', At K F σ' H e O → Off vs σ σ' → Q σ' H) → g x σ H Q
def GsDen (K : PySem.W.Frag) (ps : List Nat) (vs : List Nat) (g : TGs) (h : List D → DEnv → Res DEnv) : Prop := ∀ F σ H env O xs ds (Q : L2.St → Hp → Prop), F.pars.map (·.1) = ps → At K F σ H env O → Reps K O H xs ds → ∀ e, h ds env = .ok e → (∀ σ', At K F σ' H e O → Off vs σ σ' → Q σ' H) → g xs σ H Q
def gN (i : Nat) : GF := fun d env => .ok (env.set i (some (.val d)))
def gsNil : List D → DEnv → Res DEnv := fun ds env => match ds with
  | [] => .ok env
  | _ => .stuck
def gsCons (g : GF) (h : List D → DEnv → Res DEnv) : List D → DEnv → Res DEnv := fun ds env => match ds with
  | d :: ds => (g d env).bind fun e => h ds e
  | [] => .stuck
def gT (n : Nat) (h : List D → DEnv → Res DEnv) : GF := fun d env => match d with
  | .tuple ds => if ds.length = n then h ds env else .stuck
  | _ => .stuck
theorem gden_name {i : Nat} (hi : i ∉ ps) : GDen K ps [i] (gName i) (gN i) := fun F σ H env O x d Q hp A r e he k => by
  cases he
  exact k _ (A.setVal r (by rw [hp]; exact hi)) ⟨List.length_set .., fun j h => List.getElem?_set_ne fun z => h (by rw [z]; exact List.mem_cons_self)⟩
theorem gsden_nil : GsDen K ps [] gNil gsNil := fun F σ H env O xs ds Q hp A r e he k => by
  cases r with
  | nil => cases he; exact ⟨rfl, k σ A (Off.refl _ _)⟩
  | cons _ _ => cases he
theorem gsden_cons {t : TG} {u : TGs} {g : GF} {h : List D → DEnv → Res DEnv} {v1 v2 : List Nat} (ht : GDen K ps v1 t g) (hu : GsDen K ps v2 u h) : GsDen K ps (v1 ++ v2) (gCons t u) (gsCons g h) := fun F σ H env O xs ds Q hp A r e he k => by
  cases r with
  | nil => cases he
  | @cons v vs d ds r1 r2 =>
    have he : (g d env).bind (fun e => h ds e) = .ok e := he
    cases q : g d env with
    | ok e1 =>
      rw [q] at he
      exact ⟨v, vs, rfl, ht F σ H env O v d _ hp A r1 e1 q fun σ1 A1 o1 => hu F σ1 H e1 O vs ds Q hp A1 r2 e he fun σ2 A2 o2 => k σ2 A2 (o1.trans o2)⟩
    | exc c ds => rw [q] at he; cases he
    | stuck => rw [q] at he; cases he
theorem gden_tup {n : Nat} {t : TGs} {h : List D → DEnv → Res DEnv} {vs : List Nat} (ht : GsDen K ps vs t h) : GDen K ps vs (gTup K n t) (gT n h) := fun F σ H env O x d Q hp A r e he k => by
  unfold gT at he
  split at he
  · split at he
    · rename_i hn
      cases r with
      | tup nd r => exact ⟨_, _, rfl, nd.sq, by rw [r.length]; exact hn, ht F σ H env O _ _ Q hp A r e he k⟩
    · cases he
  · cases he
def sAsg (f : EF) (g : GF) : SF := fun env => ofR (f env) fun d e => match g d e with
  | .ok e2 => .nx e2
  | _ => .stuck
theorem sden_asg {te : TE} {f : EF} {g : TG} {h : GF} {vs : List Nat} (hf : Den K W te f) (hg : GDen K ps vs g h) : SDen K W ps (tAsg te g) (sAsg f h) := fun F σ H env O E hp A P =>
  hf F σ H env O _ A (PostS.bind P A fun d e1 v H1 _ A1 g1 w1 b1 P1 => by
    have P1 : PostS K F W H1 O (match h d e1 with | .ok e2 => .nx e2 | _ => .stuck) E := P1
    cases q : h d e1 with
    | ok e2 =>
      rw [q] at P1
      exact hg F σ H1 e1 O v d _ hp A1 b1 e2 q fun σ' A' _ => P1 σ' H1 O A' (Step.refl _ _)
    | exc c ds => rw [q] at P1; exact P1.elim
    | stuck => rw [q] at P1; exact P1.elim)
end
end DL
set_option autoImplicit false
namespace DL
open PySem PySem.Spec L2
section
variable {K : PySem.W.Frag} {W : Wish} {F : Fr} {σ : L2.St} {H H1 : Hp} {env : DEnv} {O O1 : Own} {ps : List Nat}
/-! ### an owned object is written -/
theorem upd_step {p : Addr} {o : HO} (h : O p) : Step O H O (upd H p o) := ⟨fun a u n e => by rw [upd_ne (show a ≠ p from fun z => n (z ▸ h))]; exact e, fun _ z => .inl z⟩
theorem At.write (A : At K F σ H env O) {i : Nat} {d d' : D} {p : Addr} {o : HO} (hi : env[i]? = some (some (.own d))) (hp : σ[i]? = some (some (.ref p))) (f : Flat K O (upd H p o) p d') : At K F σ (upd H p o) (env.set i (some (.own d'))) O := by
  obtain ⟨q, hq, oq, nq, fq⟩ := A.own i d hi
  rw [hp] at hq
  cases hq
  have st : Step O H O (upd H p o) := upd_step oq
  have hl : i < env.length := (List.getElem?_eq_some_iff.mp hi).1
  refine ⟨by rw [List.length_set]; exact A.len, A.sub, A.new, fun a z => ?_, fun a u n h => ?_, fun j e h => ?_, fun j e h => ?_, fun j k q d1 d2 h1 h2 h3 h4 => ?_, fun q hq => ?_, A.poc, A.ocl⟩
  · by_cases ha : a = p
    · rw [ha, upd_same]; exact fun z => by cases z
    · rw [upd_ne ha]; exact A.live a z
  · have ne : a ≠ p := fun z => by
      subst z
      rcases nq with ⟨j, hj⟩ | nq
      · exact n ⟨j, hj⟩
      · rw [h] at nq; cases nq
    rw [upd_ne ne]
    exact A.agr a u n h
  · by_cases hj : i = j
    · subst hj
      rw [List.getElem?_set_self hl] at h; cases h
    · rw [List.getElem?_set_ne hj] at h
      obtain ⟨v, hv, r⟩ := A.val j e h
      exact ⟨v, hv, r.step st⟩
  · by_cases hj : i = j
    · subst hj
      rw [List.getElem?_set_self hl] at h; cases h
      exact ⟨p, hp, oq, nq, f⟩
    · rw [List.getElem?_set_ne hj] at h
      obtain ⟨q, hq, o1, n1, f1⟩ := A.own j e h
      exact ⟨q, hq, o1, n1, f1.step st (upd_ne fun z => hj (A.inj i j p d e hi h hp (z ▸ hq)))⟩
  · have old : ∀ {j : Nat} {d1 : D}, (env.set i (some (.own d')))[j]? = some (some (DCell.own d1)) → ∃ d0, env[j]? = some (some (DCell.own d0)) := fun {j d1} h => by
      by_cases hj : i = j
      · subst hj; exact ⟨d, hi⟩
      · rw [List.getElem?_set_ne hj] at h; exact ⟨d1, h⟩
    obtain ⟨_, h1⟩ := old h1
    obtain ⟨_, h2⟩ := old h2
    exact A.inj j k q _ _ h1 h2 h3 h4
  · obtain ⟨h1, d1, h2⟩ := A.par q hq
    refine ⟨h1, ?_⟩
    by_cases hj : i = q.1
    · rw [← hj, List.getElem?_set_self hl]; exact ⟨_, rfl⟩
    · rw [List.getElem?_set_ne hj]; exact ⟨d1, h2⟩
theorem owSub_set {i : Nat} {d d' : D} (hi : env[i]? = some (some (.own d))) : OwSub (env.set i (some (.own d'))) env := fun j => by
  have hl : i < env.length := (List.getElem?_eq_some_iff.mp hi).1
  by_cases hj : i = j
  · subst hj
    rw [List.getElem?_set_self hl]
    exact ⟨fun _ => ⟨d, hi⟩, fun _ => ⟨d', rfl⟩⟩
  · rw [List.getElem?_set_ne hj]
theorem agr_write {i : Nat} {d : D} {p : Addr} {o : HO} (hi : env[i]? = some (some (.own d))) (hp : σ[i]? = some (some (.ref p))) : Agr (Ow σ env) H (upd H p o) := fun a u n h => by
  rw [upd_ne (show a ≠ p from fun z => n ⟨i, d, hi, z ▸ hp⟩)]; exact h
/-- a method of an owned list, with arguments: what it gives, and the list behind it -/
abbrev GM := List D → List D → Res (D × List D)
def SM (K : PySem.W.Frag) (r : V → List V → Hp → VK → Prop) (g : GM) : Prop := ∀ (O : Own) (H : Hp) (p : Addr) (us xs : List V) (ls as : List D) (d : D) (ls' : List D) (Q : VK), H p = some (.lst us) → Reps K O H us ls → Reps K O H xs as → g ls as = .ok (d, ls') →
  (∀ v us', Rep K O H v d → Reps K O H us' ls' → Q v (upd H p (.lst us'))) → r (.ref p) xs H Q
def ownL (i : Nat) (env : DEnv) : Res (List D) := match env[i]? with
  | some (some (.own (.list ds))) => .ok ds
  | _ => .stuck
theorem ownL_ok {i : Nat} {ds : List D} (h : ownL i env = .ok ds) : env[i]? = some (some (.own (.list ds))) := by
  unfold ownL at h
  split at h
  · rename_i e; cases h; exact e
  · cases h
theorem ownL_x (i : Nat) : NoX (ownL i env) := by unfold ownL; split; exact nox_ok _; exact nox_st
def mtF (i : Nat) (g : GM) (f : DEnv → Res (List D × DEnv)) : EF := fun env => (ownL i env).bind fun _ => (f env).bind fun p => (ownL i p.2).bind fun ls => (g ls p.1).bind fun q => .ok (q.1, p.2.set i (some (.own (.list q.2))))
theorem Post.x {α β γ : Type} {B : PySem.W.Frag → Own → Hp → β → α → Prop} {r : Res γ} {k : γ → Res (α × DEnv)} {Q : β → Hp → Prop} (P : Post K F W σ H env O B (r.bind k) Q) (n : NoX r) : ∃ c, r = .ok c ∧ Post K F W σ H env O B (k c) Q := by
  cases r with
  | ok c => exact ⟨c, rfl, P⟩
  | exc c ds => exact (n c ds rfl).elim
  | stuck => exact P.elim
theorem own_same {e1 : DEnv} (A : At K F σ H env O) (A1 : At K F σ H1 e1 O) {i : Nat} {ds : List D} (h : e1[i]? = some (some (.own (.list ds)))) : ∃ p us, σ[i]? = some (some (.ref p)) ∧ O p ∧ H1 p = some (.lst us) ∧ Reps K O H1 us ds := by
  obtain ⟨p, hp, o, n, f⟩ := A1.own i _ h
  cases f with
  | lst h r => exact ⟨p, _, hp, o, h, r⟩
theorem den_mt {i : Nat} {r : V → List V → Hp → VK → Prop} {g : GM} {t : TA} {f : DEnv → Res (List D × DEnv)} (hr : SM K r g) (ng : ∀ a b, NoX (g a b)) (ha : DenA K W t f) : Den K W (tBM K "list" r (tVar i) t) (mtF i g f) := fun F σ H env O Q A P => by
  obtain ⟨ds0, e0, P⟩ := Post.x P (ownL_x i)
  obtain ⟨p, us0, hp, op, h0, r0⟩ := own_same A A (ownL_ok e0)
  refine ⟨.ref p, hp, .inl ⟨rfl, us0, SqL.of h0⟩, ha F σ H env O _ A (P.bind fun as e1 xs H1 _ A1 g1 w1 b1 P1 => ?_)⟩
  obtain ⟨ls, e2, P2⟩ := Post.x P1 (ownL_x i)
  obtain ⟨q, us, hq, oq, h1, r1⟩ := own_same A A1 (ownL_ok e2)
  rw [hp] at hq
  cases hq
  obtain ⟨⟨d, ls'⟩, e3, P3⟩ := Post.x P2 (ng ls as)
  refine hr O H1 p us xs ls as d ls' Q h1 r1 b1 e3 fun v us' rv ru => ?_
  have st : Step O H1 O (upd H1 p (.lst us')) := upd_step oq
  exact P3 v _ (A1.write (ownL_ok e2) hp (.lst upd_same (ru.step st))) (agr_write (ownL_ok e2) hp) (owSub_set (ownL_ok e2)) (rv.step st)
/-- without arguments -/
theorem den_mt0 {i : Nat} {r : V → List V → Hp → VK → Prop} {g : GM} (hr : SM K r g) (ng : ∀ a b, NoX (g a b)) : Den K W (tBM0 K "list" r (tVar i)) (mtF i g aNil) := fun F σ H env O Q A P => by
  obtain ⟨ds0, e0, P⟩ := Post.x P (ownL_x i)
  have P1 : Post K F W σ H env O Rep ((ownL i env).bind fun ls => (g ls []).bind fun q => .ok (q.1, env.set i (some (.own (.list q.2))))) Q := P
  obtain ⟨ls, e2, P2⟩ := Post.x P1 (ownL_x i)
  obtain ⟨p, us, hp, op, h1, r1⟩ := own_same A A (ownL_ok e2)
  obtain ⟨⟨d, ls'⟩, e3, P3⟩ := Post.x P2 (ng ls [])
  refine ⟨.ref p, hp, .inl ⟨rfl, us, SqL.of h1⟩, hr O H p us [] ls [] d ls' Q h1 r1 .nil e3 fun v us' rv ru => ?_⟩
  have st : Step O H O (upd H p (.lst us')) := upd_step op
  exact P3 v _ (A.write (ownL_ok e2) hp (.lst upd_same (ru.step st))) (agr_write (ownL_ok e2) hp) (owSub_set (ownL_ok e2)) (rv.step st)
def mAppend : GM := fun ls as => match as with
  | [d] => if ls.length < sizeLine then .ok (.none, ls ++ [d]) else .stuck
  | _ => .stuck
theorem mAppend_x (a b : List D) : NoX (mAppend a b) := by unfold mAppend; split; (split; exact nox_ok _; exact nox_st); exact nox_st
theorem sm_append : SM K rAppend mAppend := fun O H p us xs ls as d ls' Q hp ru ra e q => by
  unfold mAppend at e
  split at e
  · split at e
    · rename_i hz
      cases e
      cases ra with
      | cons h t =>
        cases t
        exact ⟨p, us, _, rfl, rfl, hp, by rw [ru.length]; exact hz, q _ _ .non (ru.append (.cons h .nil))⟩
    · cases e
  · cases e
def mPop : GM := fun ls as => match as with
  | [] => match ls[ls.length - 1]? with
    | some d => .ok (d, ls.dropLast)
    | none => .stuck
  | _ => .stuck
theorem mPop_x (a b : List D) : NoX (mPop a b) := by unfold mPop; split; (split; exact nox_ok _; exact nox_st); exact nox_st
theorem Reps.dropLast {vs : List V} {ds : List D} (r : Reps K O H vs ds) : Reps K O H vs.dropLast ds.dropLast := by
  rw [List.dropLast_eq_take, List.dropLast_eq_take, r.length]
  exact r.take _
theorem sm_pop : SM K rPop mPop := fun O H p us xs ls as d ls' Q hp ru ra e q => by
  unfold mPop at e
  split at e
  · split at e
    · rename_i d' hd
      cases e
      cases ra
      obtain ⟨v, hv, rv⟩ := ru.get hd
      exact ⟨p, us, v, rfl, rfl, hp, by rw [ru.length]; exact hv, q _ _ rv ru.dropLast⟩
    · cases e
  · cases e
def mReverse : GM := fun ls as => match as with
  | [] => .ok (.none, ls.reverse)
  | _ => .stuck
theorem mReverse_x (a b : List D) : NoX (mReverse a b) := by unfold mReverse; split; exact nox_ok _; exact nox_st
theorem sm_reverse : SM K rReverse mReverse := fun O H p us xs ls as d ls' Q hp ru ra e q => by
  unfold mReverse at e
  split at e
  · cases e
    cases ra
    exact ⟨p, us, rfl, rfl, hp, q _ _ .non ru.reverse⟩
  · cases e
/-- x[i] = e of an owned list -/
def sSub (i : Nat) (fv fi : EF) : SF := fun env => ofR (fv env) fun d e1 => match ownL i e1 with
  | .ok _ => ofR (fi e1) fun k e2 => match ownL i e2, k with
    | .ok ls, .int z => match ixN ls.length z with
      | some j => .nx (e2.set i (some (.own (.list (ls.set j d)))))
      | none => .stuck
    | _, _ => .stuck
  | _ => .stuck
theorem sden_sub {i : Nat} {te ti : TE} {fv fi : EF} (hv : Den K W te fv) (hi : Den K W ti fi) : SDen K W ps (tAsg te (gSub (tVar i) ti rSetL)) (sSub i fv fi) := fun F σ H env O E hp A P =>
  hv F σ H env O _ A (PostS.bind P A fun d e1 v H1 _ A1 g1 w1 b1 P1 => by
    cases q : ownL i e1 with
    | ok ls0 =>
      rw [q] at P1
      obtain ⟨p, us0, hs, op, h0, r0⟩ := own_same A A1 (ownL_ok q)
      refine ⟨.ref p, hs, hi F σ H1 e1 O _ A1 (PostS.bind P1 A1 fun k e2 u H2 _ A2 g2 w2 b2 P2 => ?_)⟩
      cases q2 : ownL i e2 with
      | ok ls =>
        rw [q2] at P2
        cases k with
        | int z =>
          cases b2
          obtain ⟨p2, us, hs2, op2, h2, r2⟩ := own_same A A2 (ownL_ok q2)
          rw [hs] at hs2
          cases hs2
          have P2 : PostS K F W H2 O (match ixN ls.length z with | some j => .nx (e2.set i (some (.own (.list (ls.set j d))))) | none => .stuck) E := P2
          cases q3 : ixN ls.length z with
          | some j =>
            rw [q3] at P2
            have st : Step O H2 O (upd H2 p (.lst (us.set j v))) := upd_step op2
            refine ⟨p, us, z, j, rfl, rfl, h2, by rw [r2.length]; exact q3, P2 _ _ O (A2.write (ownL_ok q2) hs (.lst upd_same ?_)) st⟩
            exact (r2.set j (b1.step (A1.step g2))).step st
          | none => rw [q3] at P2; exact P2.elim
        | _ => exact P2.elim
      | exc c ds => rw [q2] at P2; exact P2.elim
      | stuck => rw [q2] at P2; exact P2.elim
    | exc c ds => rw [q] at P1; exact P1.elim
    | stuck => rw [q] at P1; exact P1.elim)
end
end DL
set_option autoImplicit false
namespace DL
open PySem PySem.Spec L2
/-! ### defs: ms tells which parameters the def may change -/
inductive DR where
  | ok (fr : Bool) (d : D) (os : List D) | exc (c : Str) (ds : List D) | stuck
inductive Args (K : PySem.W.Frag) (O : Own) (H : Hp) : List Bool → List V → List D → Prop
  | nil : Args K O H [] [] []
  | val {v : V} {d : D} {ms : List Bool} {vs : List V} {ds : List D} : Rep K O H v d → Args K O H ms vs ds → Args K O H (false :: ms) (v :: vs) (d :: ds)
  | own {p : Addr} {d : D} {ms : List Bool} {vs : List V} {ds : List D} : O p → Flat K O H p d → Args K O H ms vs ds → Args K O H (true :: ms) (.ref p :: vs) (d :: ds)
def parsOf (k : Nat) : List Bool → List V → List (Nat × Addr)
  | true :: ms, .ref p :: vs => (k, p) :: parsOf (k + 1) ms vs
  | true :: ms, _ :: vs => parsOf (k + 1) ms vs
  | false :: ms, _ :: vs => parsOf (k + 1) ms vs
  | [], _ => []
  | _, [] => []
def slots (k : Nat) : List Bool → List Nat
  | true :: ms => k :: slots (k + 1) ms
  | false :: ms => slots (k + 1) ms
  | [] => []
def cellOf (m : Bool) (d : D) : Option DCell := some (if m then DCell.own d else DCell.val d)
def cells : List Bool → List D → DEnv
  | m :: ms, d :: ds => cellOf m d :: cells ms ds
  | _, _ => []
def env0 (n : Nat) (ms : List Bool) (ds : List D) : DEnv := cells ms ds ++ List.replicate (n - ds.length) none
def outD (e : DEnv) : List Nat → Option (List D)
  | [] => some []
  | i :: is => match e[i]?, outD e is with
    | some (some (.own d)), some ds => some (d :: ds)
    | _, _ => none
def endR (ms : List Bool) (fr : Bool) (d : D) (e : DEnv) : DR := match outD e (slots 0 ms) with
  | some os => .ok fr d os
  | none => .stuck
def runF (n : Nat) (ms : List Bool) (G : SF) (ds : List D) : DR := match G (env0 n ms ds) with
  | .ret fr d e => endR ms fr d e
  | .nx e => endR ms false .none e
  | .exc c xs => .exc c xs
  | _ => .stuck
abbrev Outs (K : PySem.W.Frag) (O : Own) (H : Hp) (pars : List (Nat × Addr)) (os : List D) : Prop := Paired (fun (q : Nat × Addr) (d : D) => Flat K O H q.2 d) pars os
def RetC (K : PySem.W.Frag) (O : Own) (H H' : Hp) (pars : List (Nat × Addr)) (fr : Bool) (v : V) (d : D) (os : List D) : Prop := match fr with
  | true => ∃ p, v = .ref p ∧ H p = none ∧ Flat K (Ext O p) H' p d ∧ Outs K (Ext O p) H' pars os
  | false => Rep K O H' v d ∧ Outs K O H' pars os
def InP (pars : List (Nat × Addr)) : Own := fun a => ∃ i, (i, a) ∈ pars
def spD (K : PySem.W.Frag) (ms : List Bool) (G : List D → DR) : Sp := fun vs H Q E => vs.length = ms.length ∧ ∃ O ds, Live O H ∧ Args K O H ms vs ds ∧ ((parsOf 0 ms vs).map (·.2)).Nodup ∧ match G ds with
  | .ok fr d os => ∀ v H', Agr (InP (parsOf 0 ms vs)) H H' → RetC K O H H' (parsOf 0 ms vs) fr v d os → Q v H'
  | .exc c xs => False
  | .stuck => False
section
variable {K : PySem.W.Frag} {O : Own} {H : Hp}
theorem Args.len : ∀ {ms : List Bool} {vs : List V} {ds : List D}, Args K O H ms vs ds → vs.length = ms.length ∧ ds.length = ms.length
  | _, _, _, .nil => ⟨rfl, rfl⟩
  | _, _, _, .val _ t => ⟨congrArg (· + 1) t.len.1, congrArg (· + 1) t.len.2⟩
  | _, _, _, .own _ _ t => ⟨congrArg (· + 1) t.len.1, congrArg (· + 1) t.len.2⟩
theorem cells_len : ∀ {ms : List Bool} {ds : List D}, ds.length = ms.length → (cells ms ds).length = ms.length
  | [], [], _ => rfl
  | [], _ :: _, h => by simp at h
  | _ :: _, [], h => by simp at h
  | m :: ms, d :: ds, h => congrArg (· + 1) (cells_len (by simpa using h))
theorem Args.pars (k : Nat) : ∀ {ms : List Bool} {vs : List V} {ds : List D}, Args K O H ms vs ds → (parsOf k ms vs).map (·.1) = slots k ms := by
  intro ms vs ds a
  induction a generalizing k with
  | nil => rfl
  | val _ _ ih => exact ih (k + 1)
  | own _ _ _ ih => exact congrArg (k :: ·) (ih (k + 1))
/-- what stands at the i-th place -/
theorem Args.get {ms : List Bool} {vs : List V} {ds : List D} (a : Args K O H ms vs ds) : ∀ (k i : Nat) (c : DCell), (cells ms ds)[i]? = some (some c) →
    (∃ v d, c = .val d ∧ vs[i]? = some v ∧ Rep K O H v d) ∨ ∃ p d, c = .own d ∧ vs[i]? = some (.ref p) ∧ O p ∧ Flat K O H p d ∧ (k + i, p) ∈ parsOf k ms vs := by
  induction a with
  | nil => intro k i c h; simp [cells] at h
  | @val v d ms vs ds r t ih =>
    intro k i c h
    cases i with
    | zero =>
      have h : some (cellOf false d) = some (some c) := h
      cases h
      exact .inl ⟨v, d, rfl, rfl, r⟩
    | succ i =>
      rcases ih (k + 1) i c h with ⟨v, d, e, g, r⟩ | ⟨p, d, e, g, o, f, m⟩
      · exact .inl ⟨v, d, e, g, r⟩
      · exact .inr ⟨p, d, e, g, o, f, by rw [show k + (i + 1) = k + 1 + i by omega]; exact m⟩
  | @own p d ms vs ds o f t ih =>
    intro k i c h
    cases i with
    | zero =>
      have h : some (cellOf true d) = some (some c) := h
      cases h
      exact .inr ⟨p, d, rfl, rfl, o, f, List.mem_cons_self⟩
    | succ i =>
      rcases ih (k + 1) i c h with ⟨v, d, e, g, r⟩ | ⟨p, d, e, g, o, f, m⟩
      · exact .inl ⟨v, d, e, g, r⟩
      · exact .inr ⟨p, d, e, g, o, f, List.mem_cons_of_mem _ (by rw [show k + (i + 1) = k + 1 + i by omega]; exact m)⟩
theorem Args.par {ms : List Bool} {vs : List V} {ds : List D} (a : Args K O H ms vs ds) : ∀ (k : Nat) (q : Nat × Addr), q ∈ parsOf k ms vs → k ≤ q.1 ∧ vs[q.1 - k]? = some (.ref q.2) ∧ O q.2 ∧ ∃ d, (cells ms ds)[q.1 - k]? = some (some (.own d)) := by
  induction a with
  | nil => intro k q h; simp [parsOf] at h
  | @val v d ms vs ds r t ih =>
    intro k q h
    obtain ⟨l, g, o, d', e⟩ := ih (k + 1) q h
    have z : q.1 - k = (q.1 - (k + 1)) + 1 := by omega
    rw [z]
    exact ⟨by omega, g, o, d', e⟩
  | @own p d ms vs ds o f t ih =>
    intro k q h
    rcases List.mem_cons.mp h with rfl | h
    · have z : (k, p).1 - k = 0 := Nat.sub_self k
      rw [z]
      exact ⟨Nat.le_refl _, rfl, o, d, rfl⟩
    · obtain ⟨l, g, o, d', e⟩ := ih (k + 1) q h
      have z : q.1 - k = (q.1 - (k + 1)) + 1 := by omega
      rw [z]
      exact ⟨by omega, g, o, d', e⟩
end
theorem nodup_snd {α β : Type} : ∀ {l : List (α × β)} {a b : α} {x : β}, (l.map (·.2)).Nodup → (a, x) ∈ l → (b, x) ∈ l → a = b
  | [], _, _, _, _, h, _ => by simp at h
  | (c, y) :: l, a, b, x, n, h1, h2 => by
    rw [List.map_cons, List.nodup_cons] at n
    rcases List.mem_cons.mp h1 with e1 | h1
    · rcases List.mem_cons.mp h2 with e2 | h2
      · rw [(Prod.mk.inj e1).1, (Prod.mk.inj e2).1]
      · exact absurd (List.mem_map_of_mem (f := (·.2)) h2) (by rw [show (b, x).2 = y from (Prod.mk.inj e1).2]; exact n.1)
    · rcases List.mem_cons.mp h2 with e2 | h2
      · exact absurd (List.mem_map_of_mem (f := (·.2)) h1) (by rw [show (a, x).2 = y from (Prod.mk.inj e2).2]; exact n.1)
      · exact nodup_snd n.2 h1 h2
section
variable {K : PySem.W.Frag}
/-- the entry of a def -/
theorem at_start {O : Own} {H : Hp} {N : List Str} {ms : List Bool} {vs : List V} {ds : List D} (l : Live O H) (a : Args K O H ms vs ds) (hN : ms.length ≤ N.length) (nd : ((parsOf 0 ms vs).map (·.2)).Nodup) :
    At K ⟨O, H, parsOf 0 ms vs⟩ (L2.start N vs) H (env0 N.length ms ds) O := by
  obtain ⟨l1, l2⟩ := a.len
  have lc : (cells ms ds).length = ms.length := cells_len l2
  have inC : ∀ {i : Nat} {c : DCell}, (env0 N.length ms ds)[i]? = some (some c) → (cells ms ds)[i]? = some (some c) ∧ i < ms.length := fun {i c} h => by
    unfold env0 at h
    rcases Nat.lt_or_ge i (cells ms ds).length with z | z
    · rw [List.getElem?_append_left z] at h
      exact ⟨h, by omega⟩
    · rw [List.getElem?_append_right z, List.getElem?_replicate] at h
      split at h <;> cases h
  have inV : ∀ {i : Nat} {v : V}, vs[i]? = some v → (L2.start N vs)[i]? = some (some v) := fun {i v} h => by
    have z : i < vs.length := (List.getElem?_eq_some_iff.mp h).1
    unfold L2.start
    rw [List.getElem?_append_left (by rw [List.length_map]; exact z), List.getElem?_map, h]
    rfl
  have getO : ∀ {i : Nat} {d : D}, (env0 N.length ms ds)[i]? = some (some (DCell.own d)) → ∃ p, vs[i]? = some (.ref p) ∧ O p ∧ Flat K O H p d ∧ (i, p) ∈ parsOf 0 ms vs := fun {i d} h => by
    rcases a.get 0 i _ (inC h).1 with ⟨v, d', e, _⟩ | ⟨p, d', e, g, o, f, m⟩
    · cases e
    · cases e
      exact ⟨p, g, o, f, by rw [Nat.zero_add] at m; exact m⟩
  refine ⟨?_, fun _ h => h, fun _ h => .inl h, l, Agr.refl _ _, fun i d h => ?_, fun i d h => ?_, fun i j p d e h1 h2 h3 h4 => ?_, fun q hq => ?_, fun q hq => (a.par 0 q hq).2.2.1, l⟩
  · unfold L2.start env0
    rw [List.length_append, List.length_append, List.length_map, List.length_replicate, List.length_replicate, lc]
    omega
  · rcases a.get 0 i _ (inC h).1 with ⟨v, d', e, g, r⟩ | ⟨p, d', e, _⟩
    · cases e
      exact ⟨v, inV g, r⟩
    · cases e
  · obtain ⟨p, g, o, f, m⟩ := getO h
    exact ⟨p, inV g, o, .inl ⟨i, m⟩, f⟩
  · obtain ⟨p1, g1, _, _, m1⟩ := getO h1
    obtain ⟨p2, g2, _, _, m2⟩ := getO h2
    rw [inV g1] at h3
    rw [inV g2] at h4
    cases h3
    cases h4
    exact nodup_snd nd m1 m2
  · obtain ⟨_, g, o, d, e⟩ := a.par 0 q hq
    rw [Nat.sub_zero] at g e
    refine ⟨inV g, d, ?_⟩
    unfold env0
    rw [List.getElem?_append_left (List.getElem?_eq_some_iff.mp e).1]
    exact e
theorem outs_of {F : Fr} {σ : L2.St} {H : Hp} {env : DEnv} {O : Own} (A : At K F σ H env O) : ∀ (l : List (Nat × Addr)) (os : List D), (∀ q ∈ l, q ∈ F.pars) → outD env (l.map (·.1)) = some os → Outs K O H l os
  | [], os, _, h => by cases h; exact .nil
  | q :: l, os, hm, h => by
    obtain ⟨h1, d, h2⟩ := A.par q (hm q List.mem_cons_self)
    have h : (match env[q.1]?, outD env (l.map (·.1)) with | some (some (.own d)), some ds => some (d :: ds) | _, _ => none) = some os := h
    rw [h2] at h
    cases e : outD env (l.map (·.1)) with
    | none => rw [e] at h; cases h
    | some ds =>
      rw [e] at h
      cases h
      obtain ⟨p, h3, o, _, f⟩ := A.own q.1 d h2
      rw [h1] at h3
      cases h3
      exact .cons f (outs_of A l ds (fun q hq => hm q (List.mem_cons_of_mem _ hq)) e)
theorem Outs.weak {O O' : Own} {H : Hp} {l : List (Nat × Addr)} {os : List D} (s : ∀ c, O' c → O c) (h : Outs K O H l os) : Outs K O' H l os := Paired.mapP h fun q d f => f.weak s
/-- THE RULE for a def -/
theorem fn_den {P : Program} {w : World} {mg : Str → Option Value} {base : Heap} {x qual : Str} {st : Stmt} {f : Addr} {fd : FuncData} {N ps : List Str} {k : Nat} {ms : List Bool} {G : SF} (T : Fun K x qual st f fd) (S : FnScope N ps (defScope st)) (hms : ms.length = ps.length)
    (hbody : ∀ (cdv : Value) (A : Around) (outer : List Env) (s : Shared) (H : Hp) (E : XK), Room k (A.deeper (PyProof.Rows.envOfC qual (defScope st) s.heap.objs.size f cdv)) →
      ∃ t, PSs (L2.cxOf CX0 P w K mg base N qual (defScope st) f cdv A outer s H E).nox (defBody st) t ∧ SDen K (fun _ _ _ => False) (slots 0 ms) t G) : FnOk P w K mg base CX0 (k + 1) f fd ps (spD K ms (runF N.length ms G)) := by
  refine T.ok S (fun vs H Q E h => h.1.trans hms) fun cdv A outer s H vs Q E hr h => ?_
  obtain ⟨t, ht, hd⟩ := hbody cdv A outer s H E hr
  obtain ⟨hl, O, ds, l, a, nd, h⟩ := h
  have hN : ms.length ≤ N.length := by
    have e := S.pre
    have : (N.take ps.length).length = ps.length := by rw [e]
    rw [List.length_take] at this
    omega
  refine ⟨t, ht, hd ⟨O, H, parsOf 0 ms vs⟩ _ H _ O _ (a.pars 0) (at_start l a hN nd) ?_⟩
  have fin : ∀ (fr : Bool) (d : D) (e : DEnv), (match endR ms fr d e with | .ok fr d os => ∀ v H', Agr (InP (parsOf 0 ms vs)) H H' → RetC K O H H' (parsOf 0 ms vs) fr v d os → Q v H' | .exc c xs => False | .stuck => False) →
      ∀ σ' v H' O', At K ⟨O, H, parsOf 0 ms vs⟩ σ' H' e O' → RetV K ⟨O, H, parsOf 0 ms vs⟩ O' H' fr v d → Q v H' := fun fr d e h σ' v H' O' A' r => by
    unfold endR at h
    cases q : outD e (slots 0 ms) with
    | none => rw [q] at h; exact h.elim
    | some os =>
      rw [q] at h
      have o1 : Outs K O' H' (parsOf 0 ms vs) os := outs_of A' _ os (fun q hq => hq) (by rw [a.pars 0]; exact q)
      refine h v H' A'.agr ?_
      cases fr with
      | false => exact ⟨r, o1.weak A'.sub⟩
      | true =>
        obtain ⟨p, e1, n, o, f⟩ := r
        exact ⟨p, e1, n, f, o1.weak fun c z => z.elim (A'.sub c) fun z => z ▸ o⟩
  unfold runF at h
  cases e : G (env0 N.length ms ds) with
  | nx e1 =>
    rw [e] at h
    exact fun σ' H' O' A' s' => fin false .none e1 h σ' .non H' O' A' .non
  | ret fr d e1 =>
    rw [e] at h
    exact fun σ' v H' O' A' s' r => fin fr d e1 h σ' v H' O' A' r
  | bk e1 => rw [e] at h; exact h.elim
  | ct e1 => rw [e] at h; exact h.elim
  | exc c xs => rw [e] at h; exact h.elim
  | stuck => rw [e] at h; exact h.elim
end
end DL
set_option autoImplicit false
namespace DL
open PySem PySem.Spec L2
/-! ### calls of defs -/
inductive Arg where
  | val (d : D) | own (i : Nat)
inductive AR (σ : L2.St) (K : PySem.W.Frag) (O : Own) (H : Hp) : List V → List Arg → Prop
  | nil : AR σ K O H [] []
  | val {v : V} {vs : List V} {d : D} {as : List Arg} : Rep K O H v d → AR σ K O H vs as → AR σ K O H (v :: vs) (.val d :: as)
  | own {p : Addr} {vs : List V} {i : Nat} {as : List Arg} : σ[i]? = some (some (.ref p)) → AR σ K O H vs as → AR σ K O H (.ref p :: vs) (.own i :: as)
theorem AR.step {σ : L2.St} {K : PySem.W.Frag} {O O' : Own} {H H' : Hp} {vs : List V} {as : List Arg} (s : Step O H O' H') (h : AR σ K O H vs as) : AR σ K O' H' vs as := by
  induction h with
  | nil => exact .nil
  | val r _ ih => exact .val (r.step s) ih
  | own e _ ih => exact .own e ih
abbrev AF := DEnv → Res (List Arg × DEnv)
def DenC (K : PySem.W.Frag) (W : Wish) (t : TA) (f : AF) : Prop := ∀ F σ H env O (Q : List V → Hp → Prop), At K F σ H env O → Post K F W σ H env O (AR σ) (f env) Q → t σ H Q
def cNil : AF := fun env => .ok ([], env)
def cVal (f : EF) (g : AF) : AF := fun env => (f env).bind fun p => (g p.2).bind fun q => .ok (.val p.1 :: q.1, q.2)
def cOwn (i : Nat) (g : AF) : AF := fun env => match env[i]? with
  | some (some (.own _)) => (g env).bind fun q => .ok (.own i :: q.1, q.2)
  | _ => .stuck
section
variable {K : PySem.W.Frag} {W : Wish} {F : Fr} {σ : L2.St} {H H1 : Hp} {env : DEnv} {O O1 : Own} {ps : List Nat}
theorem denC_nil : DenC K W tNil cNil := fun F σ H env O Q A P => P.now A .nil
theorem denC_val {te : TE} {t : TA} {f : EF} {g : AF} (ha : Den K W te f) (hr : DenC K W t g) : DenC K W (tCons te t) (cVal f g) := fun F σ H env O Q A P =>
  ha F σ H env O _ A (P.bind fun a e1 v H1 _ A1 g1 w1 b1 P1 => hr F σ H1 e1 O _ A1 (P1.bind fun b e2 u H2 _ A2 g2 w2 b2 P2 => P2.now A2 (.val (b1.step (A1.step g2)) b2)))
theorem denC_own {i : Nat} {t : TA} {g : AF} (hr : DenC K W t g) : DenC K W (tCons (tVar i) t) (cOwn i g) := fun F σ H env O Q A P => by
  unfold cOwn at P
  split at P
  · rename_i d e
    obtain ⟨p, hp, _, _, _⟩ := A.own i d e
    exact ⟨.ref p, hp, hr F σ H env O _ A (P.bind fun b e2 u H2 _ A2 g2 w2 b2 P2 => P2.now A2 (.own hp b2))⟩
  · exact P.elim
def ownIx : List Arg → List Nat
  | .own i :: as => i :: ownIx as
  | .val _ :: as => ownIx as
  | [] => []
/-- the data of the arguments, as the names stand now -/
def readG (e : DEnv) : List Bool → List Arg → Res (List D)
  | false :: ms, .val d :: as => (readG e ms as).bind fun ds => .ok (d :: ds)
  | true :: ms, .own i :: as => match e[i]? with
    | some (some (.own d)) => (readG e ms as).bind fun ds => .ok (d :: ds)
    | _ => .stuck
  | [], [] => .ok []
  | _, _ => .stuck
def writeG : List Nat → List D → DEnv → Res DEnv
  | i :: is, d :: ds, e => writeG is ds (e.set i (some (.own d)))
  | [], [], e => .ok e
  | _, _, _ => .stuck
def callR (fr : Bool) (ms : List Bool) (G : List D → DR) (f : AF) : EF := fun env => (f env).bind fun p => if (ownIx p.1).Nodup then (readG p.2 ms p.1).bind fun ds => match G ds with
  | .ok b d os => if fr = true → b = true then (writeG (ownIx p.1) os p.2).bind fun e => .ok (d, e) else .stuck
  | .exc _ _ => .stuck
  | .stuck => .stuck
  else .stuck
theorem readG_x (e : DEnv) : ∀ (ms : List Bool) (as : List Arg), NoX (readG e ms as)
  | false :: ms, .val d :: as => by
    unfold readG
    cases q : readG e ms as with
    | ok ds => exact nox_ok _
    | exc c x => exact absurd q (readG_x e ms as c x)
    | stuck => exact nox_st
  | true :: ms, .own i :: as => by
    unfold readG
    split
    · cases q : readG e ms as with
      | ok ds => exact nox_ok _
      | exc c x => exact absurd q (readG_x e ms as c x)
      | stuck => exact nox_st
    · exact nox_st
  | [], [] => nox_ok _
  | [], _ :: _ => nox_st
  | _ :: _, [] => by rename_i b _; cases b <;> exact nox_st
  | true :: _, .val _ :: _ => nox_st
  | false :: _, .own _ :: _ => nox_st
theorem writeG_x : ∀ (is : List Nat) (os : List D) (e : DEnv), NoX (writeG is os e)
  | [], [], _ => nox_ok _
  | i :: is, d :: ds, e => writeG_x is ds _
  | [], _ :: _, _ => nox_st
  | _ :: _, [], _ => nox_st
theorem Res.bind_ok {α β : Type} {r : Res α} {k : α → Res β} {b : β} (h : r.bind k = .ok b) : ∃ a, r = .ok a ∧ k a = .ok b := by
  cases r with
  | ok a => exact ⟨a, rfl, h⟩
  | exc c ds => cases h
  | stuck => cases h
/-- the arguments at the call -/
theorem args_of {e : DEnv} (A : At K F σ H e O) : ∀ {ms : List Bool} {as : List Arg} {vs : List V} {ds : List D} (k : Nat), AR σ K O H vs as → readG e ms as = .ok ds →
    Args K O H ms vs ds ∧ Paired (fun (q : Nat × Addr) (i : Nat) => σ[i]? = some (some (.ref q.2)) ∧ ∃ d, e[i]? = some (some (.own d))) (parsOf k ms vs) (ownIx as) := by
  intro ms as vs ds k h
  induction h generalizing ms ds k with
  | nil =>
    intro hr
    cases ms with
    | nil => cases hr; exact ⟨.nil, .nil⟩
    | cons m ms => cases m <;> cases hr
  | @val v vs d as r t ih =>
    intro hr
    cases ms with
    | nil => cases hr
    | cons m ms =>
      cases m with
      | true => cases hr
      | false =>
        obtain ⟨ds', e1, e2⟩ := Res.bind_ok (show (readG e ms as).bind (fun ds => .ok (d :: ds)) = .ok ds from hr)
        cases e2
        obtain ⟨a1, a2⟩ := ih (k + 1) e1
        exact ⟨.val r a1, a2⟩
  | @own p vs i as hs t ih =>
    intro hr
    cases ms with
    | nil => cases hr
    | cons m ms =>
      cases m with
      | false => cases hr
      | true =>
        have hr : (match e[i]? with | some (some (DCell.own d)) => (readG e ms as).bind fun ds => .ok (d :: ds) | _ => .stuck) = Res.ok ds := hr
        split at hr
        · rename_i d he
          obtain ⟨ds', e1, e2⟩ := Res.bind_ok hr
          cases e2
          obtain ⟨a1, a2⟩ := ih (k + 1) e1
          obtain ⟨p', hp, o, n, f⟩ := A.own i d he
          rw [hs] at hp
          cases hp
          exact ⟨.own o f a1, .cons ⟨hs, d, he⟩ a2⟩
        · cases hr
theorem pars_nodup {e : DEnv} (A : At K F σ H e O) : ∀ {l : List (Nat × Addr)} {is : List Nat}, Paired (fun (q : Nat × Addr) (i : Nat) => σ[i]? = some (some (.ref q.2)) ∧ ∃ d, e[i]? = some (some (.own d))) l is → is.Nodup → (l.map (·.2)).Nodup := by
  intro l is h
  induction h with
  | nil => intro _; exact List.nodup_nil
  | @cons q i l is r t ih =>
    intro n
    rw [List.nodup_cons] at n
    rw [List.map_cons, List.nodup_cons]
    refine ⟨fun m => n.1 ?_, ih n.2⟩
    have find : ∀ {l : List (Nat × Addr)} {is : List Nat}, Paired (fun (q : Nat × Addr) (i : Nat) => σ[i]? = some (some (.ref q.2)) ∧ ∃ d, e[i]? = some (some (.own d))) l is → q.2 ∈ l.map (·.2) → i ∈ is := by
      intro l is h
      induction h with
      | nil => intro m; simp at m
      | @cons q' i' l is r' t ih =>
        intro m
        rw [List.map_cons, List.mem_cons] at m
        rcases m with m | m
        · obtain ⟨h1, d1, h2⟩ := r
          obtain ⟨h3, d2, h4⟩ := r'
          rw [← m] at h3
          rw [A.inj i i' q.2 d1 d2 h2 h4 h1 h3]
          exact List.mem_cons_self
        · exact List.mem_cons_of_mem _ (ih m)
    exact find t m
/-- behind a call: what was owned may have changed, something new may be owned -/
theorem At.after {H' : Hp} {O' : Own} {l : List (Nat × Addr)} {is : List Nat} {os : List D} {e e' : DEnv} (A : At K F σ H e O) (hp : Paired (fun (q : Nat × Addr) (i : Nat) => σ[i]? = some (some (.ref q.2)) ∧ ∃ d, e[i]? = some (some (.own d))) l is) (nd : is.Nodup)
    (g : Agr (InP l) H H') (ho : Outs K O' H' l os) (hw : writeG is os e = .ok e') (sO : ∀ a, O a → O' a) (nO : ∀ a, O' a → O a ∨ (H a = none ∧ H' a ≠ none)) : At K F σ H' e' O' ∧ OwSub e' e ∧ Agr (Ow σ e) H H' := by
  have inl : ∀ {l : List (Nat × Addr)} {is : List Nat}, Paired (fun (q : Nat × Addr) (i : Nat) => σ[i]? = some (some (.ref q.2)) ∧ ∃ d, e[i]? = some (some (.own d))) l is → ∀ a, InP l a → ∃ i ∈ is, σ[i]? = some (some (.ref a)) ∧ ∃ d, e[i]? = some (some (.own d)) := by
    intro l is h
    induction h with
    | nil => intro a ⟨i, m⟩; simp at m
    | @cons q i l is r t ih =>
      intro a ⟨j, m⟩
      rcases List.mem_cons.mp m with m | m
      · rw [← m] at r
        exact ⟨i, List.mem_cons_self, r⟩
      · obtain ⟨i', m', r'⟩ := ih a ⟨j, m⟩
        exact ⟨i', List.mem_cons_of_mem _ m', r'⟩
  have agO : Agr (Ow σ e) H H' := g.sub fun a z => by
    obtain ⟨i, _, h1, d, h2⟩ := inl hp a z
    exact ⟨i, d, h2, h1⟩
  have st : Step O H O' H' := ⟨agO.sub fun a z => A.ow z, fun a z => (nO a z).imp id (·.1)⟩
  -- where the names stand behind it
  have look : ∀ {l : List (Nat × Addr)} {is : List Nat} {os : List D} {e1 e2 : DEnv}, Paired (fun (q : Nat × Addr) (i : Nat) => σ[i]? = some (some (.ref q.2)) ∧ ∃ d, e[i]? = some (some (.own d))) l is → Outs K O' H' l os → is.Nodup → (∀ i ∈ is, ∃ d, e1[i]? = some (some (.own d))) → writeG is os e1 = .ok e2 →
      e2.length = e1.length ∧ (∀ j, j ∉ is → e2[j]? = e1[j]?) ∧ ∀ j ∈ is, ∃ p d, σ[j]? = some (some (.ref p)) ∧ e2[j]? = some (some (.own d)) ∧ Flat K O' H' p d := by
    intro l is os e1 e2 h
    induction h generalizing os e1 with
    | nil =>
      intro ho _ _ hw
      cases ho
      cases hw
      exact ⟨rfl, fun _ _ => rfl, fun j m => by simp at m⟩
    | @cons q i l is r t ih =>
      intro ho n he hw
      cases ho with
      | @cons _ d _ ds f ft =>
        rw [List.nodup_cons] at n
        obtain ⟨d0, hd0⟩ := he i List.mem_cons_self
        have hl : i < e1.length := (List.getElem?_eq_some_iff.mp hd0).1
        obtain ⟨h1, h2, h3⟩ := ih (os := ds) (e1 := e1.set i (some (.own d))) ft n.2 (fun j m => by
          rw [List.getElem?_set_ne (show i ≠ j from fun z => n.1 (z ▸ m))]
          exact he j (List.mem_cons_of_mem _ m)) hw
        refine ⟨by rw [h1, List.length_set], fun j m => ?_, fun j m => ?_⟩
        · rw [h2 j fun z => m (List.mem_cons_of_mem _ z), List.getElem?_set_ne (show i ≠ j from fun z => m (z ▸ List.mem_cons_self))]
        · rcases List.mem_cons.mp m with rfl | m
          · exact ⟨q.2, d, r.1, by rw [h2 j n.1, List.getElem?_set_self hl], f⟩
          · exact h3 j m
  have ise : ∀ {l : List (Nat × Addr)} {is : List Nat}, Paired (fun (q : Nat × Addr) (i : Nat) => σ[i]? = some (some (.ref q.2)) ∧ ∃ d, e[i]? = some (some (.own d))) l is → ∀ i ∈ is, ∃ d, e[i]? = some (some (.own d)) := by
    intro l is h
    induction h with
    | nil => intro i m; simp at m
    | @cons q i l is r t ih =>
      intro j m
      rcases List.mem_cons.mp m with rfl | m
      · exact r.2
      · exact ih j m
  obtain ⟨k1, k2, k3⟩ := look hp ho nd (ise hp) hw
  have ow : OwSub e' e := fun j => by
    by_cases m : j ∈ is
    · obtain ⟨p, d, _, h2, _⟩ := k3 j m
      exact ⟨fun _ => ise hp j m, fun _ => ⟨d, h2⟩⟩
    · rw [k2 j m]
  refine ⟨⟨A.len.trans k1.symm, fun a z => sO a (A.sub a z), fun a z => ?_, fun a z => ?_, fun a o n h => ?_, fun j d h => ?_, fun j d h => ?_, fun i j p d d' h1 h2 h3 h4 => ?_, fun q hq => ?_, A.poc, A.ocl⟩, ow, agO⟩
  · rcases nO a z with q | ⟨q, _⟩
    · exact A.new a q
    · exact .inr (A.fresh q).1
  · rcases nO a z with q | ⟨_, q⟩
    · by_cases h : InP l a
      · obtain ⟨i, m, h1, d, h2⟩ := inl hp a h
        obtain ⟨p, d', h3, h4, f⟩ := k3 i m
        rw [h1] at h3
        cases h3
        exact f.there
      · cases e0 : H a with
        | none => exact absurd e0 (A.live a q)
        | some o => rw [g a o h e0]; exact fun z => by cases z
    · exact q
  · have h1 := A.agr a o n h
    by_cases hI : InP l a
    · obtain ⟨i, m, h2, d, h3⟩ := inl hp a hI
      obtain ⟨p, h4, o1, n1, f1⟩ := A.own i d h3
      rw [h2] at h4
      cases h4
      rcases n1 with n1 | n1
      · exact absurd n1 n
      · rw [h] at n1; cases n1
    · exact g a o hI h1
  · by_cases m : j ∈ is
    · obtain ⟨p, d', _, h2, _⟩ := k3 j m
      rw [h2] at h
      cases h
    · rw [k2 j m] at h
      obtain ⟨v, hv, r⟩ := A.val j d h
      exact ⟨v, hv, r.step st⟩
  · by_cases m : j ∈ is
    · obtain ⟨p, d', h1, h2, f⟩ := k3 j m
      rw [h2] at h
      cases h
      obtain ⟨d0, h5⟩ := ise hp j m
      obtain ⟨p', h6, o1, n1, _⟩ := A.own j d0 h5
      rw [h1] at h6
      cases h6
      exact ⟨p, h1, sO p o1, n1, f⟩
    · rw [k2 j m] at h
      obtain ⟨p, h1, o1, n1, f⟩ := A.own j d h
      refine ⟨p, h1, sO p o1, n1, f.step st ?_⟩
      cases e0 : H p with
      | none => exact absurd e0 f.there
      | some o =>
        refine g p o (fun hI => ?_) e0
        obtain ⟨i, m', h2, d2, h3⟩ := inl hp p hI
        exact m (A.inj i j p d2 d h3 h h2 h1 ▸ m')
  · obtain ⟨x, h1'⟩ := (ow i).mp ⟨d, h1⟩
    obtain ⟨y, h2'⟩ := (ow j).mp ⟨d', h2⟩
    exact A.inj i j p x y h1' h2' h3 h4
  · obtain ⟨h1, h2⟩ := A.par q hq
    exact ⟨h1, (ow q.1).mpr h2⟩
theorem den_call {fr : Bool} {ms : List Bool} {G : List D → DR} {t : TA} {f : AF} {E : XK} (ha : DenC K W t f) : Den K W (tCall (spD K ms G) [] E t) (callR fr ms G f) := fun F σ H env O Q A P =>
  ha F σ H env O _ A (P.bind fun as e1 vs H1 _ A1 g1 w1 b1 P1 => by
    dsimp only at P1
    split at P1
    · rename_i nd
      obtain ⟨ds, e2, P2⟩ := Post.x P1 (readG_x e1 ms as)
      obtain ⟨a1, a2⟩ := args_of A1 0 b1 e2
      rw [List.append_nil]
      refine ⟨a1.len.1, O, ds, A1.live, a1, pars_nodup A1 a2 nd, ?_⟩
      cases q : G ds with
      | ok b d os =>
        rw [q] at P2
        dsimp only at P2 ⊢
        split at P2
        · obtain ⟨e3, hw, P3⟩ := Post.x P2 (writeG_x _ _ _)
          intro v H2 g2 r
          cases b with
          | false =>
            obtain ⟨h1, h2, h3⟩ := At.after (O' := O) A1 a2 nd g2 r.2 hw (fun _ z => z) (fun _ z => .inl z)
            exact P3 v H2 h1 h3 h2 r.1
          | true =>
            obtain ⟨p, rfl, n, fl, o2⟩ := r
            have o3 : Outs K O H2 (parsOf 0 ms vs) os := o2.weak fun c z => .inl z
            obtain ⟨h1, h2, h3⟩ := At.after (O' := O) A1 a2 nd g2 o3 hw (fun _ z => z) (fun _ z => .inl z)
            exact P3 _ H2 h1 h3 h2 ((fl.weak fun c z => .inl z).rep (A1.fresh n).2)
        · exact P2.elim
      | exc c xs => rw [q] at P2; exact P2.elim
      | stuck => rw [q] at P2; exact P2.elim
    · exact P1.elim)
theorem denF_call {ms : List Bool} {G : List D → DR} {t : TA} {f : AF} {E : XK} (ha : DenC K W t f) : DenF K W (tCall (spD K ms G) [] E t) (callR true ms G f) := fun F σ H env O Q A P =>
  ha F σ H env O _ A (PostF.bindF P A fun as e1 vs H1 _ A1 g1 w1 b1 P1 => by
    dsimp only at P1
    split at P1
    · rename_i nd
      cases e2 : readG e1 ms as with
      | ok ds =>
        rw [e2] at P1
        obtain ⟨a1, a2⟩ := args_of A1 0 b1 e2
        rw [List.append_nil]
        refine ⟨a1.len.1, O, ds, A1.live, a1, pars_nodup A1 a2 nd, ?_⟩
        have P2 : PostF K F W σ H1 e1 O (match G ds with | .ok b d os => if true = true → b = true then (writeG (ownIx as) os e1).bind fun e => .ok (d, e) else .stuck | .exc _ _ => .stuck | .stuck => .stuck) Q := P1
        cases q : G ds with
        | ok b d os =>
          rw [q] at P2
          dsimp only at P2 ⊢
          split at P2
          · rename_i hb
            have hb := hb rfl
            subst hb
            cases hw : writeG (ownIx as) os e1 with
            | ok e3 =>
              rw [hw] at P2
              intro v H2 g2 r
              obtain ⟨p, rfl, n, fl, o2⟩ := r
              obtain ⟨h1, h2, h3⟩ := At.after (O' := Ext O p) A1 a2 nd g2 o2 hw (fun _ z => .inl z) (fun c z => z.elim .inl fun z => .inr (z ▸ ⟨n, fl.there⟩))
              exact P2 p H2 h1 h3 h2 n fl
            | exc c x => exact absurd hw (writeG_x _ _ _ c x)
            | stuck => rw [hw] at P2; exact P2.elim
          · exact P2.elim
        | exc c xs => rw [q] at P2; exact P2.elim
        | stuck => rw [q] at P2; exact P2.elim
      | exc c x => exact absurd e2 (readG_x _ _ _ c x)
      | stuck => rw [e2] at P1; exact P1.elim
    · exact P1.elim)
end
end DL
set_option autoImplicit false
namespace DL
open PySem PySem.Spec L2
/-! ### what a loop walks -/
def DWalk (K : PySem.W.Frag) (O : Own) (H : Hp) (J : It) (ds : List D) : Prop :=
  Walk J ds.length (fun H' => ∃ O', Step O H O' H' ∧ Live O' H') (fun i H' x H'' => ∀ O', Step O H O' H' → Live O' H' → Nw H' H'' ∧ ∃ d, ds[i]? = some d ∧ Rep K O' H'' x d)
abbrev IF := DEnv → Res (List D × DEnv)
def DenI (K : PySem.W.Frag) (W : Wish) (wi : TI) (f : IF) : Prop := ∀ F σ H env O (R : It → Hp → Prop), At K F σ H env O → Post K F W σ H env O DWalk (f env) R → wi σ H R
def asL (f : EF) : IF := fun env => (f env).bind fun p => match p.1 with
  | .list ds => .ok (ds, p.2)
  | _ => .stuck
def asT (f : EF) : IF := fun env => (f env).bind fun p => match p.1 with
  | .tuple ds => .ok (ds, p.2)
  | _ => .stuck
section
variable {K : PySem.W.Frag} {W : Wish} {F : Fr} {σ : L2.St} {H H1 : Hp} {env : DEnv} {O O1 : Own} {ps : List Nat}
theorem dwalk_list {a : Addr} {us : List V} {ds : List D} (n : NdL K O H a us) (r : Reps K O H us ds) : DWalk K O H (Itl K a) ds := by
  have w := walk_list (K := K) (a := a) (xs := us)
  rw [r.length] at w
  refine w.mono (fun H' ⟨O', s, l⟩ => (n.step s).sq) fun i H' x H'' hi _ y O' s l => ?_
  obtain ⟨rfl, y⟩ := y
  obtain ⟨d, hd, rd⟩ := (r.step s).getV y
  exact ⟨Nw.refl _, d, hd, rd⟩
theorem dwalk_tup {a : Addr} {us : List V} {ds : List D} (n : NdT K O H a us) (r : Reps K O H us ds) : DWalk K O H (Itt K a) ds := by
  have w := walk_tup (K := K) (a := a) (xs := us)
  rw [r.length] at w
  refine w.mono (fun H' ⟨O', s, l⟩ => (n.step s).sq) fun i H' x H'' hi _ y O' s l => ?_
  obtain ⟨rfl, y⟩ := y
  obtain ⟨d, hd, rd⟩ := (r.step s).getV y
  exact ⟨Nw.refl _, d, hd, rd⟩
theorem denI_list {te : TE} {f : EF} (h : Den K W te f) : DenI K W (iList K te) (asL f) := fun F σ H env O R A P =>
  h F σ H env O _ A (P.bind fun a e1 v H1 _ A1 g1 w1 b1 P1 => by
    cases a with
    | list ds =>
      cases b1 with
      | lst n r => exact ⟨_, rfl, ⟨_, n.sq⟩, Post.now P1 A1 (dwalk_list n r)⟩
    | _ => exact P1.elim)
theorem denI_tup {te : TE} {f : EF} (h : Den K W te f) : DenI K W (iTup K te) (asT f) := fun F σ H env O R A P =>
  h F σ H env O _ A (P.bind fun a e1 v H1 _ A1 g1 w1 b1 P1 => by
    cases a with
    | tuple ds =>
      cases b1 with
      | tup n r => exact ⟨_, rfl, ⟨_, n.sq⟩, Post.now P1 A1 (dwalk_tup n r)⟩
    | _ => exact P1.elim)
/-- lo, lo + 1, .. -/
def rngD (lo : Int) (n : Nat) : List D := (List.range n).map fun (i : Nat) => .int (lo + (i : Int))
theorem dwalk_rng {lo : Int} {n : Nat} : DWalk K O H (Itr lo n) (rngD lo n) := by
  have w := walk_range (lo := lo) (n := n)
  have e : (rngD lo n).length = n := by unfold rngD; rw [List.length_map, List.length_range]
  unfold DWalk
  rw [e]
  refine w.mono (fun H' _ => trivial) fun i H' x H'' hi _ y O' s l => ?_
  obtain ⟨rfl, rfl⟩ := y
  exact ⟨Nw.refl _, .int (lo + i), by unfold rngD; rw [List.getElem?_map, List.getElem?_range hi]; rfl, .int _⟩
def asR1 (f : DEnv → Res (List D × DEnv)) : IF := fun env => (f env).bind fun p => match p.1 with
  | [.int j] => if -(2 ^ 62) ≤ j ∧ j < 2 ^ 62 then .ok (rngD 0 j.toNat, p.2) else .stuck
  | _ => .stuck
def asR2 (f : DEnv → Res (List D × DEnv)) : IF := fun env => (f env).bind fun p => match p.1 with
  | [.int i, .int j] => if -(2 ^ 62) ≤ i ∧ i < 2 ^ 62 ∧ -(2 ^ 62) ≤ j ∧ j < 2 ^ 62 then .ok (rngD i (j - i).toNat, p.2) else .stuck
  | _ => .stuck
theorem reps_int1 {xs : List V} {i : Int} (r : Reps K O H xs [.int i]) : xs = [.int i] := by
  cases r with
  | cons h t => cases h; cases t; rfl
theorem denI_r1 {t : TA} {f : DEnv → Res (List D × DEnv)} (h : DenA K W t f) : DenI K W (iRng1 t) (asR1 f) := fun F σ H env O R A P =>
  h F σ H env O _ A (P.bind fun a e1 vs H1 _ A1 g1 w1 b1 P1 => by
    dsimp only at P1
    split at P1
    · rename_i j hx
      split at P1
      · rename_i hj
        exact ⟨j, reps_int1 b1, hj.1, hj.2, Post.now P1 A1 dwalk_rng⟩
      · exact P1.elim
    · exact P1.elim)
theorem denI_r2 {t : TA} {f : DEnv → Res (List D × DEnv)} (h : DenA K W t f) : DenI K W (iRng2 t) (asR2 f) := fun F σ H env O R A P =>
  h F σ H env O _ A (P.bind fun a e1 vs H1 _ A1 g1 w1 b1 P1 => by
    dsimp only at P1
    split at P1
    · rename_i i j hx
      split at P1
      · rename_i hj
        exact ⟨i, j, reps_int2 b1, hj, Post.now P1 A1 dwalk_rng⟩
      · exact P1.elim
    · exact P1.elim)
/-! ### for -/
def forG (tg : GF) (b : SF) : List D → DEnv → SR
  | [], e => .nx e
  | d :: ds, e => match tg d e with
    | .ok e1 => match b e1 with
      | .nx e2 => forG tg b ds e2
      | .ct e2 => forG tg b ds e2
      | .bk e2 => .nx e2
      | .ret fr d e2 => .ret fr d e2
      | .exc c xs => .exc c xs
      | .stuck => .stuck
    | _ => .stuck
def sFor (f : IF) (tg : GF) (b : SF) : SF := fun env => ofR (f env) fun ds e => forG tg b ds e
theorem sden_for {wi : TI} {g : TG} {tb : TS} {f : IF} {tg : GF} {b : SF} {vs : List Nat} (hi : DenI K W wi f) (hg : GDen K ps vs g tg) (hb : SDen K W ps tb b) : SDen K W ps (tFor wi g tb) (sFor f tg b) := fun F σ H env O E hp A P =>
  hi F σ H env O _ A (PostS.bind P A fun ds e1 J H1 _ A1 g1 w1 b1 P1 => by
    refine for_it b1 (fun i σ' H' => ∃ env' O', At K F σ' H' env' O' ∧ Step O H1 O' H' ∧ PostS K F W H' O' (forG tg b (ds.drop i) env') E) ⟨e1, O, A1, Step.refl _ _, P1⟩ (fun i σ' H' _ ⟨env', O', A', s', _⟩ => ⟨O', s', A'.live⟩) ?_ ?_
    · rintro i x σ' H' H'' hi ⟨env', O', A', s', P'⟩ y
      obtain ⟨n, d, hd, rd⟩ := y O' s' A'.live
      have hdr : ds.drop i = d :: ds.drop (i + 1) := by
        obtain ⟨hl, e⟩ := List.getElem?_eq_some_iff.mp hd
        rw [← e]
        exact List.drop_eq_getElem_cons hl
      rw [hdr] at P'
      have P' : PostS K F W H' O' (match tg d env' with | .ok e1 => (match b e1 with | .nx e2 => forG tg b (ds.drop (i + 1)) e2 | .ct e2 => forG tg b (ds.drop (i + 1)) e2 | .bk e2 => .nx e2 | .ret fr d e2 => .ret fr d e2 | .exc c xs => .exc c xs | .stuck => .stuck) | _ => .stuck) E := P'
      cases q : tg d env' with
      | ok e2 =>
        rw [q] at P'
        have A2 := A'.nw n
        refine hg F σ' H'' env' O' x d _ hp A2 rd e2 q fun σ2 A3 _ => ?_
        have s2 : Step O H1 O' H'' := s'.trans n.step
        have P2 := PostS.from P' n.step
        refine hb F σ2 H'' e2 O' _ hp A3 ?_
        dsimp only at P2
        cases qb : b e2 with
        | nx e3 => rw [qb] at P2; exact fun σ4 H4 O4 A4 s4 => ⟨e3, O4, A4, s2.trans s4, PostS.from P2 s4⟩
        | ct e3 => rw [qb] at P2; exact fun σ4 H4 O4 A4 s4 => ⟨e3, O4, A4, s2.trans s4, PostS.from P2 s4⟩
        | bk e3 => rw [qb] at P2; exact P2
        | ret fr d e3 => rw [qb] at P2; exact P2
        | exc c xs => rw [qb] at P2; exact P2
        | stuck => rw [qb] at P2; exact P2
      | exc c xs => rw [q] at P'; exact P'.elim
      | stuck => rw [q] at P'; exact P'.elim
    · rintro σ' H' ⟨env', O', A', s', P'⟩
      rw [List.drop_length] at P'
      exact P' σ' H' O' A' (Step.refl _ _))
/-! ### while -/
def whileN (c : TF) (b : SF) : Nat → DEnv → Option SR
  | 0, _ => none
  | n + 1, e => match c e with
    | .ok (true, e1) => match b e1 with
      | .nx e2 => whileN c b n e2
      | .ct e2 => whileN c b n e2
      | .bk e2 => some (.nx e2)
      | .ret fr d e2 => some (.ret fr d e2)
      | .exc c xs => some (.exc c xs)
      | .stuck => some .stuck
    | .ok (false, e1) => some (.nx e1)
    | .exc c xs => some (.exc c xs)
    | .stuck => some .stuck
open Classical in
noncomputable def sWhile (c : TF) (b : SF) : SF := fun env => if h : ∃ r n, whileN c b n env = some r then h.choose else .stuck
theorem whileN_mono {c : TF} {b : SF} : ∀ {n : Nat} {e : DEnv} {r : SR}, whileN c b n e = some r → ∀ m, n ≤ m → whileN c b m e = some r
  | 0, e, r, h, _, _ => by cases h
  | n + 1, e, r, h, m, hm => by
    obtain ⟨m', rfl⟩ : ∃ m', m = m' + 1 := ⟨m - 1, by omega⟩
    unfold whileN at h ⊢
    cases q : c e with
    | ok p =>
      rw [q] at h
      obtain ⟨k, e1⟩ := p
      cases k with
      | true =>
        dsimp only at h ⊢
        cases qb : b e1 with
        | nx e2 => rw [qb] at h; exact whileN_mono h m' (by omega)
        | ct e2 => rw [qb] at h; exact whileN_mono h m' (by omega)
        | bk e2 => rw [qb] at h; exact h
        | ret fr d e2 => rw [qb] at h; exact h
        | exc c xs => rw [qb] at h; exact h
        | stuck => rw [qb] at h; exact h
      | false => exact h
    | exc c xs => rw [q] at h; exact h
    | stuck => rw [q] at h; exact h
theorem sWhile_of {c : TF} {b : SF} {n : Nat} {e : DEnv} {r : SR} (h : whileN c b n e = some r) : sWhile c b e = r := by
  have ex : ∃ r n, whileN c b n e = some r := ⟨r, n, h⟩
  unfold sWhile
  rw [dif_pos ex]
  obtain ⟨m, hm⟩ := ex.choose_spec
  have h1 := whileN_mono h (max n m) (Nat.le_max_left _ _)
  have h2 := whileN_mono hm (max n m) (Nat.le_max_right _ _)
  exact Option.some.inj (h2.symm.trans h1)
theorem sden_while {tc : TT} {tb : TS} {c : TF} {b : SF} (hc : DenT K W tc c) (hb : SDen K W ps tb b) : SDen K W ps (tWhile tc tb) (sWhile c b) := fun F σ H env O E hp A P => by
  have P : PostS K F W H O (sWhile c b env) E := P
  by_cases ex : ∃ r n, whileN c b n env = some r
  · obtain ⟨r, n, hn⟩ := ex
    rw [sWhile_of hn] at P
    refine ⟨fun m σ' H' => ∃ env' O' r, At K F σ' H' env' O' ∧ whileN c b m env' = some r ∧ PostS K F W H' O' r E, ⟨n, env, O, r, A, hn, P⟩, ?_⟩
    rintro m σ' H' ⟨env', O', r', A', hm, P'⟩
    cases m with
    | zero => cases hm
    | succ m =>
      unfold whileN at hm
      refine hc F σ' H' env' O' _ A' ?_
      cases q : c env' with
      | ok p =>
        rw [q] at hm
        obtain ⟨k, e1⟩ := p
        intro v H1 A1 g1 w1 b1
        have b1 : v = k := b1
        subst b1
        cases v with
        | true =>
          dsimp only at hm
          refine iteT ⟨fun σ2 H2 => ∃ env2 O2 r, At K F σ2 H2 env2 O2 ∧ whileN c b m env2 = some r ∧ PostS K F W H2 O2 r E, fun σ2 H2 h => ⟨m, Nat.lt_succ_self m, h⟩, ?_⟩
          refine hb F σ' H1 e1 O' _ hp A1 ?_
          have P1 := PostS.from P' (A'.step g1)
          cases qb : b e1 with
          | nx e2 => rw [qb] at hm; exact fun σ4 H4 O4 A4 s4 => ⟨e2, O4, r', A4, hm, PostS.from P1 s4⟩
          | ct e2 => rw [qb] at hm; exact fun σ4 H4 O4 A4 s4 => ⟨e2, O4, r', A4, hm, PostS.from P1 s4⟩
          | bk e2 => rw [qb] at hm; cases hm; exact P1
          | ret fr d e2 => rw [qb] at hm; cases hm; exact P1
          | exc c xs => rw [qb] at hm; cases hm; exact P1
          | stuck => rw [qb] at hm; cases hm; exact P1
        | false =>
          dsimp only at hm
          cases hm
          exact iteF (P' σ' H1 O' A1 (A'.step g1))
      | exc c xs => rw [q] at hm; cases hm; exact P'
      | stuck => rw [q] at hm; cases hm; exact P'
  · unfold sWhile at P
    rw [dif_neg ex] at P
    exact P.elim
theorem sWhile_eq {c : TF} {b : SF} (env : DEnv) : sWhile c b env = ofR (c env) fun k e1 => if k = true then (match b e1 with
      | .nx e2 => sWhile c b e2
      | .ct e2 => sWhile c b e2
      | .bk e2 => .nx e2
      | .ret fr d e2 => .ret fr d e2
      | .exc c xs => .exc c xs
      | .stuck => .stuck) else .nx e1 := by
  have one : ∀ r, whileN c b 1 env = some r → sWhile c b env = r := fun r h => sWhile_of h
  cases q : c env with
  | ok p =>
    obtain ⟨k, e1⟩ := p
    cases k with
    | false => exact sWhile_of (n := 1) (by unfold whileN; rw [q]; rfl)
    | true =>
      show _ = if true = true then (match b e1 with
      | .nx e2 => sWhile c b e2
      | .ct e2 => sWhile c b e2
      | .bk e2 => .nx e2
      | .ret fr d e2 => .ret fr d e2
      | .exc c xs => .exc c xs
      | .stuck => .stuck) else .nx e1
      rw [if_pos rfl]
      have go : ∀ e2, (b e1 = .nx e2 ∨ b e1 = .ct e2) → sWhile c b env = sWhile c b e2 := fun e2 h => by
        by_cases ex : ∃ r n, whileN c b n e2 = some r
        · obtain ⟨r, n, hn⟩ := ex
          rw [sWhile_of hn]
          refine sWhile_of (n := n + 1) ?_
          unfold whileN
          rw [q]
          dsimp only
          rcases h with h | h
          · rw [h]; exact hn
          · rw [h]; exact hn
        · have ex' : ¬ ∃ r n, whileN c b n env = some r := fun ⟨r, n, hn⟩ => ex (by
            cases n with
            | zero => cases hn
            | succ n =>
              unfold whileN at hn
              rw [q] at hn
              dsimp only at hn
              rcases h with h | h
              · rw [h] at hn; exact ⟨r, n, hn⟩
              · rw [h] at hn; exact ⟨r, n, hn⟩)
          unfold sWhile
          rw [dif_neg ex, dif_neg ex']
      cases qb : b e1 with
      | nx e2 => exact go e2 (.inl qb)
      | ct e2 => exact go e2 (.inr qb)
      | bk e2 => exact sWhile_of (n := 1) (by unfold whileN; rw [q]; dsimp only; rw [qb])
      | ret fr d e2 => exact sWhile_of (n := 1) (by unfold whileN; rw [q]; dsimp only; rw [qb])
      | exc c xs => exact sWhile_of (n := 1) (by unfold whileN; rw [q]; dsimp only; rw [qb])
      | stuck => exact sWhile_of (n := 1) (by unfold whileN; rw [q]; dsimp only; rw [qb])
  | exc c xs => exact sWhile_of (n := 1) (by unfold whileN; rw [q]; rfl)
  | stuck => exact sWhile_of (n := 1) (by unfold whileN; rw [q]; rfl)
/-! ### an owned object becomes a value -/
theorem At.freeze (A : At K F σ H env O) {i : Nat} {d : D} (hi : env[i]? = some (some (.own d))) (np : i ∉ F.pars.map (·.1)) : ∃ O', At K F σ H (env.set i (some (.val d))) O' ∧ Step O H O' H := by
  obtain ⟨p, hp, op, n, f⟩ := A.own i d hi
  have hl : i < env.length := (List.getElem?_eq_some_iff.mp hi).1
  have n0 : F.H0 p = none := by
    rcases n with ⟨j, hj⟩ | n
    · obtain ⟨h1, d1, h2⟩ := A.par _ hj
      exact absurd (A.inj i j p d d1 hi h2 hp h1 ▸ List.mem_map_of_mem (f := (·.1)) hj) np
    · exact n
  have w : ∀ c, (O c ∧ c ≠ p) → O c := fun c z => z.1
  refine ⟨fun c => O c ∧ c ≠ p, ⟨by rw [List.length_set]; exact A.len, fun a z => ⟨A.sub a z, fun e => A.ocl a z (e ▸ n0)⟩, fun a z => A.new a z.1, fun a z => A.live a z.1, A.agr, fun j e h => ?_, fun j e h => ?_, fun j k q d1 d2 h1 h2 h3 h4 => ?_, fun q hq => ?_, A.poc, A.ocl⟩, ⟨Agr.refl _ _, fun a z => .inl z.1⟩⟩
  · by_cases hj : i = j
    · subst hj
      rw [List.getElem?_set_self hl] at h
      cases h
      exact ⟨.ref p, hp, (f.weak w).rep fun z => z.2 rfl⟩
    · rw [List.getElem?_set_ne hj] at h
      obtain ⟨v, hv, r⟩ := A.val j e h
      exact ⟨v, hv, r.weak w⟩
  · by_cases hj : i = j
    · subst hj
      rw [List.getElem?_set_self hl] at h
      cases h
    · rw [List.getElem?_set_ne hj] at h
      obtain ⟨q, hq, o1, n1, f1⟩ := A.own j e h
      exact ⟨q, hq, ⟨o1, fun z => hj (A.inj i j p d e hi h hp (z ▸ hq))⟩, n1, f1.weak w⟩
  · have old : ∀ {j : Nat} {d1 : D}, (env.set i (some (.val d)))[j]? = some (some (DCell.own d1)) → env[j]? = some (some (DCell.own d1)) := fun {j d1} h => by
      by_cases hj : i = j
      · subst hj
        rw [List.getElem?_set_self hl] at h
        cases h
      · rw [List.getElem?_set_ne hj] at h; exact h
    exact A.inj j k q d1 d2 (old h1) (old h2) h3 h4
  · obtain ⟨h1, d1, h2⟩ := A.par q hq
    refine ⟨h1, d1, ?_⟩
    rw [List.getElem?_set_ne (show i ≠ q.1 from fun z => np (z ▸ List.mem_map_of_mem hq))]
    exact h2
def sFrz (i : Nat) (g : SF) : SF := fun env => match env[i]? with
  | some (some (.own d)) => g (env.set i (some (.val d)))
  | _ => g env
theorem sden_frz {i : Nat} {t : TS} {g : SF} (hi : i ∉ ps) (h : SDen K W ps t g) : SDen K W ps t (sFrz i g) := fun F σ H env O E hp A P => by
  have P : PostS K F W H O (sFrz i g env) E := P
  unfold sFrz at P
  split at P
  · rename_i d e
    obtain ⟨O', A', s⟩ := A.freeze e (by rw [hp]; exact hi)
    exact h F σ H _ O' E hp A' (PostS.from P s)
  · exact h F σ H env O E hp A P
end
end DL
set_option autoImplicit false
namespace DL
open PySem PySem.Spec L2
/-! ### list comprehensions -/
def wipeE (e : DEnv) : List Nat → DEnv
  | [] => e
  | v :: vs => (wipeE e vs).set v none
def noOwn (e : DEnv) (vs : List Nat) : Bool := vs.all fun i => match e[i]? with
  | some (some (.own _)) => false
  | _ => true
/-- behind the comprehension: its own names are as before -/
def restore (e0 e : DEnv) : List Nat → DEnv
  | [] => e
  | v :: vs => (restore e0 e vs).set v (match e0[v]? with | some c => c | none => none)
def lcG (vs : List Nat) (tg : GF) (tt : TF) (el : EF) : List D → List D → DEnv → Res (List D × DEnv)
  | [], acc, e => .ok (acc, e)
  | d :: ds, acc, e => (tg d e).bind fun e1 => (tt e1).bind fun p => if p.1 = true then (el p.2).bind fun q => if acc.length < sizeLine then lcG vs tg tt el ds (acc ++ [q.1]) (wipeE q.2 vs) else .stuck else lcG vs tg tt el ds acc (wipeE p.2 vs)
def eLc (vs : List Nat) (f : IF) (tg : GF) (tt : TF) (el : EF) : EF := fun env => (f env).bind fun p => if noOwn p.2 vs then (lcG vs tg tt el p.1 [] (wipeE p.2 vs)).bind fun q => .ok (.list q.1, restore p.2 q.2 vs) else .stuck
def yesT : TF := fun env => .ok (true, env)
theorem wipeE_len (e : DEnv) : ∀ vs : List Nat, (wipeE e vs).length = e.length
  | [] => rfl
  | v :: vs => by unfold wipeE; rw [List.length_set, wipeE_len e vs]
theorem wipeE_out {e : DEnv} {i : Nat} : ∀ {vs : List Nat}, i ∉ vs → (wipeE e vs)[i]? = e[i]?
  | [], _ => rfl
  | v :: vs, h => by
    unfold wipeE
    rw [List.getElem?_set_ne (show v ≠ i from fun z => h (z ▸ List.mem_cons_self))]
    exact wipeE_out fun z => h (List.mem_cons_of_mem _ z)
theorem wipeE_in {e : DEnv} {i : Nat} {c : DCell} : ∀ {vs : List Nat}, (wipeE e vs)[i]? = some (some c) → i ∉ vs
  | [], _ => by simp
  | v :: vs, h => by
    unfold wipeE at h
    by_cases hv : v = i
    · subst hv
      by_cases hl : v < (wipeE e vs).length
      · rw [List.getElem?_set_self hl] at h; cases h
      · rw [List.getElem?_eq_none (by rw [List.length_set]; omega)] at h; cases h
    · rw [List.getElem?_set_ne hv] at h
      have := wipeE_in h
      simp only [List.mem_cons, not_or]
      exact ⟨fun z => hv z.symm, this⟩
theorem restore_len (e0 e : DEnv) : ∀ vs : List Nat, (restore e0 e vs).length = e.length
  | [] => rfl
  | v :: vs => by unfold restore; rw [List.length_set, restore_len e0 e vs]
theorem restore_out {e0 e : DEnv} {i : Nat} : ∀ {vs : List Nat}, i ∉ vs → (restore e0 e vs)[i]? = e[i]?
  | [], _ => rfl
  | v :: vs, h => by
    unfold restore
    rw [List.getElem?_set_ne (show v ≠ i from fun z => h (z ▸ List.mem_cons_self))]
    exact restore_out fun z => h (List.mem_cons_of_mem _ z)
theorem restore_in {e0 e : DEnv} {i : Nat} (hl : e.length = e0.length) : ∀ {vs : List Nat}, i ∈ vs → (restore e0 e vs)[i]? = e0[i]?
  | [], h => by simp at h
  | v :: vs, h => by
    unfold restore
    by_cases hv : v = i
    · subst hv
      by_cases hz : v < e0.length
      · rw [List.getElem?_set_self (by rw [restore_len, hl]; exact hz), List.getElem?_eq_getElem hz]
      · rw [List.getElem?_eq_none (by rw [List.length_set, restore_len, hl]; omega), List.getElem?_eq_none (by omega)]
    · rw [List.getElem?_set_ne hv]
      refine restore_in hl ?_
      rcases List.mem_cons.mp h with z | z
      · exact absurd z.symm hv
      · exact z
theorem wipe_eq_of {σ σ' : L2.St} {vs : List Nat} (o : Off vs σ σ') : wipe σ' vs = wipe σ vs := by
  have key : ∀ (ws : List Nat), (∀ v ∈ ws, v ∈ vs) → ∀ i, (wipe σ' ws)[i]? = (wipe σ ws)[i]? ∨ (i ∈ vs ∧ i ∉ ws) := by
    intro ws
    induction ws with
    | nil =>
      intro _ i
      by_cases h : i ∈ vs
      · exact .inr ⟨h, by simp⟩
      · exact .inl (o.2 i h)
    | cons v ws ih =>
      intro hw i
      unfold wipe
      by_cases hv : v = i
      · subst hv
        refine .inl ?_
        have l1 : (wipe σ' ws).length = (wipe σ ws).length := by rw [wipe_length, wipe_length, o.1]
        by_cases hl : v < (wipe σ ws).length
        · rw [List.getElem?_set_self hl, List.getElem?_set_self (by omega)]
        · rw [List.getElem?_eq_none (by rw [List.length_set]; omega), List.getElem?_eq_none (by rw [List.length_set]; omega)]
      · rw [List.getElem?_set_ne hv, List.getElem?_set_ne hv]
        rcases ih (fun x hx => hw x (List.mem_cons_of_mem _ hx)) i with h | ⟨h1, h2⟩
        · exact .inl h
        · exact .inr ⟨h1, fun z => (List.mem_cons.mp z).elim (fun z => hv z.symm) h2⟩
  refine List.ext_getElem? fun i => ?_
  rcases key vs (fun _ h => h) i with h | ⟨h1, h2⟩
  · exact h
  · exact absurd h1 h2
section
variable {K : PySem.W.Frag} {W : Wish} {F : Fr} {σ : L2.St} {H H1 : Hp} {env : DEnv} {O O1 : Own} {ps : List Nat}
theorem noOwn_at {e : DEnv} {vs : List Nat} (h : noOwn e vs = true) {i : Nat} (hi : i ∈ vs) (d : D) : e[i]? ≠ some (some (.own d)) := fun z => by
  have := List.all_eq_true.mp h i hi
  rw [z] at this
  cases this
theorem At.wiped {vs : List Nat} (A : At K F σ H env O) (n : noOwn env vs = true) : At K F (wipe σ vs) H (wipeE env vs) O where
  len := by rw [wipe_length, wipeE_len]; exact A.len
  sub := A.sub
  new := A.new
  live := A.live
  agr := A.agr
  val := fun i d h => by
    have hi := wipeE_in h
    rw [wipeE_out hi] at h
    rw [wipe_out hi]
    exact A.val i d h
  own := fun i d h => by
    have hi := wipeE_in h
    rw [wipeE_out hi] at h
    rw [wipe_out hi]
    exact A.own i d h
  inj := fun i j p d e h1 h2 h3 h4 => by
    have hi := wipeE_in h1
    have hj := wipeE_in h2
    rw [wipeE_out hi] at h1
    rw [wipeE_out hj] at h2
    rw [wipe_out hi] at h3
    rw [wipe_out hj] at h4
    exact A.inj i j p d e h1 h2 h3 h4
  par := fun q hq => by
    obtain ⟨h1, d, h2⟩ := A.par q hq
    have hi : q.1 ∉ vs := fun z => noOwn_at n z d h2
    rw [wipe_out hi, wipeE_out hi]
    exact ⟨h1, d, h2⟩
  poc := A.poc
  ocl := A.ocl
theorem At.restored {vs : List Nat} {e : DEnv} {O' : Own} {H' : Hp} (A0 : At K F σ H env O) (n : noOwn env vs = true) (s : Step O H O' H') (A : At K F (wipe σ vs) H' e O') (w : OwSub e (wipeE env vs)) : At K F σ H' (restore env e vs) O' ∧ OwSub (restore env e vs) env := by
  have hl : e.length = env.length := by rw [← A.len, wipe_length]; exact A0.len
  have own_ : ∀ {i : Nat} {d : D}, (DL.restore env e vs)[i]? = some (some (.own d)) → i ∉ vs ∧ e[i]? = some (some (.own d)) := fun {i d} h => by
    by_cases hi : i ∈ vs
    · rw [restore_in hl hi] at h
      exact absurd h (noOwn_at n hi d)
    · rw [restore_out hi] at h
      exact ⟨hi, h⟩
  refine ⟨⟨by rw [restore_len, hl]; exact A0.len, A.sub, A.new, A.live, A.agr, fun i d h => ?_, fun i d h => ?_, fun i j p d e h1 h2 h3 h4 => ?_, fun q hq => ?_, A.poc, A.ocl⟩, fun i => ⟨fun ⟨d, h⟩ => ?_, fun ⟨d, h⟩ => ?_⟩⟩
  · by_cases hi : i ∈ vs
    · rw [restore_in hl hi] at h
      obtain ⟨v, hv, r⟩ := A0.val i d h
      exact ⟨v, hv, r.step s⟩
    · rw [restore_out hi] at h
      obtain ⟨v, hv, r⟩ := A.val i d h
      rw [wipe_out hi] at hv
      exact ⟨v, hv, r⟩
  · obtain ⟨hi, h⟩ := own_ h
    obtain ⟨p, hp, r⟩ := A.own i d h
    rw [wipe_out hi] at hp
    exact ⟨p, hp, r⟩
  · obtain ⟨hi, h1⟩ := own_ h1
    obtain ⟨hj, h2⟩ := own_ h2
    rw [← wipe_out (σ := σ) hi] at h3
    rw [← wipe_out (σ := σ) hj] at h4
    exact A.inj i j p _ _ h1 h2 h3 h4
  · obtain ⟨h1, d, h2⟩ := A0.par q hq
    have hi : q.1 ∉ vs := fun z => noOwn_at n z d h2
    obtain ⟨_, d', h3⟩ := A.par q hq
    rw [restore_out hi]
    exact ⟨h1, d', h3⟩
  · obtain ⟨hi, h⟩ := own_ h
    obtain ⟨d', h'⟩ := (w i).mp ⟨d, h⟩
    rw [wipeE_out hi] at h'
    exact ⟨d', h'⟩
  · have hi : i ∉ vs := fun z => noOwn_at n z d h
    obtain ⟨d', h'⟩ := (w i).mpr ⟨d, by rw [wipeE_out hi]; exact h⟩
    exact ⟨d', by rw [restore_out hi]; exact h'⟩
theorem wipeE_sub {e e0 : DEnv} {vs : List Nat} (w : OwSub e (wipeE e0 vs)) (n : noOwn e vs = true) : OwSub (wipeE e vs) (wipeE e0 vs) := fun i => by
  constructor
  · intro ⟨d, h⟩
    have hi := wipeE_in h
    rw [wipeE_out hi] at h
    exact (w i).mp ⟨d, h⟩
  · intro h
    obtain ⟨d, h'⟩ := (w i).mpr h
    have hi : i ∉ vs := fun z => noOwn_at n z d h'
    exact ⟨d, by rw [wipeE_out hi]; exact h'⟩
theorem owSub_noOwn {e e0 : DEnv} {vs : List Nat} (w : OwSub e (wipeE e0 vs)) : noOwn e vs = true := by
  refine List.all_eq_true.mpr fun i hi => ?_
  split
  · rename_i d h
    obtain ⟨d', h'⟩ := (w i).mp ⟨d, h⟩
    exact absurd hi (wipeE_in h')
  · rfl
/-- a target stores values at ws alone -/
structure GOk (ws : List Nat) (g : GF) : Prop where
  nox : ∀ d e, NoX (g d e)
  out : ∀ d e e2, g d e = .ok e2 → ∀ j : Nat, j ∉ ws → e2[j]? = e[j]?
  no : ∀ d e e2, g d e = .ok e2 → ∀ j : Nat, j ∈ ws → ∀ x : D, e2[j]? ≠ some (some (DCell.own x))
structure GsOk (ws : List Nat) (g : List D → DEnv → Res DEnv) : Prop where
  nox : ∀ d e, NoX (g d e)
  out : ∀ d e e2, g d e = .ok e2 → ∀ j : Nat, j ∉ ws → e2[j]? = e[j]?
  no : ∀ d e e2, g d e = .ok e2 → ∀ j : Nat, j ∈ ws → ∀ x : D, e2[j]? ≠ some (some (DCell.own x))
theorem gok_name {i : Nat} : GOk [i] (gN i) where
  nox := fun _ _ => nox_ok _
  out := fun d e e2 h j hj => by
    cases h
    exact List.getElem?_set_ne (show i ≠ j from fun z => hj (z ▸ List.mem_cons_self))
  no := fun d e e2 h j hj x z => by
    cases h
    have hj : j = i := by simpa using hj
    subst hj
    by_cases hl : j < e.length
    · rw [List.getElem?_set_self hl] at z; cases z
    · rw [List.getElem?_eq_none (by rw [List.length_set]; omega)] at z; cases z
theorem gsok_nil : GsOk [] gsNil where
  nox := fun d e => by unfold gsNil; split; exact nox_ok _; exact nox_st
  out := fun d e e2 h j _ => by
    unfold gsNil at h
    split at h
    · cases h; rfl
    · cases h
  no := fun d e e2 h j hj => by simp at hj
theorem gsok_cons {v1 v2 : List Nat} {g : GF} {h : List D → DEnv → Res DEnv} (hg : GOk v1 g) (hh : GsOk v2 h) : GsOk (v1 ++ v2) (gsCons g h) where
  nox := fun d e => by
    unfold gsCons
    split
    · rename_i d ds
      cases q : g d e with
      | ok e1 => exact hh.nox _ _
      | exc c xs => exact absurd q (hg.nox d e c xs)
      | stuck => exact nox_st
    · exact nox_st
  out := fun d e e2 he j hj => by
    unfold gsCons at he
    split at he
    · obtain ⟨e1, h1, h2⟩ := Res.bind_ok he
      rw [hh.out _ _ _ h2 j fun z => hj (List.mem_append_right _ z), hg.out _ _ _ h1 j fun z => hj (List.mem_append_left _ z)]
    · cases he
  no := fun d e e2 he j hj x => by
    unfold gsCons at he
    split at he
    · obtain ⟨e1, h1, h2⟩ := Res.bind_ok he
      by_cases h : j ∈ v2
      · exact hh.no _ _ _ h2 j h x
      · rw [hh.out _ _ _ h2 j h]
        exact hg.no _ _ _ h1 j ((List.mem_append.mp hj).resolve_right h) x
    · cases he
theorem gok_tup {n : Nat} {ws : List Nat} {h : List D → DEnv → Res DEnv} (hh : GsOk ws h) : GOk ws (gT n h) where
  nox := fun d e => by
    unfold gT
    split
    · split
      · exact hh.nox _ _
      · exact nox_st
    · exact nox_st
  out := fun d e e2 he => by
    unfold gT at he
    split at he
    · split at he
      · exact hh.out _ _ _ he
      · cases he
    · cases he
  no := fun d e e2 he => by
    unfold gT at he
    split at he
    · split at he
      · exact hh.no _ _ _ he
      · cases he
    · cases he
/-- an owned object that no name holds is written -/
theorem At.touch {L : Addr} {o : HO} (A : At K F σ H env O) (oL : O L) (n0 : F.H0 L = none) (ne : ∀ c, Ow σ env c → c ≠ L) (np : ¬ InP F.pars L) : At K F σ (upd H L o) env O := by
  have st : Step O H O (upd H L o) := upd_step oL
  refine ⟨A.len, A.sub, A.new, fun a z => ?_, fun a u n h => ?_, fun i d h => ?_, fun i d h => ?_, A.inj, A.par, A.poc, A.ocl⟩
  · by_cases ha : a = L
    · rw [ha, upd_same]; exact fun z => by cases z
    · rw [upd_ne ha]; exact A.live a z
  · have : a ≠ L := fun z => by rw [z, n0] at h; cases h
    rw [upd_ne this]
    exact A.agr a u n h
  · obtain ⟨v, hv, r⟩ := A.val i d h
    exact ⟨v, hv, r.step st⟩
  · obtain ⟨p, hp, op, n, f⟩ := A.own i d h
    exact ⟨p, hp, op, n, f.step st (upd_ne (ne p ⟨i, d, h, hp⟩))⟩
theorem den_yes : DenT K W tYes yesT := fun F σ H env O Q A P => P.now A rfl
theorem denF_lc {wi : TI} {g : TG} {tt : TT} {te : TE} {vs ws : List Nat} {f : IF} {tg : GF} {ft : TF} {el : EF} (hi : DenI K W wi f) (hg : ∀ ps, (∀ v ∈ vs, v ∉ ps) → GDen K ps ws g tg) (ok : GOk ws tg) (hw : ∀ w ∈ ws, w ∈ vs) (ht : DenT K W tt ft) (he : Den K W te el) :
    DenF K W (tLc wi g tt te vs) (eLc vs f tg ft el) := fun F σ H env O Q A P =>
  hi F σ H env O _ A (PostF.bindF P A fun ds e1 J H1 _ A1 g1 w1 b1 P1 => by
    dsimp only at P1
    split at P1
    · rename_i n
      intro L hL
      have nps : ∀ v ∈ vs, v ∉ F.pars.map (·.1) := fun v hv z => by
        obtain ⟨q, hq, rfl⟩ := List.mem_map.mp z
        obtain ⟨_, d, h2⟩ := A1.par q hq
        exact noOwn_at n hv d h2
      have AL : At K F σ (upd H1 L (.lst [])) e1 (Ext O L) := A1.ext hL
      have s0 : Step O H1 (Ext O L) (upd H1 L (.lst [])) := ext_step hL
      refine lc_it b1 (fun i H' => ∃ e acc us, At K F (wipe σ vs) H' e (Ext O L) ∧ OwSub e (wipeE e1 vs) ∧ Agr (Ow σ e1) H1 H' ∧ H' L = some (.lst us) ∧ Reps K (Ext O L) H' us acc ∧
        PostF K F W σ H1 e1 O ((lcG vs tg ft el (ds.drop i) acc e).bind fun q => .ok (.list q.1, restore e1 q.2 vs)) Q) ?_ ?_ ?_ ?_
      · exact ⟨wipeE e1 vs, [], [], AL.wiped n, OwSub.refl _, agr_new hL, upd_same, .nil, P1⟩
      · rintro i H' _ ⟨e, acc, us, A', w', g', _⟩
        exact ⟨Ext O L, ⟨g'.sub fun c z => A1.ow z, fun a z => z.elim .inl fun z => .inr (z ▸ hL)⟩, A'.live⟩
      · rintro i x H' H'' hi ⟨e, acc, us, A', w', g', hus, racc, P'⟩ y
        have s' : Step O H1 (Ext O L) H' := ⟨g'.sub fun c z => A1.ow z, fun a z => z.elim .inl fun z => .inr (z ▸ hL)⟩
        obtain ⟨nw, d, hd, rd⟩ := y (Ext O L) s' A'.live
        have hdr : ds.drop i = d :: ds.drop (i + 1) := by
          obtain ⟨hl, e⟩ := List.getElem?_eq_some_iff.mp hd
          rw [← e]
          exact List.drop_eq_getElem_cons hl
        rw [hdr] at P'
        have P' : PostF K F W σ H1 e1 O (((tg d e).bind fun e2 => (ft e2).bind fun p => if p.1 = true then (el p.2).bind fun q => if acc.length < sizeLine then lcG vs tg ft el (ds.drop (i + 1)) (acc ++ [q.1]) (wipeE q.2 vs) else .stuck else lcG vs tg ft el (ds.drop (i + 1)) acc (wipeE p.2 vs)).bind fun q => .ok (.list q.1, restore e1 q.2 vs)) Q := P'
        cases q : tg d e with
        | ok e2 =>
          rw [q] at P'
          have A2 := A'.nw nw
          have hus2 : H'' L = some (.lst us) := by
            rcases nw with rfl | ⟨p, o, hp, rfl⟩
            · exact hus
            · rw [upd_ne (ne_of_none hus hp)]; exact hus
          refine hg (F.pars.map (·.1)) nps F (wipe σ vs) H'' e (Ext O L) x d _ rfl A2 rd e2 q fun σ2 A3 off => ?_
          have off' : Off vs (L2.wipe σ vs) σ2 := ⟨off.1, fun j h => off.2 j fun z => h (hw j z)⟩
          have wip : L2.wipe σ2 vs = L2.wipe (L2.wipe σ vs) vs := wipe_eq_of off'
          have wip2 : L2.wipe (L2.wipe σ vs) vs = L2.wipe σ vs := wipe_eq_of ⟨wipe_length σ vs, fun j h => wipe_out h⟩
          have wipA : L2.wipe σ2 vs = L2.wipe σ vs := wip.trans wip2
          refine ⟨wipA, ?_⟩
          have w2 : OwSub e2 (wipeE e1 vs) := fun j => by
            by_cases hj : j ∈ ws
            · constructor
              · intro ⟨y, hy⟩
                exact absurd hy (ok.no _ _ _ q j hj y)
              · intro ⟨y, hy⟩
                exact absurd (hw j hj) (wipeE_in hy)
            · rw [ok.out _ _ _ q j hj]
              exact w' j
          have L_ : ∀ {e : DEnv}, OwSub e (wipeE e1 vs) → ¬ Ow σ2 e L := fun {e} w z => by
            obtain ⟨i, y, h1, h2⟩ := z
            obtain ⟨y', h3⟩ := (w i).mp ⟨y, h1⟩
            have hi := wipeE_in h3
            rw [wipeE_out hi] at h3
            rw [off'.2 i hi, wipe_out hi] at h2
            exact (A1.fresh hL).2 (A1.ow ⟨i, y', h3, h2⟩)
          have gOw : ∀ {e : DEnv}, OwSub e (wipeE e1 vs) → ∀ c, Ow σ2 e c → Ow σ e1 c := fun {e} w c z => by
            obtain ⟨i, y, h1, h2⟩ := z
            obtain ⟨y', h3⟩ := (w i).mp ⟨y, h1⟩
            have hi := wipeE_in h3
            rw [wipeE_out hi] at h3
            rw [off'.2 i hi, wipe_out hi] at h2
            exact ⟨i, y', h3, h2⟩
          have g2 : Agr (Ow σ e1) H1 H'' := g'.trans nw.agr
          have done : ∀ {H4 : Hp} {e4 : DEnv} {acc4 : List D} {us4 : List V}, At K F σ2 H4 e4 (Ext O L) → OwSub e4 (wipeE e1 vs) → Agr (Ow σ e1) H1 H4 → H4 L = some (.lst us4) → Reps K (Ext O L) H4 us4 acc4 →
              PostF K F W σ H1 e1 O ((lcG vs tg ft el (ds.drop (i + 1)) acc4 (wipeE e4 vs)).bind fun q => .ok (.list q.1, restore e1 q.2 vs)) Q →
              ∃ e acc us, At K F (L2.wipe σ vs) H4 e (Ext O L) ∧ OwSub e (wipeE e1 vs) ∧ Agr (Ow σ e1) H1 H4 ∧ H4 L = some (.lst us) ∧ Reps K (Ext O L) H4 us acc ∧
                PostF K F W σ H1 e1 O ((lcG vs tg ft el (ds.drop (i + 1)) acc e).bind fun q => .ok (.list q.1, restore e1 q.2 vs)) Q := fun {H4 e4 acc4 us4} A4 w4 g4 h4 r4 P4 => by
            have n4 := owSub_noOwn w4
            exact ⟨wipeE e4 vs, acc4, us4, wipA ▸ A4.wiped n4, wipeE_sub w4 n4, g4, h4, r4, P4⟩
          refine ht F σ2 H'' e2 (Ext O L) _ A3 ?_
          have P3 : PostF K F W σ H1 e1 O (((ft e2).bind fun p => if p.1 = true then (el p.2).bind fun q => if acc.length < sizeLine then lcG vs tg ft el (ds.drop (i + 1)) (acc ++ [q.1]) (wipeE q.2 vs) else .stuck else lcG vs tg ft el (ds.drop (i + 1)) acc (wipeE p.2 vs)).bind fun q => .ok (.list q.1, restore e1 q.2 vs)) Q := P'
          cases qt : ft e2 with
          | ok p =>
            rw [qt] at P3
            intro b H3 A4 g3 w3 hb
            have hb : b = p.1 := hb
            subst hb
            have w3' : OwSub p.2 (wipeE e1 vs) := w2.trans w3
            have g3' : Agr (Ow σ e1) H1 H3 := g2.trans (g3.sub (gOw w2))
            have hL3 : H3 L = some (.lst us) := g3 L _ (L_ w2) hus2
            have st3 : Step (Ext O L) H' (Ext O L) H3 := nw.step.trans (A3.step g3)
            have P4 : PostF K F W σ H1 e1 O ((if p.1 = true then (el p.2).bind fun q => if acc.length < sizeLine then lcG vs tg ft el (ds.drop (i + 1)) (acc ++ [q.1]) (wipeE q.2 vs) else .stuck else lcG vs tg ft el (ds.drop (i + 1)) acc (wipeE p.2 vs)).bind fun q => .ok (.list q.1, restore e1 q.2 vs)) Q := P3
            cases hp : p.1 with
            | false =>
              rw [hp, if_neg Bool.false_ne_true] at P4
              exact iteF (done A4 w3' g3' hL3 (racc.step st3) P4)
            | true =>
              rw [hp, if_pos rfl] at P4
              refine iteT (he F σ2 H3 p.2 (Ext O L) _ A4 ?_)
              cases qe : el p.2 with
              | ok q5 =>
                rw [qe] at P4
                intro y5 H5 A5 g5 w5 r5
                have P5 : PostF K F W σ H1 e1 O ((if acc.length < sizeLine then lcG vs tg ft el (ds.drop (i + 1)) (acc ++ [q5.1]) (wipeE q5.2 vs) else .stuck).bind fun q => .ok (.list q.1, restore e1 q.2 vs)) Q := P4
                have w5' : OwSub q5.2 (wipeE e1 vs) := w3'.trans w5
                have hL5 : H5 L = some (.lst us) := g5 L _ (L_ w3') hL3
                have st5 : Step (Ext O L) H' (Ext O L) H5 := st3.trans (A4.step g5)
                have racc5 := racc.step st5
                split at P5
                · rename_i hz
                  refine ⟨us, hL5, by rw [racc.length]; exact hz, ?_⟩
                  have oL : Ext O L L := .inr rfl
                  have st6 : Step (Ext O L) H5 (Ext O L) (upd H5 L (.lst (us ++ [y5]))) := upd_step oL
                  have ne : ∀ c, Ow σ2 q5.2 c → c ≠ L := fun c z e => L_ w5' (e ▸ z)
                  have A6 : At K F σ2 (upd H5 L (.lst (us ++ [y5]))) q5.2 (Ext O L) := A5.touch oL (A1.fresh hL).1 ne fun z => by
                    obtain ⟨i, hi⟩ := z
                    exact (A1.fresh hL).2 (A1.sub _ (A1.poc _ hi))
                  refine done A6 w5' ?_ upd_same ((racc5.append (.cons r5 .nil)).step st6) P5
                  exact fun a o na ha => by
                    have : a ≠ L := fun z => by rw [z, hL] at ha; cases ha
                    rw [upd_ne this]
                    exact (g3'.trans (g5.sub (gOw w3'))) a o na ha
                · exact P5.elim
              | exc c xs => rw [qe] at P4; exact P4
              | stuck => rw [qe] at P4; exact P4.elim
          | exc c xs => rw [qt] at P3; exact P3
          | stuck => rw [qt] at P3; exact P3.elim
        | exc c xs => exact absurd q (ok.nox d e c xs)
        | stuck => rw [q] at P'; exact P'.elim
      · rintro H' ⟨e, acc, us, A', w', g', hus, racc, P'⟩
        rw [List.drop_length] at P'
        have P' : PostF K F W σ H1 e1 O (.ok (.list acc, restore e1 e vs)) Q := P'
        have s' : Step O H1 (Ext O L) H' := ⟨g'.sub fun c z => A1.ow z, fun a z => z.elim .inl fun z => .inr (z ▸ hL)⟩
        obtain ⟨A4, w4⟩ := At.restored A1 n s' A' w'
        exact P' L H' A4 g' w4 hL (.lst hus racc)
    · exact P1.elim)
end
end DL
set_option autoImplicit false
namespace DL
open PySem PySem.Spec L2
section
variable {K : PySem.W.Frag} {W : Wish} {F : Fr} {σ : L2.St} {H H1 : Hp} {env : DEnv} {O O1 : Own} {ps : List Nat}
/-! ### an operation whose left part is a name (its object may be owned, and change while the right part is found) -/
def ap2N (i : Nat) (h : EF) (g : G2) : EF := fun env => (getC i env).bind fun _ => (h env).bind fun q => (getC i q.2).bind fun p => (g p.1 q.1).bind fun d => .ok (d, q.2)
theorem getC_x (i : Nat) (env : DEnv) : NoX (getC i env) := by unfold getC; split; exact nox_ok _; exact nox_ok _; exact nox_st
theorem getC_brw (A : At K F σ H env O) {i : Nat} {d : D} {e : DEnv} (h : getC i env = .ok (d, e)) : e = env ∧ ∃ v, σ[i]? = some (some v) ∧ Brw K O H v d := by
  unfold getC at h
  split at h
  · rename_i d' e'
    cases h
    obtain ⟨v, hv, r⟩ := A.val i _ e'
    exact ⟨rfl, v, hv, .rep r⟩
  · rename_i d' e'
    cases h
    obtain ⟨p, hp, _, _, f⟩ := A.own i _ e'
    exact ⟨rfl, _, hp, .own f⟩
  · cases h
theorem den_opN {r : R2} {g : G2} {i : Nat} {tb : TE} {h : EF} (hr : S2 K r g) (ng : ∀ a b, NoX (g a b)) (hb : DenB K W tb h) : Den K W (tOp r (tVar i) tb) (ap2N i h g) := fun F σ H env O Q A P => by
  obtain ⟨⟨d0, e0⟩, h0, P0⟩ := Post.x P (getC_x i env)
  obtain ⟨rfl, v, hv, _⟩ := getC_brw A h0
  refine ⟨v, hv, hb F σ H _ O _ A (Post.bind P0 fun b e2 u H2 _ A2 g2 w2 b2 P2 => ?_)⟩
  obtain ⟨⟨d2, e3⟩, h3, P3⟩ := Post.x P2 (getC_x i e2)
  obtain ⟨rfl, v', hv', b'⟩ := getC_brw A2 h3
  rw [hv] at hv'
  cases hv'
  exact Post.op A2 P3 (ng d2 b) fun d e q => hr O H2 v u d2 b d Q A2.live b' b2 e q
theorem denF_opN {r : R2} {g : G2} {i : Nat} {tb : TE} {h : EF} (hr : N2 K r g) (ng : ∀ a b, NoX (g a b)) (hb : DenB K W tb h) : DenF K W (tOp r (tVar i) tb) (ap2N i h g) := fun F σ H env O Q A P => by
  have P : PostF K F W σ H env O ((getC i env).bind fun _ => (h env).bind fun q => (getC i q.2).bind fun p => (g p.1 q.1).bind fun d => .ok (d, q.2)) Q := P
  cases h0 : getC i env with
  | ok p =>
    obtain ⟨d0, e0⟩ := p
    rw [h0] at P
    obtain ⟨rfl, v, hv, _⟩ := getC_brw A h0
    refine ⟨v, hv, hb F σ H _ O _ A (PostF.bindF (k := fun q => (getC i q.2).bind fun p => (g p.1 q.1).bind fun d => .ok (d, q.2)) P A fun b e2 u H2 _ A2 g2 w2 b2 P2 => ?_)⟩
    dsimp only at P2
    cases h3 : getC i e2 with
    | ok p =>
      obtain ⟨d2, e3⟩ := p
      rw [h3] at P2
      obtain ⟨rfl, v', hv', b'⟩ := getC_brw A2 h3
      rw [hv] at hv'
      cases hv'
      exact PostF.op A2 P2 (ng d2 b) fun d e q => hr O H2 v u d2 b d Q A2.live b' b2 e q
    | exc c ds => exact absurd h3 (getC_x i e2 c ds)
    | stuck => rw [h3] at P2; exact P2.elim
  | exc c ds => exact absurd h0 (getC_x i env c ds)
  | stuck => rw [h0] at P; exact P.elim
/-! ### a < b < c -/
def chainV (fa fb fc : EF) (g g' : G2) : EF := fun env => (fa env).bind fun p => (fb p.2).bind fun q => (g p.1 q.1).bind fun c => match c with
  | .bool true => (fc q.2).bind fun r => (g' q.1 r.1).bind fun d => .ok (d, r.2)
  | .bool false => .ok (.bool false, q.2)
  | _ => .stuck
/-- an operation on values that lays nothing -/
def P2 (K : PySem.W.Frag) (r : R2) (g : G2) : Prop := ∀ (O : Own) (H : Hp) (x y : V) (a b d : D) (Q : VK), Live O H → Brw K O H x a → Brw K O H y b → g a b = .ok d → (∀ v, Rep K O H v d → Q v H) → r x y H Q
theorem p2_rI0 {f : Int → Int → Bool} : P2 K (rI0 fun i j => .bl (f i j)) (int2 fun i j => .ok (.bool (f i j))) := fun O H x y a b d Q l ha hb e q => by
  obtain ⟨i, j, rfl, rfl, e⟩ := int2_ok e
  cases e
  exact ⟨i, j, ha.int, hb.int, q _ (.bl _)⟩
theorem den_chain {r r' : R2} {g g' : G2} {ta tb tc : TE} {fa fb fc : EF} (hr : P2 K r g) (hr' : S2 K r' g') (n : ∀ a b, NoX (g a b)) (n' : ∀ a b, NoX (g' a b)) (ha : Den K W ta fa) (hb : Den K W tb fb) (hc : DenB K W tc fc) : Den K W (tChain r r' ta tb tc) (chainV fa fb fc g g') := fun F σ H env O Q A P =>
  ha F σ H env O _ A (P.bind fun a e1 v H1 _ A1 g1 w1 b1 P1 => hb F σ H1 e1 O _ A1 (P1.bind fun b e2 u H2 _ A2 g2 w2 b2 P2 => by
    obtain ⟨c, e3, P3⟩ := Post.x P2 (n a b)
    refine hr O H2 v u a b c _ A2.live (.rep (b1.step (A1.step g2))) (.rep b2) e3 fun z rz => ?_
    cases c with
    | bool k =>
      cases rz
      cases k with
      | true => exact ⟨true, rfl, iteT (hc F σ H2 e2 O _ A2 (Post.bind P3 fun c' e4 w H3 _ A3 g3 w3 b3 P4 => Post.op A3 P4 (n' b c') fun d e q => hr' O H3 u w b c' d Q A3.live (.rep (b2.step (A2.step g3))) b3 e q))⟩
      | false => exact ⟨false, rfl, iteF (Post.now P3 A2 (.bl _))⟩
    | _ => exact P3.elim))
/-! ### subscripts of lists and tuples -/
abbrev rIxA (K : PySem.W.Frag) : R2 := fun x y H Q => rIxL K x y H Q ∨ rIxT K x y H Q
theorem ix_any {X : Cx} : IxR X (rIxA X.K) := ix_list.or ix_tup
def dIx : G2 := fun a b => match a, b with
  | .list ds, .int i => optR (atI ds i)
  | .tuple ds, .int i => optR (atI ds i)
  | _, _ => .stuck
theorem dIx_x (a b : D) : NoX (dIx a b) := by unfold dIx; split; exact optR_x _; exact optR_x _; exact nox_st
theorem s2_ix : S2 K (rIxA K) dIx := fun O H x y a b d Q l ha hb e q => by
  unfold dIx at e
  split at e
  · exact .inl (s2_ixL O H x y _ _ d Q l ha hb (show dIxL _ _ = _ from e) q)
  · exact .inr (s2_ixT O H x y _ _ d Q l ha hb (show dIxT _ _ = _ from e) q)
  · cases e
/-! ### slices of lists -/
def DenO (K : PySem.W.Frag) (W : Wish) (t : TO) (f : DEnv → Res (Option Int × DEnv)) : Prop := Dn (fun _ _ _ b c => b = c) K W t f
def oNone : DEnv → Res (Option Int × DEnv) := fun env => .ok (none, env)
def oSome (f : EF) : DEnv → Res (Option Int × DEnv) := fun env => (f env).bind fun p => match p.1 with
  | .int i => .ok (some i, p.2)
  | _ => .stuck
theorem den_oNone : DenO K W tNoPart oNone := fun F σ H env O Q A P => P.now A rfl
theorem den_oSome {te : TE} {f : EF} (h : DenB K W te f) : DenO K W (tPart te) (oSome f) := fun F σ H env O Q A P =>
  h F σ H env O _ A (P.bind fun a e1 v H1 _ A1 g1 w1 b1 P1 => by
    cases a with
    | int i => exact ⟨i, b1.int, Post.now P1 A1 rfl⟩
    | _ => exact P1.elim)
def slD (d : D) (lo hi : Option Int) : Res D := match d with
  | .list ds => .ok (.list (cutD ds lo hi))
  | _ => .stuck
def slV (f : EF) (g h : DEnv → Res (Option Int × DEnv)) : EF := fun env => (f env).bind fun p => (g p.2).bind fun q => (h q.2).bind fun r => (slD p.1 q.1 r.1).bind fun d => .ok (d, r.2)
theorem slD_x (d : D) (lo hi : Option Int) : NoX (slD d lo hi) := by unfold slD; split; exact nox_ok _; exact nox_st
theorem denF_sl {te : TE} {tl th : TO} {f : EF} {g h : DEnv → Res (Option Int × DEnv)} (he : Den K W te f) (hl : DenO K W tl g) (hh : DenO K W th h) : DenF K W (tSl (rSlL K) te tl th) (slV f g h) := fun F σ H env O Q A P =>
  he F σ H env O _ A (PostF.bindF P A fun a e1 v H1 _ A1 g1 w1 b1 P1 => hl F σ H1 e1 O _ A1 (PostF.bindF P1 A1 fun lo e2 u H2 _ A2 g2 w2 b2 P2 => hh F σ H2 e2 O _ A2 (PostF.bindF P2 A2 fun hi e3 x H3 _ A3 g3 w3 b3 P3 => by
    have b2 : u = lo := b2
    have b3 : x = hi := b3
    subst b2 b3
    refine PostF.op A3 P3 (slD_x a u x) fun d e q => ?_
    have r := b1.step ((A1.step g2).trans (A2.step g3))
    cases a with
    | list ds =>
      cases e
      cases r with
      | lst n r => exact ⟨_, _, rfl, n.sq, fun p hp => q _ _ hp (.lst upd_same ((cut_reps _ _ r).step (ext_step hp)))⟩
    | _ => cases e)))
/-- .. of a name -/
def slN (i : Nat) (g h : DEnv → Res (Option Int × DEnv)) : EF := fun env => (getC i env).bind fun _ => (g env).bind fun q => (h q.2).bind fun r => (getC i r.2).bind fun p => (slD p.1 q.1 r.1).bind fun d => .ok (d, r.2)
theorem PostF.x {γ : Type} {r : Res γ} {k : γ → Res (D × DEnv)} {Q : VK} (P : PostF K F W σ H env O (r.bind k) Q) (n : NoX r) : ∃ c, r = .ok c ∧ PostF K F W σ H env O (k c) Q := by
  cases r with
  | ok c => exact ⟨c, rfl, P⟩
  | exc c ds => exact (n c ds rfl).elim
  | stuck => exact P.elim
theorem denF_slN {i : Nat} {tl th : TO} {g h : DEnv → Res (Option Int × DEnv)} (hl : DenO K W tl g) (hh : DenO K W th h) : DenF K W (tSl (rSlL K) (tVar i) tl th) (slN i g h) := fun F σ H env O Q A P => by
  obtain ⟨⟨d0, e0⟩, h0, P0⟩ := PostF.x P (getC_x i env)
  obtain ⟨rfl, v, hv, _⟩ := getC_brw A h0
  refine ⟨v, hv, hl F σ H _ O _ A (PostF.bindF P0 A fun lo e2 u H2 _ A2 g2 w2 b2 P2 => hh F σ H2 e2 O _ A2 (PostF.bindF P2 A2 fun hi e3 x H3 _ A3 g3 w3 b3 P3 => ?_))⟩
  obtain ⟨⟨d2, e4⟩, h4, P4⟩ := PostF.x P3 (getC_x i e3)
  obtain ⟨rfl, v', hv', b'⟩ := getC_brw A3 h4
  rw [hv] at hv'
  cases hv'
  have b2 : u = lo := b2
  have b3 : x = hi := b3
  subst b2 b3
  refine PostF.op A3 P4 (slD_x d2 u x) fun d e q => ?_
  cases d2 with
  | list ds =>
    cases e
    obtain ⟨a, us, rfl, ha, r⟩ := b'.lst
    exact ⟨_, _, rfl, SqL.of ha, fun p hp => q _ _ hp (.lst upd_same ((cut_reps _ _ r).step (ext_step hp)))⟩
  | _ => cases e
/-! ### isinstance of built-in classes -/
def tyD : D → String
  | .none => "NoneType" | .bool _ => "bool" | .int _ => "int" | .str _ => "str" | .list _ => "list" | .tuple _ => "tuple" | .dict _ => "dict"
theorem Brw.ty {v : V} {d : D} (h : Brw K O H v d) : TyX K H v (.type (tyD d)) := by
  cases h with
  | rep h => cases h with
    | non => exact .base .non
    | bl b => exact .base (.bl b)
    | int i => exact .base (.int i)
    | str x => exact .base (.str x)
    | lst n r => exact .base (.lst n.1)
    | tup n r =>
      rcases n with ⟨n | ⟨o, n⟩, _⟩ | n
      · exact .base (.tup n)
      · exact .fTuple n
      · rcases n with (n | ⟨o, n⟩) | ⟨o, its, k, h1, h2, _⟩
        · cases n
        · cases n
        · exact .kTuple h1 h2
    | dic n m r =>
      rcases n with n | ⟨o, n⟩
      · exact .base (.dK n)
      · exact .fDict n
  | own h => cases h with
    | lst h r => exact .base (.lst h)
    | dic h r => exact .base (.dK h)
def dIsi (T : String) : G1 := fun a => match kitB (tyD a) T with
  | some b => .ok (.bool b)
  | none => .stuck
theorem dIsi_x (T : String) (a : D) : NoX (dIsi T a) := by unfold dIsi; split; exact nox_ok _; exact nox_st
theorem den_isi {T : String} {te : TE} {f : EF} (h : DenB K W te f) : Den K W (tCB (rIsi K) (tCons te (tCons (tC (.ty T)) tNil))) (ap1 f (dIsi T)) := fun F σ H env O Q A P =>
  h F σ H env O _ A (P.bind fun a e1 v H1 _ A1 g1 w1 b1 P1 => Post.op A1 P1 (dIsi_x T a) fun d e q => by
    unfold dIsi at e
    split at e
    · rename_i b hb
      cases e
      exact ⟨v, .ty T, _, _, b, rfl, .ty T, b1.ty, kit_ty hb, q _ _ (Nw.refl _) (.bl _)⟩
    · cases e)
/-! ### list(range(..)), list(reversed(..)) -/
theorem rgV_reps {a b : Int} : Reps K O H (rgV a b) (rngD a (b - a).toNat) := by
  unfold rgV rngD
  generalize List.range (b - a).toNat = l
  induction l with
  | nil => exact .nil
  | cons x l ih => exact .cons (.int _) ih
def rg1 (f : EF) : DEnv → Res ((Int × Int) × DEnv) := fun env => (f env).bind fun p => match p.1 with
  | .int j => .ok ((0, j), p.2)
  | _ => .stuck
def rg2 (f h : EF) : DEnv → Res ((Int × Int) × DEnv) := fun env => (f env).bind fun p => (h p.2).bind fun q => match p.1, q.1 with
  | .int i, .int j => .ok ((i, j), q.2)
  | _, _ => .stuck
def lRg (f : DEnv → Res ((Int × Int) × DEnv)) : EF := fun env => (f env).bind fun p => if -(2 ^ 62) ≤ p.1.1 ∧ p.1.1 < 2 ^ 62 ∧ -(2 ^ 62) ≤ p.1.2 ∧ p.1.2 < 2 ^ 62 ∧ (p.1.2 - p.1.1).toNat ≤ 2 ^ 24 then .ok (.list (rngD p.1.1 (p.1.2 - p.1.1).toNat), p.2) else .stuck
theorem denF_lRg1 {te : TE} {f : EF} (h : DenB K W te f) : DenF K W (tLstRg (tRg1 te)) (lRg (rg1 f)) := fun F σ H env O Q A P =>
  h F σ H env O _ A (PostF.bindF (k := fun p => match p.1 with | .int j => if -(2 ^ 62) ≤ (0 : Int) ∧ (0 : Int) < 2 ^ 62 ∧ -(2 ^ 62) ≤ j ∧ j < 2 ^ 62 ∧ (j - 0).toNat ≤ 2 ^ 24 then .ok (.list (rngD 0 (j - 0).toNat), p.2) else .stuck | _ => .stuck) (by
    have P : PostF K F W σ H env O (lRg (rg1 f) env) Q := P
    unfold lRg rg1 at P
    cases q : f env with
    | ok p =>
      rw [q] at P
      obtain ⟨d, e⟩ := p
      cases d <;> first | exact P | exact P.elim
    | exc c ds => rw [q] at P; exact P
    | stuck => rw [q] at P; exact P) A fun a e1 v H1 _ A1 g1 w1 b1 P1 => by
    cases a with
    | int j =>
      dsimp only at P1
      split at P1
      · rename_i hj
        exact ⟨j, b1.int, hj, fun p hp => PostF.new P1 A1 hp (.lst upd_same (rgV_reps.step (ext_step hp)))⟩
      · exact P1.elim
    | _ => exact P1.elim)
theorem denF_lRg2 {ta tb : TE} {f h : EF} (ha : Den K W ta f) (hb : DenB K W tb h) : DenF K W (tLstRg (tRg2 ta tb)) (lRg (rg2 f h)) := fun F σ H env O Q A P =>
  ha F σ H env O _ A (PostF.bindF (k := fun p => (h p.2).bind fun q => match p.1, q.1 with | .int i, .int j => if -(2 ^ 62) ≤ i ∧ i < 2 ^ 62 ∧ -(2 ^ 62) ≤ j ∧ j < 2 ^ 62 ∧ (j - i).toNat ≤ 2 ^ 24 then .ok (.list (rngD i (j - i).toNat), q.2) else .stuck | _, _ => .stuck) (by
    have P : PostF K F W σ H env O (lRg (rg2 f h) env) Q := P
    unfold lRg rg2 at P
    cases q : f env with
    | ok p =>
      rw [q] at P
      obtain ⟨d, e⟩ := p
      have P : PostF K F W σ H env O (((h e).bind fun q => match d, q.1 with | .int i, .int j => .ok ((i, j), q.2) | _, _ => .stuck).bind fun p => if -(2 ^ 62) ≤ p.1.1 ∧ p.1.1 < 2 ^ 62 ∧ -(2 ^ 62) ≤ p.1.2 ∧ p.1.2 < 2 ^ 62 ∧ (p.1.2 - p.1.1).toNat ≤ 2 ^ 24 then .ok (.list (rngD p.1.1 (p.1.2 - p.1.1).toNat), p.2) else .stuck) Q := P
      show PostF K F W σ H env O ((h e).bind _) Q
      cases q2 : h e with
      | ok p2 =>
        rw [q2] at P
        obtain ⟨d2, e2⟩ := p2
        cases d <;> cases d2 <;> first | exact P | exact P.elim
      | exc c ds => rw [q2] at P; exact P
      | stuck => rw [q2] at P; exact P
    | exc c ds => rw [q] at P; exact P
    | stuck => rw [q] at P; exact P) A fun a e1 v H1 _ A1 g1 w1 b1 P1 => hb F σ H1 e1 O _ A1 (PostF.bindF P1 A1 fun b e2 u H2 _ A2 g2 w2 b2 P2 => by
    dsimp only at P2
    split at P2
    · split at P2
      · rename_i hj
        exact ⟨_, _, Brw.int (.rep (b1.step (A1.step g2))), b2.int, hj, fun p hp => PostF.new P2 A2 hp (.lst upd_same (rgV_reps.step (ext_step hp)))⟩
      · exact P2.elim
    · exact P2.elim))
def dRev : G1 := fun a => match a with
  | .list ds => .ok (.list ds.reverse)
  | _ => .stuck
theorem dRev_x (a : D) : NoX (dRev a) := by unfold dRev; split; exact nox_ok _; exact nox_st
theorem denF_rev {te : TE} {f : EF} (h : DenB K W te f) : DenF K W (RX.tLstRev K te) (ap1 f dRev) := fun F σ H env O Q A P =>
  h F σ H env O _ A (PostF.bindF P A fun a e1 v H1 _ A1 g1 w1 b1 P1 => PostF.op A1 P1 (dRev_x a) fun d e q => by
    cases a with
    | list ds =>
      cases e
      obtain ⟨p, us, rfl, hp, r⟩ := b1.lst
      exact ⟨p, us, rfl, SqL.of hp, fun l hl => q _ _ hl (.lst upd_same (r.reverse.step (ext_step hl)))⟩
    | _ => cases e)
/-! ### max, min of a list of ints -/
def intsD : List D → Option (List Int)
  | [] => some []
  | .int i :: ds => (intsD ds).map (i :: ·)
  | _ => none
theorem intsD_reps : ∀ {us : List V} {ds : List D} {ns : List Int}, Reps K O H us ds → intsD ds = some ns → us = ns.map V.int ∧ ds = ns.map PyData.int
  | _, _, _, .nil, h => by cases h; exact ⟨rfl, rfl⟩
  | _, _, ns, .cons (d := d) r t, h => by
    cases d with
    | int i =>
      unfold intsD at h
      cases q : intsD _ with
      | none => rw [q] at h; cases h
      | some ms =>
        rw [q] at h
        cases h
        obtain ⟨h1, h2⟩ := intsD_reps t q
        cases r
        exact ⟨by rw [h1]; rfl, by rw [h2]; rfl⟩
    | _ => cases h
def dMaxL : G1 := fun a => match a with
  | .list ds => match intsD ds with
    | some (n :: ns) => .ok (.int (ns.foldl max n))
    | _ => .stuck
  | _ => .stuck
def dMinL : G1 := fun a => match a with
  | .list ds => match intsD ds with
    | some (n :: ns) => .ok (.int (ns.foldl min n))
    | _ => .stuck
  | _ => .stuck
theorem dMaxL_x (a : D) : NoX (dMaxL a) := by unfold dMaxL; split; (split; exact nox_ok _; exact nox_st); exact nox_st
theorem dMinL_x (a : D) : NoX (dMinL a) := by unfold dMinL; split; (split; exact nox_ok _; exact nox_st); exact nox_st
theorem foldl_max_spec : ∀ (ns : List Int) (n : Int), (ns.foldl max n) ∈ n :: ns ∧ ∀ y ∈ n :: ns, y ≤ ns.foldl max n
  | [], n => ⟨List.mem_cons_self, fun y h => by rw [List.mem_singleton.mp h]; exact Int.le_refl _⟩
  | m :: ns, n => by
    obtain ⟨h1, h2⟩ := foldl_max_spec ns (max n m)
    refine ⟨?_, fun y hy => ?_⟩
    · rcases List.mem_cons.mp h1 with h | h
      · show ns.foldl max (max n m) ∈ _
        rw [h]
        rcases Int.le_total n m with z | z
        · rw [Int.max_eq_right z]; exact List.mem_cons_of_mem _ List.mem_cons_self
        · rw [Int.max_eq_left z]; exact List.mem_cons_self
      · exact List.mem_cons_of_mem _ (List.mem_cons_of_mem _ h)
    · have h0 := h2 (max n m) List.mem_cons_self
      rcases List.mem_cons.mp hy with rfl | hy
      · exact Int.le_trans (Int.le_max_left _ _) h0
      · rcases List.mem_cons.mp hy with rfl | hy
        · exact Int.le_trans (Int.le_max_right _ _) h0
        · exact h2 y (List.mem_cons_of_mem _ hy)
theorem foldl_min_spec : ∀ (ns : List Int) (n : Int), (ns.foldl min n) ∈ n :: ns ∧ ∀ y ∈ n :: ns, ns.foldl min n ≤ y
  | [], n => ⟨List.mem_cons_self, fun y h => by rw [List.mem_singleton.mp h]; exact Int.le_refl _⟩
  | m :: ns, n => by
    obtain ⟨h1, h2⟩ := foldl_min_spec ns (min n m)
    refine ⟨?_, fun y hy => ?_⟩
    · rcases List.mem_cons.mp h1 with h | h
      · show ns.foldl min (min n m) ∈ _
        rw [h]
        rcases Int.le_total n m with z | z
        · rw [Int.min_eq_left z]; exact List.mem_cons_self
        · rw [Int.min_eq_right z]; exact List.mem_cons_of_mem _ List.mem_cons_self
      · exact List.mem_cons_of_mem _ (List.mem_cons_of_mem _ h)
    · have h0 := h2 (min n m) List.mem_cons_self
      rcases List.mem_cons.mp hy with rfl | hy
      · exact Int.le_trans h0 (Int.min_le_left _ _)
      · rcases List.mem_cons.mp hy with rfl | hy
        · exact Int.le_trans h0 (Int.min_le_right _ _)
        · exact h2 y (List.mem_cons_of_mem _ hy)
theorem sb_max : SB K (rMax K) dMaxL := fun O H x a d Q l ha e q => by
  unfold dMaxL at e
  split at e
  · split at e
    · rename_i n ns hn
      cases e
      obtain ⟨p, us, rfl, hp, r⟩ := ha.lst
      obtain ⟨h1, _⟩ := intsD_reps r hn
      refine ⟨p, n :: ns, rfl, SqL.of (h1 ▸ hp), Nat.succ_pos _, fun m h1 h2 => ?_⟩
      obtain ⟨k1, k2⟩ := foldl_max_spec ns n
      have : m = ns.foldl max n := Int.le_antisymm (k2 m h1) (h2 _ k1)
      rw [this]
      exact q _ _ (Nw.refl _) (.int _)
    · cases e
  · cases e
theorem sb_min : SB K (rMin K) dMinL := fun O H x a d Q l ha e q => by
  unfold dMinL at e
  split at e
  · split at e
    · rename_i n ns hn
      cases e
      obtain ⟨p, us, rfl, hp, r⟩ := ha.lst
      obtain ⟨h1, _⟩ := intsD_reps r hn
      refine ⟨p, n :: ns, rfl, SqL.of (h1 ▸ hp), Nat.succ_pos _, fun m h1 h2 => ?_⟩
      obtain ⟨k1, k2⟩ := foldl_min_spec ns n
      have : m = ns.foldl min n := Int.le_antisymm (h2 _ k1) (k2 m h1)
      rw [this]
      exact q _ _ (Nw.refl _) (.int _)
    · cases e
  · cases e
end
end DL
set_option autoImplicit false
namespace DL
open PySem PySem.Spec L2
section
variable {K : PySem.W.Frag} {W : Wish} {F : Fr} {σ : L2.St} {H H1 : Hp} {env : DEnv} {O O1 : Own} {ps : List Nat}
/-! ### + of ints, lists, texts -/
abbrev rAddStr : R2 := fun x y H Q => ∃ i j, x = .str i ∧ y = .str j ∧ i.length + j.length ≤ sizeLine ∧ Q (.str (i ++ j)) H
abbrev rAddA : R2 := fun x y H Q => (rI0 (fun i j => .int (i + j)) x y H Q ∨ rCat x y H Q) ∨ rAddStr x y H Q
theorem op_addA {X : Cx} : OpR X (binaryOp .Add) rAddA := (op_add.or op_cat).or op_add_str
def dAddA : G2 := fun a b => match a, b with
  | .int i, .int j => .ok (.int (i + j))
  | .list xs, .list ys => if xs.length + ys.length ≤ sizeLine then .ok (.list (xs ++ ys)) else .stuck
  | .str x, .str y => if x.length + y.length ≤ sizeLine then .ok (.str (x ++ y)) else .stuck
  | _, _ => .stuck
theorem dAddA_x (a b : D) : NoX (dAddA a b) := by
  unfold dAddA
  split
  · exact nox_ok _
  · split; exact nox_ok _; exact nox_st
  · split; exact nox_ok _; exact nox_st
  · exact nox_st
theorem s2_addA : S2 K rAddA dAddA := fun O H x y a b d Q l ha hb e q => by
  unfold dAddA at e
  split at e
  · cases e
    exact .inl (.inl ⟨_, _, ha.int, hb.int, q _ _ (Nw.refl _) (.int _)⟩)
  · exact .inl (.inr (s2_cat O H x y _ _ d Q l ha hb (show dCat _ _ = _ from e) q))
  · split at e
    · rename_i hz
      cases e
      exact .inr ⟨_, _, ha.str, hb.str, hz, q _ _ (Nw.refl _) (.str _)⟩
    · cases e
  · cases e
theorem n2_addA : N2 K rAddA dCat := fun O H x y a b d Q l ha hb e q => .inl (.inr (n2_cat O H x y a b d Q l ha hb e q))
/-! ### in: lists of data, tuples of flat data -/
def flatD : D → Bool
  | .none => true | .bool _ => true | .int _ => true | .str _ => true | _ => false
abbrev rInA (K : PySem.W.Frag) : R2 := fun x y H Q => rInD K x y H Q ∨ rIn K false x y H Q
abbrev rNotInA (K : PySem.W.Frag) : R2 := fun x y H Q => rNotInD K x y H Q ∨ rIn K true x y H Q
theorem op_inA {X : Cx} (hu : X.A.units + 65 < cLine) : OpR X (compareOp .In) (rInA X.K) := (op_inD hu).or op_in_seq
theorem op_notInA {X : Cx} (hu : X.A.units + 65 < cLine) : OpR X (compareOp .NotIn) (rNotInA X.K) := (op_notInD hu).or op_notIn_seq
def dInA : G2 := fun a b => match b with
  | .list ds => dIn a (.list ds)
  | .tuple ds => if flatD a && ds.all flatD then .ok (.bool (ds.any fun z => PyData.eqv z a)) else .stuck
  | _ => .stuck
def dNotInA : G2 := fun a b => match b with
  | .list ds => dNotIn a (.list ds)
  | .tuple ds => if flatD a && ds.all flatD then .ok (.bool (!ds.any fun z => PyData.eqv z a)) else .stuck
  | _ => .stuck
theorem dInA_x (a b : D) : NoX (dInA a b) := by unfold dInA; split; exact dIn_x _ _; (split; exact nox_ok _; exact nox_st); exact nox_st
theorem dNotInA_x (a b : D) : NoX (dNotInA a b) := by unfold dNotInA; split; exact dNotIn_x _ _; (split; exact nox_ok _; exact nox_st); exact nox_st
theorem flat_of {v : V} {d : D} (r : Rep K O H v d) (h : flatD d = true) : flatV v = true := by
  cases r <;> first | rfl | cases h
theorem eqv_flat {v w : V} {d e : D} (r : Rep K O H v d) (q : Rep K O H w e) (h : flatD d = true) (h' : flatD e = true) : eqV v w = PyData.eqv d e := by
  cases r <;> first | (cases h; done) | (cases q <;> first | (cases h'; done) | rfl | (simp [eqV, PyData.eqv]))
theorem any_flat {x : V} {a : D} (rx : Rep K O H x a) (h : flatD a = true) : ∀ {us : List V} {ds : List D}, Reps K O H us ds → ds.all flatD = true → us.all flatV = true ∧ inV x us = ds.any fun z => PyData.eqv z a
  | _, _, .nil, _ => ⟨rfl, rfl⟩
  | _, _, .cons r t, hd => by
    rw [List.all_cons, Bool.and_eq_true] at hd
    obtain ⟨h1, h2⟩ := any_flat rx h t hd.2
    refine ⟨by rw [List.all_cons, flat_of r hd.1, h1]; rfl, ?_⟩
    unfold inV at h2 ⊢
    rw [List.any_cons, List.any_cons, h2, eqv_flat r rx hd.1 h]
theorem Brw.flat {x : V} {a : D} (h : Brw K O H x a) (f : flatD a = true) : Rep K O H x a := by
  cases h with
  | rep h => exact h
  | own h => cases h <;> cases f
theorem s2_inA : S2 K (rInA K) dInA := fun O H x y a b d Q l ha hb e q => by
  cases b with
  | list ds => exact .inl (s2_in O H x y a _ d Q l ha hb e q)
  | tuple ds =>
    have e : (if flatD a && ds.all flatD then Res.ok (PyData.bool (ds.any fun z => PyData.eqv z a)) else .stuck) = .ok d := e
    split at e
    · rename_i h
      rw [Bool.and_eq_true] at h
      cases e
      obtain ⟨p, us, rfl, hp, r⟩ := hb.tup
      have ra := ha.flat h.1
      obtain ⟨h1, h2⟩ := any_flat ra h.1 r h.2
      refine .inr ⟨p, us, rfl, .inr hp, flat_of ra h.1, h1, ?_⟩
      show Q (.bl (inV x us)) H
      rw [h2]
      exact q _ _ (Nw.refl _) (.bl _)
    · cases e
  | _ => cases e
theorem s2_notInA : S2 K (rNotInA K) dNotInA := fun O H x y a b d Q l ha hb e q => by
  cases b with
  | list ds => exact .inl (s2_notIn O H x y a _ d Q l ha hb e q)
  | tuple ds =>
    have e : (if flatD a && ds.all flatD then Res.ok (PyData.bool (!ds.any fun z => PyData.eqv z a)) else .stuck) = .ok d := e
    split at e
    · rename_i h
      rw [Bool.and_eq_true] at h
      cases e
      obtain ⟨p, us, rfl, hp, r⟩ := hb.tup
      have ra := ha.flat h.1
      obtain ⟨h1, h2⟩ := any_flat ra h.1 r h.2
      refine .inr ⟨p, us, rfl, .inr hp, flat_of ra h.1, h1, ?_⟩
      show Q (.bl (!inV x us)) H
      rw [h2]
      exact q _ _ (Nw.refl _) (.bl _)
    · cases e
  | _ => cases e
/-! ### walks over a list or a tuple -/
def iAny (K : PySem.W.Frag) (te : TE) : TI := fun σ H R => te σ H fun x H1 => ∃ a, x = .ref a ∧ (((∃ xs, SqL K H1 a xs) ∧ R (Itl K a) H1) ∨ ((∃ xs, SqT K H1 a xs) ∧ R (Itt K a) H1))
theorem pi_any {X : Cx} {tg l : Expr} {tl : TE} (hl : PE X l tl) : PI X tg l (iAny X.K tl) := by
  refine ⟨fun pins s σ H R I h => ?_⟩
  refine thn (hl.run pins s σ H _ I h) fun v s1 ⟨x, H1, I1, r1, q1⟩ => ?_
  obtain ⟨a, e, ⟨hq, q⟩ | ⟨hq, q⟩⟩ := q1
  · subst e
    have c : PE X l (tC (.ref a)) → True := fun _ => trivial
    cases r1
    obtain ⟨xs, hq⟩ := hq
    obtain ⟨its, rv, p, hz⟩ := I1.list hq
    refine wpAny_pyIter_list p.isList ?_
    refine ⟨s1.heap.objs.size, [s1.heap.objs.size], _, _, H1, rfl, I1.kept (t' := s1.toks) fun b o e => Heap.get?_push_of_some _ e, turn_list a _, ⟨_, Heap.get?_push_size _ rfl, rfl, rfl⟩, fun b hb => ?_, q⟩
    have e : b = s1.heap.objs.size := by simpa using hb
    subst e
    exact I1.fpOk (Nat.le_refl _) (I1.hok.fresh (Nat.le_refl _))
  · subst e
    cases r1
    obtain ⟨xs, hq⟩ := hq
    obtain ⟨its, rv, p, hz⟩ := I1.tuple hq
    refine wpAny_pyIter_tuple (show s1.heap.IsTuple a its.toArray from p) ?_
    refine ⟨s1.heap.objs.size, [s1.heap.objs.size], _, _, H1, rfl, I1.kept (t' := s1.toks) fun b o e => Heap.get?_push_of_some _ e, turn_tuple a _, ⟨_, Heap.get?_push_size _ rfl, rfl, rfl⟩, fun b hb => ?_, q⟩
    have e : b = s1.heap.objs.size := by simpa using hb
    subst e
    exact I1.fpOk (Nat.le_refl _) (I1.hok.fresh (Nat.le_refl _))
def asI (f : EF) : IF := fun env => (f env).bind fun p => match p.1 with
  | .list ds => .ok (ds, p.2)
  | .tuple ds => .ok (ds, p.2)
  | _ => .stuck
theorem denI_any {te : TE} {f : EF} (h : Den K W te f) : DenI K W (iAny K te) (asI f) := fun F σ H env O R A P =>
  h F σ H env O _ A (P.bind fun a e1 v H1 _ A1 g1 w1 b1 P1 => by
    cases a with
    | list ds =>
      cases b1 with
      | lst n r => exact ⟨_, rfl, .inl ⟨⟨_, n.sq⟩, Post.now P1 A1 (dwalk_list n r)⟩⟩
    | tuple ds =>
      cases b1 with
      | tup n r => exact ⟨_, rfl, .inr ⟨⟨_, n.sq⟩, Post.now P1 A1 (dwalk_tup n r)⟩⟩
    | _ => exact P1.elim)
/-! ### the law's start: the deck -/
/-- what a law's first statement leaves: a new list in slot i, all else as at the entry -/
theorem at_law {D0 : Addr} {us : List V} {ds : List D} {n i : Nat} {σ : L2.St} {H H' : Hp} (hs : σ.length = n) (hi : i < n) (h0 : H D0 = none) (s : ∀ a o, H a = some o → H' a = some o) (hd : H' D0 = some (.lst us)) (r : Reps K (fun a => a = D0) H' us ds) :
    At K ⟨fun _ => False, H, []⟩ (σ.set i (some (.ref D0))) H' ((List.replicate n none).set i (some (.own (.list ds)))) (fun a => a = D0) := by
  have out : ∀ {j : Nat} {c : DCell}, ((List.replicate n (none : Option DCell)).set i (some (.own (.list ds))))[j]? = some (some c) → i = j ∧ c = .own (.list ds) := fun {j c} h => by
    by_cases hj : i = j
    · subst hj
      rw [List.getElem?_set_self (by rw [List.length_replicate]; exact hi)] at h
      cases h
      exact ⟨rfl, rfl⟩
    · rw [List.getElem?_set_ne hj, List.getElem?_replicate] at h
      split at h <;> cases h
  refine ⟨by rw [List.length_set, List.length_set, List.length_replicate]; exact hs, fun _ z => z.elim, fun a z => .inr (z ▸ h0), fun a z => (by rw [z, hd]; exact fun q => (by cases q)), fun a o _ h => s a o h, fun j d h => ?_, fun j d h => ?_, fun j k p d e h1 h2 _ _ => (out h1).1.symm.trans (out h2).1, fun q hq => (by cases hq), fun q hq => (by cases hq), fun _ z => z.elim⟩
  · cases (out h).2
  · obtain ⟨rfl, e⟩ := out h
    cases e
    exact ⟨D0, List.getElem?_set_self (by rw [hs]; exact hi), rfl, .inr h0, .lst hd r⟩
end
end DL
set_option autoImplicit false
namespace DL
open PySem PySem.Spec L2
theorem hu66 {k : Nat} {A : Around} (r : Room k A) : A.units + 66 < cLine := by have := r.un; omega
theorem hu65 {k : Nat} {A : Around} (r : Room k A) : A.units + 65 < cLine := by have := r.un; omega
theorem boot_int0 : bootBuiltins "int" = some (.type "int") := by decide +kernel
theorem boot_str0 : bootBuiltins "str" = some (.type "str") := by decide +kernel
theorem boot_bool0 : bootBuiltins "bool" = some (.type "bool") := by decide +kernel
theorem boot_list0 : bootBuiltins "list" = some (.type "list") := by decide +kernel
theorem boot_tuple0 : bootBuiltins "tuple" = some (.type "tuple") := by decide +kernel
theorem boot_dict0 : bootBuiltins "dict" = some (.type "dict") := by decide +kernel
theorem boot_sorted0 : bootBuiltins "sorted" = some (.builtin "sorted") := by decide +kernel
theorem boot_isinstance0 : bootBuiltins "isinstance" = some (.builtin "isinstance") := by decide +kernel
theorem boot_max0 : bootBuiltins "max" = some (.builtin "max") := by decide +kernel
theorem boot_min0 : bootBuiltins "min" = some (.builtin "min") := by decide +kernel
theorem boot_sum0 : bootBuiltins "sum" = some (.builtin "sum") := by decide +kernel
theorem boot_all0 : bootBuiltins "all" = some (.builtin "all") := by decide +kernel
theorem boot_any0 : bootBuiltins "any" = some (.builtin "any") := by decide +kernel
theorem boot_abs0 : bootBuiltins "abs" = some (.builtin "abs") := by decide +kernel
/-- the built-in names still are -/
structure DTxt (mg : Str → Option Value) : Prop where
  zint : mg "int" = none
  zstr : mg "str" = none
  zbool : mg "bool" = none
  zlist : mg "list" = none
  ztuple : mg "tuple" = none
  zdict : mg "dict" = none
  zlen : mg "len" = none
  zrange : mg "range" = none
  zsorted : mg "sorted" = none
  zisinstance : mg "isinstance" = none
  zmax : mg "max" = none
  zmin : mg "min" = none
  zsum : mg "sum" = none
  zall : mg "all" = none
  zany : mg "any" = none
  zabs : mg "abs" = none
  zreversed : mg "reversed" = none
  zenumerate : mg "enumerate" = none
  zzip : mg "zip" = none
  zset : mg "set" = none
structure Cal (K : PySem.W.Frag) (mg : Str → Option Value) (x : Str) (f : Addr) (fd : FuncData) (ps : List Str) : Prop where
  g : mg x = some (.ref f)
  k : PySem.W.keepIn K (.ref f) = true
  b : Binds K fd ps []
section
variable {K : PySem.W.Frag} {W : Wish} {F : Fr} {σ : L2.St} {H H1 : Hp} {env : DEnv} {O O1 : Own} {ps : List Nat}
/-- a promise that nothing asks -/
theorem fn_stuck {P : Program} {w : World} {mg : Str → Option Value} {base : Heap} {f : Addr} {fd : FuncData} {qs : List Str} {k : Nat} {ms : List Bool} (hl : ms.length = qs.length) : FnOk P w K mg base CX0 k f fd qs (spD K ms fun _ => .stuck) :=
  ⟨fun vs H Q E h => h.1.trans hl, fun A outer s H args us vs Q E _ _ _ _ h => by obtain ⟨_, _, _, _, _, _, z⟩ := h; exact z.elim⟩
open Classical in
noncomputable def dSorted : G1 := fun a => match a with
  | .list ds => if PySem.W.AllAlike ds ∧ PySem.W.Sortable ds ∧ (∀ d ∈ ds, d.depth ≤ 60 ∧ plainD d = true) then .ok (.list (ds.mergeSort (PySem.W.dataLe false id))) else .stuck
  | _ => .stuck
theorem dSorted_x (a : D) : NoX (dSorted a) := by unfold dSorted; split; (split; exact nox_ok _; exact nox_st); exact nox_st
theorem reps_each : ∀ {us : List V} {ds : List D}, Reps K O H us ds → (∀ d ∈ ds, plainD d = true) → PySem.W.EachIs (fun v d => Rep K O H v d ∧ plainD d = true) us ds
  | _, _, .nil, _ => .nil
  | _, _, .cons r t, h => .cons ⟨r, h _ List.mem_cons_self⟩ (reps_each t fun d m => h d (List.mem_cons_of_mem _ m))
theorem each_reps : ∀ {us : List V} {ds : List D}, PySem.W.EachIs (fun v d => Rep K O H v d ∧ plainD d = true) us ds → Reps K O H us ds
  | _, _, .nil => .nil
  | _, _, .cons r t => .cons r.1 (each_reps t)
theorem sb_sorted : SB K (RX.rSortedD K D id) dSorted := fun O H x a d Q l ha e q => by
  unfold dSorted at e
  split at e
  · split at e
    · rename_i ds h
      cases e
      obtain ⟨p, us, rfl, hp, r⟩ := ha.lst
      refine ⟨p, us, ds, fun v d => Rep K O H v d ∧ plainD d = true, rfl, SqL.of hp, reps_each r fun d m => (h.2.2 d m).2, fun v b hv => hv.1.dp hv.2, by rw [List.map_id]; exact h.1, by rw [List.map_id]; exact h.2.1, fun b m => (h.2.2 b m).1, fun out p' ho hn => ?_⟩
      exact q _ _ (Nw.new hn) (Rep.newL l hn (each_reps ho))
    · cases e
  · cases e
theorem nb_sorted : NB K (RX.rSortedD K D id) dSorted := fun O H x a d Q l ha e q => by
  unfold dSorted at e
  split at e
  · split at e
    · rename_i ds h
      cases e
      obtain ⟨p, us, rfl, hp, r⟩ := ha.lst
      refine ⟨p, us, ds, fun v d => Rep K O H v d ∧ plainD d = true, rfl, SqL.of hp, reps_each r fun d m => (h.2.2 d m).2, fun v b hv => hv.1.dp hv.2, by rw [List.map_id]; exact h.1, by rw [List.map_id]; exact h.2.1, fun b m => (h.2.2 b m).1, fun out p' ho hn => ?_⟩
      exact q _ _ hn (.lst upd_same ((each_reps ho).step (ext_step hn)))
    · cases e
  · cases e
def boolsD : List D → Option (List Bool)
  | [] => some []
  | .bool i :: ds => (boolsD ds).map (i :: ·)
  | _ => none
theorem boolsD_reps : ∀ {us : List V} {ds : List D} {ns : List Bool}, Reps K O H us ds → boolsD ds = some ns → us = ns.map V.bl
  | _, _, _, .nil, h => by cases h; rfl
  | _, _, ns, .cons (d := d) r t, h => by
    cases d with
    | bool i =>
      unfold boolsD at h
      cases q : boolsD _ with
      | none => rw [q] at h; cases h
      | some ms =>
        rw [q] at h
        cases h
        cases r
        rw [boolsD_reps t q]
        rfl
    | _ => cases h
def dSum : G1 := fun a => match a with
  | .list ds => match intsD ds with
    | some ns => .ok (.int ns.sum)
    | _ => .stuck
  | _ => .stuck
def dAll : G1 := fun a => match a with
  | .list ds => match boolsD ds with
    | some ns => .ok (.bool (ns.all id))
    | _ => .stuck
  | _ => .stuck
def dAny : G1 := fun a => match a with
  | .list ds => match boolsD ds with
    | some ns => .ok (.bool (ns.any id))
    | _ => .stuck
  | _ => .stuck
def dAbs : G1 := fun a => match a with
  | .int i => .ok (.int (if i < 0 then -i else i))
  | _ => .stuck
theorem dSum_x (a : D) : NoX (dSum a) := by unfold dSum; split; (split; exact nox_ok _; exact nox_st); exact nox_st
theorem dAll_x (a : D) : NoX (dAll a) := by unfold dAll; split; (split; exact nox_ok _; exact nox_st); exact nox_st
theorem dAny_x (a : D) : NoX (dAny a) := by unfold dAny; split; (split; exact nox_ok _; exact nox_st); exact nox_st
theorem dAbs_x (a : D) : NoX (dAbs a) := by unfold dAbs; split; exact nox_ok _; exact nox_st
theorem sb_sum : SB K (rSum K) dSum := fun O H x a d Q l ha e q => by
  unfold dSum at e
  split at e
  · split at e
    · rename_i ns hn
      cases e
      obtain ⟨p, us, rfl, hp, r⟩ := ha.lst
      exact ⟨p, ns, rfl, SqL.of ((intsD_reps r hn).1 ▸ hp), q _ _ (Nw.refl _) (.int _)⟩
    · cases e
  · cases e
theorem sb_all : SB K (rAll K) dAll := fun O H x a d Q l ha e q => by
  unfold dAll at e
  split at e
  · split at e
    · rename_i ns hn
      cases e
      obtain ⟨p, us, rfl, hp, r⟩ := ha.lst
      exact ⟨p, ns, rfl, SqL.of ((boolsD_reps r hn) ▸ hp), q _ _ (Nw.refl _) (.bl _)⟩
    · cases e
  · cases e
theorem sb_any : SB K (rAny K) dAny := fun O H x a d Q l ha e q => by
  unfold dAny at e
  split at e
  · split at e
    · rename_i ns hn
      cases e
      obtain ⟨p, us, rfl, hp, r⟩ := ha.lst
      exact ⟨p, ns, rfl, SqL.of ((boolsD_reps r hn) ▸ hp), q _ _ (Nw.refl _) (.bl _)⟩
    · cases e
  · cases e
theorem sb_abs : SB K (fun xs H Q => ∃ i, xs = [.int i] ∧ Q (.int (if i < 0 then -i else i)) H) dAbs := fun O H x a d Q l ha e q => by
  unfold dAbs at e
  split at e
  · cases e
    exact ⟨_, by rw [ha.int], q _ _ (Nw.refl _) (.int _)⟩
  · cases e
end
end DL
set_option autoImplicit false
namespace DL
open PySem PySem.Spec L2
/-! ### parts of data -/
def cellC : Option (Option DCell) → Res D
  | some (some (.val d)) => .ok d
  | some (some (.own d)) => .ok d
  | _ => .stuck
def cellV : Option (Option DCell) → Res D
  | some (some (.val d)) => .ok d
  | _ => .stuck
def cellL : Option (Option DCell) → Res (List D)
  | some (some (.own (.list ds))) => .ok ds
  | _ => .stuck
def cellO : Option (Option DCell) → Res D
  | some (some (.own d)) => .ok d
  | _ => .stuck
def boolR : D → Res Bool
  | .bool b => .ok b
  | _ => .stuck
def intR : D → Res Int
  | .int i => .ok i
  | _ => .stuck
def itemsR : D → Res (List D)
  | .list ds => .ok ds
  | .tuple ds => .ok ds
  | _ => .stuck
def optB {α : Type} : Option α → Res α
  | some a => .ok a
  | none => .stuck
def rng1R : List D → Res (List D)
  | [.int j] => if -(2 ^ 62) ≤ j ∧ j < 2 ^ 62 then .ok (rngD 0 j.toNat) else .stuck
  | _ => .stuck
def rng2R : List D → Res (List D)
  | [.int i, .int j] => if -(2 ^ 62) ≤ i ∧ i < 2 ^ 62 ∧ -(2 ^ 62) ≤ j ∧ j < 2 ^ 62 then .ok (rngD i (j - i).toNat) else .stuck
  | _ => .stuck
theorem cellC_val {d : D} : cellC (some (some (.val d))) = .ok d := rfl
theorem cellC_own {d : D} : cellC (some (some (.own d))) = .ok d := rfl
theorem cellV_val {d : D} : cellV (some (some (.val d))) = .ok d := rfl
theorem cellL_own {d : List D} : cellL (some (some (.own (.list d)))) = .ok d := rfl
theorem cellO_own {d : D} : cellO (some (some (.own d))) = .ok d := rfl
theorem boolR_b {b : Bool} : boolR (.bool b) = .ok b := rfl
theorem intR_i {b : Int} : intR (.int b) = .ok b := rfl
theorem itemsR_l {b : List D} : itemsR (.list b) = .ok b := rfl
theorem itemsR_t {b : List D} : itemsR (.tuple b) = .ok b := rfl
theorem optB_s {α : Type} {a : α} : optB (some a) = .ok a := rfl
theorem rng1R_i {j : Int} : rng1R [.int j] = if -(2 ^ 62) ≤ j ∧ j < 2 ^ 62 then .ok (rngD 0 j.toNat) else .stuck := rfl
theorem rng2R_i {i j : Int} : rng2R [.int i, .int j] = if -(2 ^ 62) ≤ i ∧ i < 2 ^ 62 ∧ -(2 ^ 62) ≤ j ∧ j < 2 ^ 62 then .ok (rngD i (j - i).toNat) else .stuck := rfl
theorem cellOf_t {d : D} : DL.cellOf true d = some (.own d) := rfl
theorem cellOf_f {d : D} : DL.cellOf false d = some (.val d) := rfl
/-! ### operations on constructors -/
section
variable {i j : Int} {x y : Str} {b c : Bool} {ds es : List D} {d : D}
theorem dAddA_i : dAddA (.int i) (.int j) = .ok (.int (i + j)) := rfl
theorem dAddA_l : dAddA (.list ds) (.list es) = if ds.length + es.length ≤ sizeLine then .ok (.list (ds ++ es)) else .stuck := rfl
theorem dAddA_s : dAddA (.str x) (.str y) = if x.length + y.length ≤ sizeLine then .ok (.str (x ++ y)) else .stuck := rfl
theorem dCat_l : dCat (.list ds) (.list es) = if ds.length + es.length ≤ sizeLine then .ok (.list (ds ++ es)) else .stuck := rfl
theorem dSub_i : dSub (.int i) (.int j) = .ok (.int (i - j)) := rfl
theorem dMul_i : dMul (.int i) (.int j) = if (-(2 ^ 64) < i ∧ i < 2 ^ 64) ∨ (-(2 ^ 64) < j ∧ j < 2 ^ 64) then .ok (.int (i * j)) else .stuck := rfl
theorem dDiv_i : dDiv (.int i) (.int j) = if j ≠ 0 ∧ j.natAbs < 2 ^ 64 then .ok (.int (i.fdiv j)) else .stuck := rfl
theorem dMod_i : dMod (.int i) (.int j) = if j ≠ 0 then .ok (.int (i.fmod j)) else .stuck := rfl
theorem dPow_i : dPow (.int i) (.int j) = if 0 ≤ j ∧ j ≤ 1000000 ∧ i.natAbs < 2 ^ 64 then .ok (.int (i ^ j.toNat)) else .stuck := rfl
theorem dLt_i : dLt (.int i) (.int j) = .ok (.bool (decide (i < j))) := rfl
theorem dLe_i : dLe (.int i) (.int j) = .ok (.bool (decide (i ≤ j))) := rfl
theorem dGt_i : dGt (.int i) (.int j) = .ok (.bool (decide (j < i))) := rfl
theorem dGe_i : dGe (.int i) (.int j) = .ok (.bool (decide (j ≤ i))) := rfl
theorem dNeg_i : dNeg (.int i) = .ok (.int (-i)) := rfl
theorem dLen_l : dLen (.list ds) = .ok (.int ds.length) := rfl
theorem dLen_t : dLen (.tuple ds) = .ok (.int ds.length) := rfl
theorem dList_l : dList (.list ds) = .ok (.list ds) := rfl
theorem dList_t : dList (.tuple ds) = .ok (.list ds) := rfl
theorem dTuple_l : dTuple (.list ds) = .ok (.tuple ds) := rfl
theorem dRev_l : dRev (.list ds) = .ok (.list ds.reverse) := rfl
theorem dInt1_i : dInt1 (.int i) = .ok (.int i) := rfl
theorem dInt1_b : dInt1 (.bool b) = .ok (.int (if b then 1 else 0)) := rfl
theorem dMax2_i : dMax2 [.int i, .int j] = .ok (.int (if j > i then j else i)) := rfl
theorem dMin2_i : dMin2 [.int i, .int j] = .ok (.int (if j < i then j else i)) := rfl
theorem dIx_l : dIx (.list ds) (.int i) = optR (atI ds i) := rfl
theorem dIx_t : dIx (.tuple ds) (.int i) = optR (atI ds i) := rfl
theorem optR_s : optR (some d) = .ok d := rfl
theorem dEq_i : dEq (.int i) (.int j) = .ok (.bool (i == j)) := by simp [dEq, scalD, PyData.eqv]
theorem dNe_i : dNe (.int i) (.int j) = .ok (.bool (!(i == j))) := by simp [dNe, scalD, PyData.eqv]
theorem dEq_s : dEq (.str x) (.str y) = .ok (.bool (x == y)) := by simp [dEq, scalD, PyData.eqv]
theorem dNe_s : dNe (.str x) (.str y) = .ok (.bool (!(x == y))) := by simp [dNe, scalD, PyData.eqv]
theorem dEq_b : dEq (.bool b) (.bool c) = .ok (.bool (b == c)) := by simp [dEq, scalD, PyData.eqv]
theorem dNe_b : dNe (.bool b) (.bool c) = .ok (.bool (!(b == c))) := by simp [dNe, scalD, PyData.eqv]
theorem dIsN_n : dIsN d .none = .ok (.bool (isNone d)) := rfl
theorem dNotN_n : dNotN d .none = .ok (.bool (!isNone d)) := rfl
theorem mkT_n : mkT ds = if ds.length ≤ 64 then .ok (.tuple ds) else .stuck := rfl
theorem mkL_n : mkL ds = if ds.length ≤ 64 then .ok (.list ds) else .stuck := rfl
theorem mAppend_1 : mAppend ds [d] = if ds.length < sizeLine then .ok (.none, ds ++ [d]) else .stuck := rfl
theorem gT_t {n : Nat} {h : List D → DEnv → Res DEnv} {e : DEnv} : gT n h (.tuple ds) e = if ds.length = n then h ds e else .stuck := rfl
theorem gsCons_c {g : GF} {h : List D → DEnv → Res DEnv} {e : DEnv} : gsCons g h (d :: ds) e = (g d e).bind fun e => h ds e := rfl
theorem gsNil_n {e : DEnv} : gsNil [] e = .ok e := rfl
theorem gN_s {n : Nat} {e : DEnv} : gN n d e = .ok (e.set n (some (.val d))) := rfl
end
/-! ### what a function gives: weakest preconditions over data -/
def wR {α : Type} (r : Res α) (P : α → Prop) : Prop := match r with
  | .ok a => P a
  | _ => False
def wS (r : SR) (N : DEnv → Prop) (R : Bool → D → DEnv → Prop) : Prop := match r with
  | .nx e => N e
  | .ret fr d e => R fr d e
  | _ => False
def wD (r : DR) (P : Bool → D → List D → Prop) : Prop := match r with
  | .ok fr d os => P fr d os
  | _ => False
section
variable {α β : Type} {env : DEnv} {N : DEnv → Prop} {R : Bool → D → DEnv → Prop}
theorem wR_ok {a : α} {P : α → Prop} : wR (.ok a) P = P a := rfl
theorem wR_bind {r : Res α} {k : α → Res β} {P : β → Prop} : wR (r.bind k) P = wR r fun a => wR (k a) P := by cases r <;> rfl
theorem wR_mono {r : Res α} {P Q : α → Prop} (h : wR r P) (f : ∀ a, P a → Q a) : wR r Q := by cases r with
  | ok a => exact f a h
  | _ => exact h
theorem wS_seq {g h : SF} : wS (sSeq g h env) N R = wS (g env) (fun e => wS (h e) N R) R := by
  show wS ((g env).seq h) N R = _
  cases g env <;> rfl
theorem wS_ofR {r : Res (α × DEnv)} {k : α → DEnv → SR} : wS (ofR r k) N R = wR r fun p => wS (k p.1 p.2) N R := by cases r <;> rfl
theorem wS_set {i : Nat} {f : EF} : wS (sSet i f env) N R = wR (f env) fun p => N (p.2.set i (some (.val p.1))) := by
  show wS (ofR (f env) _) N R = _
  rw [wS_ofR] <;> rfl
theorem wS_own {i : Nat} {f : EF} : wS (sOwn i f env) N R = wR (f env) fun p => N (p.2.set i (some (.own p.1))) := by
  show wS (ofR (f env) _) N R = _
  rw [wS_ofR] <;> rfl
theorem wS_drop {f : EF} : wS (sDrop f env) N R = wR (f env) fun p => N p.2 := by
  show wS (ofR (f env) _) N R = _
  rw [wS_ofR] <;> rfl
theorem wS_ret {f : EF} : wS (sRet f env) N R = wR (f env) fun p => R false p.1 p.2 := by
  show wS (ofR (f env) _) N R = _
  rw [wS_ofR] <;> rfl
theorem wS_retF {f : EF} : wS (sRetF f env) N R = wR (f env) fun p => R true p.1 p.2 := by
  show wS (ofR (f env) _) N R = _
  rw [wS_ofR] <;> rfl
theorem wS_next : wS (sNext env) N R = N env := rfl
theorem wS_if {c : TF} {g h : SF} : wS (sIf c g h env) N R = wR (c env) fun p => if p.1 = true then wS (g p.2) N R else wS (h p.2) N R := by
  show wS (ofR (c env) _) N R = _
  rw [wS_ofR]
  congr 1
  funext p
  split <;> rfl
theorem wS_asg {f : EF} {g : GF} : wS (sAsg f g env) N R = wR (f env) fun p => wR (g p.1 p.2) N := by
  show wS (ofR (f env) _) N R = _
  rw [wS_ofR]
  congr 1
  funext p
  cases g p.1 p.2 <;> rfl
theorem wS_for {f : IF} {tg : GF} {b : SF} : wS (sFor f tg b env) N R = wR (f env) fun p => wS (forG tg b p.1 p.2) N R := by
  show wS (ofR (f env) _) N R = _
  rw [wS_ofR] <;> rfl
theorem wR_ap1 {f : EF} {g : G1} {P : D × DEnv → Prop} : wR (ap1 f g env) P = wR (f env) fun p => wR (g p.1) fun d => P (d, p.2) := by
  show wR ((f env).bind _) P = _
  rw [wR_bind]
  congr 1
  funext p
  rw [wR_bind] <;> rfl
theorem wR_ap2 {f h : EF} {g : G2} {P : D × DEnv → Prop} : wR (ap2 f h g env) P = wR (f env) fun p => wR (h p.2) fun q => wR (g p.1 q.1) fun d => P (d, q.2) := by
  show wR ((f env).bind _) P = _
  rw [wR_bind]
  congr 1
  funext p
  rw [wR_bind]
  congr 1
  funext q
  rw [wR_bind] <;> rfl
theorem wR_ap2N {i : Nat} {h : EF} {g : G2} {P : D × DEnv → Prop} : wR (ap2N i h g env) P = wR (getC i env) fun _ => wR (h env) fun q => wR (getC i q.2) fun p => wR (g p.1 q.1) fun d => P (d, q.2) := by
  show wR ((getC i env).bind _) P = _
  rw [wR_bind]
  congr 1
  funext p
  rw [wR_bind]
  congr 1
  funext q
  rw [wR_bind]
  congr 1
  funext x
  rw [wR_bind] <;> rfl
theorem wR_apA {f : DEnv → Res (List D × DEnv)} {g : GA} {P : D × DEnv → Prop} : wR (apA f g env) P = wR (f env) fun p => wR (g p.1) fun d => P (d, p.2) := by
  show wR ((f env).bind _) P = _
  rw [wR_bind]
  congr 1
  funext p
  rw [wR_bind] <;> rfl
theorem wR_kst {d : D} {P : D × DEnv → Prop} : wR (kst d env) P = P (d, env) := rfl
theorem wR_aNil {P : List D × DEnv → Prop} : wR (aNil env) P = P ([], env) := rfl
theorem wR_aCons {f : EF} {g : DEnv → Res (List D × DEnv)} {P : List D × DEnv → Prop} : wR (aCons f g env) P = wR (f env) fun p => wR (g p.2) fun q => P (p.1 :: q.1, q.2) := by
  show wR ((f env).bind _) P = _
  rw [wR_bind]
  congr 1
  funext p
  rw [wR_bind] <;> rfl
theorem wR_asB {f : EF} {P : Bool × DEnv → Prop} : wR (asB f env) P = wR (f env) fun p => wR (boolR p.1) fun b => P (b, p.2) := by
  show wR ((f env).bind _) P = _
  rw [wR_bind]
  congr 1
  funext p
  obtain ⟨d, e⟩ := p
  cases d <;> rfl
theorem wR_truR {f : EF} {P : Bool × DEnv → Prop} : wR (truR f env) P = wR (f env) fun p => wR (optB (truD p.1)) fun b => P (b, p.2) := by
  show wR ((f env).bind _) P = _
  rw [wR_bind]
  congr 1
  funext p
  obtain ⟨d, e⟩ := p
  show wR (match truD d with | some b => _ | none => _) P = _
  cases truD d <;> rfl
theorem wR_andT {f g : TF} {P : Bool × DEnv → Prop} : wR (andT f g env) P = wR (f env) fun p => if p.1 = true then wR (g p.2) P else P (false, p.2) := by
  show wR ((f env).bind _) P = _
  rw [wR_bind]
  congr 1
  funext p
  split <;> rfl
theorem wR_orT {f g : TF} {P : Bool × DEnv → Prop} : wR (orT f g env) P = wR (f env) fun p => if p.1 = true then P (true, p.2) else wR (g p.2) P := by
  show wR ((f env).bind _) P = _
  rw [wR_bind]
  congr 1
  funext p
  split <;> rfl
theorem wR_notT {f : TF} {P : Bool × DEnv → Prop} : wR (notT f env) P = wR (f env) fun p => P (!p.1, p.2) := by
  show wR ((f env).bind _) P = _
  rw [wR_bind] <;> rfl
theorem wR_andV {f g : EF} {P : D × DEnv → Prop} : wR (andV f g env) P = wR (asB f env) fun p => if p.1 = true then wR (g p.2) P else P (.bool false, p.2) := by
  show wR ((asB f env).bind _) P = _
  rw [wR_bind]
  congr 1
  funext p
  split <;> rfl
theorem wR_orV {f g : EF} {P : D × DEnv → Prop} : wR (orV f g env) P = wR (asB f env) fun p => if p.1 = true then P (.bool true, p.2) else wR (g p.2) P := by
  show wR ((asB f env).bind _) P = _
  rw [wR_bind]
  congr 1
  funext p
  split <;> rfl
theorem wR_notV {f : EF} {P : D × DEnv → Prop} : wR (notV f env) P = wR (asB f env) fun p => P (.bool (!p.1), p.2) := by
  show wR ((asB f env).bind _) P = _
  rw [wR_bind] <;> rfl
theorem wR_ifE {t : TF} {f g : EF} {P : D × DEnv → Prop} : wR (ifE t f g env) P = wR (t env) fun p => if p.1 = true then wR (f p.2) P else wR (g p.2) P := by
  show wR ((t env).bind _) P = _
  rw [wR_bind]
  congr 1
  funext p
  split <;> rfl
theorem wR_asI {f : EF} {P : List D × DEnv → Prop} : wR (asI f env) P = wR (f env) fun p => wR (itemsR p.1) fun ds => P (ds, p.2) := by
  show wR ((f env).bind _) P = _
  rw [wR_bind]
  congr 1
  funext p
  obtain ⟨d, e⟩ := p
  cases d <;> rfl
/-- what a def gives -/
theorem runF_w {n : Nat} {ms : List Bool} {G : SF} {ds : List D} {P : Bool → D → List D → Prop} (h : wS (G (env0 n ms ds)) (fun e => wD (endR ms false .none e) P) (fun fr d e => wD (endR ms fr d e) P)) : wD (runF n ms G ds) P := by
  unfold runF
  cases q : G (env0 n ms ds) with
  | nx e => rw [q] at h; exact h
  | ret fr d e => rw [q] at h; exact h
  | _ => rw [q] at h; exact h.elim
theorem runF_eq {n : Nat} {ms : List Bool} {G : SF} {ds : List D} {fr : Bool} {d : D} {os : List D} (h : wS (G (env0 n ms ds)) (fun e => endR ms false .none e = .ok fr d os) (fun f x e => endR ms f x e = .ok fr d os)) : runF n ms G ds = .ok fr d os := by
  unfold runF
  cases q : G (env0 n ms ds) with
  | nx e => rw [q] at h; exact h
  | ret fr d e => rw [q] at h; exact h
  | _ => rw [q] at h; exact h.elim
theorem wR_guard0 {c : Prop} [Decidable c] {a : α} {P : α → Prop} : wR (if c then .ok a else .stuck) P = (c ∧ P a) := by
  by_cases h : c
  · rw [if_pos h]; exact propext ⟨fun z => ⟨h, z⟩, fun z => z.2⟩
  · rw [if_neg h]; exact propext ⟨fun z => z.elim, fun z => h z.1⟩
theorem wR_ownL {i : Nat} {P : List D → Prop} : wR (ownL i env) P = wR (cellL env[i]?) P := by
  unfold ownL cellL
  cases env[i]? with
  | none => rfl
  | some o => cases o with
    | none => rfl
    | some c => cases c with
      | val d => rfl
      | own d => cases d <;> rfl
theorem wR_getV {i : Nat} {P : D × DEnv → Prop} : wR (getV i env) P = wR (cellV env[i]?) fun d => P (d, env) := by
  unfold getV cellV
  cases env[i]? with
  | none => rfl
  | some o => cases o with
    | none => rfl
    | some c => cases c with
      | val d => rfl
      | own d => cases d <;> rfl
theorem wR_getC {i : Nat} {P : D × DEnv → Prop} : wR (getC i env) P = wR (cellC env[i]?) fun d => P (d, env) := by
  unfold getC cellC
  cases env[i]? with
  | none => rfl
  | some o => cases o with
    | none => rfl
    | some c => cases c with
      | val d => rfl
      | own d => cases d <;> rfl
theorem wR_cOwn {i : Nat} {g : AF} {P : List Arg × DEnv → Prop} : wR (cOwn i g env) P = wR (cellO env[i]?) fun _ => wR (g env) fun q => P (.own i :: q.1, q.2) := by
  unfold cOwn cellO
  cases env[i]? with
  | none => rfl
  | some o => cases o with
    | none => rfl
    | some c => cases c with
      | val d => rfl
      | own d =>
        show wR ((g env).bind _) P = wR (g env) _
        rw [wR_bind] <;> rfl
theorem wR_readO {e : DEnv} {ms : List Bool} {i : Nat} {as : List Arg} {P : List D → Prop} : wR (readG e (true :: ms) (.own i :: as)) P = wR (cellO e[i]?) fun d => wR (readG e ms as) fun ds => P (d :: ds) := by
  show wR (match e[i]? with | some (some (.own d)) => (readG e ms as).bind fun ds => .ok (d :: ds) | _ => .stuck) P = _
  unfold cellO
  cases e[i]? with
  | none => rfl
  | some o => cases o with
    | none => rfl
    | some c => cases c with
      | val d => rfl
      | own d =>
        show wR ((readG e ms as).bind _) P = wR (readG e ms as) _
        rw [wR_bind] <;> rfl
theorem wS_retO {i : Nat} : wS (sRetO i env) N R = wR (cellO env[i]?) fun d => R true d env := by
  unfold sRetO cellO
  cases env[i]? with
  | none => rfl
  | some o => cases o with
    | none => rfl
    | some c => cases c with
      | val d => rfl
      | own d => cases d <;> rfl
theorem wS_frz {i : Nat} {g : SF} {d : D} (h : env[i]? = some (some (.own d))) : wS (sFrz i g env) N R = wS (g (env.set i (some (.val d)))) N R := by
  unfold sFrz
  rw [h]
theorem wS_frz' {i : Nat} {g : SF} {d : D} (h : env[i]? = some (some (.val d))) : wS (sFrz i g env) N R = wS (g env) N R := by
  unfold sFrz
  rw [h]
theorem wS_sub {i : Nat} {fv fi : EF} : wS (sSub i fv fi env) N R = wR (fv env) fun p => wR (ownL i p.2) fun _ => wR (fi p.2) fun q => wR (ownL i q.2) fun ls => wR (intR q.1) fun z => wR (optB (ixN ls.length z)) fun j => N (q.2.set i (some (.own (.list (ls.set j p.1))))) := by
  show wS (ofR (fv env) _) N R = _
  rw [wS_ofR]
  congr 1
  funext p
  cases ownL i p.2 with
  | ok _ =>
    show wS (ofR (fi p.2) _) N R = _
    rw [wS_ofR]
    show wR (fi p.2) _ = wR (fi p.2) _
    congr 1
    funext q
    obtain ⟨k, e⟩ := q
    dsimp only
    cases ownL i e with
    | ok ls =>
      cases k with
      | int z =>
        show wS (match ixN ls.length z with | some j => _ | none => _) N R = wR (optB (ixN ls.length z)) _
        cases ixN ls.length z <;> rfl
      | _ => rfl
    | exc c ds => rfl
    | stuck => rfl
  | exc c ds => rfl
  | stuck => rfl
theorem wR_mtF {i : Nat} {g : GM} {f : DEnv → Res (List D × DEnv)} {P : D × DEnv → Prop} : wR (mtF i g f env) P = wR (ownL i env) fun _ => wR (f env) fun p => wR (ownL i p.2) fun ls => wR (g ls p.1) fun q => P (q.1, p.2.set i (some (.own (.list q.2)))) := by
  show wR ((ownL i env).bind _) P = _
  rw [wR_bind]
  congr 1
  funext _
  rw [wR_bind]
  congr 1
  funext p
  rw [wR_bind]
  congr 1
  funext ls
  rw [wR_bind] <;> rfl
theorem wR_cNil {P : List Arg × DEnv → Prop} : wR (cNil env) P = P ([], env) := rfl
theorem wR_cVal {f : EF} {g : AF} {P : List Arg × DEnv → Prop} : wR (cVal f g env) P = wR (f env) fun p => wR (g p.2) fun q => P (.val p.1 :: q.1, q.2) := by
  show wR ((f env).bind _) P = _
  rw [wR_bind]
  congr 1
  funext p
  rw [wR_bind] <;> rfl
theorem wR_callR {fr : Bool} {ms : List Bool} {G : List D → DR} {f : AF} {P : D × DEnv → Prop} : wR (callR fr ms G f env) P = wR (f env) fun p => (ownIx p.1).Nodup ∧ wR (readG p.2 ms p.1) fun ds => wD (G ds) fun b d os => (fr = true → b = true) ∧ wR (writeG (ownIx p.1) os p.2) fun e => P (d, e) := by
  show wR ((f env).bind _) P = _
  rw [wR_bind]
  congr 1
  funext p
  by_cases h : (ownIx p.1).Nodup
  · rw [if_pos h, wR_bind]
    refine propext ⟨fun z => ⟨h, wR_mono z fun ds q => ?_⟩, fun z => wR_mono z.2 fun ds q => ?_⟩
    · cases e : G ds with
      | ok b d os =>
        rw [e] at q
        dsimp only at q
        by_cases hb : fr = true → b = true
        · rw [if_pos hb, wR_bind] at q
          exact ⟨hb, q⟩
        · rw [if_neg hb] at q; exact q.elim
      | exc c xs => rw [e] at q; exact q.elim
      | stuck => rw [e] at q; exact q.elim
    · cases e : G ds with
      | ok b d os =>
        rw [e] at q
        dsimp only
        rw [if_pos q.1, wR_bind]
        exact q.2
      | exc c xs => rw [e] at q; exact q.elim
      | stuck => rw [e] at q; exact q.elim
  · rw [if_neg h]
    exact propext ⟨fun z => z.elim, fun z => h z.1⟩
theorem wR_readV {e : DEnv} {ms : List Bool} {d : D} {as : List Arg} {P : List D → Prop} : wR (readG e (false :: ms) (.val d :: as)) P = wR (readG e ms as) fun ds => P (d :: ds) := by
  show wR ((readG e ms as).bind _) P = _
  rw [wR_bind] <;> rfl
theorem wR_readN {e : DEnv} {P : List D → Prop} : wR (readG e [] []) P = P [] := rfl
theorem wR_writeN {e : DEnv} {P : DEnv → Prop} : wR (writeG [] [] e) P = P e := rfl
theorem wR_writeC {i : Nat} {is : List Nat} {d : D} {ds : List D} {e : DEnv} {P : DEnv → Prop} : wR (writeG (i :: is) (d :: ds) e) P = wR (writeG is ds (e.set i (some (.own d)))) P := rfl
theorem wR_asR1 {f : DEnv → Res (List D × DEnv)} {P : List D × DEnv → Prop} : wR (asR1 f env) P = wR (f env) fun p => wR (rng1R p.1) fun ds => P (ds, p.2) := by
  show wR ((f env).bind _) P = _
  rw [wR_bind]
  congr 1
  funext p
  obtain ⟨l, e⟩ := p
  show _ = wR (rng1R l) fun ds => P (ds, e)
  unfold rng1R
  rcases l with _ | ⟨d, _ | ⟨d2, l⟩⟩ <;> (try cases d) <;> first | rfl | (show wR (if _ then _ else _) P = wR (if _ then _ else _) _; split <;> rfl)
theorem wR_asR2 {f : DEnv → Res (List D × DEnv)} {P : List D × DEnv → Prop} : wR (asR2 f env) P = wR (f env) fun p => wR (rng2R p.1) fun ds => P (ds, p.2) := by
  show wR ((f env).bind _) P = _
  rw [wR_bind]
  congr 1
  funext p
  obtain ⟨l, e⟩ := p
  show _ = wR (rng2R l) fun ds => P (ds, e)
  unfold rng2R
  rcases l with _ | ⟨d, _ | ⟨d2, _ | ⟨d3, l⟩⟩⟩ <;> (try cases d) <;> (try cases d2) <;> first | rfl | (show wR (if _ then _ else _) P = wR (if _ then _ else _) _; split <;> rfl)
theorem wR_guard {c : Prop} [Decidable c] {a : α} {P : α → Prop} : wR (if c then .ok a else .stuck) P = (c ∧ P a) := by
  by_cases h : c
  · rw [if_pos h]; exact propext ⟨fun z => ⟨h, z⟩, fun z => z.2⟩
  · rw [if_neg h]; exact propext ⟨fun z => z.elim, fun z => h z.1⟩
end
end DL
set_option autoImplicit false
namespace DL
open PySem PySem.Spec L2
section
variable {α β : Type} {env : DEnv} {N : DEnv → Prop} {R : Bool → D → DEnv → Prop}
theorem iR_ok {a : α} {P : α → Prop} (h : P a) : wR (.ok a) P := by rw [wR_ok]; exact h
theorem iS_seq {g h : SF} (hh : wS (g env) (fun e => wS (h e) N R) R) : wS (sSeq g h env) N R := by rw [wS_seq]; exact hh
theorem iS_ofR {r : Res (α × DEnv)} {k : α → DEnv → SR} (hh : wR r fun p => wS (k p.1 p.2) N R) : wS (ofR r k) N R := by rw [wS_ofR]; exact hh
theorem iS_set {i : Nat} {f : EF} (hh : wR (f env) fun p => N (p.2.set i (some (.val p.1)))) : wS (sSet i f env) N R := by rw [wS_set]; exact hh
theorem iS_own {i : Nat} {f : EF} (hh : wR (f env) fun p => N (p.2.set i (some (.own p.1)))) : wS (sOwn i f env) N R := by rw [wS_own]; exact hh
theorem iS_drop {f : EF} (hh : wR (f env) fun p => N p.2) : wS (sDrop f env) N R := by rw [wS_drop]; exact hh
theorem iS_ret {f : EF} (hh : wR (f env) fun p => R false p.1 p.2) : wS (sRet f env) N R := by rw [wS_ret]; exact hh
theorem iS_retF {f : EF} (hh : wR (f env) fun p => R true p.1 p.2) : wS (sRetF f env) N R := by rw [wS_retF]; exact hh
theorem iS_next (h : N env) : wS (sNext env) N R := by rw [wS_next]; exact h
theorem iS_if {c : TF} {g h : SF} (hh : wR (c env) fun p => if p.1 = true then wS (g p.2) N R else wS (h p.2) N R) : wS (sIf c g h env) N R := by rw [wS_if]; exact hh
theorem iS_asg {f : EF} {g : GF} (hh : wR (f env) fun p => wR (g p.1 p.2) N) : wS (sAsg f g env) N R := by rw [wS_asg]; exact hh
theorem iS_for0 {f : IF} {tg : GF} {b : SF} (hh : wR (f env) fun p => wS (forG tg b p.1 p.2) N R) : wS (sFor f tg b env) N R := by rw [wS_for]; exact hh
theorem iR_ap1 {f : EF} {g : G1} {P : D × DEnv → Prop} (hh : wR (f env) fun p => wR (g p.1) fun d => P (d, p.2)) : wR (ap1 f g env) P := by rw [wR_ap1]; exact hh
theorem iR_ap2 {f h : EF} {g : G2} {P : D × DEnv → Prop} (hh : wR (f env) fun p => wR (h p.2) fun q => wR (g p.1 q.1) fun d => P (d, q.2)) : wR (ap2 f h g env) P := by rw [wR_ap2]; exact hh
theorem iR_ap2N {i : Nat} {h : EF} {g : G2} {P : D × DEnv → Prop} (hh : wR (getC i env) fun _ => wR (h env) fun q => wR (getC i q.2) fun p => wR (g p.1 q.1) fun d => P (d, q.2)) : wR (ap2N i h g env) P := by rw [wR_ap2N]; exact hh
theorem iR_apA {f : DEnv → Res (List D × DEnv)} {g : GA} {P : D × DEnv → Prop} (hh : wR (f env) fun p => wR (g p.1) fun d => P (d, p.2)) : wR (apA f g env) P := by rw [wR_apA]; exact hh
theorem iR_kst {d : D} {P : D × DEnv → Prop} (h : P (d, env)) : wR (kst d env) P := by rw [wR_kst]; exact h
theorem iR_aNil {P : List D × DEnv → Prop} (h : P ([], env)) : wR (aNil env) P := by rw [wR_aNil]; exact h
theorem iR_aCons {f : EF} {g : DEnv → Res (List D × DEnv)} {P : List D × DEnv → Prop} (hh : wR (f env) fun p => wR (g p.2) fun q => P (p.1 :: q.1, q.2)) : wR (aCons f g env) P := by rw [wR_aCons]; exact hh
theorem iR_asB {f : EF} {P : Bool × DEnv → Prop} (hh : wR (f env) fun p => wR (boolR p.1) fun b => P (b, p.2)) : wR (asB f env) P := by rw [wR_asB]; exact hh
theorem iR_truR {f : EF} {P : Bool × DEnv → Prop} (hh : wR (f env) fun p => wR (optB (truD p.1)) fun b => P (b, p.2)) : wR (truR f env) P := by rw [wR_truR]; exact hh
theorem iR_andT {f g : TF} {P : Bool × DEnv → Prop} (hh : wR (f env) fun p => if p.1 = true then wR (g p.2) P else P (false, p.2)) : wR (andT f g env) P := by rw [wR_andT]; exact hh
theorem iR_orT {f g : TF} {P : Bool × DEnv → Prop} (hh : wR (f env) fun p => if p.1 = true then P (true, p.2) else wR (g p.2) P) : wR (orT f g env) P := by rw [wR_orT]; exact hh
theorem iR_notT {f : TF} {P : Bool × DEnv → Prop} (hh : wR (f env) fun p => P (!p.1, p.2)) : wR (notT f env) P := by rw [wR_notT]; exact hh
theorem iR_andV {f g : EF} {P : D × DEnv → Prop} (hh : wR (asB f env) fun p => if p.1 = true then wR (g p.2) P else P (.bool false, p.2)) : wR (andV f g env) P := by rw [wR_andV]; exact hh
theorem iR_orV {f g : EF} {P : D × DEnv → Prop} (hh : wR (asB f env) fun p => if p.1 = true then P (.bool true, p.2) else wR (g p.2) P) : wR (orV f g env) P := by rw [wR_orV]; exact hh
theorem iR_notV {f : EF} {P : D × DEnv → Prop} (hh : wR (asB f env) fun p => P (.bool (!p.1), p.2)) : wR (notV f env) P := by rw [wR_notV]; exact hh
theorem iR_ifE {t : TF} {f g : EF} {P : D × DEnv → Prop} (hh : wR (t env) fun p => if p.1 = true then wR (f p.2) P else wR (g p.2) P) : wR (ifE t f g env) P := by rw [wR_ifE]; exact hh
theorem iR_asI {f : EF} {P : List D × DEnv → Prop} (hh : wR (f env) fun p => wR (itemsR p.1) fun ds => P (ds, p.2)) : wR (asI f env) P := by rw [wR_asI]; exact hh
theorem iS_retO {i : Nat} (hh : wR (cellO env[i]?) fun d => R true d env) : wS (sRetO i env) N R := by rw [wS_retO]; exact hh
theorem iS_sub {i : Nat} {fv fi : EF} (hh : wR (fv env) fun p => wR (ownL i p.2) fun _ => wR (fi p.2) fun q => wR (ownL i q.2) fun ls => wR (intR q.1) fun z => wR (optB (ixN ls.length z)) fun j => N (q.2.set i (some (.own (.list (ls.set j p.1)))))) : wS (sSub i fv fi env) N R := by rw [wS_sub]; exact hh
theorem iR_mtF {i : Nat} {g : GM} {f : DEnv → Res (List D × DEnv)} {P : D × DEnv → Prop} (hh : wR (ownL i env) fun _ => wR (f env) fun p => wR (ownL i p.2) fun ls => wR (g ls p.1) fun q => P (q.1, p.2.set i (some (.own (.list q.2))))) : wR (mtF i g f env) P := by rw [wR_mtF]; exact hh
theorem iR_cNil {P : List Arg × DEnv → Prop} (h : P ([], env)) : wR (cNil env) P := by rw [wR_cNil]; exact h
theorem iR_cVal {f : EF} {g : AF} {P : List Arg × DEnv → Prop} (hh : wR (f env) fun p => wR (g p.2) fun q => P (.val p.1 :: q.1, q.2)) : wR (cVal f g env) P := by rw [wR_cVal]; exact hh
theorem iR_callR {fr : Bool} {ms : List Bool} {G : List D → DR} {f : AF} {P : D × DEnv → Prop} (hh : wR (f env) fun p => (ownIx p.1).Nodup ∧ wR (readG p.2 ms p.1) fun ds => wD (G ds) fun b d os => (fr = true → b = true) ∧ wR (writeG (ownIx p.1) os p.2) fun e => P (d, e)) : wR (callR fr ms G f env) P := by rw [wR_callR]; exact hh
theorem iR_readV {e : DEnv} {ms : List Bool} {d : D} {as : List Arg} {P : List D → Prop} (hh : wR (readG e ms as) fun ds => P (d :: ds)) : wR (readG e (false :: ms) (.val d :: as)) P := by rw [wR_readV]; exact hh
theorem iR_readN {e : DEnv} {P : List D → Prop} (h : P []) : wR (readG e [] []) P := by rw [wR_readN]; exact h
theorem iR_writeN {e : DEnv} {P : DEnv → Prop} (h : P e) : wR (writeG [] [] e) P := by rw [wR_writeN]; exact h
theorem iR_writeC {i : Nat} {is : List Nat} {d : D} {ds : List D} {e : DEnv} {P : DEnv → Prop} (hh : wR (writeG is ds (e.set i (some (.own d)))) P) : wR (writeG (i :: is) (d :: ds) e) P := by rw [wR_writeC]; exact hh
theorem iR_asR1 {f : DEnv → Res (List D × DEnv)} {P : List D × DEnv → Prop} (hh : wR (f env) fun p => wR (rng1R p.1) fun ds => P (ds, p.2)) : wR (asR1 f env) P := by rw [wR_asR1]; exact hh
theorem iR_asR2 {f : DEnv → Res (List D × DEnv)} {P : List D × DEnv → Prop} (hh : wR (f env) fun p => wR (rng2R p.1) fun ds => P (ds, p.2)) : wR (asR2 f env) P := by rw [wR_asR2]; exact hh
theorem iR_guard {c : Prop} [Decidable c] {a : α} {P : α → Prop} (h : c) (k : P a) : wR (if c then .ok a else .stuck) P := by rw [if_pos h]; exact k
theorem iR_bind {r : Res α} {k : α → Res β} {P : β → Prop} (hh : wR r fun a => wR (k a) P) : wR (r.bind k) P := by rw [wR_bind]; exact hh
theorem iR_getV {i : Nat} {d : D} {P : D × DEnv → Prop} (h : env[i]? = some (some (.val d))) (k : P (d, env)) : wR (getV i env) P := by rw [wR_getV, h]; exact k
theorem iR_getCv {i : Nat} {d : D} {P : D × DEnv → Prop} (h : env[i]? = some (some (.val d))) (k : P (d, env)) : wR (getC i env) P := by rw [wR_getC, h]; exact k
theorem iR_getCo {i : Nat} {d : D} {P : D × DEnv → Prop} (h : env[i]? = some (some (.own d))) (k : P (d, env)) : wR (getC i env) P := by rw [wR_getC, h]; exact k
theorem iR_ownL {i : Nat} {d : List D} {P : List D → Prop} (h : env[i]? = some (some (.own (.list d)))) (k : P d) : wR (ownL i env) P := by rw [wR_ownL, h]; exact k
theorem iR_cOwn {i : Nat} {d : D} {g : AF} {P : List Arg × DEnv → Prop} (h : env[i]? = some (some (.own d))) (k : wR (g env) fun q => P (.own i :: q.1, q.2)) : wR (cOwn i g env) P := by rw [wR_cOwn, h]; exact k
theorem iR_readO {e : DEnv} {ms : List Bool} {i : Nat} {d : D} {as : List Arg} {P : List D → Prop} (h : e[i]? = some (some (.own d))) (k : wR (readG e ms as) fun ds => P (d :: ds)) : wR (readG e (true :: ms) (.own i :: as)) P := by rw [wR_readO, h]; exact k
theorem iR_cellO {d : D} {P : D → Prop} {o : Option (Option DCell)} (h : o = some (some (.own d))) (k : P d) : wR (cellO o) P := by rw [h]; exact k
theorem iR_opt {o : Option α} {a : α} {P : α → Prop} (h : o = some a) (k : P a) : wR (optB o) P := by rw [h]; exact k
theorem iR_optR {o : Option D} {a : D} {P : D → Prop} (h : o = some a) (k : P a) : wR (optR o) P := by rw [h]; exact k
theorem iR_okk {a : α} {P : α → Prop} (k : P a) : wR (.ok a) P := k
theorem iR_of {r : Res α} {a : α} {P : α → Prop} (h : r = .ok a) (k : P a) : wR r P := by rw [h]; exact k
theorem iS_frz {i : Nat} {g : SF} {d : D} (h : env[i]? = some (some (.own d))) (k : wS (g (env.set i (some (.val d)))) N R) : wS (sFrz i g env) N R := by rw [wS_frz h]; exact k
theorem iS_frz' {i : Nat} {g : SF} {d : D} (h : env[i]? = some (some (.val d))) (k : wS (g env) N R) : wS (sFrz i g env) N R := by rw [wS_frz' h]; exact k
theorem iR_call {fr : Bool} {ms : List Bool} {G : List D → DR} {f : AF} {P : D × DEnv → Prop} (hh : wR (f env) fun p => (ownIx p.1).Nodup ∧ wR (readG p.2 ms p.1) fun ds => wD (G ds) fun b d os => (fr = true → b = true) ∧ wR (writeG (ownIx p.1) os p.2) fun e => P (d, e)) : wR (callR fr ms G f env) P := by rw [wR_callR]; exact hh
theorem iD_of {r : DR} {fr : Bool} {d : D} {os : List D} {P : Bool → D → List D → Prop} (h : r = .ok fr d os) (k : P fr d os) : wD r P := by rw [h]; exact k
theorem iD_mono {r : DR} {P Q : Bool → D → List D → Prop} (h : wD r P) (k : ∀ fr d os, P fr d os → Q fr d os) : wD r Q := by
  cases r with
  | ok fr d os => exact k fr d os h
  | _ => exact h.elim
theorem iR_mono {r : Res α} {P Q : α → Prop} (h : wR r P) (k : ∀ a, P a → Q a) : wR r Q := wR_mono h k
theorem iR_dMul {i j : Int} {P : D → Prop} (h : (-(2 ^ 64) < i ∧ i < 2 ^ 64) ∨ (-(2 ^ 64) < j ∧ j < 2 ^ 64)) (k : P (.int (i * j))) : wR (dMul (.int i) (.int j)) P := by rw [dMul_i, if_pos h]; exact k
theorem iR_dDiv {i j : Int} {P : D → Prop} (h : j ≠ 0 ∧ j.natAbs < 2 ^ 64) (k : P (.int (i.fdiv j))) : wR (dDiv (.int i) (.int j)) P := by rw [dDiv_i, if_pos h]; exact k
theorem iR_dMod {i j : Int} {P : D → Prop} (h : j ≠ 0) (k : P (.int (i.fmod j))) : wR (dMod (.int i) (.int j)) P := by rw [dMod_i, if_pos h]; exact k
theorem iR_dPow {i j : Int} {P : D → Prop} (h : 0 ≤ j ∧ j ≤ 1000000 ∧ i.natAbs < 2 ^ 64) (k : P (.int (i ^ j.toNat))) : wR (dPow (.int i) (.int j)) P := by rw [dPow_i, if_pos h]; exact k
theorem iR_dAddl {ds es : List D} {P : D → Prop} (h : ds.length + es.length ≤ sizeLine) (k : P (.list (ds ++ es))) : wR (dAddA (.list ds) (.list es)) P := by rw [dAddA_l, if_pos h]; exact k
theorem iR_dAdds {x y : Str} {P : D → Prop} (h : x.length + y.length ≤ sizeLine) (k : P (.str (x ++ y))) : wR (dAddA (.str x) (.str y)) P := by rw [dAddA_s, if_pos h]; exact k
theorem iR_dCat {ds es : List D} {P : D → Prop} (h : ds.length + es.length ≤ sizeLine) (k : P (.list (ds ++ es))) : wR (dCat (.list ds) (.list es)) P := by rw [dCat_l, if_pos h]; exact k
theorem iR_app {ds : List D} {d : D} {P : D × List D → Prop} (h : ds.length < sizeLine) (k : P (.none, ds ++ [d])) : wR (mAppend ds [d]) P := by rw [mAppend_1, if_pos h]; exact k
theorem iR_eqi {i j : Int} {P : D → Prop} (k : P (.bool (i == j))) : wR (dEq (.int i) (.int j)) P := by rw [dEq_i]; exact k
theorem iR_nei {i j : Int} {P : D → Prop} (k : P (.bool (!(i == j)))) : wR (dNe (.int i) (.int j)) P := by rw [dNe_i]; exact k
theorem iR_eqs {i j : Str} {P : D → Prop} (k : P (.bool (i == j))) : wR (dEq (.str i) (.str j)) P := by rw [dEq_s]; exact k
theorem iR_nes {i j : Str} {P : D → Prop} (k : P (.bool (!(i == j)))) : wR (dNe (.str i) (.str j)) P := by rw [dNe_s]; exact k
theorem iR_eqb {i j : Bool} {P : D → Prop} (k : P (.bool (i == j))) : wR (dEq (.bool i) (.bool j)) P := by rw [dEq_b]; exact k
theorem iR_neb {i j : Bool} {P : D → Prop} (k : P (.bool (!(i == j)))) : wR (dNe (.bool i) (.bool j)) P := by rw [dNe_b]; exact k
theorem iR_ixl {ds : List D} {i : Int} {d : D} {P : D → Prop} (h : atI ds i = some d) (k : P d) : wR (dIx (.list ds) (.int i)) P := by rw [dIx_l, h]; exact k
theorem iR_ixt {ds : List D} {i : Int} {d : D} {P : D → Prop} (h : atI ds i = some d) (k : P d) : wR (dIx (.tuple ds) (.int i)) P := by rw [dIx_t, h]; exact k
theorem ifd {c A B : Prop} [Decidable c] (h1 : c → A) (h2 : ¬ c → B) : if decide c = true then A else B := by
  by_cases h : c
  · rw [if_pos (decide_eq_true h)]; exact h1 h
  · rw [if_neg (by rw [decide_eq_false h]; decide)]; exact h2 h
theorem ifb {b : Bool} {A B : Prop} (h1 : b = true → A) (h2 : b = false → B) : if b = true then A else B := by
  cases b with
  | true => rw [if_pos rfl]; exact h1 rfl
  | false => rw [if_neg Bool.false_ne_true]; exact h2 rfl
/-- a cut: what holds behind a statement is all that is kept -/
theorem iS_cut {r : SR} {M : DEnv → Prop} (h : wS r M R) (k : ∀ e, M e → N e) : wS r N R := by
  cases r with
  | nx e => exact k e h
  | ret fr d e => exact h
  | _ => exact h.elim
theorem iS_for {tg : GF} {b : SF} (I : List D → DEnv → Prop) {ds : List D} {e : DEnv} (h0 : I ds e) (hs : ∀ d ds e, I (d :: ds) e → wR (tg d e) fun e1 => wS (b e1) (I ds) R) (hd : ∀ e, I [] e → N e) : wS (forG tg b ds e) N R := by
  induction ds generalizing e with
  | nil => exact hd e h0
  | cons d ds ih =>
    have h1 := hs d ds e h0
    show wS (match tg d e with | .ok e1 => (match b e1 with | .nx e2 => forG tg b ds e2 | .ct e2 => forG tg b ds e2 | .bk e2 => .nx e2 | .ret fr d e2 => .ret fr d e2 | .exc c xs => .exc c xs | .stuck => .stuck) | _ => .stuck) N R
    cases q : tg d e with
    | ok e1 =>
      rw [q] at h1
      have h1 : wS (b e1) (I ds) R := h1
      dsimp only
      cases q2 : b e1 with
      | nx e2 => rw [q2] at h1; exact ih h1
      | ret fr x e2 => rw [q2] at h1; exact h1
      | ct e2 => rw [q2] at h1; exact h1.elim
      | bk e2 => rw [q2] at h1; exact h1.elim
      | exc c xs => rw [q2] at h1; exact h1.elim
      | stuck => rw [q2] at h1; exact h1.elim
    | exc c xs => rw [q] at h1; exact h1.elim
    | stuck => rw [q] at h1; exact h1.elim
/-- a comprehension: each item's value is told by h, kept or left out -/
theorem iR_lc {vs : List Nat} {f : IF} {tg : GF} {tt : TF} {el : EF} {P : D × DEnv → Prop} (h : wR (f env) fun p => noOwn p.2 vs = true ∧ wR (lcG vs tg tt el p.1 [] (wipeE p.2 vs)) fun q => P (.list q.1, restore p.2 q.2 vs)) : wR (eLc vs f tg tt el env) P := by
  show wR ((f env).bind _) P
  refine iR_bind (wR_mono h fun p hp => ?_)
  rw [if_pos hp.1]
  exact iR_bind hp.2
theorem iR_lcG {vs : List Nat} {tg : GF} {tt : TF} {el : EF} (I : List D → List D → DEnv → Prop) {P : List D × DEnv → Prop} {ds acc : List D} {e : DEnv} (h0 : I ds acc e)
    (hs : ∀ d ds acc e, I (d :: ds) acc e → wR (tg d e) fun e1 => wR (tt e1) fun p => if p.1 = true then wR (el p.2) fun q => acc.length < sizeLine ∧ I ds (acc ++ [q.1]) (wipeE q.2 vs) else I ds acc (wipeE p.2 vs)) (hd : ∀ acc e, I [] acc e → P (acc, e)) : wR (lcG vs tg tt el ds acc e) P := by
  induction ds generalizing acc e with
  | nil => exact hd acc e h0
  | cons d ds ih =>
    have h1 := hs d ds acc e h0
    show wR ((tg d e).bind _) P
    refine iR_bind (wR_mono h1 fun e1 h2 => iR_bind (wR_mono h2 fun p h3 => ?_))
    by_cases c : p.1 = true
    · rw [if_pos c] at h3 ⊢
      refine iR_bind (wR_mono h3 fun q h4 => ?_)
      rw [if_pos h4.1]
      exact ih h4.2
    · rw [if_neg c] at h3 ⊢
      exact ih h3
end
end DL
set_option autoImplicit false
namespace DL
open PySem PySem.Spec L2
section
variable {env : DEnv}
theorem eR_getV {i : Nat} {P : D × DEnv → Prop} (h : ∃ d, env[i]? = some (some (.val d)) ∧ P (d, env)) : wR (getV i env) P := by obtain ⟨d, h, k⟩ := h; exact iR_getV h k
theorem eR_getCv {i : Nat} {P : D × DEnv → Prop} (h : ∃ d, env[i]? = some (some (.val d)) ∧ P (d, env)) : wR (getC i env) P := by obtain ⟨d, h, k⟩ := h; exact iR_getCv h k
theorem eR_getCo {i : Nat} {P : D × DEnv → Prop} (h : ∃ d, env[i]? = some (some (.own d)) ∧ P (d, env)) : wR (getC i env) P := by obtain ⟨d, h, k⟩ := h; exact iR_getCo h k
theorem eR_ownL {i : Nat} {P : List D → Prop} (h : ∃ d, env[i]? = some (some (.own (.list d))) ∧ P d) : wR (ownL i env) P := by obtain ⟨d, h, k⟩ := h; exact iR_ownL h k
theorem eR_cOwn {i : Nat} {g : AF} {P : List Arg × DEnv → Prop} (h : ∃ d, env[i]? = some (some (.own d)) ∧ wR (g env) fun q => P (.own i :: q.1, q.2)) : wR (cOwn i g env) P := by obtain ⟨d, h, k⟩ := h; exact iR_cOwn h k
theorem eR_readO {e : DEnv} {ms : List Bool} {i : Nat} {as : List Arg} {P : List D → Prop} (h : ∃ d, e[i]? = some (some (.own d)) ∧ wR (readG e ms as) fun ds => P (d :: ds)) : wR (readG e (true :: ms) (.own i :: as)) P := by obtain ⟨d, h, k⟩ := h; exact iR_readO h k
theorem eR_cellO {P : D → Prop} {o : Option (Option DCell)} (h : ∃ d, o = some (some (.own d)) ∧ P d) : wR (cellO o) P := by obtain ⟨d, h, k⟩ := h; exact iR_cellO h k
theorem eR_of {α : Type} {r : Res α} {P : α → Prop} (h : ∃ a, r = .ok a ∧ P a) : wR r P := by obtain ⟨d, h, k⟩ := h; exact iR_of h k
theorem eS_frz {N : DEnv → Prop} {R : Bool → D → DEnv → Prop} {i : Nat} {g : SF} (h : ∃ d, env[i]? = some (some (.own d)) ∧ wS (g (env.set i (some (.val d)))) N R) : wS (sFrz i g env) N R := by obtain ⟨d, h, k⟩ := h; exact iS_frz h k
theorem eS_frz' {N : DEnv → Prop} {R : Bool → D → DEnv → Prop} {i : Nat} {g : SF} (h : ∃ d, env[i]? = some (some (.val d)) ∧ wS (g env) N R) : wS (sFrz i g env) N R := by obtain ⟨d, h, k⟩ := h; exact iS_frz' h k
theorem iR_rng1 {j : Int} {P : List D → Prop} (h : -(2 ^ 62) ≤ j ∧ j < 2 ^ 62) (k : P (rngD 0 j.toNat)) : wR (rng1R [.int j]) P := by rw [rng1R_i, if_pos h]; exact k
theorem iR_rng2 {i j : Int} {P : List D → Prop} (h : -(2 ^ 62) ≤ i ∧ i < 2 ^ 62 ∧ -(2 ^ 62) ≤ j ∧ j < 2 ^ 62) (k : P (rngD i (j - i).toNat)) : wR (rng2R [.int i, .int j]) P := by rw [rng2R_i, if_pos h]; exact k
theorem iR_lRg2 {f h : EF} {P : D × DEnv → Prop} (hh : wR (f env) fun p => wR (h p.2) fun q => wR (intR p.1) fun i => wR (intR q.1) fun j => (-(2 ^ 62) ≤ i ∧ i < 2 ^ 62 ∧ -(2 ^ 62) ≤ j ∧ j < 2 ^ 62 ∧ (j - i).toNat ≤ 2 ^ 24) ∧ P (.list (rngD i (j - i).toNat), q.2)) : wR (lRg (rg2 f h) env) P := by
  show wR (((f env).bind _).bind _) P
  refine iR_bind (iR_bind (wR_mono hh fun p hp => iR_bind (wR_mono hp fun q hq => ?_)))
  rcases p with ⟨a, e⟩
  rcases q with ⟨b, e2⟩
  cases a with
  | int i =>
    cases b with
    | int j => exact iR_ok (iR_guard hq.1 (by exact hq.2))
    | _ => exact hq.elim
  | _ => exact hq.elim
theorem iR_slN {i : Nat} {g h : DEnv → Res (Option Int × DEnv)} {P : D × DEnv → Prop} (hh : wR (getC i env) fun _ => wR (g env) fun q => wR (h q.2) fun r => wR (getC i r.2) fun p => wR (slD p.1 q.1 r.1) fun d => P (d, r.2)) : wR (slN i g h env) P := by
  show wR ((getC i env).bind _) P
  exact iR_bind (wR_mono hh fun _ h1 => iR_bind (wR_mono h1 fun q h2 => iR_bind (wR_mono h2 fun r h3 => iR_bind (wR_mono h3 fun p h4 => iR_bind (wR_mono h4 fun d h5 => h5)))))
theorem iR_oNone {P : Option Int × DEnv → Prop} (h : P (none, env)) : wR (oNone env) P := h
theorem iR_oSome {f : EF} {P : Option Int × DEnv → Prop} (h : wR (f env) fun p => wR (intR p.1) fun i => P (some i, p.2)) : wR (oSome f env) P := by
  show wR ((f env).bind _) P
  refine iR_bind (wR_mono h fun p hp => ?_)
  rcases p with ⟨a, e⟩
  cases a with
  | int i => exact hp
  | _ => exact hp.elim
theorem intsD_map : ∀ ns : List Int, intsD (ns.map PyData.int) = some ns
  | [] => rfl
  | n :: ns => by show (intsD (ns.map PyData.int)).map _ = _; rw [intsD_map ns]; rfl
theorem iR_minL {n : Int} {ns : List Int} {ds : List D} {P : D → Prop} (e : ds = (n :: ns).map PyData.int) (k : P (.int (ns.foldl min n))) : wR (dMinL (.list ds)) P := by
  subst e; show wR (match intsD ((n :: ns).map PyData.int) with | some (n :: ns) => _ | _ => _) P; rw [intsD_map]; exact k
theorem iR_maxL {n : Int} {ns : List Int} {ds : List D} {P : D → Prop} (e : ds = (n :: ns).map PyData.int) (k : P (.int (ns.foldl max n))) : wR (dMaxL (.list ds)) P := by
  subst e; show wR (match intsD ((n :: ns).map PyData.int) with | some (n :: ns) => _ | _ => _) P; rw [intsD_map]; exact k
theorem iR_eqA {a b : D} {P : D → Prop} (ha : okEq a = true) (hb : okEq b = true) (k : P (.bool (PyData.eqv a b))) : wR (dEq a b) P := by
  unfold dEq; rw [ha, hb, Bool.and_self, Bool.or_true, if_pos rfl]; exact k
theorem iR_neA {a b : D} {P : D → Prop} (ha : okEq a = true) (hb : okEq b = true) (k : P (.bool (!PyData.eqv a b))) : wR (dNe a b) P := by
  unfold dNe; rw [ha, hb, Bool.and_self, Bool.or_true, if_pos rfl]; exact k
theorem iR_isi_t {T : String} {a : D} {P : D → Prop} (h : dIsi T a = .ok (.bool true)) (k : P (.bool true)) : wR (dIsi T a) P := by rw [h]; exact k
theorem iR_isi_f {T : String} {a : D} {P : D → Prop} (h : dIsi T a = .ok (.bool false)) (k : P (.bool false)) : wR (dIsi T a) P := by rw [h]; exact k
theorem if_ct {b : Bool} {A B : Prop} (h : b = true) (k : A) : if b = true then A else B := by rw [if_pos h]; exact k
theorem if_cf {b : Bool} {A B : Prop} (h : b = false) (k : B) : if b = true then A else B := by rw [if_neg (by rw [h]; exact Bool.false_ne_true)]; exact k
theorem if_t {A B : Prop} (h : A) : if true = true then A else B := by rw [if_pos rfl]; exact h
theorem if_f {A B : Prop} (h : B) : if false = true then A else B := by rw [if_neg Bool.false_ne_true]; exact h
/-- a walk with a count: I j = what holds before the item j -/
theorem iS_forL {tg : GF} {b : SF} {N : DEnv → Prop} {R : Bool → D → DEnv → Prop} (I : Nat → DEnv → Prop) {ds : List D} {e : DEnv} (h0 : I 0 e) (hs : ∀ j d e, ds[j]? = some d → I j e → wR (tg d e) fun e1 => wS (b e1) (I (j + 1)) R) (hd : ∀ e, I ds.length e → N e) : wS (forG tg b ds e) N R := by
  refine iS_for (fun rest e => ∃ j, rest = ds.drop j ∧ j ≤ ds.length ∧ I j e) ⟨0, rfl, Nat.zero_le _, h0⟩ ?_ ?_
  · rintro d rest e ⟨j, hj, hl, hI⟩
    have q : ds[j]? = some d := by
      rw [← List.head?_drop, ← hj]; rfl
    have r : rest = ds.drop (j + 1) := by
      rw [← List.tail_drop, ← hj]; rfl
    refine iR_mono (hs j d e q hI) fun e1 h1 => iS_cut h1 fun e2 h2 => ⟨j + 1, r, ?_, h2⟩
    rw [List.getElem?_eq_some_iff] at q
    obtain ⟨q, _⟩ := q
    omega
  · rintro e ⟨j, hj, hl, hI⟩
    have : ds.length ≤ j := List.drop_eq_nil_iff.1 hj.symm
    exact hd e (by rwa [show ds.length = j by omega])
theorem rngD_at {lo : Int} {n j : Nat} {d : D} (h : (rngD lo n)[j]? = some d) : d = .int (lo + (j : Int)) ∧ j < n := by
  unfold rngD at h
  rw [List.getElem?_map] at h
  cases q : (List.range n)[j]? with
  | none => rw [q] at h; cases h
  | some x =>
    rw [q] at h
    rw [List.getElem?_eq_some_iff] at q
    obtain ⟨q, r⟩ := q
    rw [List.getElem_range] at r
    subst r
    cases h
    exact ⟨rfl, by rwa [List.length_range] at q⟩
theorem rngD_len {lo : Int} {n : Nat} : (rngD lo n).length = n := by unfold rngD; rw [List.length_map, List.length_range]
theorem iS_forN {tg : GF} {b : SF} {N : DEnv → Prop} {R : Bool → D → DEnv → Prop} (I : Nat → DEnv → Prop) {lo : Int} {n : Nat} {e : DEnv} (h0 : I 0 e) (hs : ∀ j e, j < n → I j e → wR (tg (.int (lo + (j : Int))) e) fun e1 => wS (b e1) (I (j + 1)) R) (hd : ∀ e, I n e → N e) : wS (forG tg b (rngD lo n) e) N R :=
  iS_forL I h0 (fun j d e h hI => by obtain ⟨rfl, hj⟩ := rngD_at h; exact hs j e hj hI) (fun e h => hd e (by rwa [rngD_len] at h))
/-- a comprehension with a count: I j acc -/
theorem iR_lcL {vs : List Nat} {tg : GF} {tt : TF} {el : EF} (I : Nat → List D → DEnv → Prop) {P : List D × DEnv → Prop} {ds : List D} {e : DEnv} (h0 : I 0 [] e)
    (hs : ∀ j d acc e, ds[j]? = some d → I j acc e → wR (tg d e) fun e1 => wR (tt e1) fun p => if p.1 = true then wR (el p.2) fun q => acc.length < sizeLine ∧ I (j + 1) (acc ++ [q.1]) (wipeE q.2 vs) else I (j + 1) acc (wipeE p.2 vs)) (hd : ∀ acc e, I ds.length acc e → P (acc, e)) : wR (lcG vs tg tt el ds [] e) P := by
  refine iR_lcG (fun rest acc e => ∃ j, rest = ds.drop j ∧ j ≤ ds.length ∧ I j acc e) ⟨0, rfl, Nat.zero_le _, h0⟩ ?_ ?_
  · rintro d rest acc e ⟨j, hj, hl, hI⟩
    have q : ds[j]? = some d := by
      rw [← List.head?_drop, ← hj]; rfl
    have r : rest = ds.drop (j + 1) := by
      rw [← List.tail_drop, ← hj]; rfl
    have hl : j + 1 ≤ ds.length := by
      have q2 := q
      rw [List.getElem?_eq_some_iff] at q2
      obtain ⟨q2, _⟩ := q2
      omega
    refine iR_mono (hs j d acc e q hI) fun e1 h1 => iR_mono h1 fun p h2 => ?_
    by_cases c : p.1 = true
    · rw [if_pos c] at h2 ⊢
      exact iR_mono h2 fun q h3 => ⟨h3.1, j + 1, r, hl, h3.2⟩
    · rw [if_neg c] at h2 ⊢
      exact ⟨j + 1, r, hl, h2⟩
  · rintro acc e ⟨j, hj, hl, hI⟩
    have : ds.length ≤ j := List.drop_eq_nil_iff.1 hj.symm
    exact hd acc e (by rwa [show ds.length = j by omega])
theorem iR_lcN {vs : List Nat} {tg : GF} {tt : TF} {el : EF} (I : Nat → List D → DEnv → Prop) {P : List D × DEnv → Prop} {lo : Int} {n : Nat} {e : DEnv} (h0 : I 0 [] e)
    (hs : ∀ j acc e, j < n → I j acc e → wR (tg (.int (lo + (j : Int))) e) fun e1 => wR (tt e1) fun p => if p.1 = true then wR (el p.2) fun q => acc.length < sizeLine ∧ I (j + 1) (acc ++ [q.1]) (wipeE q.2 vs) else I (j + 1) acc (wipeE p.2 vs)) (hd : ∀ acc e, I n acc e → P (acc, e)) : wR (lcG vs tg tt el (rngD lo n) [] e) P :=
  iR_lcL I h0 (fun j d acc e h hI => by obtain ⟨rfl, hj⟩ := rngD_at h; exact hs j acc e hj hI) (fun acc e h => hd acc e (by rwa [rngD_len] at h))
theorem iR_lcNil {vs : List Nat} {tg : GF} {tt : TF} {el : EF} {acc : List D} {e : DEnv} {P : List D × DEnv → Prop} (h : P (acc, e)) : wR (lcG vs tg tt el [] acc e) P := h
theorem iR_lcCons {vs : List Nat} {tg : GF} {tt : TF} {el : EF} {d : D} {ds acc : List D} {e : DEnv} {P : List D × DEnv → Prop} (h : wR (tg d e) fun e1 => wR (tt e1) fun p => if p.1 = true then wR (el p.2) fun q => acc.length < sizeLine ∧ wR (lcG vs tg tt el ds (acc ++ [q.1]) (wipeE q.2 vs)) P else wR (lcG vs tg tt el ds acc (wipeE p.2 vs)) P) : wR (lcG vs tg tt el (d :: ds) acc e) P := by
  show wR ((tg d e).bind _) P
  refine iR_bind (wR_mono h fun e1 h2 => iR_bind (wR_mono h2 fun p h3 => ?_))
  by_cases c : p.1 = true
  · rw [if_pos c] at h3 ⊢
    refine iR_bind (wR_mono h3 fun q h4 => ?_)
    rw [if_pos h4.1]
    exact h4.2
  · rw [if_neg c] at h3 ⊢
    exact h3
theorem iR_yesT {P : Bool × DEnv → Prop} (h : P (true, env)) : wR (yesT env) P := h
theorem iS_forNil {tg : GF} {b : SF} {N : DEnv → Prop} {R : Bool → D → DEnv → Prop} {e : DEnv} (h : N e) : wS (forG tg b [] e) N R := h
theorem dataLe_ints (a b : Int) : PySem.W.dataLe false id (PyData.int a) (PyData.int b) = decide (a ≤ b) := congrFun (congrFun (PySem.W.dataLe_int (fun b : Int => b)) a) b
theorem dSorted_ints (ns : List Int) : dSorted (.list (ns.map PyData.int)) = .ok (.list ((ns.mergeSort fun a b => decide (a ≤ b)).map PyData.int)) := by
  unfold dSorted
  have h1 : PySem.W.AllAlike (ns.map PyData.int) := PySem.W.AllAlike.of (fun _ _ => rfl)
  have h2 : PySem.W.Sortable (ns.map PyData.int) := PySem.W.Sortable.others (fun _ => ⟨fun h => (nomatch h), fun _ h => (nomatch h)⟩)
  have h3 : ∀ d ∈ ns.map PyData.int, d.depth ≤ 60 ∧ plainD d = true := fun d hd => by
    obtain ⟨i, _, rfl⟩ := List.mem_map.1 hd
    exact ⟨by show PyData.depth (.int i) ≤ 60; simp [PyData.depth], rfl⟩
  dsimp only
  rw [if_pos ⟨h1, h2, h3⟩, List.map_mergeSort (s := PySem.W.dataLe false id) (fun a _ b _ => (dataLe_ints a b).symm)]
/-- data that == takes, with at most k levels -/
def okD (k : Nat) (d : D) : Prop := plainD d = true ∧ d.canLay0 = true ∧ d.depth ≤ k
theorem okEq_of {k : Nat} {d : D} (h : okD k d) (hk : k ≤ 64) : okEq d = true := by
  unfold okEq SeqAt.shaped
  rw [h.1, h.2.1, decide_eq_true (Nat.le_trans h.2.2 hk)]; rfl
theorem okD_int {i : Int} : okD 0 (.int i) := ⟨rfl, rfl, Nat.le_of_eq (by simp [PyData.depth])⟩
theorem okD_bool {i : Bool} : okD 0 (.bool i) := ⟨rfl, rfl, Nat.le_of_eq (by simp [PyData.depth])⟩
theorem okD_none : okD 0 .none := ⟨rfl, rfl, Nat.le_of_eq (by simp [PyData.depth])⟩
theorem okDs {k : Nat} : ∀ {ds : List D}, (∀ d ∈ ds, okD k d) → plainDs ds = true ∧ PyData.canLayAll0 ds = true ∧ PyData.depthAll ds ≤ k
  | [], _ => ⟨rfl, rfl, by simp [PyData.depthAll]⟩
  | d :: ds, h => by
    obtain ⟨a, b, c⟩ := h d List.mem_cons_self
    obtain ⟨a2, b2, c2⟩ := okDs fun e he => h e (List.mem_cons_of_mem _ he)
    refine ⟨?_, ?_, ?_⟩
    · show (plainD d && plainDs ds) = true; rw [a, a2]; rfl
    · show (PyData.canLay0 d && PyData.canLayAll0 ds) = true; rw [b, b2]; rfl
    · simp only [PyData.depthAll]; exact Nat.max_le.2 ⟨c, c2⟩
theorem okD_list {k : Nat} {ds : List D} (h : ∀ d ∈ ds, okD k d) : okD (k + 1) (.list ds) := by
  obtain ⟨a, b, c⟩ := okDs h
  refine ⟨?_, ?_, ?_⟩
  · simpa [plainD] using a
  · simpa [PyData.canLay0] using b
  · simp only [PyData.depth]; omega
theorem okD_tup {k : Nat} {ds : List D} (h : ∀ d ∈ ds, okD k d) : okD (k + 1) (.tuple ds) := by
  obtain ⟨a, b, c⟩ := okDs h
  refine ⟨?_, ?_, ?_⟩
  · simpa [plainD] using a
  · simpa [PyData.canLay0] using b
  · simp only [PyData.depth]; omega
theorem okD_mono {k m : Nat} {d : D} (h : okD k d) (hk : k ≤ m) : okD m d := ⟨h.1, h.2.1, Nat.le_trans h.2.2 hk⟩
theorem okD_ints {ns : List Int} : okD 1 (.list (ns.map PyData.int)) := okD_list fun d hd => by
  obtain ⟨i, _, rfl⟩ := List.mem_map.1 hd
  exact okD_int
theorem eqv_ints : ∀ {xs ys : List Int}, PyData.eqvAll (xs.map PyData.int) (ys.map PyData.int) = (xs == ys)
  | [], [] => by simp [PyData.eqvAll]
  | [], y :: ys => by simp [PyData.eqvAll]
  | x :: xs, [] => by simp [PyData.eqvAll]
  | x :: xs, y :: ys => by
    simp only [List.map_cons, PyData.eqvAll, PyData.eqv]
    rw [eqv_ints]; rfl
theorem eqvl_ints {xs ys : List Int} : PyData.eqv (.list (xs.map PyData.int)) (.list (ys.map PyData.int)) = (xs == ys) := by
  simp only [PyData.eqv]; exact eqv_ints
theorem eqv_nil {ds : List D} : PyData.eqv (.list ds) (.list []) = ds.isEmpty := by
  cases ds <;> simp [PyData.eqv, PyData.eqvAll]
/-- an if whose ways are joined behind it -/
theorem ifcut {b : Bool} {A B : SR} {N : DEnv → Prop} {R : Bool → D → DEnv → Prop} (M : DEnv → Prop) (h1 : b = true → wS A M R) (h2 : b = false → wS B M R) (k : ∀ e, M e → N e) : if b = true then wS A N R else wS B N R := by
  cases b with
  | true => rw [if_pos rfl]; exact iS_cut (h1 rfl) k
  | false => rw [if_neg Bool.false_ne_true]; exact iS_cut (h2 rfl) k
end
end DL
set_option autoImplicit false
namespace DL
open PySem PySem.Spec L2
/-! ### a law that starts with deck = _law_deck(script) -/
def deckD (ns : List Int) : List D := [.list (ns.map PyData.int), .int 0, .int 0, .int 7]
def spDeck (K : PySem.W.Frag) : Sp := fun vs H Q _ => ∃ (a : Addr) (ns : List Int), vs = [.ref a] ∧ SqL K H a (ns.map V.int) ∧
  ∀ (D0 : Addr) (us : List V) (H' : Hp), H D0 = none → (∀ b o, H b = some o → H' b = some o) → H' D0 = some (.lst us) → Reps K (fun b => b = D0) H' us (deckD ns) → Q (.ref D0) H'
def spLaw (K : PySem.W.Frag) : Sp := fun vs H Q _ => ∃ (a : Addr) (ns : List Int), vs = [.ref a] ∧ SqL K H a (ns.map V.int) ∧ ns.length ≤ 63 ∧ ∀ H', Q (.bl true) H'
section
variable {K : PySem.W.Frag} {H : Hp} {a : Addr} {ns : List Int}
theorem reps_ns {O : Own} {H : Hp} : ∀ ns : List Int, Reps K O H (ns.map V.int) (ns.map PyData.int)
  | [] => .nil
  | n :: ns => .cons (.int n) (reps_ns ns)
theorem upd_none0 {H : Hp} {a b : Addr} {o : HO} (e : upd H a o b = none) : H b = none := by
  by_cases h : b = a
  · subst h; rw [upd_same] at e; cases e
  · rwa [upd_ne h] at e
theorem deck_reps {l p : Addr} (hl : H l = none) (hp : upd H l (.lst (ns.map V.int)) p = none) : (∀ b o, H b = some o → upd (upd H l (.lst (ns.map V.int))) p (.lst [.ref l, .int 0, .int 0, .int 7]) b = some o) ∧
    Reps K (fun b => b = p) (upd (upd H l (.lst (ns.map V.int))) p (.lst [.ref l, .int 0, .int 0, .int 7])) [.ref l, .int 0, .int 0, .int 7] (deckD ns) := by
  have hlp : l ≠ p := fun e => by
    subst e
    rw [upd_same] at hp
    cases hp
  have hHp : H p = none := by rwa [upd_ne (Ne.symm hlp)] at hp
  refine ⟨fun b o h => ?_, .cons (.lst ⟨?_, hlp⟩ (reps_ns ns)) (.cons (.int 0) (.cons (.int 0) (.cons (.int 7) .nil)))⟩
  · have h1 : b ≠ p := fun e => by rw [e, hHp] at h; cases h
    have h2 : b ≠ l := fun e => by rw [e, hl] at h; cases h
    rw [upd_ne h1, upd_ne h2]; exact h
  · rw [upd_ne hlp, upd_same]
theorem law_read {N : List Str} {t : TS} {G : SF} {E : XK} {Q : VK} (hn : 1 < N.length) (ha : SqL K H a (ns.map V.int)) (hd : SDen K (fun _ _ _ => False) [] t G) (hG : ∃ e, G ((List.replicate N.length none).set 1 (some (.own (.list (deckD ns))))) = .ret false (.bool true) e) (k : ∀ H', Q (.bl true) H') :
    (tSeq (tAsg (tCall (spDeck K) [] E (tCons (tVar 0) tNil)) (gName 1)) t) { nx := fun _ H' => Q .non H', rt := Q } (start N [.ref a]) H := by
  obtain ⟨e, hG⟩ := hG
  refine ⟨.ref a, ?_, a, ns, rfl, ha, fun D0 us H' h0 s hD r => ?_⟩
  · unfold L2.start; rfl
  refine hd ⟨fun _ => False, H, []⟩ _ H' _ (fun b => b = D0) _ rfl (at_law (n := N.length) (by unfold L2.start; simp; omega) hn h0 s hD r) ?_
  rw [hG]
  intro σ' v H2 O' A' s' r'
  cases r'
  exact k _
theorem law_ret {r : SR} (h : wS r (fun e => endR [false] false .none e = .ok false (.bool true) []) (fun f x e => endR [false] f x e = .ok false (.bool true) [])) : ∃ e, r = .ret false (.bool true) e := by
  cases r with
  | nx e => cases h
  | ret fr d e => cases h; exact ⟨e, rfl⟩
  | _ => exact h.elim
end
end DL
namespace D51
open PySem PySem.Spec L2 DL
def top (i : Nat) : Stmt := PySem.Challenge.pw_retroact_k51_forms_and_intervals.main.body.getD i (.Pass ⟨0, 0, 0, 0⟩)
abbrev sValueAt : Stmt := top 1
abbrev sBounds : Stmt := top 2
abbrev sPartAtLeast : Stmt := top 3
abbrev sPartsRange : Stmt := top 4
abbrev sUnited : Stmt := top 5
abbrev sLDeck : Stmt := top 7
abbrev sLDraw : Stmt := top 8
abbrev sLSame : Stmt := top 9
abbrev sLSameList : Stmt := top 10
abbrev sLIntervals : Stmt := top 11
abbrev sLaw : Stmt := top 12
section
variable {P : Program} {w : World} {K : PySem.W.Frag} {mg : Str → Option Value} {base : Heap}
/-! ### value_at -/
theorem scValueAt : FnScope ["form", "u", "slope", "start"] ["form", "u"] (defScope sValueAt) := ⟨rfl, rfl, rfl, by decide +kernel, rfl, by decide +kernel, by decide +kernel⟩
def GValueAt : SF :=
 (sSeq (sAsg (getV 0) (gT 2 (gsCons (gN 2) (gsCons (gN 3) gsNil))))
 (sRet (ap2 (ap2N 2 (getC 1) dMul) (getC 3) dAddA)))
def RValueAt : List D → DR := runF 4 [false, false] GValueAt
theorem okValueAt {f : Addr} {fd : FuncData} (F : Fun K "value_at" "value_at" sValueAt f fd) (T : DTxt mg) : FnOk P w K mg base CX0 1 f fd ["form", "u"] (spD K [false, false] RValueAt) :=
  fn_den F scValueAt rfl fun cdv A outer s H E hr => ⟨_, (pss_cons (ps_asg (pv 0) (pg_tup rfl (pgs_cons (pg_name (i := 2) scValueAt.nd rfl (Or.inl rfl)) (pgs_cons (pg_name (i := 3) scValueAt.nd rfl (Or.inl rfl)) pgs_nil))))
 (pss_one (ps_ret (pe_op op_addA (pe_op op_mul (pv 2) (pv 1)) (pv 3))))),
 (sden_seq (sden_asg den_var (gden_tup (gsden_cons (gden_name (by decide)) (gsden_cons (gden_name (by decide)) gsden_nil))))
 (sden_ret (den_op s2_addA dAddA_x (den_opN s2_mul dMul_x denB_var) denB_var)))⟩
/-! ### bounds -/
theorem scBounds : FnScope ["form", "interval", "ends", "u"] ["form", "interval"] (defScope sBounds) := ⟨rfl, rfl, rfl, by decide +kernel, rfl, by decide +kernel, by decide +kernel⟩
noncomputable def GBounds : SF :=
 (sSeq (sSet 2 (ap1 (eLc [3] (asI (getV 1)) (gN 3) yesT (callR false [false, false] RValueAt (cVal (getV 0) (cVal (getV 3) cNil)))) dSorted))
 (sRet (apA (aCons (ap2N 2 (kst (.int 0)) dIx) (aCons (ap2N 2 (kst (.int 1)) dIx) aNil)) mkT)))
noncomputable def RBounds : List D → DR := runF 4 [false, false] GBounds
theorem okBounds {f : Addr} {fd : FuncData} (F : Fun K "bounds" "bounds" sBounds f fd) (T : DTxt mg)
    {fValueAt : Addr} {fdValueAt : FuncData} (G_ValueAt : FnOk P w K mg base CX0 1 fValueAt fdValueAt ["form", "u"] (spD K [false, false] RValueAt)) (L_ValueAt : Cal K mg "value_at" fValueAt fdValueAt ["form", "u"]) : FnOk P w K mg base CX0 2 f fd ["form", "interval"] (spD K [false, false] RBounds) :=
  fn_den F scBounds rfl fun cdv A outer s H E hr => ⟨_, (pss_cons (ps_set (i := 2) scBounds.nd rfl (Or.inl rfl) (pe_callB (RX.cr_sortedD (β := D) (enc := id) (hu66 hr)) rfl T.zsorted boot_sorted0 (pa_cons (pe_lc (own := [("u", 3)]) (g := gName 3) (tt := tYes) rfl scBounds.nd (pi_any (pv 1)) (blkOk_by (own := [("u", 3)]) (N := ["form", "interval", "ends", "u"]) (sc := defScope sBounds) (by decide +kernel)) (fun _ _ _ _ _ => (pg_name (i := 3) scBounds.nd rfl (Or.inl rfl))) (fun _ _ _ _ _ => pts_nil) (fun _ _ _ _ _ => (pe_call G_ValueAt hr rfl L_ValueAt.g L_ValueAt.k L_ValueAt.b .nil pass0 (pa_cons (pv 0) (pa_cons (pv 3) pa_nil))))) pa_nil)))
 (pss_one (ps_ret (pe_tup (pa_cons (pe_ix ix_any (pv 2) pe_int (fun _ _ => rfl)) (pa_cons (pe_ix ix_any (pv 2) pe_int (fun _ _ => rfl)) pa_nil)))))),
 (sden_seq (sden_set (den_cb1 sb_sorted dSorted_x (Dn.b (DenF.den (denF_lc (ws := [3]) (denI_any den_var) (fun _ h => (gden_name (h _ (by decide)))) gok_name (by decide) den_yes (den_call (fr := false) (denC_val den_var (denC_val den_var denC_nil))))))) (by decide))
 (sden_ret (den_tup (den_cons (den_opN s2_ix dIx_x (Dn.b den_int)) (den_cons (den_opN s2_ix dIx_x (Dn.b den_int)) den_nil)))))⟩
/-! ### part_at_least -/
theorem scPartAtLeast : FnScope ["form", "interval", "slope", "start", "least", "greatest"] ["form", "interval"] (defScope sPartAtLeast) := ⟨rfl, rfl, rfl, by decide +kernel, rfl, by decide +kernel, by decide +kernel⟩
def GPartAtLeast : SF :=
 (sSeq (sAsg (getV 0) (gT 2 (gsCons (gN 2) (gsCons (gN 3) gsNil))))
 (sSeq (sAsg (getV 1) (gT 2 (gsCons (gN 4) (gsCons (gN 5) gsNil))))
 (sSeq (sIf (asB (ap2N 2 (kst (.int 0)) dGt))
 (sSet 4 (apA (aCons (getV 4) (aCons (ap1 (ap2N 3 (getC 2) dDiv) dNeg) aNil)) dMax2))
 (sIf (asB (ap2N 2 (kst (.int 0)) dLt))
 (sSet 5 (apA (aCons (getV 5) (aCons (ap2N 3 (ap1 (getC 2) dNeg) dDiv) aNil)) dMin2))
 (sIf (asB (ap2N 3 (kst (.int 0)) dLt))
 (sRet (kst .none))
 sNext)))
 (sRet (ifE (asB (ap2N 4 (getC 5) dLe)) (apA (aCons (getV 4) (aCons (getV 5) aNil)) mkT) (kst .none))))))
def RPartAtLeast : List D → DR := runF 6 [false, false] GPartAtLeast
theorem okPartAtLeast {f : Addr} {fd : FuncData} (F : Fun K "part_at_least" "part_at_least" sPartAtLeast f fd) (T : DTxt mg) : FnOk P w K mg base CX0 1 f fd ["form", "interval"] (spD K [false, false] RPartAtLeast) :=
  fn_den F scPartAtLeast rfl fun cdv A outer s H E hr => ⟨_, (pss_cons (ps_asg (pv 0) (pg_tup rfl (pgs_cons (pg_name (i := 2) scPartAtLeast.nd rfl (Or.inl rfl)) (pgs_cons (pg_name (i := 3) scPartAtLeast.nd rfl (Or.inl rfl)) pgs_nil))))
 (pss_cons (ps_asg (pv 1) (pg_tup rfl (pgs_cons (pg_name (i := 4) scPartAtLeast.nd rfl (Or.inl rfl)) (pgs_cons (pg_name (i := 5) scPartAtLeast.nd rfl (Or.inl rfl)) pgs_nil))))
 (pss_cons (ps_if (pt_cmpR op_gt (pv 2) pe_int (nomark _))
 (pss_one (ps_set (i := 4) scPartAtLeast.nd rfl (Or.inl rfl) (pe_callB (call_max2 rfl) rfl T.zmax boot_max0 (pa_cons (pv 4) (pa_cons (pe_un un_neg (pe_op op_fdivG (pv 3) (pv 2))) pa_nil)))))
 (pss_one (ps_if (pt_cmpR op_lt (pv 2) pe_int (nomark _))
 (pss_one (ps_set (i := 5) scPartAtLeast.nd rfl (Or.inl rfl) (pe_callB (call_min2 rfl) rfl T.zmin boot_min0 (pa_cons (pv 5) (pa_cons (pe_op op_fdivG (pv 3) (pe_un un_neg (pv 2))) pa_nil)))))
 (pss_one (ps_if (pt_cmpR op_lt (pv 3) pe_int (nomark _))
 (pss_one (ps_ret pe_non))
 pss_nil)))))
 (pss_one (ps_ret (pe_ifExp (pt_cmpR op_le (pv 4) (pv 5) (nomark _)) (pe_tup (pa_cons (pv 4) (pa_cons (pv 5) pa_nil))) pe_non)))))),
 (sden_seq (sden_asg den_var (gden_tup (gsden_cons (gden_name (by decide)) (gsden_cons (gden_name (by decide)) gsden_nil))))
 (sden_seq (sden_asg den_var (gden_tup (gsden_cons (gden_name (by decide)) (gsden_cons (gden_name (by decide)) gsden_nil))))
 (sden_seq (sden_if (den_tst (Dn.b (den_opN s2_gt dGt_x (Dn.b den_int))))
 (sden_set (den_cb sa_max2 dMax2_x (den_cons den_var (den_cons (den_un s1_neg dNeg_x (Dn.b (den_opN s2_div dDiv_x denB_var))) den_nil))) (by decide))
 (sden_if (den_tst (Dn.b (den_opN s2_lt dLt_x (Dn.b den_int))))
 (sden_set (den_cb sa_min2 dMin2_x (den_cons den_var (den_cons (den_opN s2_div dDiv_x (Dn.b (den_un s1_neg dNeg_x denB_var))) den_nil))) (by decide))
 (sden_if (den_tst (Dn.b (den_opN s2_lt dLt_x (Dn.b den_int))))
 (sden_ret den_non)
 sden_next)))
 (sden_ret (den_ifE (den_tst (Dn.b (den_opN s2_le dLe_x denB_var))) (den_tup (den_cons den_var (den_cons den_var den_nil))) den_non)))))⟩
/-! ### parts_range -/
theorem scPartsRange : FnScope ["intervals", "least", "greatest", "due", "first", "last"] ["intervals", "least", "greatest"] (defScope sPartsRange) := ⟨rfl, rfl, rfl, by decide +kernel, rfl, by decide +kernel, by decide +kernel⟩
def GPartsRange : SF :=
 (sSeq (sSet 3 (getV 1))
 (sSeq (sFor (asI (getV 0)) (gT 2 (gsCons (gN 4) (gsCons (gN 5) gsNil)))
 (sSeq (sIf (orT (asB (ap2N 4 (getC 3) dNe)) (asB (ap2N 5 (getC 4) dLt)))
 (sRet (kst (.bool false)))
 sNext)
 (sSet 3 (ap2N 5 (kst (.int 1)) dAddA))))
 (sRet (ap2N 3 (apA (aCons (getV 1) (aCons (ap2N 2 (kst (.int 1)) dAddA) aNil)) dMax2) dEq))))
def RPartsRange : List D → DR := runF 6 [false, false, false] GPartsRange
theorem okPartsRange {f : Addr} {fd : FuncData} (F : Fun K "parts_range" "parts_range" sPartsRange f fd) (T : DTxt mg) : FnOk P w K mg base CX0 1 f fd ["intervals", "least", "greatest"] (spD K [false, false, false] RPartsRange) :=
  fn_den F scPartsRange rfl fun cdv A outer s H E hr => ⟨_, (pss_cons (ps_set (i := 3) scPartsRange.nd rfl (Or.inl rfl) (pv 1))
 (pss_cons (ps_for PassesOwn.never rfl (pi_any (pv 0)) (pg_tup rfl (pgs_cons (pg_name (i := 4) scPartsRange.nd rfl (Or.inl rfl)) (pgs_cons (pg_name (i := 5) scPartsRange.nd rfl (Or.inl rfl)) pgs_nil)))
 (pss_cons (ps_if (PW.pt (pw_or (pt_cmpR (op_neA hr.units : OpR _ _ (rNeA K)) (pv 4) (pv 3) (nomark _)) (pw_or1 (pt_cmpR op_lt (pv 5) (pv 4) (nomark _)))))
 (pss_one (ps_ret pe_bl))
 pss_nil)
 (pss_one (ps_set (i := 3) scPartsRange.nd rfl (Or.inl rfl) (pe_op op_addA (pv 5) pe_int)))))
 (pss_one (ps_ret (pe_cmpR (op_eqA hr.units : OpR _ _ (rEqA K)) (pv 3) (pe_callB (call_max2 rfl) rfl T.zmax boot_max0 (pa_cons (pv 1) (pa_cons (pe_op op_addA (pv 2) pe_int) pa_nil))) (nomark _)))))),
 (sden_seq (sden_set den_var (by decide))
 (sden_seq (sden_for (denI_any den_var) (gden_tup (gsden_cons (gden_name (by decide)) (gsden_cons (gden_name (by decide)) gsden_nil)))
 (sden_seq (sden_if (den_orT (den_tst (Dn.b (den_opN s2_ne dNe_x denB_var))) (den_tst (Dn.b (den_opN s2_lt dLt_x denB_var))))
 (sden_ret den_bl)
 sden_next)
 (sden_set (den_opN s2_addA dAddA_x (Dn.b den_int)) (by decide))))
 (sden_ret (den_opN s2_eq dEq_x (Dn.b (den_cb sa_max2 dMax2_x (den_cons den_var (den_cons (den_opN s2_addA dAddA_x (Dn.b den_int)) den_nil))))))))⟩
/-! ### united -/
theorem scUnited : FnScope ["intervals", "found", "first", "last"] ["intervals"] (defScope sUnited) := ⟨rfl, rfl, rfl, by decide +kernel, rfl, by decide +kernel, by decide +kernel⟩
def GUnited : SF :=
 (sSeq (sOwn 1 (apA aNil mkL))
 (sSeq (sFor (asI (getV 0)) (gT 2 (gsCons (gN 2) (gsCons (gN 3) gsNil)))
 (sIf (andT (truR (getC 1)) (asB (ap2 (ap2 (ap2 (ap2N 1 (ap1 (kst (.int 1)) dNeg) dIx) (kst (.int 1)) dIx) (kst (.int 1)) dAddA) (getC 2) dEq)))
 (sSub 1 (apA (aCons (ap2 (ap2N 1 (ap1 (kst (.int 1)) dNeg) dIx) (kst (.int 0)) dIx) (aCons (getV 3) aNil)) mkT) (ap1 (kst (.int 1)) dNeg))
 (sDrop (mtF 1 mAppend (aCons (apA (aCons (getV 2) (aCons (getV 3) aNil)) mkT) aNil)))))
 (sRetO 1)))
def RUnited : List D → DR := runF 4 [false] GUnited
theorem okUnited {f : Addr} {fd : FuncData} (F : Fun K "united" "united" sUnited f fd) (T : DTxt mg) : FnOk P w K mg base CX0 1 f fd ["intervals"] (spD K [false] RUnited) :=
  fn_den F scUnited rfl fun cdv A outer s H E hr => ⟨_, (pss_cons (ps_set (i := 1) scUnited.nd rfl (Or.inl rfl) (pe_lst pa_nil))
 (pss_cons (ps_for PassesOwn.never rfl (pi_any (pv 0)) (pg_tup rfl (pgs_cons (pg_name (i := 2) scUnited.nd rfl (Or.inl rfl)) (pgs_cons (pg_name (i := 3) scUnited.nd rfl (Or.inl rfl)) pgs_nil)))
 (pss_one (ps_if (PW.pt (pw_and (pt_truth (pv 1) (by intro _; rfl)) (pw_and1 (pt_cmpR (op_eqA hr.units : OpR _ _ (rEqA K)) (pe_op op_addA (pe_ix ix_any (pe_ix ix_any (pv 1) (pe_un un_neg pe_int) (fun _ _ => rfl)) pe_int (fun _ _ => rfl)) pe_int) (pv 2) (nomark _)))))
 (pss_one (ps_asg (pe_tup (pa_cons (pe_ix ix_any (pe_ix ix_any (pv 1) (pe_un un_neg pe_int) (fun _ _ => rfl)) pe_int (fun _ _ => rfl)) (pa_cons (pv 3) pa_nil))) (pg_sub (pv 1) (pe_un un_neg pe_int) set_list)))
 (pss_one (ps_expr (pe_bm PySem.F.plainAttrs_list PySem.F.slot_list_append PySem.F.type_list_append mt_append (pv 1) (pa_cons (pe_tup (pa_cons (pv 2) (pa_cons (pv 3) pa_nil))) pa_nil)))))))
 (pss_one (ps_ret (pv 1))))),
 (sden_seq (sden_own (denF_lst den_nil) (by decide))
 (sden_seq (sden_for (denI_any den_var) (gden_tup (gsden_cons (gden_name (by decide)) (gsden_cons (gden_name (by decide)) gsden_nil)))
 (sden_if (den_andT (den_tru denB_var) (den_tst (Dn.b (den_op s2_eq dEq_x (den_op s2_addA dAddA_x (den_op s2_ix dIx_x (den_opN s2_ix dIx_x (Dn.b (den_un s1_neg dNeg_x (Dn.b den_int)))) (Dn.b den_int)) (Dn.b den_int)) denB_var))))
 (sden_sub (den_tup (den_cons (den_op s2_ix dIx_x (den_opN s2_ix dIx_x (Dn.b (den_un s1_neg dNeg_x (Dn.b den_int)))) (Dn.b den_int)) (den_cons den_var den_nil))) (den_un s1_neg dNeg_x (Dn.b den_int)))
 (sden_drop (den_mt sm_append mAppend_x (den_cons (den_tup (den_cons den_var (den_cons den_var den_nil))) den_nil)))))
 (sden_retO (by decide))))⟩
/-! ### _law_deck -/
theorem scLDeck : FnScope ["script"] ["script"] (defScope sLDeck) := ⟨rfl, rfl, rfl, by decide +kernel, rfl, by decide +kernel, by decide +kernel⟩
def GLDeck : SF :=
 (sRetF (apA (aCons (ap1 (getC 0) dList) (aCons (kst (.int 0)) (aCons (kst (.int 0)) (aCons (kst (.int 7)) aNil)))) mkL))
def RLDeck : List D → DR := runF 1 [false] GLDeck
theorem okLDeck {f : Addr} {fd : FuncData} (F : Fun K "_law_deck" "_law_deck" sLDeck f fd) (T : DTxt mg) : FnOk P w K mg base CX0 1 f fd ["script"] (spD K [false] RLDeck) :=
  fn_den F scLDeck rfl fun cdv A outer s H E hr => ⟨_, (pss_one (ps_ret (pe_lst (pa_cons (pe_callTy call_list_of rfl T.zlist boot_list0 (pa_cons (pv 0) pa_nil)) (pa_cons pe_int (pa_cons pe_int (pa_cons pe_int pa_nil))))))),
 (sden_retF (denF_lst (den_cons (DenF.den (denF_cb1 nb_list dList_x denB_var)) (den_cons den_int (den_cons den_int (den_cons den_int den_nil))))))⟩
/-! ### _law_draw -/
theorem scLDraw : FnScope ["deck", "most", "value", "cell"] ["deck", "most"] (defScope sLDraw) := ⟨rfl, rfl, rfl, by decide +kernel, rfl, by decide +kernel, by decide +kernel⟩
def GLDraw : SF :=
 (sSeq (sIf (asB (ap2 (ap2N 0 (kst (.int 2)) dIx) (getC 1) dGe))
 (sSeq (sSet 2 (ap2 (ap1 (ap2N 0 (kst (.int 2)) dIx) dInt1) (getC 1) dMod))
 (sSeq (sSub 0 (ap2 (ap2N 0 (kst (.int 2)) dIx) (getC 1) dDiv) (kst (.int 2)))
 (sRet (getV 2))))
 sNext)
 (sSeq (sSet 3 (kst (.int 0)))
 (sSeq (sIf (asB (ap2 (ap2N 0 (kst (.int 1)) dIx) (ap1 (ap2N 0 (kst (.int 0)) dIx) dLen) dLt))
 (sSet 3 (ap2 (ap2N 0 (kst (.int 0)) dIx) (ap2N 0 (kst (.int 1)) dIx) dIx))
 sNext)
 (sSeq (sSub 0 (ap2 (ap2N 0 (kst (.int 1)) dIx) (kst (.int 1)) dAddA) (kst (.int 1)))
 (sSeq (sSub 0 (kst (.int 0)) (kst (.int 2)))
 (sSeq (sIf (asB (ap2N 3 (ap2 (kst (.int 10)) (kst (.int 18)) dPow) dGe))
 (sSeq (sSub 0 (ap2N 3 (getC 1) dDiv) (kst (.int 2)))
 (sRet (ap2 (ap1 (getC 3) dInt1) (getC 1) dMod)))
 sNext)
 (sSeq (sSub 0 (ap2 (ap1 (ap2 (ap2 (ap2 (ap2N 0 (kst (.int 3)) dIx) (kst (.int 48271)) dMul) (ap2N 3 (kst (.int 69621)) dMul) dAddA) (ap2 (ap2N 0 (kst (.int 1)) dIx) (kst (.int 911)) dMul) dAddA) dInt1) (kst (.int 2147483647)) dMod) (kst (.int 3)))
 (sSeq (sSub 0 (ap2 (ap1 (ap2 (ap2 (ap2N 0 (kst (.int 3)) dIx) (kst (.int 48271)) dMul) (kst (.int 12345)) dAddA) dInt1) (kst (.int 2147483647)) dMod) (kst (.int 3)))
 (sRet (ap2 (ap1 (ap2 (ap2N 0 (kst (.int 3)) dIx) (kst (.int 64)) dDiv) dInt1) (getC 1) dMod))))))))))
def RLDraw : List D → DR := runF 4 [true, false] GLDraw
theorem okLDraw {f : Addr} {fd : FuncData} (F : Fun K "_law_draw" "_law_draw" sLDraw f fd) (T : DTxt mg) : FnOk P w K mg base CX0 1 f fd ["deck", "most"] (spD K [true, false] RLDraw) :=
  fn_den F scLDraw rfl fun cdv A outer s H E hr => ⟨_, (pss_cons (ps_if (pt_cmpR op_ge (pe_ix ix_any (pv 0) pe_int (fun _ _ => rfl)) (pv 1) (nomark _))
 (pss_cons (ps_set (i := 2) scLDraw.nd rfl (Or.inl rfl) (pe_op op_modN (pe_callTy call_int1 rfl T.zint boot_int0 (pa_cons (pe_ix ix_any (pv 0) pe_int (fun _ _ => rfl)) pa_nil)) (pv 1)))
 (pss_cons (ps_asg (pe_op op_fdivG (pe_ix ix_any (pv 0) pe_int (fun _ _ => rfl)) (pv 1)) (pg_sub (pv 0) pe_int set_list))
 (pss_one (ps_ret (pv 2)))))
 pss_nil)
 (pss_cons (ps_set (i := 3) scLDraw.nd rfl (Or.inl rfl) pe_int)
 (pss_cons (ps_if (pt_cmpR op_lt (pe_ix ix_any (pv 0) pe_int (fun _ _ => rfl)) (pe_callB call_len_seq rfl T.zlen PySem.boot_len (pa_cons (pe_ix ix_any (pv 0) pe_int (fun _ _ => rfl)) pa_nil)) (nomark _))
 (pss_one (ps_set (i := 3) scLDraw.nd rfl (Or.inl rfl) (pe_ix ix_any (pe_ix ix_any (pv 0) pe_int (fun _ _ => rfl)) (pe_ix ix_any (pv 0) pe_int (fun _ _ => rfl)) (fun _ _ => rfl))))
 pss_nil)
 (pss_cons (ps_asg (pe_op op_addA (pe_ix ix_any (pv 0) pe_int (fun _ _ => rfl)) pe_int) (pg_sub (pv 0) pe_int set_list))
 (pss_cons (ps_asg pe_int (pg_sub (pv 0) pe_int set_list))
 (pss_cons (ps_if (pt_cmpR op_ge (pv 3) (pe_op op_pow pe_int pe_int) (nomark _))
 (pss_cons (ps_asg (pe_op op_fdivG (pv 3) (pv 1)) (pg_sub (pv 0) pe_int set_list))
 (pss_one (ps_ret (pe_op op_modN (pe_callTy call_int1 rfl T.zint boot_int0 (pa_cons (pv 3) pa_nil)) (pv 1)))))
 pss_nil)
 (pss_cons (ps_asg (pe_op op_modN (pe_callTy call_int1 rfl T.zint boot_int0 (pa_cons (pe_op op_addA (pe_op op_addA (pe_op op_mul (pe_ix ix_any (pv 0) pe_int (fun _ _ => rfl)) pe_int) (pe_op op_mul (pv 3) pe_int)) (pe_op op_mul (pe_ix ix_any (pv 0) pe_int (fun _ _ => rfl)) pe_int)) pa_nil)) pe_int) (pg_sub (pv 0) pe_int set_list))
 (pss_cons (ps_asg (pe_op op_modN (pe_callTy call_int1 rfl T.zint boot_int0 (pa_cons (pe_op op_addA (pe_op op_mul (pe_ix ix_any (pv 0) pe_int (fun _ _ => rfl)) pe_int) pe_int) pa_nil)) pe_int) (pg_sub (pv 0) pe_int set_list))
 (pss_one (ps_ret (pe_op op_modN (pe_callTy call_int1 rfl T.zint boot_int0 (pa_cons (pe_op op_fdivG (pe_ix ix_any (pv 0) pe_int (fun _ _ => rfl)) pe_int) pa_nil)) (pv 1)))))))))))),
 (sden_seq (sden_if (den_tst (Dn.b (den_op s2_ge dGe_x (den_opN s2_ix dIx_x (Dn.b den_int)) denB_var)))
 (sden_seq (sden_set (den_op s2_mod dMod_x (den_cb1 sb_int1 dInt1_x (Dn.b (den_opN s2_ix dIx_x (Dn.b den_int)))) denB_var) (by decide))
 (sden_seq (sden_sub (den_op s2_div dDiv_x (den_opN s2_ix dIx_x (Dn.b den_int)) denB_var) den_int)
 (sden_ret den_var)))
 sden_next)
 (sden_seq (sden_set den_int (by decide))
 (sden_seq (sden_if (den_tst (Dn.b (den_op s2_lt dLt_x (den_opN s2_ix dIx_x (Dn.b den_int)) (Dn.b (den_cb1 sb_len dLen_x (Dn.b (den_opN s2_ix dIx_x (Dn.b den_int))))))))
 (sden_set (den_op s2_ix dIx_x (den_opN s2_ix dIx_x (Dn.b den_int)) (Dn.b (den_opN s2_ix dIx_x (Dn.b den_int)))) (by decide))
 sden_next)
 (sden_seq (sden_sub (den_op s2_addA dAddA_x (den_opN s2_ix dIx_x (Dn.b den_int)) (Dn.b den_int)) den_int)
 (sden_seq (sden_sub den_int den_int)
 (sden_seq (sden_if (den_tst (Dn.b (den_opN s2_ge dGe_x (Dn.b (den_op s2_pow dPow_x den_int (Dn.b den_int))))))
 (sden_seq (sden_sub (den_opN s2_div dDiv_x denB_var) den_int)
 (sden_ret (den_op s2_mod dMod_x (den_cb1 sb_int1 dInt1_x denB_var) denB_var)))
 sden_next)
 (sden_seq (sden_sub (den_op s2_mod dMod_x (den_cb1 sb_int1 dInt1_x (Dn.b (den_op s2_addA dAddA_x (den_op s2_addA dAddA_x (den_op s2_mul dMul_x (den_opN s2_ix dIx_x (Dn.b den_int)) (Dn.b den_int)) (Dn.b (den_opN s2_mul dMul_x (Dn.b den_int)))) (Dn.b (den_op s2_mul dMul_x (den_opN s2_ix dIx_x (Dn.b den_int)) (Dn.b den_int)))))) (Dn.b den_int)) den_int)
 (sden_seq (sden_sub (den_op s2_mod dMod_x (den_cb1 sb_int1 dInt1_x (Dn.b (den_op s2_addA dAddA_x (den_op s2_mul dMul_x (den_opN s2_ix dIx_x (Dn.b den_int)) (Dn.b den_int)) (Dn.b den_int)))) (Dn.b den_int)) den_int)
 (sden_ret (den_op s2_mod dMod_x (den_cb1 sb_int1 dInt1_x (Dn.b (den_op s2_div dDiv_x (den_opN s2_ix dIx_x (Dn.b den_int)) (Dn.b den_int)))) denB_var))))))))))⟩
/-! ### _law_same -/
theorem scLSame : FnScope ["actual", "due", "k"] ["actual", "due"] (defScope sLSame) := ⟨rfl, rfl, rfl, by decide +kernel, rfl, by decide +kernel, by decide +kernel⟩
def GLSame (R : List D → DR) : SF :=
 (sSeq (sIf (orT (asB (ap1 (getC 1) (dIsi "tuple"))) (asB (ap1 (getC 1) (dIsi "list"))))
 (sSeq (sIf (orT (asB (ap2 (ap1 (getC 1) (dIsi "tuple")) (ap1 (getC 0) (dIsi "tuple")) dNe)) (asB (ap2 (ap1 (getC 1) (dIsi "list")) (ap1 (getC 0) (dIsi "list")) dNe)))
 (sRet (kst (.bool false)))
 sNext)
 (sSeq (sIf (asB (ap2 (ap1 (getC 0) dLen) (ap1 (getC 1) dLen) dNe))
 (sRet (kst (.bool false)))
 sNext)
 (sSeq (sFor (asR1 (aCons (ap1 (getC 1) dLen) aNil)) (gN 2)
 (sIf (notT (asB (callR false [false, false] R (cVal (ap2N 0 (getC 2) dIx) (cVal (ap2N 1 (getC 2) dIx) cNil)))))
 (sRet (kst (.bool false)))
 sNext))
 (sRet (kst (.bool true))))))
 sNext)
 (sSeq (sIf (orT (asB (ap1 (getC 1) (dIsi "bool"))) (asB (ap1 (getC 0) (dIsi "bool"))))
 (sRet (andV (ap1 (getC 1) (dIsi "bool")) (andV (ap1 (getC 0) (dIsi "bool")) (ap2N 1 (getC 0) dEq))))
 sNext)
 (sSeq (sIf (asB (ap1 (getC 1) (dIsi "int")))
 (sRet (andV (ap1 (getC 0) (dIsi "int")) (ap2N 0 (getC 1) dEq)))
 sNext)
 (sSeq (sIf (asB (ap1 (getC 1) (dIsi "str")))
 (sRet (andV (ap1 (getC 0) (dIsi "str")) (ap2N 0 (getC 1) dEq)))
 sNext)
 (sRet (andV (ap2N 1 (kst .none) dIsN) (ap2N 0 (kst .none) dIsN)))))))
def RLSame : Nat → List D → DR
  | 0 => fun _ => .stuck
  | n + 1 => runF 3 [false, false] (GLSame (RLSame n))
theorem okLSame {f : Addr} {fd : FuncData} (F : Fun K "_law_same" "_law_same" sLSame f fd) (T : DTxt mg) (L_LSame : Cal K mg "_law_same" f fd ["actual", "due"]) : ∀ n, FnOk P w K mg base CX0 (n + 0) f fd ["actual", "due"] (spD K [false, false] (RLSame n))
  | 0 => fn_stuck rfl
  | n + 1 => fn_den F scLSame rfl fun cdv A outer s H E hr => by
    have G_LSame := okLSame F T L_LSame n
    exact ⟨_, (pss_cons (ps_if (PW.pt (pw_or (pt_val (pe_callB call_isi rfl T.zisinstance boot_isinstance0 (pa_cons (pv 1) (pa_cons (pe_bltn (v := .ty "tuple") rfl T.ztuple boot_tuple0 rfl) pa_nil)))) (pw_or1 (pt_val (pe_callB call_isi rfl T.zisinstance boot_isinstance0 (pa_cons (pv 1) (pa_cons (pe_bltn (v := .ty "list") rfl T.zlist boot_list0 rfl) pa_nil)))))))
 (pss_cons (ps_if (PW.pt (pw_or (pt_cmpR (op_neA hr.units : OpR _ _ (rNeA K)) (pe_callB call_isi rfl T.zisinstance boot_isinstance0 (pa_cons (pv 1) (pa_cons (pe_bltn (v := .ty "tuple") rfl T.ztuple boot_tuple0 rfl) pa_nil))) (pe_callB call_isi rfl T.zisinstance boot_isinstance0 (pa_cons (pv 0) (pa_cons (pe_bltn (v := .ty "tuple") rfl T.ztuple boot_tuple0 rfl) pa_nil))) (nomark _)) (pw_or1 (pt_cmpR (op_neA hr.units : OpR _ _ (rNeA K)) (pe_callB call_isi rfl T.zisinstance boot_isinstance0 (pa_cons (pv 1) (pa_cons (pe_bltn (v := .ty "list") rfl T.zlist boot_list0 rfl) pa_nil))) (pe_callB call_isi rfl T.zisinstance boot_isinstance0 (pa_cons (pv 0) (pa_cons (pe_bltn (v := .ty "list") rfl T.zlist boot_list0 rfl) pa_nil))) (nomark _)))))
 (pss_one (ps_ret pe_bl))
 pss_nil)
 (pss_cons (ps_if (pt_cmpR (op_neA hr.units : OpR _ _ (rNeA K)) (pe_callB call_len_seq rfl T.zlen PySem.boot_len (pa_cons (pv 0) pa_nil)) (pe_callB call_len_seq rfl T.zlen PySem.boot_len (pa_cons (pv 1) pa_nil)) (nomark _))
 (pss_one (ps_ret pe_bl))
 pss_nil)
 (pss_cons (ps_for PassesOwn.never rfl (pi_range1 rfl T.zrange (pa_cons (pe_callB call_len_seq rfl T.zlen PySem.boot_len (pa_cons (pv 1) pa_nil)) pa_nil)) (pg_name (i := 2) scLSame.nd rfl (Or.inl rfl))
 (pss_one (ps_if (pt_not (pt_val (pe_call G_LSame hr rfl L_LSame.g L_LSame.k L_LSame.b .nil pass0 (pa_cons (pe_ix ix_any (pv 0) (pv 2) (fun _ _ => rfl)) (pa_cons (pe_ix ix_any (pv 1) (pv 2) (fun _ _ => rfl)) pa_nil)))))
 (pss_one (ps_ret pe_bl))
 pss_nil)))
 (pss_one (ps_ret pe_bl)))))
 pss_nil)
 (pss_cons (ps_if (PW.pt (pw_or (pt_val (pe_callB call_isi rfl T.zisinstance boot_isinstance0 (pa_cons (pv 1) (pa_cons (pe_bltn (v := .ty "bool") rfl T.zbool boot_bool0 rfl) pa_nil)))) (pw_or1 (pt_val (pe_callB call_isi rfl T.zisinstance boot_isinstance0 (pa_cons (pv 0) (pa_cons (pe_bltn (v := .ty "bool") rfl T.zbool boot_bool0 rfl) pa_nil)))))))
 (pss_one (ps_ret (pe_and (pe_callB call_isi rfl T.zisinstance boot_isinstance0 (pa_cons (pv 1) (pa_cons (pe_bltn (v := .ty "bool") rfl T.zbool boot_bool0 rfl) pa_nil))) (pe_and (pe_callB call_isi rfl T.zisinstance boot_isinstance0 (pa_cons (pv 0) (pa_cons (pe_bltn (v := .ty "bool") rfl T.zbool boot_bool0 rfl) pa_nil))) (pe_one (pe_cmpR (op_eqA hr.units : OpR _ _ (rEqA K)) (pv 1) (pv 0) (nomark _)))))))
 pss_nil)
 (pss_cons (ps_if (pt_val (pe_callB call_isi rfl T.zisinstance boot_isinstance0 (pa_cons (pv 1) (pa_cons (pe_bltn (v := .ty "int") rfl T.zint boot_int0 rfl) pa_nil))))
 (pss_one (ps_ret (pe_and (pe_callB call_isi rfl T.zisinstance boot_isinstance0 (pa_cons (pv 0) (pa_cons (pe_bltn (v := .ty "int") rfl T.zint boot_int0 rfl) pa_nil))) (pe_one (pe_cmpR (op_eqA hr.units : OpR _ _ (rEqA K)) (pv 0) (pv 1) (nomark _))))))
 pss_nil)
 (pss_cons (ps_if (pt_val (pe_callB call_isi rfl T.zisinstance boot_isinstance0 (pa_cons (pv 1) (pa_cons (pe_bltn (v := .ty "str") rfl T.zstr boot_str0 rfl) pa_nil))))
 (pss_one (ps_ret (pe_and (pe_callB call_isi rfl T.zisinstance boot_isinstance0 (pa_cons (pv 0) (pa_cons (pe_bltn (v := .ty "str") rfl T.zstr boot_str0 rfl) pa_nil))) (pe_one (pe_cmpR (op_eqA hr.units : OpR _ _ (rEqA K)) (pv 0) (pv 1) (nomark _))))))
 pss_nil)
 (pss_one (ps_ret (pe_and (pe_cmpR op_isN (pv 1) pe_non (nomark _)) (pe_one (pe_cmpR op_isN (pv 0) pe_non (nomark _)))))))))),
 (sden_seq (sden_if (den_orT (den_tB (Dn.b (den_isi (T := "tuple") denB_var))) (den_tB (Dn.b (den_isi (T := "list") denB_var))))
 (sden_seq (sden_if (den_orT (den_tst (Dn.b (den_op s2_ne dNe_x (den_isi (T := "tuple") denB_var) (Dn.b (den_isi (T := "tuple") denB_var))))) (den_tst (Dn.b (den_op s2_ne dNe_x (den_isi (T := "list") denB_var) (Dn.b (den_isi (T := "list") denB_var))))))
 (sden_ret den_bl)
 sden_next)
 (sden_seq (sden_if (den_tst (Dn.b (den_op s2_ne dNe_x (den_cb1 sb_len dLen_x denB_var) (Dn.b (den_cb1 sb_len dLen_x denB_var)))))
 (sden_ret den_bl)
 sden_next)
 (sden_seq (sden_for (denI_r1 (den_cons (den_cb1 sb_len dLen_x denB_var) den_nil)) (gden_name (by decide))
 (sden_if (den_notT (den_tB (Dn.b (den_call (fr := false) (denC_val (den_opN s2_ix dIx_x denB_var) (denC_val (den_opN s2_ix dIx_x denB_var) denC_nil))))))
 (sden_ret den_bl)
 sden_next))
 (sden_ret den_bl))))
 sden_next)
 (sden_seq (sden_if (den_orT (den_tB (Dn.b (den_isi (T := "bool") denB_var))) (den_tB (Dn.b (den_isi (T := "bool") denB_var))))
 (sden_ret (den_andV (Dn.b (den_isi (T := "bool") denB_var)) (den_andV (Dn.b (den_isi (T := "bool") denB_var)) (den_opN s2_eq dEq_x denB_var))))
 sden_next)
 (sden_seq (sden_if (den_tB (Dn.b (den_isi (T := "int") denB_var)))
 (sden_ret (den_andV (Dn.b (den_isi (T := "int") denB_var)) (den_opN s2_eq dEq_x denB_var)))
 sden_next)
 (sden_seq (sden_if (den_tB (Dn.b (den_isi (T := "str") denB_var)))
 (sden_ret (den_andV (Dn.b (den_isi (T := "str") denB_var)) (den_opN s2_eq dEq_x denB_var)))
 sden_next)
 (sden_ret (den_andV (Dn.b (den_opN s2_isN dIsN_x (Dn.b den_non))) (den_opN s2_isN dIsN_x (Dn.b den_non))))))))⟩
/-! ### _law_same_list -/
theorem scLSameList : FnScope ["actual", "due", "k"] ["actual", "due"] (defScope sLSameList) := ⟨rfl, rfl, rfl, by decide +kernel, rfl, by decide +kernel, by decide +kernel⟩
def GLSameList : SF :=
 (sSeq (sIf (orT (notT (asB (ap1 (getC 0) (dIsi "list")))) (asB (ap2 (ap1 (getC 0) dLen) (ap1 (getC 1) dLen) dNe)))
 (sRet (kst (.bool false)))
 sNext)
 (sSeq (sFor (asR1 (aCons (ap1 (getC 1) dLen) aNil)) (gN 2)
 (sIf (notT (asB (callR false [false, false] (RLSame 4) (cVal (ap2N 0 (getC 2) dIx) (cVal (ap2N 1 (getC 2) dIx) cNil)))))
 (sRet (kst (.bool false)))
 sNext))
 (sRet (kst (.bool true)))))
def RLSameList : List D → DR := runF 3 [false, false] GLSameList
theorem okLSameList {f : Addr} {fd : FuncData} (F : Fun K "_law_same_list" "_law_same_list" sLSameList f fd) (T : DTxt mg)
    {fLSame : Addr} {fdLSame : FuncData} (G_LSame : FnOk P w K mg base CX0 4 fLSame fdLSame ["actual", "due"] (spD K [false, false] (RLSame 4))) (L_LSame : Cal K mg "_law_same" fLSame fdLSame ["actual", "due"]) : FnOk P w K mg base CX0 5 f fd ["actual", "due"] (spD K [false, false] RLSameList) :=
  fn_den F scLSameList rfl fun cdv A outer s H E hr => ⟨_, (pss_cons (ps_if (PW.pt (pw_or (pt_not (pt_val (pe_callB call_isi rfl T.zisinstance boot_isinstance0 (pa_cons (pv 0) (pa_cons (pe_bltn (v := .ty "list") rfl T.zlist boot_list0 rfl) pa_nil))))) (pw_or1 (pt_cmpR (op_neA hr.units : OpR _ _ (rNeA K)) (pe_callB call_len_seq rfl T.zlen PySem.boot_len (pa_cons (pv 0) pa_nil)) (pe_callB call_len_seq rfl T.zlen PySem.boot_len (pa_cons (pv 1) pa_nil)) (nomark _)))))
 (pss_one (ps_ret pe_bl))
 pss_nil)
 (pss_cons (ps_for PassesOwn.never rfl (pi_range1 rfl T.zrange (pa_cons (pe_callB call_len_seq rfl T.zlen PySem.boot_len (pa_cons (pv 1) pa_nil)) pa_nil)) (pg_name (i := 2) scLSameList.nd rfl (Or.inl rfl))
 (pss_one (ps_if (pt_not (pt_val (pe_call G_LSame hr rfl L_LSame.g L_LSame.k L_LSame.b .nil pass0 (pa_cons (pe_ix ix_any (pv 0) (pv 2) (fun _ _ => rfl)) (pa_cons (pe_ix ix_any (pv 1) (pv 2) (fun _ _ => rfl)) pa_nil)))))
 (pss_one (ps_ret pe_bl))
 pss_nil)))
 (pss_one (ps_ret pe_bl)))),
 (sden_seq (sden_if (den_orT (den_notT (den_tB (Dn.b (den_isi (T := "list") denB_var)))) (den_tst (Dn.b (den_op s2_ne dNe_x (den_cb1 sb_len dLen_x denB_var) (Dn.b (den_cb1 sb_len dLen_x denB_var))))))
 (sden_ret den_bl)
 sden_next)
 (sden_seq (sden_for (denI_r1 (den_cons (den_cb1 sb_len dLen_x denB_var) den_nil)) (gden_name (by decide))
 (sden_if (den_notT (den_tB (Dn.b (den_call (fr := false) (denC_val (den_opN s2_ix dIx_x denB_var) (denC_val (den_opN s2_ix dIx_x denB_var) denC_nil))))))
 (sden_ret den_bl)
 sden_next))
 (sden_ret den_bl)))⟩
/-! ### _law_intervals -/
theorem scLIntervals : FnScope ["deck", "found", "at", "k", "last"] ["deck"] (defScope sLIntervals) := ⟨rfl, rfl, rfl, by decide +kernel, rfl, by decide +kernel, by decide +kernel⟩
def GLIntervals : SF :=
 (sSeq (sOwn 1 (apA aNil mkL))
 (sSeq (sSet 2 (ap2 (callR false [true, false] RLDraw (cOwn 0 (cVal (kst (.int 20)) cNil))) (kst (.int 10)) dSub))
 (sSeq (sFor (asR1 (aCons (ap2 (kst (.int 1)) (callR false [true, false] RLDraw (cOwn 0 (cVal (kst (.int 5)) cNil))) dAddA) aNil)) (gN 3)
 (sSeq (sSet 4 (ap2N 2 (ap2 (apA (aCons (kst (.int 0)) (aCons (callR false [true, false] RLDraw (cOwn 0 (cVal (kst (.int 6)) cNil))) aNil)) mkL) (callR false [true, false] RLDraw (cOwn 0 (cVal (kst (.int 2)) cNil))) dIx) dAddA))
 (sSeq (sDrop (mtF 1 mAppend (aCons (apA (aCons (getV 2) (aCons (getV 4) aNil)) mkT) aNil)))
 (sSet 2 (ap2 (ap2N 4 (kst (.int 1)) dAddA) (ap2 (apA (aCons (kst (.int 0)) (aCons (kst (.int 0)) (aCons (kst (.int 0)) (aCons (kst (.int 1)) aNil)))) mkL) (callR false [true, false] RLDraw (cOwn 0 (cVal (kst (.int 4)) cNil))) dIx) dAddA)))))
 (sRetO 1))))
def RLIntervals : List D → DR := runF 5 [true] GLIntervals
theorem okLIntervals {f : Addr} {fd : FuncData} (F : Fun K "_law_intervals" "_law_intervals" sLIntervals f fd) (T : DTxt mg)
    {fLDraw : Addr} {fdLDraw : FuncData} (G_LDraw : FnOk P w K mg base CX0 1 fLDraw fdLDraw ["deck", "most"] (spD K [true, false] RLDraw)) (L_LDraw : Cal K mg "_law_draw" fLDraw fdLDraw ["deck", "most"]) : FnOk P w K mg base CX0 2 f fd ["deck"] (spD K [true] RLIntervals) :=
  fn_den F scLIntervals rfl fun cdv A outer s H E hr => ⟨_, (pss_cons (ps_set (i := 1) scLIntervals.nd rfl (Or.inl rfl) (pe_lst pa_nil))
 (pss_cons (ps_set (i := 2) scLIntervals.nd rfl (Or.inl rfl) (pe_op op_sub (pe_call G_LDraw hr rfl L_LDraw.g L_LDraw.k L_LDraw.b .nil pass0 (pa_cons (pv 0) (pa_cons pe_int pa_nil))) pe_int))
 (pss_cons (ps_for PassesOwn.never rfl (pi_range1 rfl T.zrange (pa_cons (pe_op op_addA pe_int (pe_call G_LDraw hr rfl L_LDraw.g L_LDraw.k L_LDraw.b .nil pass0 (pa_cons (pv 0) (pa_cons pe_int pa_nil)))) pa_nil)) (pg_name (i := 3) scLIntervals.nd rfl (Or.inl rfl))
 (pss_cons (ps_set (i := 4) scLIntervals.nd rfl (Or.inl rfl) (pe_op op_addA (pv 2) (pe_ix ix_any (pe_lst (pa_cons pe_int (pa_cons (pe_call G_LDraw hr rfl L_LDraw.g L_LDraw.k L_LDraw.b .nil pass0 (pa_cons (pv 0) (pa_cons pe_int pa_nil))) pa_nil))) (pe_call G_LDraw hr rfl L_LDraw.g L_LDraw.k L_LDraw.b .nil pass0 (pa_cons (pv 0) (pa_cons pe_int pa_nil))) (fun _ _ => rfl))))
 (pss_cons (ps_expr (pe_bm PySem.F.plainAttrs_list PySem.F.slot_list_append PySem.F.type_list_append mt_append (pv 1) (pa_cons (pe_tup (pa_cons (pv 2) (pa_cons (pv 4) pa_nil))) pa_nil)))
 (pss_one (ps_set (i := 2) scLIntervals.nd rfl (Or.inl rfl) (pe_op op_addA (pe_op op_addA (pv 4) pe_int) (pe_ix ix_any (pe_lst (pa_cons pe_int (pa_cons pe_int (pa_cons pe_int (pa_cons pe_int pa_nil))))) (pe_call G_LDraw hr rfl L_LDraw.g L_LDraw.k L_LDraw.b .nil pass0 (pa_cons (pv 0) (pa_cons pe_int pa_nil))) (fun _ _ => rfl))))))))
 (pss_one (ps_ret (pv 1)))))),
 (sden_seq (sden_own (denF_lst den_nil) (by decide))
 (sden_seq (sden_set (den_op s2_sub dSub_x (den_call (fr := false) (denC_own (denC_val den_int denC_nil))) (Dn.b den_int)) (by decide))
 (sden_seq (sden_for (denI_r1 (den_cons (den_op s2_addA dAddA_x den_int (Dn.b (den_call (fr := false) (denC_own (denC_val den_int denC_nil))))) den_nil)) (gden_name (by decide))
 (sden_seq (sden_set (den_opN s2_addA dAddA_x (Dn.b (den_op s2_ix dIx_x (DenF.den (denF_lst (den_cons den_int (den_cons (den_call (fr := false) (denC_own (denC_val den_int denC_nil))) den_nil)))) (Dn.b (den_call (fr := false) (denC_own (denC_val den_int denC_nil))))))) (by decide))
 (sden_seq (sden_drop (den_mt sm_append mAppend_x (den_cons (den_tup (den_cons den_var (den_cons den_var den_nil))) den_nil)))
 (sden_set (den_op s2_addA dAddA_x (den_opN s2_addA dAddA_x (Dn.b den_int)) (Dn.b (den_op s2_ix dIx_x (DenF.den (denF_lst (den_cons den_int (den_cons den_int (den_cons den_int (den_cons den_int den_nil)))))) (Dn.b (den_call (fr := false) (denC_own (denC_val den_int denC_nil))))))) (by decide)))))
 (sden_retO (by decide)))))⟩
/-! ### law -/
theorem scLaw : FnScope ["script", "deck", "size", "form", "least", "interval", "numbers", "u", "fitting", "k", "due", "rows", "first", "last", "row", "pair", "covered", "proper"] ["script"] (defScope sLaw) := ⟨rfl, rfl, rfl, by decide +kernel, rfl, by decide +kernel, by decide +kernel⟩
noncomputable def GLaw : SF :=
 (sSeq (sSet 2 (ap2 (apA (aCons (kst (.int 4)) (aCons (kst (.int 50)) (aCons (ap2 (kst (.int 10)) (kst (.int 9)) dPow) aNil))) mkL) (callR false [true, false] RLDraw (cOwn 1 (cVal (kst (.int 3)) cNil))) dIx))
 (sSeq (sSet 3 (apA (aCons (ap2 (callR false [true, false] RLDraw (cOwn 1 (cVal (ap2 (ap2 (kst (.int 2)) (getC 2) dMul) (kst (.int 1)) dAddA) cNil))) (getC 2) dSub) (aCons (ap2 (callR false [true, false] RLDraw (cOwn 1 (cVal (ap2 (ap2 (kst (.int 2)) (getC 2) dMul) (kst (.int 1)) dAddA) cNil))) (getC 2) dSub) aNil)) mkT))
 (sSeq (sIf (asB (ap2 (callR false [true, false] RLDraw (cOwn 1 (cVal (kst (.int 4)) cNil))) (kst (.int 0)) dEq))
 (sSet 3 (apA (aCons (kst (.int 0)) (aCons (ap2N 3 (kst (.int 1)) dIx) aNil)) mkT))
 sNext)
 (sSeq (sSet 4 (ap2 (callR false [true, false] RLDraw (cOwn 1 (cVal (kst (.int 60)) cNil))) (kst (.int 30)) dSub))
 (sSeq (sSet 5 (apA (aCons (getV 4) (aCons (ap2N 4 (ap2 (apA (aCons (kst (.int 0)) (aCons (callR false [true, false] RLDraw (cOwn 1 (cVal (kst (.int 12)) cNil))) (aCons (kst (.int 40)) aNil))) mkL) (callR false [true, false] RLDraw (cOwn 1 (cVal (kst (.int 3)) cNil))) dIx) dAddA) aNil)) mkT))
 (sSeq (sSet 6 (eLc [7] (asR2 (aCons (ap2N 5 (kst (.int 0)) dIx) (aCons (ap2 (ap2N 5 (kst (.int 1)) dIx) (kst (.int 1)) dAddA) aNil))) (gN 7) yesT (ap2 (ap2 (ap2N 3 (kst (.int 0)) dIx) (getC 7) dMul) (ap2N 3 (kst (.int 1)) dIx) dAddA)))
 (sSeq (sIf (orT (notT (asB (callR false [false, false] (RLSame 4) (cVal (callR false [false, false] RValueAt (cVal (getV 3) (cVal (getV 4) cNil))) (cVal (ap2N 6 (kst (.int 0)) dIx) cNil))))) (notT (asB (callR false [false, false] (RLSame 4) (cVal (callR false [false, false] RBounds (cVal (getV 3) (cVal (getV 5) cNil))) (cVal (apA (aCons (ap1 (getC 6) dMinL) (aCons (ap1 (getC 6) dMaxL) aNil)) mkT) cNil))))))
 (sRet (kst (.bool false)))
 sNext)
 (sSeq (sSet 8 (eLc [9] (asR1 (aCons (ap1 (getC 6) dLen) aNil)) (gN 9) (asB (ap2 (ap2N 6 (getC 9) dIx) (kst (.int 0)) dGe)) (ap2 (ap2N 5 (kst (.int 0)) dIx) (getC 9) dAddA)))
 (sSeq (sSet 10 (kst .none))
 (sSeq (sIf (asB (ap2N 8 (apA aNil mkL) dNe))
 (sSet 10 (apA (aCons (ap2N 8 (kst (.int 0)) dIx) (aCons (ap2N 8 (ap2 (ap1 (getC 8) dLen) (kst (.int 1)) dSub) dIx) aNil)) mkT))
 sNext)
 (sSeq (sFrz 10 (sIf (notT (asB (callR false [false, false] (RLSame 4) (cVal (callR false [false, false] RPartAtLeast (cVal (getV 3) (cVal (getV 5) cNil))) (cVal (getV 10) cNil)))))
 (sRet (kst (.bool false)))
 sNext))
 (sSeq (sSet 11 (callR false [true] RLIntervals (cOwn 1 cNil)))
 (sSeq (sSet 12 (ap2 (ap2N 11 (kst (.int 0)) dIx) (kst (.int 0)) dIx))
 (sSeq (sSet 13 (ap2 (ap2N 11 (ap2 (ap1 (getC 11) dLen) (kst (.int 1)) dSub) dIx) (kst (.int 1)) dIx))
 (sSeq (sFor (asI (apA (aCons (getV 11) (aCons (ap1 (getC 11) dRev) (aCons (ap2N 11 (apA (aCons (ap2N 11 (kst (.int 0)) dIx) aNil) mkL) dAddA) (aCons (slN 11 (oSome (kst (.int 1))) oNone) (aCons (eLc [15] (asI (getV 11)) (gN 15) yesT (apA (aCons (ap2N 15 (kst (.int 1)) dIx) (aCons (ap2N 15 (kst (.int 0)) dIx) aNil)) mkT)) (aCons (apA aNil mkL) aNil)))))) mkL)) (gN 14)
 (sSeq (sSet 16 (apA aNil mkL))
 (sSeq (sSet 17 (kst (.bool true)))
 (sSeq (sFor (asI (getV 14)) (gN 15)
 (sSeq (sSet 17 (andV (getC 17) (ap2 (ap2N 15 (kst (.int 0)) dIx) (ap2N 15 (kst (.int 1)) dIx) dLe)))
 (sSet 16 (ap2N 16 (lRg (rg2 (ap2N 15 (kst (.int 0)) dIx) (ap2 (ap2N 15 (kst (.int 1)) dIx) (kst (.int 1)) dAddA))) dAddA))))
 (sIf (notT (asB (callR false [false, false] (RLSame 4) (cVal (callR false [false, false, false] RPartsRange (cVal (getV 14) (cVal (getV 12) (cVal (getV 13) cNil)))) (cVal (andV (getC 17) (ap2N 16 (lRg (rg2 (getV 12) (ap2N 13 (kst (.int 1)) dAddA))) dEq)) cNil)))))
 (sRet (kst (.bool false)))
 sNext)))))
 (sSeq (sSet 16 (apA aNil mkL))
 (sSeq (sFor (asI (getV 11)) (gN 15)
 (sSet 16 (ap2N 16 (lRg (rg2 (ap2N 15 (kst (.int 0)) dIx) (ap2 (ap2N 15 (kst (.int 1)) dIx) (kst (.int 1)) dAddA))) dAddA)))
 (sSeq (sOwn 10 (apA aNil mkL))
 (sSeq (sFor (asI (getV 16)) (gN 7)
 (sIf (andT (asB (ap2N 10 (apA aNil mkL) dNe)) (asB (ap2 (ap2 (ap2N 10 (ap2 (ap1 (getC 10) dLen) (kst (.int 1)) dSub) dIx) (kst (.int 1)) dIx) (ap2N 7 (kst (.int 1)) dSub) dEq)))
 (sOwn 10 (ap2 (slN 10 oNone (oSome (ap2 (ap1 (getC 10) dLen) (kst (.int 1)) dSub))) (apA (aCons (apA (aCons (ap2 (ap2N 10 (ap2 (ap1 (getC 10) dLen) (kst (.int 1)) dSub) dIx) (kst (.int 0)) dIx) (aCons (getV 7) aNil)) mkT) aNil) mkL) dCat))
 (sDrop (mtF 10 mAppend (aCons (apA (aCons (getV 7) (aCons (getV 7) aNil)) mkT) aNil)))))
 (sFrz 10 (sRet (callR false [false, false] RLSameList (cVal (callR false [false] RUnited (cVal (getV 11) cNil)) (cVal (getV 10) cNil))))))))))))))))))))))))
-- PE of the rest of law:
/-
(pss_cons (ps_set (i := 2) scLaw.nd rfl (Or.inl rfl) (pe_ix ix_any (pe_lst (pa_cons pe_int (pa_cons pe_int (pa_cons (pe_op op_pow pe_int pe_int) pa_nil)))) (pe_call G_LDraw (hr.mono (by decide)) rfl L_LDraw.g L_LDraw.k L_LDraw.b .nil pass0 (pa_cons (pv 1) (pa_cons pe_int pa_nil))) (fun _ _ => rfl)))
 (pss_cons (ps_set (i := 3) scLaw.nd rfl (Or.inr rfl) (pe_tup (pa_cons (pe_op op_sub (pe_call G_LDraw (hr.mono (by decide)) rfl L_LDraw.g L_LDraw.k L_LDraw.b .nil pass0 (pa_cons (pv 1) (pa_cons (pe_op op_addA (pe_op op_mul pe_int (pv 2)) pe_int) pa_nil))) (pv 2)) (pa_cons (pe_op op_sub (pe_call G_LDraw (hr.mono (by decide)) rfl L_LDraw.g L_LDraw.k L_LDraw.b .nil pass0 (pa_cons (pv 1) (pa_cons (pe_op op_addA (pe_op op_mul pe_int (pv 2)) pe_int) pa_nil))) (pv 2)) pa_nil))))
 (pss_cons (ps_if (pt_cmpR (op_eqA hr.units : OpR _ _ (rEqA K)) (pe_call G_LDraw (hr.mono (by decide)) rfl L_LDraw.g L_LDraw.k L_LDraw.b .nil pass0 (pa_cons (pv 1) (pa_cons pe_int pa_nil))) pe_int (nomark _))
 (pss_one (ps_set (i := 3) scLaw.nd rfl (Or.inr rfl) (pe_tup (pa_cons pe_int (pa_cons (pe_ix ix_any (pv 3) pe_int (fun _ _ => rfl)) pa_nil)))))
 pss_nil)
 (pss_cons (ps_set (i := 4) scLaw.nd rfl (Or.inl rfl) (pe_op op_sub (pe_call G_LDraw (hr.mono (by decide)) rfl L_LDraw.g L_LDraw.k L_LDraw.b .nil pass0 (pa_cons (pv 1) (pa_cons pe_int pa_nil))) pe_int))
 (pss_cons (ps_set (i := 5) scLaw.nd rfl (Or.inr rfl) (pe_tup (pa_cons (pv 4) (pa_cons (pe_op op_addA (pv 4) (pe_ix ix_any (pe_lst (pa_cons pe_int (pa_cons (pe_call G_LDraw (hr.mono (by decide)) rfl L_LDraw.g L_LDraw.k L_LDraw.b .nil pass0 (pa_cons (pv 1) (pa_cons pe_int pa_nil))) (pa_cons pe_int pa_nil)))) (pe_call G_LDraw (hr.mono (by decide)) rfl L_LDraw.g L_LDraw.k L_LDraw.b .nil pass0 (pa_cons (pv 1) (pa_cons pe_int pa_nil))) (fun _ _ => rfl))) pa_nil))))
 (pss_cons (ps_set (i := 6) scLaw.nd rfl (Or.inr rfl) (pe_lc (own := [("u", 7)]) (g := gName 7) (tt := tYes) rfl scLaw.nd (pi_range2 rfl T.zrange (pa_cons (pe_ix ix_any (pv 5) pe_int (fun _ _ => rfl)) (pa_cons (pe_op op_addA (pe_ix ix_any (pv 5) pe_int (fun _ _ => rfl)) pe_int) pa_nil))) (blkOk_by (own := [("u", 7)]) (N := ["script", "deck", "size", "form", "least", "interval", "numbers", "u", "fitting", "k", "due", "rows", "first", "last", "row", "pair", "covered", "proper"]) (sc := defScope sLaw) (by decide +kernel)) (fun _ _ _ _ _ => (pg_name (i := 7) scLaw.nd rfl (Or.inl rfl))) (fun _ _ _ _ _ => pts_nil) (fun _ _ _ _ _ => (pe_op op_addA (pe_op op_mul (pe_ix ix_any (pv 3) pe_int (fun _ _ => rfl)) (pv 7)) (pe_ix ix_any (pv 3) pe_int (fun _ _ => rfl))))))
 (pss_cons (ps_if (PW.pt (pw_or (pt_not (pt_val (pe_call G_LSame (hr.mono (by decide)) rfl L_LSame.g L_LSame.k L_LSame.b .nil pass0 (pa_cons (pe_call G_ValueAt (hr.mono (by decide)) rfl L_ValueAt.g L_ValueAt.k L_ValueAt.b .nil pass0 (pa_cons (pv 3) (pa_cons (pv 4) pa_nil))) (pa_cons (pe_ix ix_any (pv 6) pe_int (fun _ _ => rfl)) pa_nil))))) (pw_or1 (pt_not (pt_val (pe_call G_LSame (hr.mono (by decide)) rfl L_LSame.g L_LSame.k L_LSame.b .nil pass0 (pa_cons (pe_call G_Bounds (hr.mono (by decide)) rfl L_Bounds.g L_Bounds.k L_Bounds.b .nil pass0 (pa_cons (pv 3) (pa_cons (pv 5) pa_nil))) (pa_cons (pe_tup (pa_cons (pe_callB (cr_min rfl) rfl T.zmin boot_min0 (pa_cons (pv 6) pa_nil)) (pa_cons (pe_callB (cr_max rfl) rfl T.zmax boot_max0 (pa_cons (pv 6) pa_nil)) pa_nil))) pa_nil))))))))
 (pss_one (ps_ret pe_bl))
 pss_nil)
 (pss_cons (ps_setLc (i := 8) (own := [("k", 9)]) (g := gName 9) rfl scLaw.nd rfl rfl (sw_true rfl rfl rfl (by decide +kernel)) (pi_range1 rfl T.zrange (pa_cons (pe_callB call_len_seq rfl T.zlen PySem.boot_len (pa_cons (pv 6) pa_nil)) pa_nil)) (blkOk_by (own := [("k", 9)]) (N := ["script", "deck", "size", "form", "least", "interval", "numbers", "u", "fitting", "k", "due", "rows", "first", "last", "row", "pair", "covered", "proper"]) (sc := defScope sLaw) (by decide +kernel)) (fun _ _ _ _ _ => (pg_name (i := 9) scLaw.nd rfl (Or.inl rfl))) (fun _ _ _ _ _ => (pts_one (pt_cmpR op_ge (pe_ix ix_any (pv 6) (pv 9) (fun _ _ => rfl)) pe_int (nomark _)))) (fun _ _ _ _ _ => (pe_op op_addA (pe_ix ix_any (pv 5) pe_int (fun _ _ => rfl)) (pv 9))))
 (pss_cons (ps_set (i := 10) scLaw.nd rfl (Or.inl rfl) pe_non)
 (pss_cons (ps_if (pt_cmpR (op_neA hr.units : OpR _ _ (rNeA K)) (pv 8) (pe_lst pa_nil) (nomark _))
 (pss_one (ps_set (i := 10) scLaw.nd rfl (Or.inl rfl) (pe_tup (pa_cons (pe_ix ix_any (pv 8) pe_int (fun _ _ => rfl)) (pa_cons (pe_ix ix_any (pv 8) (pe_op op_sub (pe_callB call_len_seq rfl T.zlen PySem.boot_len (pa_cons (pv 8) pa_nil)) pe_int) (fun _ _ => rfl)) pa_nil)))))
 pss_nil)
 (pss_cons (ps_if (pt_not (pt_val (pe_call G_LSame (hr.mono (by decide)) rfl L_LSame.g L_LSame.k L_LSame.b .nil pass0 (pa_cons (pe_call G_PartAtLeast (hr.mono (by decide)) rfl L_PartAtLeast.g L_PartAtLeast.k L_PartAtLeast.b .nil pass0 (pa_cons (pv 3) (pa_cons (pv 5) pa_nil))) (pa_cons (pv 10) pa_nil)))))
 (pss_one (ps_ret pe_bl))
 pss_nil)
 (pss_cons (ps_set (i := 11) scLaw.nd rfl (Or.inl rfl) (pe_call G_LIntervals (hr.mono (by decide)) rfl L_LIntervals.g L_LIntervals.k L_LIntervals.b .nil pass0 (pa_cons (pv 1) pa_nil)))
 (pss_cons (ps_set (i := 12) scLaw.nd rfl (Or.inl rfl) (pe_ix ix_any (pe_ix ix_any (pv 11) pe_int (fun _ _ => rfl)) pe_int (fun _ _ => rfl)))
 (pss_cons (ps_set (i := 13) scLaw.nd rfl (Or.inl rfl) (pe_ix ix_any (pe_ix ix_any (pv 11) (pe_op op_sub (pe_callB call_len_seq rfl T.zlen PySem.boot_len (pa_cons (pv 11) pa_nil)) pe_int) (fun _ _ => rfl)) pe_int (fun _ _ => rfl)))
 (pss_cons (ps_for PassesOwn.never rfl (pi_any (pe_lst (pa_cons (pv 11) (pa_cons (RX.pe_listRev rfl rfl T.zlist rfl T.zreversed (pv 11)) (pa_cons (pe_op op_addA (pv 11) (pe_lst (pa_cons (pe_ix ix_any (pv 11) pe_int (fun _ _ => rfl)) pa_nil))) (pa_cons (pe_slice sl_list (pv 11) (po_some pe_int) po_none) (pa_cons (pe_lc (own := [("pair", 15)]) (g := gName 15) (tt := tYes) rfl scLaw.nd (pi_any (pv 11)) (blkOk_by (own := [("pair", 15)]) (N := ["script", "deck", "size", "form", "least", "interval", "numbers", "u", "fitting", "k", "due", "rows", "first", "last", "row", "pair", "covered", "proper"]) (sc := defScope sLaw) (by decide +kernel)) (fun _ _ _ _ _ => (pg_name (i := 15) scLaw.nd rfl (Or.inl rfl))) (fun _ _ _ _ _ => pts_nil) (fun _ _ _ _ _ => (pe_tup (pa_cons (pe_ix ix_any (pv 15) pe_int (fun _ _ => rfl)) (pa_cons (pe_ix ix_any (pv 15) pe_int (fun _ _ => rfl)) pa_nil))))) (pa_cons (pe_lst pa_nil) pa_nil)))))))) (pg_name (i := 14) scLaw.nd rfl (Or.inl rfl))
 (pss_cons (ps_set (i := 16) scLaw.nd rfl (Or.inl rfl) (pe_lst pa_nil))
 (pss_cons (ps_set (i := 17) scLaw.nd rfl (Or.inl rfl) pe_bl)
 (pss_cons (ps_for PassesOwn.never rfl (pi_any (pv 14)) (pg_name (i := 15) scLaw.nd rfl (Or.inl rfl))
 (pss_cons (ps_set (i := 17) scLaw.nd rfl (Or.inl rfl) (pe_and (pv 17) (pe_one (pe_cmpR op_le (pe_ix ix_any (pv 15) pe_int (fun _ _ => rfl)) (pe_ix ix_any (pv 15) pe_int (fun _ _ => rfl)) (nomark _)))))
 (pss_one (ps_set (i := 16) scLaw.nd rfl (Or.inl rfl) (pe_op op_addA (pv 16) (pe_listRg rfl rfl T.zlist (prg_2 rfl T.zrange (pe_ix ix_any (pv 15) pe_int (fun _ _ => rfl)) (pe_op op_addA (pe_ix ix_any (pv 15) pe_int (fun _ _ => rfl)) pe_int))))))))
 (pss_one (ps_if (pt_not (pt_val (pe_call G_LSame (hr.mono (by decide)) rfl L_LSame.g L_LSame.k L_LSame.b .nil pass0 (pa_cons (pe_call G_PartsRange (hr.mono (by decide)) rfl L_PartsRange.g L_PartsRange.k L_PartsRange.b .nil pass0 (pa_cons (pv 14) (pa_cons (pv 12) (pa_cons (pv 13) pa_nil)))) (pa_cons (pe_and (pv 17) (pe_one (pe_cmpR (op_eqA hr.units : OpR _ _ (rEqA K)) (pv 16) (pe_listRg rfl rfl T.zlist (prg_2 rfl T.zrange (pv 12) (pe_op op_addA (pv 13) pe_int))) (nomark _)))) pa_nil)))))
 (pss_one (ps_ret pe_bl))
 pss_nil))))))
 (pss_cons (ps_set (i := 16) scLaw.nd rfl (Or.inl rfl) (pe_lst pa_nil))
 (pss_cons (ps_for PassesOwn.never rfl (pi_any (pv 11)) (pg_name (i := 15) scLaw.nd rfl (Or.inl rfl))
 (pss_one (ps_set (i := 16) scLaw.nd rfl (Or.inl rfl) (pe_op op_addA (pv 16) (pe_listRg rfl rfl T.zlist (prg_2 rfl T.zrange (pe_ix ix_any (pv 15) pe_int (fun _ _ => rfl)) (pe_op op_addA (pe_ix ix_any (pv 15) pe_int (fun _ _ => rfl)) pe_int)))))))
 (pss_cons (ps_set (i := 10) scLaw.nd rfl (Or.inl rfl) (pe_lst pa_nil))
 (pss_cons (ps_for PassesOwn.never rfl (pi_any (pv 16)) (pg_name (i := 7) scLaw.nd rfl (Or.inl rfl))
 (pss_one (ps_if (PW.pt (pw_and (pt_cmpR (op_neA hr.units : OpR _ _ (rNeA K)) (pv 10) (pe_lst pa_nil) (nomark _)) (pw_and1 (pt_cmpR (op_eqA hr.units : OpR _ _ (rEqA K)) (pe_ix ix_any (pe_ix ix_any (pv 10) (pe_op op_sub (pe_callB call_len_seq rfl T.zlen PySem.boot_len (pa_cons (pv 10) pa_nil)) pe_int) (fun _ _ => rfl)) pe_int (fun _ _ => rfl)) (pe_op op_sub (pv 7) pe_int) (nomark _)))))
 (pss_one (ps_set (i := 10) scLaw.nd rfl (Or.inl rfl) (pe_op op_addA (pe_slice sl_list (pv 10) po_none (po_some (pe_op op_sub (pe_callB call_len_seq rfl T.zlen PySem.boot_len (pa_cons (pv 10) pa_nil)) pe_int))) (pe_lst (pa_cons (pe_tup (pa_cons (pe_ix ix_any (pe_ix ix_any (pv 10) (pe_op op_sub (pe_callB call_len_seq rfl T.zlen PySem.boot_len (pa_cons (pv 10) pa_nil)) pe_int) (fun _ _ => rfl)) pe_int (fun _ _ => rfl)) (pa_cons (pv 7) pa_nil))) pa_nil)))))
 (pss_one (ps_expr (pe_bm PySem.F.plainAttrs_list PySem.F.slot_list_append PySem.F.type_list_append mt_append (pv 10) (pa_cons (pe_tup (pa_cons (pv 7) (pa_cons (pv 7) pa_nil))) pa_nil)))))))
 (pss_one (ps_ret (pe_call G_LSameList hr rfl L_LSameList.g L_LSameList.k L_LSameList.b .nil pass0 (pa_cons (pe_call G_United (hr.mono (by decide)) rfl L_United.g L_United.k L_United.b .nil pass0 (pa_cons (pv 11) pa_nil)) (pa_cons (pv 10) pa_nil))))))))))))))))))))))))

(sden_seq (sden_set (den_op s2_ix dIx_x (DenF.den (denF_lst (den_cons den_int (den_cons den_int (den_cons (den_op s2_pow dPow_x den_int (Dn.b den_int)) den_nil))))) (Dn.b (den_call (fr := false) (denC_own (denC_val den_int denC_nil))))) (by decide))
 (sden_seq (sden_set (den_tup (den_cons (den_op s2_sub dSub_x (den_call (fr := false) (denC_own (denC_val (den_op s2_addA dAddA_x (den_op s2_mul dMul_x den_int denB_var) (Dn.b den_int)) denC_nil))) denB_var) (den_cons (den_op s2_sub dSub_x (den_call (fr := false) (denC_own (denC_val (den_op s2_addA dAddA_x (den_op s2_mul dMul_x den_int denB_var) (Dn.b den_int)) denC_nil))) denB_var) den_nil))) (by decide))
 (sden_seq (sden_if (den_tst (Dn.b (den_op s2_eq dEq_x (den_call (fr := false) (denC_own (denC_val den_int denC_nil))) (Dn.b den_int))))
 (sden_set (den_tup (den_cons den_int (den_cons (den_opN s2_ix dIx_x (Dn.b den_int)) den_nil))) (by decide))
 sden_next)
 (sden_seq (sden_set (den_op s2_sub dSub_x (den_call (fr := false) (denC_own (denC_val den_int denC_nil))) (Dn.b den_int)) (by decide))
 (sden_seq (sden_set (den_tup (den_cons den_var (den_cons (den_opN s2_addA dAddA_x (Dn.b (den_op s2_ix dIx_x (DenF.den (denF_lst (den_cons den_int (den_cons (den_call (fr := false) (denC_own (denC_val den_int denC_nil))) (den_cons den_int den_nil))))) (Dn.b (den_call (fr := false) (denC_own (denC_val den_int denC_nil))))))) den_nil))) (by decide))
 (sden_seq (sden_set (DenF.den (denF_lc (ws := [7]) (denI_r2 (den_cons (den_opN s2_ix dIx_x (Dn.b den_int)) (den_cons (den_op s2_addA dAddA_x (den_opN s2_ix dIx_x (Dn.b den_int)) (Dn.b den_int)) den_nil))) (fun _ h => (gden_name (h _ (by decide)))) gok_name (by decide) den_yes (den_op s2_addA dAddA_x (den_op s2_mul dMul_x (den_opN s2_ix dIx_x (Dn.b den_int)) denB_var) (Dn.b (den_opN s2_ix dIx_x (Dn.b den_int)))))) (by decide))
 (sden_seq (sden_if (den_orT (den_notT (den_tB (Dn.b (den_call (fr := false) (denC_val (den_call (fr := false) (denC_val den_var (denC_val den_var denC_nil))) (denC_val (den_opN s2_ix dIx_x (Dn.b den_int)) denC_nil)))))) (den_notT (den_tB (Dn.b (den_call (fr := false) (denC_val (den_call (fr := false) (denC_val den_var (denC_val den_var denC_nil))) (denC_val (den_tup (den_cons (den_cb1 sb_min dMinL_x denB_var) (den_cons (den_cb1 sb_max dMaxL_x denB_var) den_nil))) denC_nil)))))))
 (sden_ret den_bl)
 sden_next)
 (sden_seq (sden_set (DenF.den (denF_lc (ws := [9]) (denI_r1 (den_cons (den_cb1 sb_len dLen_x denB_var) den_nil)) (fun _ h => (gden_name (h _ (by decide)))) gok_name (by decide) (den_tst (Dn.b (den_op s2_ge dGe_x (den_opN s2_ix dIx_x denB_var) (Dn.b den_int)))) (den_op s2_addA dAddA_x (den_opN s2_ix dIx_x (Dn.b den_int)) denB_var))) (by decide))
 (sden_seq (sden_set den_non (by decide))
 (sden_seq (sden_if (den_tst (Dn.b (den_opN s2_ne dNe_x (Dn.b (DenF.den (denF_lst den_nil))))))
 (sden_set (den_tup (den_cons (den_opN s2_ix dIx_x (Dn.b den_int)) (den_cons (den_opN s2_ix dIx_x (Dn.b (den_op s2_sub dSub_x (den_cb1 sb_len dLen_x denB_var) (Dn.b den_int)))) den_nil))) (by decide))
 sden_next)
 (sden_seq (sden_frz (i := 10) (by decide) (sden_if (den_notT (den_tB (Dn.b (den_call (fr := false) (denC_val (den_call (fr := false) (denC_val den_var (denC_val den_var denC_nil))) (denC_val den_var denC_nil))))))
 (sden_ret den_bl)
 sden_next))
 (sden_seq (sden_set (den_call (fr := false) (denC_own denC_nil)) (by decide))
 (sden_seq (sden_set (den_op s2_ix dIx_x (den_opN s2_ix dIx_x (Dn.b den_int)) (Dn.b den_int)) (by decide))
 (sden_seq (sden_set (den_op s2_ix dIx_x (den_opN s2_ix dIx_x (Dn.b (den_op s2_sub dSub_x (den_cb1 sb_len dLen_x denB_var) (Dn.b den_int)))) (Dn.b den_int)) (by decide))
 (sden_seq (sden_for (denI_any (DenF.den (denF_lst (den_cons den_var (den_cons (DenF.den (denF_rev denB_var)) (den_cons (den_opN s2_addA dAddA_x (Dn.b (DenF.den (denF_lst (den_cons (den_opN s2_ix dIx_x (Dn.b den_int)) den_nil))))) (den_cons (DenF.den (denF_slN (den_oSome (Dn.b den_int)) den_oNone)) (den_cons (DenF.den (denF_lc (ws := [15]) (denI_any den_var) (fun _ h => (gden_name (h _ (by decide)))) gok_name (by decide) den_yes (den_tup (den_cons (den_opN s2_ix dIx_x (Dn.b den_int)) (den_cons (den_opN s2_ix dIx_x (Dn.b den_int)) den_nil))))) (den_cons (DenF.den (denF_lst den_nil)) den_nil))))))))) (gden_name (by decide))
 (sden_seq (sden_set (DenF.den (denF_lst den_nil)) (by decide))
 (sden_seq (sden_set den_bl (by decide))
 (sden_seq (sden_for (denI_any den_var) (gden_name (by decide))
 (sden_seq (sden_set (den_andV denB_var (den_op s2_le dLe_x (den_opN s2_ix dIx_x (Dn.b den_int)) (Dn.b (den_opN s2_ix dIx_x (Dn.b den_int))))) (by decide))
 (sden_set (den_opN s2_addA dAddA_x (Dn.b (DenF.den (denF_lRg2 (den_opN s2_ix dIx_x (Dn.b den_int)) (Dn.b (den_op s2_addA dAddA_x (den_opN s2_ix dIx_x (Dn.b den_int)) (Dn.b den_int))))))) (by decide))))
 (sden_if (den_notT (den_tB (Dn.b (den_call (fr := false) (denC_val (den_call (fr := false) (denC_val den_var (denC_val den_var (denC_val den_var denC_nil)))) (denC_val (den_andV denB_var (den_opN s2_eq dEq_x (Dn.b (DenF.den (denF_lRg2 den_var (Dn.b (den_opN s2_addA dAddA_x (Dn.b den_int)))))))) denC_nil))))))
 (sden_ret den_bl)
 sden_next)))))
 (sden_seq (sden_set (DenF.den (denF_lst den_nil)) (by decide))
 (sden_seq (sden_for (denI_any den_var) (gden_name (by decide))
 (sden_set (den_opN s2_addA dAddA_x (Dn.b (DenF.den (denF_lRg2 (den_opN s2_ix dIx_x (Dn.b den_int)) (Dn.b (den_op s2_addA dAddA_x (den_opN s2_ix dIx_x (Dn.b den_int)) (Dn.b den_int))))))) (by decide)))
 (sden_seq (sden_own (denF_lst den_nil) (by decide))
 (sden_seq (sden_for (denI_any den_var) (gden_name (by decide))
 (sden_if (den_andT (den_tst (Dn.b (den_opN s2_ne dNe_x (Dn.b (DenF.den (denF_lst den_nil)))))) (den_tst (Dn.b (den_op s2_eq dEq_x (den_op s2_ix dIx_x (den_opN s2_ix dIx_x (Dn.b (den_op s2_sub dSub_x (den_cb1 sb_len dLen_x denB_var) (Dn.b den_int)))) (Dn.b den_int)) (Dn.b (den_opN s2_sub dSub_x (Dn.b den_int)))))))
 (sden_own (denF_op n2_addA dCat_x (DenF.den (denF_slN den_oNone (den_oSome (Dn.b (den_op s2_sub dSub_x (den_cb1 sb_len dLen_x denB_var) (Dn.b den_int)))))) (Dn.b (DenF.den (denF_lst (den_cons (den_tup (den_cons (den_op s2_ix dIx_x (den_opN s2_ix dIx_x (Dn.b (den_op s2_sub dSub_x (den_cb1 sb_len dLen_x denB_var) (Dn.b den_int)))) (Dn.b den_int)) (den_cons den_var den_nil))) den_nil))))) (by decide))
 (sden_drop (den_mt sm_append mAppend_x (den_cons (den_tup (den_cons den_var (den_cons den_var den_nil))) den_nil)))))
 (sden_frz (i := 10) (by decide) (sden_ret (den_call (fr := false) (denC_val (den_call (fr := false) (denC_val den_var denC_nil)) (denC_val den_var denC_nil))))))))))))))))))))))))
-/
end
end D51
namespace D51
open PySem PySem.Spec L2 DL
theorem valueAt_ok {a b u : Int} (h : (-(2 ^ 64) < a ∧ a < 2 ^ 64) ∨ (-(2 ^ 64) < u ∧ u < 2 ^ 64)) : RValueAt [.tuple [.int a, .int b], .int u] = .ok false (.int (a * u + b)) [] := by
  refine runF_eq (G := GValueAt) ?_
  unfold GValueAt
  repeat ((first | (with_reducible first | refine iR_yesT ?_ | refine iR_lcNil ?_ | refine iR_lcCons ?_ | refine if_t ?_ | refine if_f ?_ | refine iS_seq ?_ | refine iS_set ?_ | refine iS_own ?_ | refine iS_drop ?_ | refine iS_ret ?_ | refine iS_retF ?_ | refine iS_next ?_ | refine iS_if ?_ | refine iS_asg ?_ | refine iS_for0 ?_ | refine iR_ap1 ?_ | refine iR_ap2 ?_ | refine iR_ap2N ?_ | refine iR_apA ?_ | refine iR_kst ?_ | refine iR_aNil ?_ | refine iR_aCons ?_ | refine iR_asB ?_ | refine iR_truR ?_ | refine iR_andT ?_ | refine iR_orT ?_ | refine iR_notT ?_ | refine iR_andV ?_ | refine iR_orV ?_ | refine iR_notV ?_ | refine iR_ifE ?_ | refine iR_asI ?_ | refine iS_sub ?_ | refine iS_retO ?_ | refine iR_mtF ?_ | refine iR_cNil ?_ | refine iR_cVal ?_ | refine iR_call ?_ | refine iR_readV ?_ | refine iR_readN ?_ | refine iR_writeN ?_ | refine iR_writeC ?_ | refine iR_asR1 ?_ | refine iR_asR2 ?_ | refine iR_bind ?_ | refine iR_lc ?_ | refine iR_slN ?_ | refine iR_oSome ?_ | refine iR_oNone ?_ | refine iR_lRg2 ?_ | refine iR_eqi ?_ | refine iR_nei ?_ | refine iR_eqs ?_ | refine iR_nes ?_ | refine iR_eqb ?_ | refine iR_neb ?_) | ((with_reducible first | refine eR_getV ?_ | refine eR_getCv ?_ | refine eR_ownL ?_ | refine eR_cOwn ?_ | refine eR_readO ?_ | refine eS_frz ?_ | refine eR_cellO ?_ | refine eR_of (r := gT _ _ _ _) ?_ | refine eR_of (r := gN _ _ _) ?_ | refine eR_of (r := dAddA _ _) ?_ | refine eR_of (r := dSub _ _) ?_ | refine eR_of (r := dLt _ _) ?_ | refine eR_of (r := dLe _ _) ?_ | refine eR_of (r := dGt _ _) ?_ | refine eR_of (r := dGe _ _) ?_ | refine eR_of (r := dIsN _ _) ?_ | refine eR_of (r := dNotN _ _) ?_ | refine eR_of (r := dIx _ _) ?_ | refine eR_of (r := dNeg _) ?_ | refine eR_of (r := dLen _) ?_ | refine eR_of (r := dList _) ?_ | refine eR_of (r := dTuple _) ?_ | refine eR_of (r := dRev _) ?_ | refine eR_of (r := dInt1 _) ?_ | refine eR_of (r := boolR _) ?_ | refine eR_of (r := intR _) ?_ | refine eR_of (r := itemsR _) ?_ | refine eR_of (r := truD _) ?_ | refine eR_of (r := dMax2 _) ?_ | refine eR_of (r := dMin2 _) ?_ | refine eR_of (r := slD _ _ _) ?_ | refine eR_of (r := mkT _) ?_ | refine eR_of (r := mkL _) ?_ | refine eR_of (r := endR _ _ _ _) ?_ | refine eR_of (r := lRg _ _) ?_ | refine eR_of (r := optB _) ?_ | refine eR_of (r := optR _) ?_); refine ⟨_, rfl, ?_⟩) | ((with_reducible first | refine eR_getCo ?_ | refine eS_frz' ?_); refine ⟨_, rfl, ?_⟩) | ((with_reducible first | refine iR_rng1 ?hh_ ?_ | refine iR_rng2 ?hh_ ?_ | refine iR_dMul ?hh_ ?_ | refine iR_dDiv ?hh_ ?_ | refine iR_dMod ?hh_ ?_ | refine iR_dPow ?hh_ ?_ | refine iR_dAddl ?hh_ ?_ | refine iR_dAdds ?hh_ ?_ | refine iR_dCat ?hh_ ?_ | refine iR_app ?hh_ ?_); (case hh_ => first | omega | decide)) | ((with_reducible first | refine iR_isi_t ?hh_ ?_ | refine if_ct ?hh_ ?_); (case hh_ => exact rfl)) | ((with_reducible first | refine iR_isi_f ?hh_ ?_ | refine if_cf ?hh_ ?_); (case hh_ => exact rfl)) | ((with_reducible refine iR_guard ?hh_ ?_); (case hh_ => first | decide | omega)) | (with_reducible refine iR_okk ?_) | ((with_reducible refine And.intro ?hh_ ?_); (case hh_ => first | decide | exact List.nodup_singleton _ | exact rfl | (simp only [List.length_cons, List.length_nil]; decide) | (intro z; cases z) | omega | (intro _; rfl)))); try dsimp only [List.set_cons_zero, List.set_cons_succ, ownIx, wipeE, restore, List.nil_append, List.cons_append])
  rfl
def Deck (ds : List D) : Prop := ∃ (ns : List Int) (k r s : Int), ds = [.list (ns.map PyData.int), .int k, .int r, .int s] ∧ 0 ≤ k
theorem fmod_in {v m : Int} (hm : 0 < m) : 0 ≤ v.fmod m ∧ v.fmod m < m := by
  rw [Int.fmod_eq_emod_of_nonneg v (by omega)]
  exact ⟨Int.emod_nonneg _ (by omega), Int.emod_lt_of_pos _ hm⟩
theorem atI_ints {ns : List Int} {k : Int} (h0 : 0 ≤ k) (h : k < (ns.map PyData.int).length) : ∃ z : Int, atI (ns.map PyData.int) k = some (.int z) := by
  obtain ⟨j, rfl⟩ := Int.eq_ofNat_of_zero_le h0
  rw [List.length_map] at h
  have hj : j < ns.length := by omega
  exact ⟨ns[j], atI_nat (by rw [List.getElem?_map, List.getElem?_eq_getElem hj]; rfl)⟩
theorem draw_ok {ds : List D} {m : Int} (h : Deck ds) (hm : 0 < m) (hb : m < 2 ^ 64) : wD (RLDraw [.list ds, .int m]) fun fr d os => ∃ v ds', d = .int v ∧ 0 ≤ v ∧ v < m ∧ os = [.list ds'] ∧ Deck ds' := by
  obtain ⟨ns, k, r, s, rfl, hk⟩ := h
  have hm0 : m ≠ 0 := by omega
  have hmd : m ≠ 0 ∧ m.natAbs < 2 ^ 64 := ⟨hm0, by omega⟩
  refine runF_w (G := GLDraw) ?_
  unfold GLDraw
  repeat ((first | (with_reducible first | refine iR_yesT ?_ | refine iR_lcNil ?_ | refine iR_lcCons ?_ | refine if_t ?_ | refine if_f ?_ | refine iS_seq ?_ | refine iS_set ?_ | refine iS_own ?_ | refine iS_drop ?_ | refine iS_ret ?_ | refine iS_retF ?_ | refine iS_next ?_ | refine iS_if ?_ | refine iS_asg ?_ | refine iS_for0 ?_ | refine iR_ap1 ?_ | refine iR_ap2 ?_ | refine iR_ap2N ?_ | refine iR_apA ?_ | refine iR_kst ?_ | refine iR_aNil ?_ | refine iR_aCons ?_ | refine iR_asB ?_ | refine iR_truR ?_ | refine iR_andT ?_ | refine iR_orT ?_ | refine iR_notT ?_ | refine iR_andV ?_ | refine iR_orV ?_ | refine iR_notV ?_ | refine iR_ifE ?_ | refine iR_asI ?_ | refine iS_sub ?_ | refine iS_retO ?_ | refine iR_mtF ?_ | refine iR_cNil ?_ | refine iR_cVal ?_ | refine iR_call ?_ | refine iR_readV ?_ | refine iR_readN ?_ | refine iR_writeN ?_ | refine iR_writeC ?_ | refine iR_asR1 ?_ | refine iR_asR2 ?_ | refine iR_bind ?_ | refine iR_lc ?_ | refine iR_slN ?_ | refine iR_oSome ?_ | refine iR_oNone ?_ | refine iR_lRg2 ?_ | refine iR_eqi ?_ | refine iR_nei ?_ | refine iR_eqs ?_ | refine iR_nes ?_ | refine iR_eqb ?_ | refine iR_neb ?_) | ((with_reducible first | refine eR_getV ?_ | refine eR_getCv ?_ | refine eR_ownL ?_ | refine eR_cOwn ?_ | refine eR_readO ?_ | refine eS_frz ?_ | refine eR_cellO ?_ | refine eR_of (r := gT _ _ _ _) ?_ | refine eR_of (r := gN _ _ _) ?_ | refine eR_of (r := dAddA _ _) ?_ | refine eR_of (r := dSub _ _) ?_ | refine eR_of (r := dLt _ _) ?_ | refine eR_of (r := dLe _ _) ?_ | refine eR_of (r := dGt _ _) ?_ | refine eR_of (r := dGe _ _) ?_ | refine eR_of (r := dIsN _ _) ?_ | refine eR_of (r := dNotN _ _) ?_ | refine eR_of (r := dIx _ _) ?_ | refine eR_of (r := dNeg _) ?_ | refine eR_of (r := dLen _) ?_ | refine eR_of (r := dList _) ?_ | refine eR_of (r := dTuple _) ?_ | refine eR_of (r := dRev _) ?_ | refine eR_of (r := dInt1 _) ?_ | refine eR_of (r := boolR _) ?_ | refine eR_of (r := intR _) ?_ | refine eR_of (r := itemsR _) ?_ | refine eR_of (r := truD _) ?_ | refine eR_of (r := dMax2 _) ?_ | refine eR_of (r := dMin2 _) ?_ | refine eR_of (r := slD _ _ _) ?_ | refine eR_of (r := mkT _) ?_ | refine eR_of (r := mkL _) ?_ | refine eR_of (r := endR _ _ _ _) ?_ | refine eR_of (r := lRg _ _) ?_ | refine eR_of (r := optB _) ?_ | refine eR_of (r := optR _) ?_); refine ⟨_, rfl, ?_⟩) | ((with_reducible first | refine eR_getCo ?_ | refine eS_frz' ?_); refine ⟨_, rfl, ?_⟩) | ((with_reducible first | refine iR_rng1 ?hh_ ?_ | refine iR_rng2 ?hh_ ?_ | refine iR_dMul ?hh_ ?_ | refine iR_dDiv ?hh_ ?_ | refine iR_dMod ?hh_ ?_ | refine iR_dPow ?hh_ ?_ | refine iR_dAddl ?hh_ ?_ | refine iR_dAdds ?hh_ ?_ | refine iR_dCat ?hh_ ?_ | refine iR_app ?hh_ ?_); (case hh_ => first | omega | decide)) | ((with_reducible first | refine iR_isi_t ?hh_ ?_ | refine if_ct ?hh_ ?_); (case hh_ => exact rfl)) | ((with_reducible first | refine iR_isi_f ?hh_ ?_ | refine if_cf ?hh_ ?_); (case hh_ => exact rfl)) | ((with_reducible refine iR_guard ?hh_ ?_); (case hh_ => first | decide | omega)) | (with_reducible refine iR_okk ?_) | ((with_reducible refine And.intro ?hh_ ?_); (case hh_ => first | decide | exact List.nodup_singleton _ | exact rfl | (simp only [List.length_cons, List.length_nil]; decide) | (intro z; cases z) | omega | (intro _; rfl)))); try dsimp only [List.set_cons_zero, List.set_cons_succ, ownIx, wipeE, restore, List.nil_append, List.cons_append])
  refine DL.ifd (fun hc => ?_) (fun hc => ?_)
  · repeat ((first | (with_reducible first | refine iR_yesT ?_ | refine iR_lcNil ?_ | refine iR_lcCons ?_ | refine if_t ?_ | refine if_f ?_ | refine iS_seq ?_ | refine iS_set ?_ | refine iS_own ?_ | refine iS_drop ?_ | refine iS_ret ?_ | refine iS_retF ?_ | refine iS_next ?_ | refine iS_if ?_ | refine iS_asg ?_ | refine iS_for0 ?_ | refine iR_ap1 ?_ | refine iR_ap2 ?_ | refine iR_ap2N ?_ | refine iR_apA ?_ | refine iR_kst ?_ | refine iR_aNil ?_ | refine iR_aCons ?_ | refine iR_asB ?_ | refine iR_truR ?_ | refine iR_andT ?_ | refine iR_orT ?_ | refine iR_notT ?_ | refine iR_andV ?_ | refine iR_orV ?_ | refine iR_notV ?_ | refine iR_ifE ?_ | refine iR_asI ?_ | refine iS_sub ?_ | refine iS_retO ?_ | refine iR_mtF ?_ | refine iR_cNil ?_ | refine iR_cVal ?_ | refine iR_call ?_ | refine iR_readV ?_ | refine iR_readN ?_ | refine iR_writeN ?_ | refine iR_writeC ?_ | refine iR_asR1 ?_ | refine iR_asR2 ?_ | refine iR_bind ?_ | refine iR_lc ?_ | refine iR_slN ?_ | refine iR_oSome ?_ | refine iR_oNone ?_ | refine iR_lRg2 ?_ | refine iR_eqi ?_ | refine iR_nei ?_ | refine iR_eqs ?_ | refine iR_nes ?_ | refine iR_eqb ?_ | refine iR_neb ?_) | ((with_reducible first | refine eR_getV ?_ | refine eR_getCv ?_ | refine eR_ownL ?_ | refine eR_cOwn ?_ | refine eR_readO ?_ | refine eS_frz ?_ | refine eR_cellO ?_ | refine eR_of (r := gT _ _ _ _) ?_ | refine eR_of (r := gN _ _ _) ?_ | refine eR_of (r := dAddA _ _) ?_ | refine eR_of (r := dSub _ _) ?_ | refine eR_of (r := dLt _ _) ?_ | refine eR_of (r := dLe _ _) ?_ | refine eR_of (r := dGt _ _) ?_ | refine eR_of (r := dGe _ _) ?_ | refine eR_of (r := dIsN _ _) ?_ | refine eR_of (r := dNotN _ _) ?_ | refine eR_of (r := dIx _ _) ?_ | refine eR_of (r := dNeg _) ?_ | refine eR_of (r := dLen _) ?_ | refine eR_of (r := dList _) ?_ | refine eR_of (r := dTuple _) ?_ | refine eR_of (r := dRev _) ?_ | refine eR_of (r := dInt1 _) ?_ | refine eR_of (r := boolR _) ?_ | refine eR_of (r := intR _) ?_ | refine eR_of (r := itemsR _) ?_ | refine eR_of (r := truD _) ?_ | refine eR_of (r := dMax2 _) ?_ | refine eR_of (r := dMin2 _) ?_ | refine eR_of (r := slD _ _ _) ?_ | refine eR_of (r := mkT _) ?_ | refine eR_of (r := mkL _) ?_ | refine eR_of (r := endR _ _ _ _) ?_ | refine eR_of (r := lRg _ _) ?_ | refine eR_of (r := optB _) ?_ | refine eR_of (r := optR _) ?_); refine ⟨_, rfl, ?_⟩) | ((with_reducible first | refine eR_getCo ?_ | refine eS_frz' ?_); refine ⟨_, rfl, ?_⟩) | ((with_reducible first | refine iR_rng1 ?hh_ ?_ | refine iR_rng2 ?hh_ ?_ | refine iR_dMul ?hh_ ?_ | refine iR_dDiv ?hh_ ?_ | refine iR_dMod ?hh_ ?_ | refine iR_dPow ?hh_ ?_ | refine iR_dAddl ?hh_ ?_ | refine iR_dAdds ?hh_ ?_ | refine iR_dCat ?hh_ ?_ | refine iR_app ?hh_ ?_); (case hh_ => first | omega | decide)) | ((with_reducible first | refine iR_isi_t ?hh_ ?_ | refine if_ct ?hh_ ?_); (case hh_ => exact rfl)) | ((with_reducible first | refine iR_isi_f ?hh_ ?_ | refine if_cf ?hh_ ?_); (case hh_ => exact rfl)) | ((with_reducible refine iR_guard ?hh_ ?_); (case hh_ => first | decide | omega)) | (with_reducible refine iR_okk ?_) | ((with_reducible refine And.intro ?hh_ ?_); (case hh_ => first | decide | exact List.nodup_singleton _ | exact rfl | (simp only [List.length_cons, List.length_nil]; decide) | (intro z; cases z) | omega | (intro _; rfl)))); try dsimp only [List.set_cons_zero, List.set_cons_succ, ownIx, wipeE, restore, List.nil_append, List.cons_append])
    exact ⟨_, _, rfl, (fmod_in hm).1, (fmod_in hm).2, rfl, ns, _, _, _, rfl, hk⟩
  repeat ((first | (with_reducible first | refine iR_yesT ?_ | refine iR_lcNil ?_ | refine iR_lcCons ?_ | refine if_t ?_ | refine if_f ?_ | refine iS_seq ?_ | refine iS_set ?_ | refine iS_own ?_ | refine iS_drop ?_ | refine iS_ret ?_ | refine iS_retF ?_ | refine iS_next ?_ | refine iS_if ?_ | refine iS_asg ?_ | refine iS_for0 ?_ | refine iR_ap1 ?_ | refine iR_ap2 ?_ | refine iR_ap2N ?_ | refine iR_apA ?_ | refine iR_kst ?_ | refine iR_aNil ?_ | refine iR_aCons ?_ | refine iR_asB ?_ | refine iR_truR ?_ | refine iR_andT ?_ | refine iR_orT ?_ | refine iR_notT ?_ | refine iR_andV ?_ | refine iR_orV ?_ | refine iR_notV ?_ | refine iR_ifE ?_ | refine iR_asI ?_ | refine iS_sub ?_ | refine iS_retO ?_ | refine iR_mtF ?_ | refine iR_cNil ?_ | refine iR_cVal ?_ | refine iR_call ?_ | refine iR_readV ?_ | refine iR_readN ?_ | refine iR_writeN ?_ | refine iR_writeC ?_ | refine iR_asR1 ?_ | refine iR_asR2 ?_ | refine iR_bind ?_ | refine iR_lc ?_ | refine iR_slN ?_ | refine iR_oSome ?_ | refine iR_oNone ?_ | refine iR_lRg2 ?_ | refine iR_eqi ?_ | refine iR_nei ?_ | refine iR_eqs ?_ | refine iR_nes ?_ | refine iR_eqb ?_ | refine iR_neb ?_) | ((with_reducible first | refine eR_getV ?_ | refine eR_getCv ?_ | refine eR_ownL ?_ | refine eR_cOwn ?_ | refine eR_readO ?_ | refine eS_frz ?_ | refine eR_cellO ?_ | refine eR_of (r := gT _ _ _ _) ?_ | refine eR_of (r := gN _ _ _) ?_ | refine eR_of (r := dAddA _ _) ?_ | refine eR_of (r := dSub _ _) ?_ | refine eR_of (r := dLt _ _) ?_ | refine eR_of (r := dLe _ _) ?_ | refine eR_of (r := dGt _ _) ?_ | refine eR_of (r := dGe _ _) ?_ | refine eR_of (r := dIsN _ _) ?_ | refine eR_of (r := dNotN _ _) ?_ | refine eR_of (r := dIx _ _) ?_ | refine eR_of (r := dNeg _) ?_ | refine eR_of (r := dLen _) ?_ | refine eR_of (r := dList _) ?_ | refine eR_of (r := dTuple _) ?_ | refine eR_of (r := dRev _) ?_ | refine eR_of (r := dInt1 _) ?_ | refine eR_of (r := boolR _) ?_ | refine eR_of (r := intR _) ?_ | refine eR_of (r := itemsR _) ?_ | refine eR_of (r := truD _) ?_ | refine eR_of (r := dMax2 _) ?_ | refine eR_of (r := dMin2 _) ?_ | refine eR_of (r := slD _ _ _) ?_ | refine eR_of (r := mkT _) ?_ | refine eR_of (r := mkL _) ?_ | refine eR_of (r := endR _ _ _ _) ?_ | refine eR_of (r := lRg _ _) ?_ | refine eR_of (r := optB _) ?_ | refine eR_of (r := optR _) ?_); refine ⟨_, rfl, ?_⟩) | ((with_reducible first | refine eR_getCo ?_ | refine eS_frz' ?_); refine ⟨_, rfl, ?_⟩) | ((with_reducible first | refine iR_rng1 ?hh_ ?_ | refine iR_rng2 ?hh_ ?_ | refine iR_dMul ?hh_ ?_ | refine iR_dDiv ?hh_ ?_ | refine iR_dMod ?hh_ ?_ | refine iR_dPow ?hh_ ?_ | refine iR_dAddl ?hh_ ?_ | refine iR_dAdds ?hh_ ?_ | refine iR_dCat ?hh_ ?_ | refine iR_app ?hh_ ?_); (case hh_ => first | omega | decide)) | ((with_reducible first | refine iR_isi_t ?hh_ ?_ | refine if_ct ?hh_ ?_); (case hh_ => exact rfl)) | ((with_reducible first | refine iR_isi_f ?hh_ ?_ | refine if_cf ?hh_ ?_); (case hh_ => exact rfl)) | ((with_reducible refine iR_guard ?hh_ ?_); (case hh_ => first | decide | omega)) | (with_reducible refine iR_okk ?_) | ((with_reducible refine And.intro ?hh_ ?_); (case hh_ => first | decide | exact List.nodup_singleton _ | exact rfl | (simp only [List.length_cons, List.length_nil]; decide) | (intro z; cases z) | omega | (intro _; rfl)))); try dsimp only [List.set_cons_zero, List.set_cons_succ, ownIx, wipeE, restore, List.nil_append, List.cons_append])
  have tail : ∀ cell : Int, wS ((sSeq (sSub 0 (ap2 (ap2N 0 (kst (.int 1)) dIx) (kst (.int 1)) dAddA) (kst (.int 1)))
 (sSeq (sSub 0 (kst (.int 0)) (kst (.int 2)))
 (sSeq (sIf (asB (ap2N 3 (ap2 (kst (.int 10)) (kst (.int 18)) dPow) dGe))
 (sSeq (sSub 0 (ap2N 3 (getC 1) dDiv) (kst (.int 2)))
 (sRet (ap2 (ap1 (getC 3) dInt1) (getC 1) dMod)))
 sNext)
 (sSeq (sSub 0 (ap2 (ap1 (ap2 (ap2 (ap2 (ap2N 0 (kst (.int 3)) dIx) (kst (.int 48271)) dMul) (ap2N 3 (kst (.int 69621)) dMul) dAddA) (ap2 (ap2N 0 (kst (.int 1)) dIx) (kst (.int 911)) dMul) dAddA) dInt1) (kst (.int 2147483647)) dMod) (kst (.int 3)))
 (sSeq (sSub 0 (ap2 (ap1 (ap2 (ap2 (ap2N 0 (kst (.int 3)) dIx) (kst (.int 48271)) dMul) (kst (.int 12345)) dAddA) dInt1) (kst (.int 2147483647)) dMod) (kst (.int 3)))
 (sRet (ap2 (ap1 (ap2 (ap2N 0 (kst (.int 3)) dIx) (kst (.int 64)) dDiv) dInt1) (getC 1) dMod))))))) [some (.own (.list [.list (ns.map PyData.int), .int k, .int r, .int s])), some (.val (.int m)), none, some (.val (.int cell))])
      (fun e => wD (endR [true, false] false .none e) fun fr d os => ∃ v ds', d = .int v ∧ 0 ≤ v ∧ v < m ∧ os = [.list ds'] ∧ Deck ds') fun fr d e => wD (endR [true, false] fr d e) fun fr d os => ∃ v ds', d = .int v ∧ 0 ≤ v ∧ v < m ∧ os = [.list ds'] ∧ Deck ds' := by
    intro cell
    repeat ((first | (with_reducible first | refine iR_yesT ?_ | refine iR_lcNil ?_ | refine iR_lcCons ?_ | refine if_t ?_ | refine if_f ?_ | refine iS_seq ?_ | refine iS_set ?_ | refine iS_own ?_ | refine iS_drop ?_ | refine iS_ret ?_ | refine iS_retF ?_ | refine iS_next ?_ | refine iS_if ?_ | refine iS_asg ?_ | refine iS_for0 ?_ | refine iR_ap1 ?_ | refine iR_ap2 ?_ | refine iR_ap2N ?_ | refine iR_apA ?_ | refine iR_kst ?_ | refine iR_aNil ?_ | refine iR_aCons ?_ | refine iR_asB ?_ | refine iR_truR ?_ | refine iR_andT ?_ | refine iR_orT ?_ | refine iR_notT ?_ | refine iR_andV ?_ | refine iR_orV ?_ | refine iR_notV ?_ | refine iR_ifE ?_ | refine iR_asI ?_ | refine iS_sub ?_ | refine iS_retO ?_ | refine iR_mtF ?_ | refine iR_cNil ?_ | refine iR_cVal ?_ | refine iR_call ?_ | refine iR_readV ?_ | refine iR_readN ?_ | refine iR_writeN ?_ | refine iR_writeC ?_ | refine iR_asR1 ?_ | refine iR_asR2 ?_ | refine iR_bind ?_ | refine iR_lc ?_ | refine iR_slN ?_ | refine iR_oSome ?_ | refine iR_oNone ?_ | refine iR_lRg2 ?_ | refine iR_eqi ?_ | refine iR_nei ?_ | refine iR_eqs ?_ | refine iR_nes ?_ | refine iR_eqb ?_ | refine iR_neb ?_) | ((with_reducible first | refine eR_getV ?_ | refine eR_getCv ?_ | refine eR_ownL ?_ | refine eR_cOwn ?_ | refine eR_readO ?_ | refine eS_frz ?_ | refine eR_cellO ?_ | refine eR_of (r := gT _ _ _ _) ?_ | refine eR_of (r := gN _ _ _) ?_ | refine eR_of (r := dAddA _ _) ?_ | refine eR_of (r := dSub _ _) ?_ | refine eR_of (r := dLt _ _) ?_ | refine eR_of (r := dLe _ _) ?_ | refine eR_of (r := dGt _ _) ?_ | refine eR_of (r := dGe _ _) ?_ | refine eR_of (r := dIsN _ _) ?_ | refine eR_of (r := dNotN _ _) ?_ | refine eR_of (r := dIx _ _) ?_ | refine eR_of (r := dNeg _) ?_ | refine eR_of (r := dLen _) ?_ | refine eR_of (r := dList _) ?_ | refine eR_of (r := dTuple _) ?_ | refine eR_of (r := dRev _) ?_ | refine eR_of (r := dInt1 _) ?_ | refine eR_of (r := boolR _) ?_ | refine eR_of (r := intR _) ?_ | refine eR_of (r := itemsR _) ?_ | refine eR_of (r := truD _) ?_ | refine eR_of (r := dMax2 _) ?_ | refine eR_of (r := dMin2 _) ?_ | refine eR_of (r := slD _ _ _) ?_ | refine eR_of (r := mkT _) ?_ | refine eR_of (r := mkL _) ?_ | refine eR_of (r := endR _ _ _ _) ?_ | refine eR_of (r := lRg _ _) ?_ | refine eR_of (r := optB _) ?_ | refine eR_of (r := optR _) ?_); refine ⟨_, rfl, ?_⟩) | ((with_reducible first | refine eR_getCo ?_ | refine eS_frz' ?_); refine ⟨_, rfl, ?_⟩) | ((with_reducible first | refine iR_rng1 ?hh_ ?_ | refine iR_rng2 ?hh_ ?_ | refine iR_dMul ?hh_ ?_ | refine iR_dDiv ?hh_ ?_ | refine iR_dMod ?hh_ ?_ | refine iR_dPow ?hh_ ?_ | refine iR_dAddl ?hh_ ?_ | refine iR_dAdds ?hh_ ?_ | refine iR_dCat ?hh_ ?_ | refine iR_app ?hh_ ?_); (case hh_ => first | omega | decide)) | ((with_reducible first | refine iR_isi_t ?hh_ ?_ | refine if_ct ?hh_ ?_); (case hh_ => exact rfl)) | ((with_reducible first | refine iR_isi_f ?hh_ ?_ | refine if_cf ?hh_ ?_); (case hh_ => exact rfl)) | ((with_reducible refine iR_guard ?hh_ ?_); (case hh_ => first | decide | omega)) | (with_reducible refine iR_okk ?_) | ((with_reducible refine And.intro ?hh_ ?_); (case hh_ => first | decide | exact List.nodup_singleton _ | exact rfl | (simp only [List.length_cons, List.length_nil]; decide) | (intro z; cases z) | omega | (intro _; rfl)))); try dsimp only [List.set_cons_zero, List.set_cons_succ, ownIx, wipeE, restore, List.nil_append, List.cons_append])
    refine DL.ifd (fun hc2 => ?_) (fun hc2 => ?_)
    · repeat ((first | (with_reducible first | refine iR_yesT ?_ | refine iR_lcNil ?_ | refine iR_lcCons ?_ | refine if_t ?_ | refine if_f ?_ | refine iS_seq ?_ | refine iS_set ?_ | refine iS_own ?_ | refine iS_drop ?_ | refine iS_ret ?_ | refine iS_retF ?_ | refine iS_next ?_ | refine iS_if ?_ | refine iS_asg ?_ | refine iS_for0 ?_ | refine iR_ap1 ?_ | refine iR_ap2 ?_ | refine iR_ap2N ?_ | refine iR_apA ?_ | refine iR_kst ?_ | refine iR_aNil ?_ | refine iR_aCons ?_ | refine iR_asB ?_ | refine iR_truR ?_ | refine iR_andT ?_ | refine iR_orT ?_ | refine iR_notT ?_ | refine iR_andV ?_ | refine iR_orV ?_ | refine iR_notV ?_ | refine iR_ifE ?_ | refine iR_asI ?_ | refine iS_sub ?_ | refine iS_retO ?_ | refine iR_mtF ?_ | refine iR_cNil ?_ | refine iR_cVal ?_ | refine iR_call ?_ | refine iR_readV ?_ | refine iR_readN ?_ | refine iR_writeN ?_ | refine iR_writeC ?_ | refine iR_asR1 ?_ | refine iR_asR2 ?_ | refine iR_bind ?_ | refine iR_lc ?_ | refine iR_slN ?_ | refine iR_oSome ?_ | refine iR_oNone ?_ | refine iR_lRg2 ?_ | refine iR_eqi ?_ | refine iR_nei ?_ | refine iR_eqs ?_ | refine iR_nes ?_ | refine iR_eqb ?_ | refine iR_neb ?_) | ((with_reducible first | refine eR_getV ?_ | refine eR_getCv ?_ | refine eR_ownL ?_ | refine eR_cOwn ?_ | refine eR_readO ?_ | refine eS_frz ?_ | refine eR_cellO ?_ | refine eR_of (r := gT _ _ _ _) ?_ | refine eR_of (r := gN _ _ _) ?_ | refine eR_of (r := dAddA _ _) ?_ | refine eR_of (r := dSub _ _) ?_ | refine eR_of (r := dLt _ _) ?_ | refine eR_of (r := dLe _ _) ?_ | refine eR_of (r := dGt _ _) ?_ | refine eR_of (r := dGe _ _) ?_ | refine eR_of (r := dIsN _ _) ?_ | refine eR_of (r := dNotN _ _) ?_ | refine eR_of (r := dIx _ _) ?_ | refine eR_of (r := dNeg _) ?_ | refine eR_of (r := dLen _) ?_ | refine eR_of (r := dList _) ?_ | refine eR_of (r := dTuple _) ?_ | refine eR_of (r := dRev _) ?_ | refine eR_of (r := dInt1 _) ?_ | refine eR_of (r := boolR _) ?_ | refine eR_of (r := intR _) ?_ | refine eR_of (r := itemsR _) ?_ | refine eR_of (r := truD _) ?_ | refine eR_of (r := dMax2 _) ?_ | refine eR_of (r := dMin2 _) ?_ | refine eR_of (r := slD _ _ _) ?_ | refine eR_of (r := mkT _) ?_ | refine eR_of (r := mkL _) ?_ | refine eR_of (r := endR _ _ _ _) ?_ | refine eR_of (r := lRg _ _) ?_ | refine eR_of (r := optB _) ?_ | refine eR_of (r := optR _) ?_); refine ⟨_, rfl, ?_⟩) | ((with_reducible first | refine eR_getCo ?_ | refine eS_frz' ?_); refine ⟨_, rfl, ?_⟩) | ((with_reducible first | refine iR_rng1 ?hh_ ?_ | refine iR_rng2 ?hh_ ?_ | refine iR_dMul ?hh_ ?_ | refine iR_dDiv ?hh_ ?_ | refine iR_dMod ?hh_ ?_ | refine iR_dPow ?hh_ ?_ | refine iR_dAddl ?hh_ ?_ | refine iR_dAdds ?hh_ ?_ | refine iR_dCat ?hh_ ?_ | refine iR_app ?hh_ ?_); (case hh_ => first | omega | decide)) | ((with_reducible first | refine iR_isi_t ?hh_ ?_ | refine if_ct ?hh_ ?_); (case hh_ => exact rfl)) | ((with_reducible first | refine iR_isi_f ?hh_ ?_ | refine if_cf ?hh_ ?_); (case hh_ => exact rfl)) | ((with_reducible refine iR_guard ?hh_ ?_); (case hh_ => first | decide | omega)) | (with_reducible refine iR_okk ?_) | ((with_reducible refine And.intro ?hh_ ?_); (case hh_ => first | decide | exact List.nodup_singleton _ | exact rfl | (simp only [List.length_cons, List.length_nil]; decide) | (intro z; cases z) | omega | (intro _; rfl)))); try dsimp only [List.set_cons_zero, List.set_cons_succ, ownIx, wipeE, restore, List.nil_append, List.cons_append])
      exact ⟨_, _, rfl, (fmod_in hm).1, (fmod_in hm).2, rfl, ns, _, _, _, rfl, by omega⟩
    repeat ((first | (with_reducible first | refine iR_yesT ?_ | refine iR_lcNil ?_ | refine iR_lcCons ?_ | refine if_t ?_ | refine if_f ?_ | refine iS_seq ?_ | refine iS_set ?_ | refine iS_own ?_ | refine iS_drop ?_ | refine iS_ret ?_ | refine iS_retF ?_ | refine iS_next ?_ | refine iS_if ?_ | refine iS_asg ?_ | refine iS_for0 ?_ | refine iR_ap1 ?_ | refine iR_ap2 ?_ | refine iR_ap2N ?_ | refine iR_apA ?_ | refine iR_kst ?_ | refine iR_aNil ?_ | refine iR_aCons ?_ | refine iR_asB ?_ | refine iR_truR ?_ | refine iR_andT ?_ | refine iR_orT ?_ | refine iR_notT ?_ | refine iR_andV ?_ | refine iR_orV ?_ | refine iR_notV ?_ | refine iR_ifE ?_ | refine iR_asI ?_ | refine iS_sub ?_ | refine iS_retO ?_ | refine iR_mtF ?_ | refine iR_cNil ?_ | refine iR_cVal ?_ | refine iR_call ?_ | refine iR_readV ?_ | refine iR_readN ?_ | refine iR_writeN ?_ | refine iR_writeC ?_ | refine iR_asR1 ?_ | refine iR_asR2 ?_ | refine iR_bind ?_ | refine iR_lc ?_ | refine iR_slN ?_ | refine iR_oSome ?_ | refine iR_oNone ?_ | refine iR_lRg2 ?_ | refine iR_eqi ?_ | refine iR_nei ?_ | refine iR_eqs ?_ | refine iR_nes ?_ | refine iR_eqb ?_ | refine iR_neb ?_) | ((with_reducible first | refine eR_getV ?_ | refine eR_getCv ?_ | refine eR_ownL ?_ | refine eR_cOwn ?_ | refine eR_readO ?_ | refine eS_frz ?_ | refine eR_cellO ?_ | refine eR_of (r := gT _ _ _ _) ?_ | refine eR_of (r := gN _ _ _) ?_ | refine eR_of (r := dAddA _ _) ?_ | refine eR_of (r := dSub _ _) ?_ | refine eR_of (r := dLt _ _) ?_ | refine eR_of (r := dLe _ _) ?_ | refine eR_of (r := dGt _ _) ?_ | refine eR_of (r := dGe _ _) ?_ | refine eR_of (r := dIsN _ _) ?_ | refine eR_of (r := dNotN _ _) ?_ | refine eR_of (r := dIx _ _) ?_ | refine eR_of (r := dNeg _) ?_ | refine eR_of (r := dLen _) ?_ | refine eR_of (r := dList _) ?_ | refine eR_of (r := dTuple _) ?_ | refine eR_of (r := dRev _) ?_ | refine eR_of (r := dInt1 _) ?_ | refine eR_of (r := boolR _) ?_ | refine eR_of (r := intR _) ?_ | refine eR_of (r := itemsR _) ?_ | refine eR_of (r := truD _) ?_ | refine eR_of (r := dMax2 _) ?_ | refine eR_of (r := dMin2 _) ?_ | refine eR_of (r := slD _ _ _) ?_ | refine eR_of (r := mkT _) ?_ | refine eR_of (r := mkL _) ?_ | refine eR_of (r := endR _ _ _ _) ?_ | refine eR_of (r := lRg _ _) ?_ | refine eR_of (r := optB _) ?_ | refine eR_of (r := optR _) ?_); refine ⟨_, rfl, ?_⟩) | ((with_reducible first | refine eR_getCo ?_ | refine eS_frz' ?_); refine ⟨_, rfl, ?_⟩) | ((with_reducible first | refine iR_rng1 ?hh_ ?_ | refine iR_rng2 ?hh_ ?_ | refine iR_dMul ?hh_ ?_ | refine iR_dDiv ?hh_ ?_ | refine iR_dMod ?hh_ ?_ | refine iR_dPow ?hh_ ?_ | refine iR_dAddl ?hh_ ?_ | refine iR_dAdds ?hh_ ?_ | refine iR_dCat ?hh_ ?_ | refine iR_app ?hh_ ?_); (case hh_ => first | omega | decide)) | ((with_reducible first | refine iR_isi_t ?hh_ ?_ | refine if_ct ?hh_ ?_); (case hh_ => exact rfl)) | ((with_reducible first | refine iR_isi_f ?hh_ ?_ | refine if_cf ?hh_ ?_); (case hh_ => exact rfl)) | ((with_reducible refine iR_guard ?hh_ ?_); (case hh_ => first | decide | omega)) | (with_reducible refine iR_okk ?_) | ((with_reducible refine And.intro ?hh_ ?_); (case hh_ => first | decide | exact List.nodup_singleton _ | exact rfl | (simp only [List.length_cons, List.length_nil]; decide) | (intro z; cases z) | omega | (intro _; rfl)))); try dsimp only [List.set_cons_zero, List.set_cons_succ, ownIx, wipeE, restore, List.nil_append, List.cons_append])
    exact ⟨_, _, rfl, (fmod_in hm).1, (fmod_in hm).2, rfl, ns, _, _, _, rfl, by omega⟩
  refine DL.ifd (fun hl => ?_) (fun hl => ?_)
  · obtain ⟨z, hz⟩ := atI_ints hk hl
    repeat ((first | (with_reducible first | refine iR_yesT ?_ | refine iR_lcNil ?_ | refine iR_lcCons ?_ | refine if_t ?_ | refine if_f ?_ | refine iS_seq ?_ | refine iS_set ?_ | refine iS_own ?_ | refine iS_drop ?_ | refine iS_ret ?_ | refine iS_retF ?_ | refine iS_next ?_ | refine iS_if ?_ | refine iS_asg ?_ | refine iS_for0 ?_ | refine iR_ap1 ?_ | refine iR_ap2 ?_ | refine iR_ap2N ?_ | refine iR_apA ?_ | refine iR_kst ?_ | refine iR_aNil ?_ | refine iR_aCons ?_ | refine iR_asB ?_ | refine iR_truR ?_ | refine iR_andT ?_ | refine iR_orT ?_ | refine iR_notT ?_ | refine iR_andV ?_ | refine iR_orV ?_ | refine iR_notV ?_ | refine iR_ifE ?_ | refine iR_asI ?_ | refine iS_sub ?_ | refine iS_retO ?_ | refine iR_mtF ?_ | refine iR_cNil ?_ | refine iR_cVal ?_ | refine iR_call ?_ | refine iR_readV ?_ | refine iR_readN ?_ | refine iR_writeN ?_ | refine iR_writeC ?_ | refine iR_asR1 ?_ | refine iR_asR2 ?_ | refine iR_bind ?_ | refine iR_lc ?_ | refine iR_slN ?_ | refine iR_oSome ?_ | refine iR_oNone ?_ | refine iR_lRg2 ?_ | refine iR_eqi ?_ | refine iR_nei ?_ | refine iR_eqs ?_ | refine iR_nes ?_ | refine iR_eqb ?_ | refine iR_neb ?_) | ((with_reducible first | refine eR_getV ?_ | refine eR_getCv ?_ | refine eR_ownL ?_ | refine eR_cOwn ?_ | refine eR_readO ?_ | refine eS_frz ?_ | refine eR_cellO ?_ | refine eR_of (r := gT _ _ _ _) ?_ | refine eR_of (r := gN _ _ _) ?_ | refine eR_of (r := dAddA _ _) ?_ | refine eR_of (r := dSub _ _) ?_ | refine eR_of (r := dLt _ _) ?_ | refine eR_of (r := dLe _ _) ?_ | refine eR_of (r := dGt _ _) ?_ | refine eR_of (r := dGe _ _) ?_ | refine eR_of (r := dIsN _ _) ?_ | refine eR_of (r := dNotN _ _) ?_ | refine eR_of (r := dIx _ _) ?_ | refine eR_of (r := dNeg _) ?_ | refine eR_of (r := dLen _) ?_ | refine eR_of (r := dList _) ?_ | refine eR_of (r := dTuple _) ?_ | refine eR_of (r := dRev _) ?_ | refine eR_of (r := dInt1 _) ?_ | refine eR_of (r := boolR _) ?_ | refine eR_of (r := intR _) ?_ | refine eR_of (r := itemsR _) ?_ | refine eR_of (r := truD _) ?_ | refine eR_of (r := dMax2 _) ?_ | refine eR_of (r := dMin2 _) ?_ | refine eR_of (r := slD _ _ _) ?_ | refine eR_of (r := mkT _) ?_ | refine eR_of (r := mkL _) ?_ | refine eR_of (r := endR _ _ _ _) ?_ | refine eR_of (r := lRg _ _) ?_ | refine eR_of (r := optB _) ?_ | refine eR_of (r := optR _) ?_); refine ⟨_, rfl, ?_⟩) | ((with_reducible first | refine eR_getCo ?_ | refine eS_frz' ?_); refine ⟨_, rfl, ?_⟩) | ((with_reducible first | refine iR_rng1 ?hh_ ?_ | refine iR_rng2 ?hh_ ?_ | refine iR_dMul ?hh_ ?_ | refine iR_dDiv ?hh_ ?_ | refine iR_dMod ?hh_ ?_ | refine iR_dPow ?hh_ ?_ | refine iR_dAddl ?hh_ ?_ | refine iR_dAdds ?hh_ ?_ | refine iR_dCat ?hh_ ?_ | refine iR_app ?hh_ ?_); (case hh_ => first | omega | decide)) | ((with_reducible first | refine iR_isi_t ?hh_ ?_ | refine if_ct ?hh_ ?_); (case hh_ => exact rfl)) | ((with_reducible first | refine iR_isi_f ?hh_ ?_ | refine if_cf ?hh_ ?_); (case hh_ => exact rfl)) | ((with_reducible refine iR_guard ?hh_ ?_); (case hh_ => first | decide | omega)) | (with_reducible refine iR_okk ?_) | ((with_reducible refine And.intro ?hh_ ?_); (case hh_ => first | decide | exact List.nodup_singleton _ | exact rfl | (simp only [List.length_cons, List.length_nil]; decide) | (intro z; cases z) | omega | (intro _; rfl)))); try dsimp only [List.set_cons_zero, List.set_cons_succ, ownIx, wipeE, restore, List.nil_append, List.cons_append])
    refine iR_ixl hz ?_
    exact tail z
  · exact iS_next (tail 0)
end D51
namespace D51
open PySem PySem.Spec L2 DL
def prD (p : Int × Int) : D := .tuple [.int p.1, .int p.2]
theorem pick2 {a b v : Int} (h0 : 0 ≤ v) (h1 : v < 2) : ∃ z, atI [PyData.int a, .int b] v = some (.int z) ∧ (z = a ∨ z = b) := by
  have : v = 0 ∨ v = 1 := by omega
  rcases this with rfl | rfl
  · exact ⟨a, rfl, Or.inl rfl⟩
  · exact ⟨b, rfl, Or.inr rfl⟩
theorem pick3 {a b c v : Int} (h0 : 0 ≤ v) (h1 : v < 3) : ∃ z, atI [PyData.int a, .int b, .int c] v = some (.int z) ∧ (z = a ∨ z = b ∨ z = c) := by
  have : v = 0 ∨ v = 1 ∨ v = 2 := by omega
  rcases this with rfl | rfl | rfl
  · exact ⟨a, rfl, Or.inl rfl⟩
  · exact ⟨b, rfl, Or.inr (Or.inl rfl)⟩
  · exact ⟨c, rfl, Or.inr (Or.inr rfl)⟩
theorem pick4 {a b c d v : Int} (h0 : 0 ≤ v) (h1 : v < 4) : ∃ z, atI [PyData.int a, .int b, .int c, .int d] v = some (.int z) ∧ (z = a ∨ z = b ∨ z = c ∨ z = d) := by
  have : v = 0 ∨ v = 1 ∨ v = 2 ∨ v = 3 := by omega
  rcases this with rfl | rfl | rfl | rfl
  · exact ⟨a, rfl, Or.inl rfl⟩
  · exact ⟨b, rfl, Or.inr (Or.inl rfl)⟩
  · exact ⟨c, rfl, Or.inr (Or.inr (Or.inl rfl))⟩
  · exact ⟨d, rfl, Or.inr (Or.inr (Or.inr rfl))⟩
def PsOk (ps : List (Int × Int)) : Prop := ∀ p ∈ ps, p.1 ≤ p.2 ∧ -10 ≤ p.1 ∧ p.2 ≤ 100
theorem intervals_ok {ds : List D} (HD : Deck ds) : wD (RLIntervals [.list ds]) fun fr d os => ∃ (ps : List (Int × Int)) (ds' : List D), d = .list (ps.map prD) ∧ ps ≠ [] ∧ ps.length ≤ 5 ∧ PsOk ps ∧ os = [.list ds'] ∧ Deck ds' := by
  refine runF_w (G := GLIntervals) ?_
  unfold GLIntervals
  dsimp only [DL.env0, DL.cells, DL.cellOf_t, DL.cellOf_f, List.length_cons, List.length_nil, Nat.reduceAdd, Nat.reduceSub, List.replicate, List.cons_append, List.nil_append]
  repeat ((first | (with_reducible first | refine iR_yesT ?_ | refine iR_lcNil ?_ | refine iR_lcCons ?_ | refine if_t ?_ | refine if_f ?_ | refine iS_seq ?_ | refine iS_set ?_ | refine iS_own ?_ | refine iS_drop ?_ | refine iS_ret ?_ | refine iS_retF ?_ | refine iS_next ?_ | refine iS_if ?_ | refine iS_asg ?_ | refine iS_for0 ?_ | refine iR_ap1 ?_ | refine iR_ap2 ?_ | refine iR_ap2N ?_ | refine iR_apA ?_ | refine iR_kst ?_ | refine iR_aNil ?_ | refine iR_aCons ?_ | refine iR_asB ?_ | refine iR_truR ?_ | refine iR_andT ?_ | refine iR_orT ?_ | refine iR_notT ?_ | refine iR_andV ?_ | refine iR_orV ?_ | refine iR_notV ?_ | refine iR_ifE ?_ | refine iR_asI ?_ | refine iS_sub ?_ | refine iS_retO ?_ | refine iR_mtF ?_ | refine iR_cNil ?_ | refine iR_cVal ?_ | refine iR_call ?_ | refine iR_readV ?_ | refine iR_readN ?_ | refine iR_writeN ?_ | refine iR_writeC ?_ | refine iR_asR1 ?_ | refine iR_asR2 ?_ | refine iR_bind ?_ | refine iR_lc ?_ | refine iR_slN ?_ | refine iR_oSome ?_ | refine iR_oNone ?_ | refine iR_lRg2 ?_ | refine iR_eqi ?_ | refine iR_nei ?_ | refine iR_eqs ?_ | refine iR_nes ?_ | refine iR_eqb ?_ | refine iR_neb ?_) | ((with_reducible first | refine eR_getV ?_ | refine eR_getCv ?_ | refine eR_ownL ?_ | refine eR_cOwn ?_ | refine eR_readO ?_ | refine eS_frz ?_ | refine eR_cellO ?_ | refine eR_of (r := gT _ _ _ _) ?_ | refine eR_of (r := gN _ _ _) ?_ | refine eR_of (r := dAddA _ _) ?_ | refine eR_of (r := dSub _ _) ?_ | refine eR_of (r := dLt _ _) ?_ | refine eR_of (r := dLe _ _) ?_ | refine eR_of (r := dGt _ _) ?_ | refine eR_of (r := dGe _ _) ?_ | refine eR_of (r := dIsN _ _) ?_ | refine eR_of (r := dNotN _ _) ?_ | refine eR_of (r := dIx _ _) ?_ | refine eR_of (r := dNeg _) ?_ | refine eR_of (r := dLen _) ?_ | refine eR_of (r := dList _) ?_ | refine eR_of (r := dTuple _) ?_ | refine eR_of (r := dRev _) ?_ | refine eR_of (r := dInt1 _) ?_ | refine eR_of (r := boolR _) ?_ | refine eR_of (r := intR _) ?_ | refine eR_of (r := itemsR _) ?_ | refine eR_of (r := truD _) ?_ | refine eR_of (r := dMax2 _) ?_ | refine eR_of (r := dMin2 _) ?_ | refine eR_of (r := slD _ _ _) ?_ | refine eR_of (r := mkT _) ?_ | refine eR_of (r := mkL _) ?_ | refine eR_of (r := endR _ _ _ _) ?_ | refine eR_of (r := lRg _ _) ?_ | refine eR_of (r := optB _) ?_ | refine eR_of (r := optR _) ?_); refine ⟨_, rfl, ?_⟩) | ((with_reducible first | refine eR_getCo ?_ | refine eS_frz' ?_); refine ⟨_, rfl, ?_⟩) | ((with_reducible first | refine iR_rng1 ?hh_ ?_ | refine iR_rng2 ?hh_ ?_ | refine iR_dMul ?hh_ ?_ | refine iR_dDiv ?hh_ ?_ | refine iR_dMod ?hh_ ?_ | refine iR_dPow ?hh_ ?_ | refine iR_dAddl ?hh_ ?_ | refine iR_dAdds ?hh_ ?_ | refine iR_dCat ?hh_ ?_ | refine iR_app ?hh_ ?_); (case hh_ => first | omega | decide)) | ((with_reducible first | refine iR_isi_t ?hh_ ?_ | refine if_ct ?hh_ ?_); (case hh_ => exact rfl)) | ((with_reducible first | refine iR_isi_f ?hh_ ?_ | refine if_cf ?hh_ ?_); (case hh_ => exact rfl)) | ((with_reducible refine iR_guard ?hh_ ?_); (case hh_ => first | decide | omega)) | (with_reducible refine iR_okk ?_) | ((with_reducible refine And.intro ?hh_ ?_); (case hh_ => first | decide | exact List.nodup_singleton _ | exact rfl | (simp only [List.length_cons, List.length_nil]; decide) | (intro z; cases z) | omega | (intro _; rfl)))); try dsimp only [List.set_cons_zero, List.set_cons_succ, ownIx, wipeE, restore, List.nil_append, List.cons_append])
  (refine DL.iD_mono (draw_ok HD (by omega) (by omega)) ?_; rintro _ _ _ ⟨v, dk, rfl, v0, v1, rfl, HD⟩)
  repeat ((first | (with_reducible first | refine iR_yesT ?_ | refine iR_lcNil ?_ | refine iR_lcCons ?_ | refine if_t ?_ | refine if_f ?_ | refine iS_seq ?_ | refine iS_set ?_ | refine iS_own ?_ | refine iS_drop ?_ | refine iS_ret ?_ | refine iS_retF ?_ | refine iS_next ?_ | refine iS_if ?_ | refine iS_asg ?_ | refine iS_for0 ?_ | refine iR_ap1 ?_ | refine iR_ap2 ?_ | refine iR_ap2N ?_ | refine iR_apA ?_ | refine iR_kst ?_ | refine iR_aNil ?_ | refine iR_aCons ?_ | refine iR_asB ?_ | refine iR_truR ?_ | refine iR_andT ?_ | refine iR_orT ?_ | refine iR_notT ?_ | refine iR_andV ?_ | refine iR_orV ?_ | refine iR_notV ?_ | refine iR_ifE ?_ | refine iR_asI ?_ | refine iS_sub ?_ | refine iS_retO ?_ | refine iR_mtF ?_ | refine iR_cNil ?_ | refine iR_cVal ?_ | refine iR_call ?_ | refine iR_readV ?_ | refine iR_readN ?_ | refine iR_writeN ?_ | refine iR_writeC ?_ | refine iR_asR1 ?_ | refine iR_asR2 ?_ | refine iR_bind ?_ | refine iR_lc ?_ | refine iR_slN ?_ | refine iR_oSome ?_ | refine iR_oNone ?_ | refine iR_lRg2 ?_ | refine iR_eqi ?_ | refine iR_nei ?_ | refine iR_eqs ?_ | refine iR_nes ?_ | refine iR_eqb ?_ | refine iR_neb ?_) | ((with_reducible first | refine eR_getV ?_ | refine eR_getCv ?_ | refine eR_ownL ?_ | refine eR_cOwn ?_ | refine eR_readO ?_ | refine eS_frz ?_ | refine eR_cellO ?_ | refine eR_of (r := gT _ _ _ _) ?_ | refine eR_of (r := gN _ _ _) ?_ | refine eR_of (r := dAddA _ _) ?_ | refine eR_of (r := dSub _ _) ?_ | refine eR_of (r := dLt _ _) ?_ | refine eR_of (r := dLe _ _) ?_ | refine eR_of (r := dGt _ _) ?_ | refine eR_of (r := dGe _ _) ?_ | refine eR_of (r := dIsN _ _) ?_ | refine eR_of (r := dNotN _ _) ?_ | refine eR_of (r := dIx _ _) ?_ | refine eR_of (r := dNeg _) ?_ | refine eR_of (r := dLen _) ?_ | refine eR_of (r := dList _) ?_ | refine eR_of (r := dTuple _) ?_ | refine eR_of (r := dRev _) ?_ | refine eR_of (r := dInt1 _) ?_ | refine eR_of (r := boolR _) ?_ | refine eR_of (r := intR _) ?_ | refine eR_of (r := itemsR _) ?_ | refine eR_of (r := truD _) ?_ | refine eR_of (r := dMax2 _) ?_ | refine eR_of (r := dMin2 _) ?_ | refine eR_of (r := slD _ _ _) ?_ | refine eR_of (r := mkT _) ?_ | refine eR_of (r := mkL _) ?_ | refine eR_of (r := endR _ _ _ _) ?_ | refine eR_of (r := lRg _ _) ?_ | refine eR_of (r := optB _) ?_ | refine eR_of (r := optR _) ?_); refine ⟨_, rfl, ?_⟩) | ((with_reducible first | refine eR_getCo ?_ | refine eS_frz' ?_); refine ⟨_, rfl, ?_⟩) | ((with_reducible first | refine iR_rng1 ?hh_ ?_ | refine iR_rng2 ?hh_ ?_ | refine iR_dMul ?hh_ ?_ | refine iR_dDiv ?hh_ ?_ | refine iR_dMod ?hh_ ?_ | refine iR_dPow ?hh_ ?_ | refine iR_dAddl ?hh_ ?_ | refine iR_dAdds ?hh_ ?_ | refine iR_dCat ?hh_ ?_ | refine iR_app ?hh_ ?_); (case hh_ => first | omega | decide)) | ((with_reducible first | refine iR_isi_t ?hh_ ?_ | refine if_ct ?hh_ ?_); (case hh_ => exact rfl)) | ((with_reducible first | refine iR_isi_f ?hh_ ?_ | refine if_cf ?hh_ ?_); (case hh_ => exact rfl)) | ((with_reducible refine iR_guard ?hh_ ?_); (case hh_ => first | decide | omega)) | (with_reducible refine iR_okk ?_) | ((with_reducible refine And.intro ?hh_ ?_); (case hh_ => first | decide | exact List.nodup_singleton _ | exact rfl | (simp only [List.length_cons, List.length_nil]; decide) | (intro z; cases z) | omega | (intro _; rfl)))); try dsimp only [List.set_cons_zero, List.set_cons_succ, ownIx, wipeE, restore, List.nil_append, List.cons_append])
  (refine DL.iD_mono (draw_ok HD (by omega) (by omega)) ?_; rintro _ _ _ ⟨w, dk, rfl, w0, w1, rfl, HD⟩)
  repeat ((first | (with_reducible first | refine iR_yesT ?_ | refine iR_lcNil ?_ | refine iR_lcCons ?_ | refine if_t ?_ | refine if_f ?_ | refine iS_seq ?_ | refine iS_set ?_ | refine iS_own ?_ | refine iS_drop ?_ | refine iS_ret ?_ | refine iS_retF ?_ | refine iS_next ?_ | refine iS_if ?_ | refine iS_asg ?_ | refine iS_for0 ?_ | refine iR_ap1 ?_ | refine iR_ap2 ?_ | refine iR_ap2N ?_ | refine iR_apA ?_ | refine iR_kst ?_ | refine iR_aNil ?_ | refine iR_aCons ?_ | refine iR_asB ?_ | refine iR_truR ?_ | refine iR_andT ?_ | refine iR_orT ?_ | refine iR_notT ?_ | refine iR_andV ?_ | refine iR_orV ?_ | refine iR_notV ?_ | refine iR_ifE ?_ | refine iR_asI ?_ | refine iS_sub ?_ | refine iS_retO ?_ | refine iR_mtF ?_ | refine iR_cNil ?_ | refine iR_cVal ?_ | refine iR_call ?_ | refine iR_readV ?_ | refine iR_readN ?_ | refine iR_writeN ?_ | refine iR_writeC ?_ | refine iR_asR1 ?_ | refine iR_asR2 ?_ | refine iR_bind ?_ | refine iR_lc ?_ | refine iR_slN ?_ | refine iR_oSome ?_ | refine iR_oNone ?_ | refine iR_lRg2 ?_ | refine iR_eqi ?_ | refine iR_nei ?_ | refine iR_eqs ?_ | refine iR_nes ?_ | refine iR_eqb ?_ | refine iR_neb ?_) | ((with_reducible first | refine eR_getV ?_ | refine eR_getCv ?_ | refine eR_ownL ?_ | refine eR_cOwn ?_ | refine eR_readO ?_ | refine eS_frz ?_ | refine eR_cellO ?_ | refine eR_of (r := gT _ _ _ _) ?_ | refine eR_of (r := gN _ _ _) ?_ | refine eR_of (r := dAddA _ _) ?_ | refine eR_of (r := dSub _ _) ?_ | refine eR_of (r := dLt _ _) ?_ | refine eR_of (r := dLe _ _) ?_ | refine eR_of (r := dGt _ _) ?_ | refine eR_of (r := dGe _ _) ?_ | refine eR_of (r := dIsN _ _) ?_ | refine eR_of (r := dNotN _ _) ?_ | refine eR_of (r := dIx _ _) ?_ | refine eR_of (r := dNeg _) ?_ | refine eR_of (r := dLen _) ?_ | refine eR_of (r := dList _) ?_ | refine eR_of (r := dTuple _) ?_ | refine eR_of (r := dRev _) ?_ | refine eR_of (r := dInt1 _) ?_ | refine eR_of (r := boolR _) ?_ | refine eR_of (r := intR _) ?_ | refine eR_of (r := itemsR _) ?_ | refine eR_of (r := truD _) ?_ | refine eR_of (r := dMax2 _) ?_ | refine eR_of (r := dMin2 _) ?_ | refine eR_of (r := slD _ _ _) ?_ | refine eR_of (r := mkT _) ?_ | refine eR_of (r := mkL _) ?_ | refine eR_of (r := endR _ _ _ _) ?_ | refine eR_of (r := lRg _ _) ?_ | refine eR_of (r := optB _) ?_ | refine eR_of (r := optR _) ?_); refine ⟨_, rfl, ?_⟩) | ((with_reducible first | refine eR_getCo ?_ | refine eS_frz' ?_); refine ⟨_, rfl, ?_⟩) | ((with_reducible first | refine iR_rng1 ?hh_ ?_ | refine iR_rng2 ?hh_ ?_ | refine iR_dMul ?hh_ ?_ | refine iR_dDiv ?hh_ ?_ | refine iR_dMod ?hh_ ?_ | refine iR_dPow ?hh_ ?_ | refine iR_dAddl ?hh_ ?_ | refine iR_dAdds ?hh_ ?_ | refine iR_dCat ?hh_ ?_ | refine iR_app ?hh_ ?_); (case hh_ => first | omega | decide)) | ((with_reducible first | refine iR_isi_t ?hh_ ?_ | refine if_ct ?hh_ ?_); (case hh_ => exact rfl)) | ((with_reducible first | refine iR_isi_f ?hh_ ?_ | refine if_cf ?hh_ ?_); (case hh_ => exact rfl)) | ((with_reducible refine iR_guard ?hh_ ?_); (case hh_ => first | decide | omega)) | (with_reducible refine iR_okk ?_) | ((with_reducible refine And.intro ?hh_ ?_); (case hh_ => first | decide | exact List.nodup_singleton _ | exact rfl | (simp only [List.length_cons, List.length_nil]; decide) | (intro z; cases z) | omega | (intro _; rfl)))); try dsimp only [List.set_cons_zero, List.set_cons_succ, ownIx, wipeE, restore, List.nil_append, List.cons_append])
  refine iS_for (fun rest e => ∃ (ds : List D) (ps : List (Int × Int)) (a : Int) (x y : Option DCell), e = [some (.own (.list ds)), some (.own (.list (ps.map prD))), some (.val (.int a)), x, y] ∧ Deck ds ∧ (ps.length + rest.length : Int) = 1 + w ∧ PsOk ps ∧ -10 ≤ a ∧ a ≤ 9 + 7 * ps.length) ?_ ?_ ?_
  · refine ⟨_, [], v - 10, _, _, rfl, HD, ?_, (by intro p hp; cases hp), by omega, by simp; omega⟩
    unfold rngD
    simp
    omega
  · rintro d ds2 e ⟨ds3, ps, a, x, y, rfl, HD, hl, hps, a0, a1⟩
    simp only [List.length_cons] at hl
    repeat ((first | (with_reducible first | refine iR_yesT ?_ | refine iR_lcNil ?_ | refine iR_lcCons ?_ | refine if_t ?_ | refine if_f ?_ | refine iS_seq ?_ | refine iS_set ?_ | refine iS_own ?_ | refine iS_drop ?_ | refine iS_ret ?_ | refine iS_retF ?_ | refine iS_next ?_ | refine iS_if ?_ | refine iS_asg ?_ | refine iS_for0 ?_ | refine iR_ap1 ?_ | refine iR_ap2 ?_ | refine iR_ap2N ?_ | refine iR_apA ?_ | refine iR_kst ?_ | refine iR_aNil ?_ | refine iR_aCons ?_ | refine iR_asB ?_ | refine iR_truR ?_ | refine iR_andT ?_ | refine iR_orT ?_ | refine iR_notT ?_ | refine iR_andV ?_ | refine iR_orV ?_ | refine iR_notV ?_ | refine iR_ifE ?_ | refine iR_asI ?_ | refine iS_sub ?_ | refine iS_retO ?_ | refine iR_mtF ?_ | refine iR_cNil ?_ | refine iR_cVal ?_ | refine iR_call ?_ | refine iR_readV ?_ | refine iR_readN ?_ | refine iR_writeN ?_ | refine iR_writeC ?_ | refine iR_asR1 ?_ | refine iR_asR2 ?_ | refine iR_bind ?_ | refine iR_lc ?_ | refine iR_slN ?_ | refine iR_oSome ?_ | refine iR_oNone ?_ | refine iR_lRg2 ?_ | refine iR_eqi ?_ | refine iR_nei ?_ | refine iR_eqs ?_ | refine iR_nes ?_ | refine iR_eqb ?_ | refine iR_neb ?_) | ((with_reducible first | refine eR_getV ?_ | refine eR_getCv ?_ | refine eR_ownL ?_ | refine eR_cOwn ?_ | refine eR_readO ?_ | refine eS_frz ?_ | refine eR_cellO ?_ | refine eR_of (r := gT _ _ _ _) ?_ | refine eR_of (r := gN _ _ _) ?_ | refine eR_of (r := dAddA _ _) ?_ | refine eR_of (r := dSub _ _) ?_ | refine eR_of (r := dLt _ _) ?_ | refine eR_of (r := dLe _ _) ?_ | refine eR_of (r := dGt _ _) ?_ | refine eR_of (r := dGe _ _) ?_ | refine eR_of (r := dIsN _ _) ?_ | refine eR_of (r := dNotN _ _) ?_ | refine eR_of (r := dIx _ _) ?_ | refine eR_of (r := dNeg _) ?_ | refine eR_of (r := dLen _) ?_ | refine eR_of (r := dList _) ?_ | refine eR_of (r := dTuple _) ?_ | refine eR_of (r := dRev _) ?_ | refine eR_of (r := dInt1 _) ?_ | refine eR_of (r := boolR _) ?_ | refine eR_of (r := intR _) ?_ | refine eR_of (r := itemsR _) ?_ | refine eR_of (r := truD _) ?_ | refine eR_of (r := dMax2 _) ?_ | refine eR_of (r := dMin2 _) ?_ | refine eR_of (r := slD _ _ _) ?_ | refine eR_of (r := mkT _) ?_ | refine eR_of (r := mkL _) ?_ | refine eR_of (r := endR _ _ _ _) ?_ | refine eR_of (r := lRg _ _) ?_ | refine eR_of (r := optB _) ?_ | refine eR_of (r := optR _) ?_); refine ⟨_, rfl, ?_⟩) | ((with_reducible first | refine eR_getCo ?_ | refine eS_frz' ?_); refine ⟨_, rfl, ?_⟩) | ((with_reducible first | refine iR_rng1 ?hh_ ?_ | refine iR_rng2 ?hh_ ?_ | refine iR_dMul ?hh_ ?_ | refine iR_dDiv ?hh_ ?_ | refine iR_dMod ?hh_ ?_ | refine iR_dPow ?hh_ ?_ | refine iR_dAddl ?hh_ ?_ | refine iR_dAdds ?hh_ ?_ | refine iR_dCat ?hh_ ?_ | refine iR_app ?hh_ ?_); (case hh_ => first | omega | decide)) | ((with_reducible first | refine iR_isi_t ?hh_ ?_ | refine if_ct ?hh_ ?_); (case hh_ => exact rfl)) | ((with_reducible first | refine iR_isi_f ?hh_ ?_ | refine if_cf ?hh_ ?_); (case hh_ => exact rfl)) | ((with_reducible refine iR_guard ?hh_ ?_); (case hh_ => first | decide | omega)) | (with_reducible refine iR_okk ?_) | ((with_reducible refine And.intro ?hh_ ?_); (case hh_ => first | decide | exact List.nodup_singleton _ | exact rfl | (simp only [List.length_cons, List.length_nil]; decide) | (intro z; cases z) | omega | (intro _; rfl)))); try dsimp only [List.set_cons_zero, List.set_cons_succ, ownIx, wipeE, restore, List.nil_append, List.cons_append])
    (refine DL.iD_mono (draw_ok HD (by omega) (by omega)) ?_; rintro _ _ _ ⟨q, dk, rfl, q0, q1, rfl, HD⟩)
    repeat ((first | (with_reducible first | refine iR_yesT ?_ | refine iR_lcNil ?_ | refine iR_lcCons ?_ | refine if_t ?_ | refine if_f ?_ | refine iS_seq ?_ | refine iS_set ?_ | refine iS_own ?_ | refine iS_drop ?_ | refine iS_ret ?_ | refine iS_retF ?_ | refine iS_next ?_ | refine iS_if ?_ | refine iS_asg ?_ | refine iS_for0 ?_ | refine iR_ap1 ?_ | refine iR_ap2 ?_ | refine iR_ap2N ?_ | refine iR_apA ?_ | refine iR_kst ?_ | refine iR_aNil ?_ | refine iR_aCons ?_ | refine iR_asB ?_ | refine iR_truR ?_ | refine iR_andT ?_ | refine iR_orT ?_ | refine iR_notT ?_ | refine iR_andV ?_ | refine iR_orV ?_ | refine iR_notV ?_ | refine iR_ifE ?_ | refine iR_asI ?_ | refine iS_sub ?_ | refine iS_retO ?_ | refine iR_mtF ?_ | refine iR_cNil ?_ | refine iR_cVal ?_ | refine iR_call ?_ | refine iR_readV ?_ | refine iR_readN ?_ | refine iR_writeN ?_ | refine iR_writeC ?_ | refine iR_asR1 ?_ | refine iR_asR2 ?_ | refine iR_bind ?_ | refine iR_lc ?_ | refine iR_slN ?_ | refine iR_oSome ?_ | refine iR_oNone ?_ | refine iR_lRg2 ?_ | refine iR_eqi ?_ | refine iR_nei ?_ | refine iR_eqs ?_ | refine iR_nes ?_ | refine iR_eqb ?_ | refine iR_neb ?_) | ((with_reducible first | refine eR_getV ?_ | refine eR_getCv ?_ | refine eR_ownL ?_ | refine eR_cOwn ?_ | refine eR_readO ?_ | refine eS_frz ?_ | refine eR_cellO ?_ | refine eR_of (r := gT _ _ _ _) ?_ | refine eR_of (r := gN _ _ _) ?_ | refine eR_of (r := dAddA _ _) ?_ | refine eR_of (r := dSub _ _) ?_ | refine eR_of (r := dLt _ _) ?_ | refine eR_of (r := dLe _ _) ?_ | refine eR_of (r := dGt _ _) ?_ | refine eR_of (r := dGe _ _) ?_ | refine eR_of (r := dIsN _ _) ?_ | refine eR_of (r := dNotN _ _) ?_ | refine eR_of (r := dIx _ _) ?_ | refine eR_of (r := dNeg _) ?_ | refine eR_of (r := dLen _) ?_ | refine eR_of (r := dList _) ?_ | refine eR_of (r := dTuple _) ?_ | refine eR_of (r := dRev _) ?_ | refine eR_of (r := dInt1 _) ?_ | refine eR_of (r := boolR _) ?_ | refine eR_of (r := intR _) ?_ | refine eR_of (r := itemsR _) ?_ | refine eR_of (r := truD _) ?_ | refine eR_of (r := dMax2 _) ?_ | refine eR_of (r := dMin2 _) ?_ | refine eR_of (r := slD _ _ _) ?_ | refine eR_of (r := mkT _) ?_ | refine eR_of (r := mkL _) ?_ | refine eR_of (r := endR _ _ _ _) ?_ | refine eR_of (r := lRg _ _) ?_ | refine eR_of (r := optB _) ?_ | refine eR_of (r := optR _) ?_); refine ⟨_, rfl, ?_⟩) | ((with_reducible first | refine eR_getCo ?_ | refine eS_frz' ?_); refine ⟨_, rfl, ?_⟩) | ((with_reducible first | refine iR_rng1 ?hh_ ?_ | refine iR_rng2 ?hh_ ?_ | refine iR_dMul ?hh_ ?_ | refine iR_dDiv ?hh_ ?_ | refine iR_dMod ?hh_ ?_ | refine iR_dPow ?hh_ ?_ | refine iR_dAddl ?hh_ ?_ | refine iR_dAdds ?hh_ ?_ | refine iR_dCat ?hh_ ?_ | refine iR_app ?hh_ ?_); (case hh_ => first | omega | decide)) | ((with_reducible first | refine iR_isi_t ?hh_ ?_ | refine if_ct ?hh_ ?_); (case hh_ => exact rfl)) | ((with_reducible first | refine iR_isi_f ?hh_ ?_ | refine if_cf ?hh_ ?_); (case hh_ => exact rfl)) | ((with_reducible refine iR_guard ?hh_ ?_); (case hh_ => first | decide | omega)) | (with_reducible refine iR_okk ?_) | ((with_reducible refine And.intro ?hh_ ?_); (case hh_ => first | decide | exact List.nodup_singleton _ | exact rfl | (simp only [List.length_cons, List.length_nil]; decide) | (intro z; cases z) | omega | (intro _; rfl)))); try dsimp only [List.set_cons_zero, List.set_cons_succ, ownIx, wipeE, restore, List.nil_append, List.cons_append])
    (refine DL.iD_mono (draw_ok HD (by omega) (by omega)) ?_; rintro _ _ _ ⟨r, dk, rfl, r0, r1, rfl, HD⟩)
    repeat ((first | (with_reducible first | refine iR_yesT ?_ | refine iR_lcNil ?_ | refine iR_lcCons ?_ | refine if_t ?_ | refine if_f ?_ | refine iS_seq ?_ | refine iS_set ?_ | refine iS_own ?_ | refine iS_drop ?_ | refine iS_ret ?_ | refine iS_retF ?_ | refine iS_next ?_ | refine iS_if ?_ | refine iS_asg ?_ | refine iS_for0 ?_ | refine iR_ap1 ?_ | refine iR_ap2 ?_ | refine iR_ap2N ?_ | refine iR_apA ?_ | refine iR_kst ?_ | refine iR_aNil ?_ | refine iR_aCons ?_ | refine iR_asB ?_ | refine iR_truR ?_ | refine iR_andT ?_ | refine iR_orT ?_ | refine iR_notT ?_ | refine iR_andV ?_ | refine iR_orV ?_ | refine iR_notV ?_ | refine iR_ifE ?_ | refine iR_asI ?_ | refine iS_sub ?_ | refine iS_retO ?_ | refine iR_mtF ?_ | refine iR_cNil ?_ | refine iR_cVal ?_ | refine iR_call ?_ | refine iR_readV ?_ | refine iR_readN ?_ | refine iR_writeN ?_ | refine iR_writeC ?_ | refine iR_asR1 ?_ | refine iR_asR2 ?_ | refine iR_bind ?_ | refine iR_lc ?_ | refine iR_slN ?_ | refine iR_oSome ?_ | refine iR_oNone ?_ | refine iR_lRg2 ?_ | refine iR_eqi ?_ | refine iR_nei ?_ | refine iR_eqs ?_ | refine iR_nes ?_ | refine iR_eqb ?_ | refine iR_neb ?_) | ((with_reducible first | refine eR_getV ?_ | refine eR_getCv ?_ | refine eR_ownL ?_ | refine eR_cOwn ?_ | refine eR_readO ?_ | refine eS_frz ?_ | refine eR_cellO ?_ | refine eR_of (r := gT _ _ _ _) ?_ | refine eR_of (r := gN _ _ _) ?_ | refine eR_of (r := dAddA _ _) ?_ | refine eR_of (r := dSub _ _) ?_ | refine eR_of (r := dLt _ _) ?_ | refine eR_of (r := dLe _ _) ?_ | refine eR_of (r := dGt _ _) ?_ | refine eR_of (r := dGe _ _) ?_ | refine eR_of (r := dIsN _ _) ?_ | refine eR_of (r := dNotN _ _) ?_ | refine eR_of (r := dIx _ _) ?_ | refine eR_of (r := dNeg _) ?_ | refine eR_of (r := dLen _) ?_ | refine eR_of (r := dList _) ?_ | refine eR_of (r := dTuple _) ?_ | refine eR_of (r := dRev _) ?_ | refine eR_of (r := dInt1 _) ?_ | refine eR_of (r := boolR _) ?_ | refine eR_of (r := intR _) ?_ | refine eR_of (r := itemsR _) ?_ | refine eR_of (r := truD _) ?_ | refine eR_of (r := dMax2 _) ?_ | refine eR_of (r := dMin2 _) ?_ | refine eR_of (r := slD _ _ _) ?_ | refine eR_of (r := mkT _) ?_ | refine eR_of (r := mkL _) ?_ | refine eR_of (r := endR _ _ _ _) ?_ | refine eR_of (r := lRg _ _) ?_ | refine eR_of (r := optB _) ?_ | refine eR_of (r := optR _) ?_); refine ⟨_, rfl, ?_⟩) | ((with_reducible first | refine eR_getCo ?_ | refine eS_frz' ?_); refine ⟨_, rfl, ?_⟩) | ((with_reducible first | refine iR_rng1 ?hh_ ?_ | refine iR_rng2 ?hh_ ?_ | refine iR_dMul ?hh_ ?_ | refine iR_dDiv ?hh_ ?_ | refine iR_dMod ?hh_ ?_ | refine iR_dPow ?hh_ ?_ | refine iR_dAddl ?hh_ ?_ | refine iR_dAdds ?hh_ ?_ | refine iR_dCat ?hh_ ?_ | refine iR_app ?hh_ ?_); (case hh_ => first | omega | decide)) | ((with_reducible first | refine iR_isi_t ?hh_ ?_ | refine if_ct ?hh_ ?_); (case hh_ => exact rfl)) | ((with_reducible first | refine iR_isi_f ?hh_ ?_ | refine if_cf ?hh_ ?_); (case hh_ => exact rfl)) | ((with_reducible refine iR_guard ?hh_ ?_); (case hh_ => first | decide | omega)) | (with_reducible refine iR_okk ?_) | ((with_reducible refine And.intro ?hh_ ?_); (case hh_ => first | decide | exact List.nodup_singleton _ | exact rfl | (simp only [List.length_cons, List.length_nil]; decide) | (intro z; cases z) | omega | (intro _; rfl)))); try dsimp only [List.set_cons_zero, List.set_cons_succ, ownIx, wipeE, restore, List.nil_append, List.cons_append])
    obtain ⟨z, hz, z1⟩ := pick2 (a := 0) (b := q) r0 r1
    refine iR_ixl hz ?_
    repeat ((first | (with_reducible first | refine iR_yesT ?_ | refine iR_lcNil ?_ | refine iR_lcCons ?_ | refine if_t ?_ | refine if_f ?_ | refine iS_seq ?_ | refine iS_set ?_ | refine iS_own ?_ | refine iS_drop ?_ | refine iS_ret ?_ | refine iS_retF ?_ | refine iS_next ?_ | refine iS_if ?_ | refine iS_asg ?_ | refine iS_for0 ?_ | refine iR_ap1 ?_ | refine iR_ap2 ?_ | refine iR_ap2N ?_ | refine iR_apA ?_ | refine iR_kst ?_ | refine iR_aNil ?_ | refine iR_aCons ?_ | refine iR_asB ?_ | refine iR_truR ?_ | refine iR_andT ?_ | refine iR_orT ?_ | refine iR_notT ?_ | refine iR_andV ?_ | refine iR_orV ?_ | refine iR_notV ?_ | refine iR_ifE ?_ | refine iR_asI ?_ | refine iS_sub ?_ | refine iS_retO ?_ | refine iR_mtF ?_ | refine iR_cNil ?_ | refine iR_cVal ?_ | refine iR_call ?_ | refine iR_readV ?_ | refine iR_readN ?_ | refine iR_writeN ?_ | refine iR_writeC ?_ | refine iR_asR1 ?_ | refine iR_asR2 ?_ | refine iR_bind ?_ | refine iR_lc ?_ | refine iR_slN ?_ | refine iR_oSome ?_ | refine iR_oNone ?_ | refine iR_lRg2 ?_ | refine iR_eqi ?_ | refine iR_nei ?_ | refine iR_eqs ?_ | refine iR_nes ?_ | refine iR_eqb ?_ | refine iR_neb ?_) | ((with_reducible first | refine eR_getV ?_ | refine eR_getCv ?_ | refine eR_ownL ?_ | refine eR_cOwn ?_ | refine eR_readO ?_ | refine eS_frz ?_ | refine eR_cellO ?_ | refine eR_of (r := gT _ _ _ _) ?_ | refine eR_of (r := gN _ _ _) ?_ | refine eR_of (r := dAddA _ _) ?_ | refine eR_of (r := dSub _ _) ?_ | refine eR_of (r := dLt _ _) ?_ | refine eR_of (r := dLe _ _) ?_ | refine eR_of (r := dGt _ _) ?_ | refine eR_of (r := dGe _ _) ?_ | refine eR_of (r := dIsN _ _) ?_ | refine eR_of (r := dNotN _ _) ?_ | refine eR_of (r := dIx _ _) ?_ | refine eR_of (r := dNeg _) ?_ | refine eR_of (r := dLen _) ?_ | refine eR_of (r := dList _) ?_ | refine eR_of (r := dTuple _) ?_ | refine eR_of (r := dRev _) ?_ | refine eR_of (r := dInt1 _) ?_ | refine eR_of (r := boolR _) ?_ | refine eR_of (r := intR _) ?_ | refine eR_of (r := itemsR _) ?_ | refine eR_of (r := truD _) ?_ | refine eR_of (r := dMax2 _) ?_ | refine eR_of (r := dMin2 _) ?_ | refine eR_of (r := slD _ _ _) ?_ | refine eR_of (r := mkT _) ?_ | refine eR_of (r := mkL _) ?_ | refine eR_of (r := endR _ _ _ _) ?_ | refine eR_of (r := lRg _ _) ?_ | refine eR_of (r := optB _) ?_ | refine eR_of (r := optR _) ?_); refine ⟨_, rfl, ?_⟩) | ((with_reducible first | refine eR_getCo ?_ | refine eS_frz' ?_); refine ⟨_, rfl, ?_⟩) | ((with_reducible first | refine iR_rng1 ?hh_ ?_ | refine iR_rng2 ?hh_ ?_ | refine iR_dMul ?hh_ ?_ | refine iR_dDiv ?hh_ ?_ | refine iR_dMod ?hh_ ?_ | refine iR_dPow ?hh_ ?_ | refine iR_dAddl ?hh_ ?_ | refine iR_dAdds ?hh_ ?_ | refine iR_dCat ?hh_ ?_ | refine iR_app ?hh_ ?_); (case hh_ => first | omega | decide)) | ((with_reducible first | refine iR_isi_t ?hh_ ?_ | refine if_ct ?hh_ ?_); (case hh_ => exact rfl)) | ((with_reducible first | refine iR_isi_f ?hh_ ?_ | refine if_cf ?hh_ ?_); (case hh_ => exact rfl)) | ((with_reducible refine iR_guard ?hh_ ?_); (case hh_ => first | decide | omega)) | (with_reducible refine iR_okk ?_) | ((with_reducible refine And.intro ?hh_ ?_); (case hh_ => first | decide | exact List.nodup_singleton _ | exact rfl | (simp only [List.length_cons, List.length_nil]; decide) | (intro z; cases z) | omega | (intro _; rfl)))); try dsimp only [List.set_cons_zero, List.set_cons_succ, ownIx, wipeE, restore, List.nil_append, List.cons_append])
    refine iR_app (by rw [List.length_map]; exact Nat.lt_of_lt_of_le (m := 6) (by omega) (by decide)) ?_
    repeat ((first | (with_reducible first | refine iR_yesT ?_ | refine iR_lcNil ?_ | refine iR_lcCons ?_ | refine if_t ?_ | refine if_f ?_ | refine iS_seq ?_ | refine iS_set ?_ | refine iS_own ?_ | refine iS_drop ?_ | refine iS_ret ?_ | refine iS_retF ?_ | refine iS_next ?_ | refine iS_if ?_ | refine iS_asg ?_ | refine iS_for0 ?_ | refine iR_ap1 ?_ | refine iR_ap2 ?_ | refine iR_ap2N ?_ | refine iR_apA ?_ | refine iR_kst ?_ | refine iR_aNil ?_ | refine iR_aCons ?_ | refine iR_asB ?_ | refine iR_truR ?_ | refine iR_andT ?_ | refine iR_orT ?_ | refine iR_notT ?_ | refine iR_andV ?_ | refine iR_orV ?_ | refine iR_notV ?_ | refine iR_ifE ?_ | refine iR_asI ?_ | refine iS_sub ?_ | refine iS_retO ?_ | refine iR_mtF ?_ | refine iR_cNil ?_ | refine iR_cVal ?_ | refine iR_call ?_ | refine iR_readV ?_ | refine iR_readN ?_ | refine iR_writeN ?_ | refine iR_writeC ?_ | refine iR_asR1 ?_ | refine iR_asR2 ?_ | refine iR_bind ?_ | refine iR_lc ?_ | refine iR_slN ?_ | refine iR_oSome ?_ | refine iR_oNone ?_ | refine iR_lRg2 ?_ | refine iR_eqi ?_ | refine iR_nei ?_ | refine iR_eqs ?_ | refine iR_nes ?_ | refine iR_eqb ?_ | refine iR_neb ?_) | ((with_reducible first | refine eR_getV ?_ | refine eR_getCv ?_ | refine eR_ownL ?_ | refine eR_cOwn ?_ | refine eR_readO ?_ | refine eS_frz ?_ | refine eR_cellO ?_ | refine eR_of (r := gT _ _ _ _) ?_ | refine eR_of (r := gN _ _ _) ?_ | refine eR_of (r := dAddA _ _) ?_ | refine eR_of (r := dSub _ _) ?_ | refine eR_of (r := dLt _ _) ?_ | refine eR_of (r := dLe _ _) ?_ | refine eR_of (r := dGt _ _) ?_ | refine eR_of (r := dGe _ _) ?_ | refine eR_of (r := dIsN _ _) ?_ | refine eR_of (r := dNotN _ _) ?_ | refine eR_of (r := dIx _ _) ?_ | refine eR_of (r := dNeg _) ?_ | refine eR_of (r := dLen _) ?_ | refine eR_of (r := dList _) ?_ | refine eR_of (r := dTuple _) ?_ | refine eR_of (r := dRev _) ?_ | refine eR_of (r := dInt1 _) ?_ | refine eR_of (r := boolR _) ?_ | refine eR_of (r := intR _) ?_ | refine eR_of (r := itemsR _) ?_ | refine eR_of (r := truD _) ?_ | refine eR_of (r := dMax2 _) ?_ | refine eR_of (r := dMin2 _) ?_ | refine eR_of (r := slD _ _ _) ?_ | refine eR_of (r := mkT _) ?_ | refine eR_of (r := mkL _) ?_ | refine eR_of (r := endR _ _ _ _) ?_ | refine eR_of (r := lRg _ _) ?_ | refine eR_of (r := optB _) ?_ | refine eR_of (r := optR _) ?_); refine ⟨_, rfl, ?_⟩) | ((with_reducible first | refine eR_getCo ?_ | refine eS_frz' ?_); refine ⟨_, rfl, ?_⟩) | ((with_reducible first | refine iR_rng1 ?hh_ ?_ | refine iR_rng2 ?hh_ ?_ | refine iR_dMul ?hh_ ?_ | refine iR_dDiv ?hh_ ?_ | refine iR_dMod ?hh_ ?_ | refine iR_dPow ?hh_ ?_ | refine iR_dAddl ?hh_ ?_ | refine iR_dAdds ?hh_ ?_ | refine iR_dCat ?hh_ ?_ | refine iR_app ?hh_ ?_); (case hh_ => first | omega | decide)) | ((with_reducible first | refine iR_isi_t ?hh_ ?_ | refine if_ct ?hh_ ?_); (case hh_ => exact rfl)) | ((with_reducible first | refine iR_isi_f ?hh_ ?_ | refine if_cf ?hh_ ?_); (case hh_ => exact rfl)) | ((with_reducible refine iR_guard ?hh_ ?_); (case hh_ => first | decide | omega)) | (with_reducible refine iR_okk ?_) | ((with_reducible refine And.intro ?hh_ ?_); (case hh_ => first | decide | exact List.nodup_singleton _ | exact rfl | (simp only [List.length_cons, List.length_nil]; decide) | (intro z; cases z) | omega | (intro _; rfl)))); try dsimp only [List.set_cons_zero, List.set_cons_succ, ownIx, wipeE, restore, List.nil_append, List.cons_append])
    (refine DL.iD_mono (draw_ok HD (by omega) (by omega)) ?_; rintro _ _ _ ⟨s, dk, rfl, s0, s1, rfl, HD⟩)
    repeat ((first | (with_reducible first | refine iR_yesT ?_ | refine iR_lcNil ?_ | refine iR_lcCons ?_ | refine if_t ?_ | refine if_f ?_ | refine iS_seq ?_ | refine iS_set ?_ | refine iS_own ?_ | refine iS_drop ?_ | refine iS_ret ?_ | refine iS_retF ?_ | refine iS_next ?_ | refine iS_if ?_ | refine iS_asg ?_ | refine iS_for0 ?_ | refine iR_ap1 ?_ | refine iR_ap2 ?_ | refine iR_ap2N ?_ | refine iR_apA ?_ | refine iR_kst ?_ | refine iR_aNil ?_ | refine iR_aCons ?_ | refine iR_asB ?_ | refine iR_truR ?_ | refine iR_andT ?_ | refine iR_orT ?_ | refine iR_notT ?_ | refine iR_andV ?_ | refine iR_orV ?_ | refine iR_notV ?_ | refine iR_ifE ?_ | refine iR_asI ?_ | refine iS_sub ?_ | refine iS_retO ?_ | refine iR_mtF ?_ | refine iR_cNil ?_ | refine iR_cVal ?_ | refine iR_call ?_ | refine iR_readV ?_ | refine iR_readN ?_ | refine iR_writeN ?_ | refine iR_writeC ?_ | refine iR_asR1 ?_ | refine iR_asR2 ?_ | refine iR_bind ?_ | refine iR_lc ?_ | refine iR_slN ?_ | refine iR_oSome ?_ | refine iR_oNone ?_ | refine iR_lRg2 ?_ | refine iR_eqi ?_ | refine iR_nei ?_ | refine iR_eqs ?_ | refine iR_nes ?_ | refine iR_eqb ?_ | refine iR_neb ?_) | ((with_reducible first | refine eR_getV ?_ | refine eR_getCv ?_ | refine eR_ownL ?_ | refine eR_cOwn ?_ | refine eR_readO ?_ | refine eS_frz ?_ | refine eR_cellO ?_ | refine eR_of (r := gT _ _ _ _) ?_ | refine eR_of (r := gN _ _ _) ?_ | refine eR_of (r := dAddA _ _) ?_ | refine eR_of (r := dSub _ _) ?_ | refine eR_of (r := dLt _ _) ?_ | refine eR_of (r := dLe _ _) ?_ | refine eR_of (r := dGt _ _) ?_ | refine eR_of (r := dGe _ _) ?_ | refine eR_of (r := dIsN _ _) ?_ | refine eR_of (r := dNotN _ _) ?_ | refine eR_of (r := dIx _ _) ?_ | refine eR_of (r := dNeg _) ?_ | refine eR_of (r := dLen _) ?_ | refine eR_of (r := dList _) ?_ | refine eR_of (r := dTuple _) ?_ | refine eR_of (r := dRev _) ?_ | refine eR_of (r := dInt1 _) ?_ | refine eR_of (r := boolR _) ?_ | refine eR_of (r := intR _) ?_ | refine eR_of (r := itemsR _) ?_ | refine eR_of (r := truD _) ?_ | refine eR_of (r := dMax2 _) ?_ | refine eR_of (r := dMin2 _) ?_ | refine eR_of (r := slD _ _ _) ?_ | refine eR_of (r := mkT _) ?_ | refine eR_of (r := mkL _) ?_ | refine eR_of (r := endR _ _ _ _) ?_ | refine eR_of (r := lRg _ _) ?_ | refine eR_of (r := optB _) ?_ | refine eR_of (r := optR _) ?_); refine ⟨_, rfl, ?_⟩) | ((with_reducible first | refine eR_getCo ?_ | refine eS_frz' ?_); refine ⟨_, rfl, ?_⟩) | ((with_reducible first | refine iR_rng1 ?hh_ ?_ | refine iR_rng2 ?hh_ ?_ | refine iR_dMul ?hh_ ?_ | refine iR_dDiv ?hh_ ?_ | refine iR_dMod ?hh_ ?_ | refine iR_dPow ?hh_ ?_ | refine iR_dAddl ?hh_ ?_ | refine iR_dAdds ?hh_ ?_ | refine iR_dCat ?hh_ ?_ | refine iR_app ?hh_ ?_); (case hh_ => first | omega | decide)) | ((with_reducible first | refine iR_isi_t ?hh_ ?_ | refine if_ct ?hh_ ?_); (case hh_ => exact rfl)) | ((with_reducible first | refine iR_isi_f ?hh_ ?_ | refine if_cf ?hh_ ?_); (case hh_ => exact rfl)) | ((with_reducible refine iR_guard ?hh_ ?_); (case hh_ => first | decide | omega)) | (with_reducible refine iR_okk ?_) | ((with_reducible refine And.intro ?hh_ ?_); (case hh_ => first | decide | exact List.nodup_singleton _ | exact rfl | (simp only [List.length_cons, List.length_nil]; decide) | (intro z; cases z) | omega | (intro _; rfl)))); try dsimp only [List.set_cons_zero, List.set_cons_succ, ownIx, wipeE, restore, List.nil_append, List.cons_append])
    obtain ⟨t, ht, t1⟩ := pick4 (a := 0) (b := 0) (c := 0) (d := 1) s0 s1
    refine iR_ixl ht ?_
    repeat ((first | (with_reducible first | refine iR_yesT ?_ | refine iR_lcNil ?_ | refine iR_lcCons ?_ | refine if_t ?_ | refine if_f ?_ | refine iS_seq ?_ | refine iS_set ?_ | refine iS_own ?_ | refine iS_drop ?_ | refine iS_ret ?_ | refine iS_retF ?_ | refine iS_next ?_ | refine iS_if ?_ | refine iS_asg ?_ | refine iS_for0 ?_ | refine iR_ap1 ?_ | refine iR_ap2 ?_ | refine iR_ap2N ?_ | refine iR_apA ?_ | refine iR_kst ?_ | refine iR_aNil ?_ | refine iR_aCons ?_ | refine iR_asB ?_ | refine iR_truR ?_ | refine iR_andT ?_ | refine iR_orT ?_ | refine iR_notT ?_ | refine iR_andV ?_ | refine iR_orV ?_ | refine iR_notV ?_ | refine iR_ifE ?_ | refine iR_asI ?_ | refine iS_sub ?_ | refine iS_retO ?_ | refine iR_mtF ?_ | refine iR_cNil ?_ | refine iR_cVal ?_ | refine iR_call ?_ | refine iR_readV ?_ | refine iR_readN ?_ | refine iR_writeN ?_ | refine iR_writeC ?_ | refine iR_asR1 ?_ | refine iR_asR2 ?_ | refine iR_bind ?_ | refine iR_lc ?_ | refine iR_slN ?_ | refine iR_oSome ?_ | refine iR_oNone ?_ | refine iR_lRg2 ?_ | refine iR_eqi ?_ | refine iR_nei ?_ | refine iR_eqs ?_ | refine iR_nes ?_ | refine iR_eqb ?_ | refine iR_neb ?_) | ((with_reducible first | refine eR_getV ?_ | refine eR_getCv ?_ | refine eR_ownL ?_ | refine eR_cOwn ?_ | refine eR_readO ?_ | refine eS_frz ?_ | refine eR_cellO ?_ | refine eR_of (r := gT _ _ _ _) ?_ | refine eR_of (r := gN _ _ _) ?_ | refine eR_of (r := dAddA _ _) ?_ | refine eR_of (r := dSub _ _) ?_ | refine eR_of (r := dLt _ _) ?_ | refine eR_of (r := dLe _ _) ?_ | refine eR_of (r := dGt _ _) ?_ | refine eR_of (r := dGe _ _) ?_ | refine eR_of (r := dIsN _ _) ?_ | refine eR_of (r := dNotN _ _) ?_ | refine eR_of (r := dIx _ _) ?_ | refine eR_of (r := dNeg _) ?_ | refine eR_of (r := dLen _) ?_ | refine eR_of (r := dList _) ?_ | refine eR_of (r := dTuple _) ?_ | refine eR_of (r := dRev _) ?_ | refine eR_of (r := dInt1 _) ?_ | refine eR_of (r := boolR _) ?_ | refine eR_of (r := intR _) ?_ | refine eR_of (r := itemsR _) ?_ | refine eR_of (r := truD _) ?_ | refine eR_of (r := dMax2 _) ?_ | refine eR_of (r := dMin2 _) ?_ | refine eR_of (r := slD _ _ _) ?_ | refine eR_of (r := mkT _) ?_ | refine eR_of (r := mkL _) ?_ | refine eR_of (r := endR _ _ _ _) ?_ | refine eR_of (r := lRg _ _) ?_ | refine eR_of (r := optB _) ?_ | refine eR_of (r := optR _) ?_); refine ⟨_, rfl, ?_⟩) | ((with_reducible first | refine eR_getCo ?_ | refine eS_frz' ?_); refine ⟨_, rfl, ?_⟩) | ((with_reducible first | refine iR_rng1 ?hh_ ?_ | refine iR_rng2 ?hh_ ?_ | refine iR_dMul ?hh_ ?_ | refine iR_dDiv ?hh_ ?_ | refine iR_dMod ?hh_ ?_ | refine iR_dPow ?hh_ ?_ | refine iR_dAddl ?hh_ ?_ | refine iR_dAdds ?hh_ ?_ | refine iR_dCat ?hh_ ?_ | refine iR_app ?hh_ ?_); (case hh_ => first | omega | decide)) | ((with_reducible first | refine iR_isi_t ?hh_ ?_ | refine if_ct ?hh_ ?_); (case hh_ => exact rfl)) | ((with_reducible first | refine iR_isi_f ?hh_ ?_ | refine if_cf ?hh_ ?_); (case hh_ => exact rfl)) | ((with_reducible refine iR_guard ?hh_ ?_); (case hh_ => first | decide | omega)) | (with_reducible refine iR_okk ?_) | ((with_reducible refine And.intro ?hh_ ?_); (case hh_ => first | decide | exact List.nodup_singleton _ | exact rfl | (simp only [List.length_cons, List.length_nil]; decide) | (intro z; cases z) | omega | (intro _; rfl)))); try dsimp only [List.set_cons_zero, List.set_cons_succ, ownIx, wipeE, restore, List.nil_append, List.cons_append])
    refine ⟨_, ps ++ [(a, a + z)], a + z + 1 + t, some (.val d), some (.val (.int (a + z))), ?_, HD, ?_, ?_, ?_, ?_⟩
    · rw [List.map_append]; rfl
    · simp; omega
    · intro p hp
      rcases List.mem_append.1 hp with hp | hp
      · exact hps p hp
      · cases List.mem_singleton.1 hp
        refine ⟨?_, a0, ?_⟩ <;> dsimp only <;> omega
    · omega
    · simp; omega
  · rintro e ⟨ds3, ps, a, x, y, rfl, HD, hl, hps, a0, a1⟩
    repeat ((first | (with_reducible first | refine iR_yesT ?_ | refine iR_lcNil ?_ | refine iR_lcCons ?_ | refine if_t ?_ | refine if_f ?_ | refine iS_seq ?_ | refine iS_set ?_ | refine iS_own ?_ | refine iS_drop ?_ | refine iS_ret ?_ | refine iS_retF ?_ | refine iS_next ?_ | refine iS_if ?_ | refine iS_asg ?_ | refine iS_for0 ?_ | refine iR_ap1 ?_ | refine iR_ap2 ?_ | refine iR_ap2N ?_ | refine iR_apA ?_ | refine iR_kst ?_ | refine iR_aNil ?_ | refine iR_aCons ?_ | refine iR_asB ?_ | refine iR_truR ?_ | refine iR_andT ?_ | refine iR_orT ?_ | refine iR_notT ?_ | refine iR_andV ?_ | refine iR_orV ?_ | refine iR_notV ?_ | refine iR_ifE ?_ | refine iR_asI ?_ | refine iS_sub ?_ | refine iS_retO ?_ | refine iR_mtF ?_ | refine iR_cNil ?_ | refine iR_cVal ?_ | refine iR_call ?_ | refine iR_readV ?_ | refine iR_readN ?_ | refine iR_writeN ?_ | refine iR_writeC ?_ | refine iR_asR1 ?_ | refine iR_asR2 ?_ | refine iR_bind ?_ | refine iR_lc ?_ | refine iR_slN ?_ | refine iR_oSome ?_ | refine iR_oNone ?_ | refine iR_lRg2 ?_ | refine iR_eqi ?_ | refine iR_nei ?_ | refine iR_eqs ?_ | refine iR_nes ?_ | refine iR_eqb ?_ | refine iR_neb ?_) | ((with_reducible first | refine eR_getV ?_ | refine eR_getCv ?_ | refine eR_ownL ?_ | refine eR_cOwn ?_ | refine eR_readO ?_ | refine eS_frz ?_ | refine eR_cellO ?_ | refine eR_of (r := gT _ _ _ _) ?_ | refine eR_of (r := gN _ _ _) ?_ | refine eR_of (r := dAddA _ _) ?_ | refine eR_of (r := dSub _ _) ?_ | refine eR_of (r := dLt _ _) ?_ | refine eR_of (r := dLe _ _) ?_ | refine eR_of (r := dGt _ _) ?_ | refine eR_of (r := dGe _ _) ?_ | refine eR_of (r := dIsN _ _) ?_ | refine eR_of (r := dNotN _ _) ?_ | refine eR_of (r := dIx _ _) ?_ | refine eR_of (r := dNeg _) ?_ | refine eR_of (r := dLen _) ?_ | refine eR_of (r := dList _) ?_ | refine eR_of (r := dTuple _) ?_ | refine eR_of (r := dRev _) ?_ | refine eR_of (r := dInt1 _) ?_ | refine eR_of (r := boolR _) ?_ | refine eR_of (r := intR _) ?_ | refine eR_of (r := itemsR _) ?_ | refine eR_of (r := truD _) ?_ | refine eR_of (r := dMax2 _) ?_ | refine eR_of (r := dMin2 _) ?_ | refine eR_of (r := slD _ _ _) ?_ | refine eR_of (r := mkT _) ?_ | refine eR_of (r := mkL _) ?_ | refine eR_of (r := endR _ _ _ _) ?_ | refine eR_of (r := lRg _ _) ?_ | refine eR_of (r := optB _) ?_ | refine eR_of (r := optR _) ?_); refine ⟨_, rfl, ?_⟩) | ((with_reducible first | refine eR_getCo ?_ | refine eS_frz' ?_); refine ⟨_, rfl, ?_⟩) | ((with_reducible first | refine iR_rng1 ?hh_ ?_ | refine iR_rng2 ?hh_ ?_ | refine iR_dMul ?hh_ ?_ | refine iR_dDiv ?hh_ ?_ | refine iR_dMod ?hh_ ?_ | refine iR_dPow ?hh_ ?_ | refine iR_dAddl ?hh_ ?_ | refine iR_dAdds ?hh_ ?_ | refine iR_dCat ?hh_ ?_ | refine iR_app ?hh_ ?_); (case hh_ => first | omega | decide)) | ((with_reducible first | refine iR_isi_t ?hh_ ?_ | refine if_ct ?hh_ ?_); (case hh_ => exact rfl)) | ((with_reducible first | refine iR_isi_f ?hh_ ?_ | refine if_cf ?hh_ ?_); (case hh_ => exact rfl)) | ((with_reducible refine iR_guard ?hh_ ?_); (case hh_ => first | decide | omega)) | (with_reducible refine iR_okk ?_) | ((with_reducible refine And.intro ?hh_ ?_); (case hh_ => first | decide | exact List.nodup_singleton _ | exact rfl | (simp only [List.length_cons, List.length_nil]; decide) | (intro z; cases z) | omega | (intro _; rfl)))); try dsimp only [List.set_cons_zero, List.set_cons_succ, ownIx, wipeE, restore, List.nil_append, List.cons_append])
    refine ⟨ps, _, rfl, ?_, ?_, hps, rfl, HD⟩
    · intro h; subst h; simp at hl; omega
    · simp at hl; omega
end D51
namespace D51
open PySem PySem.Spec L2 DL
theorem same_int {n : Nat} {i j : Int} : RLSame (n + 1) [.int i, .int j] = .ok false (.bool (i == j)) [] := by
  refine runF_eq (G := GLSame (RLSame n)) ?_
  unfold GLSame
  dsimp only [DL.env0, DL.cells, DL.cellOf_t, DL.cellOf_f, List.length_cons, List.length_nil, Nat.reduceAdd, Nat.reduceSub, List.replicate, List.cons_append, List.nil_append]
  repeat ((first | (with_reducible first | refine iR_yesT ?_ | refine iR_lcNil ?_ | refine iR_lcCons ?_ | refine if_t ?_ | refine if_f ?_ | refine iS_seq ?_ | refine iS_set ?_ | refine iS_own ?_ | refine iS_drop ?_ | refine iS_ret ?_ | refine iS_retF ?_ | refine iS_next ?_ | refine iS_if ?_ | refine iS_asg ?_ | refine iS_for0 ?_ | refine iR_ap1 ?_ | refine iR_ap2 ?_ | refine iR_ap2N ?_ | refine iR_apA ?_ | refine iR_kst ?_ | refine iR_aNil ?_ | refine iR_aCons ?_ | refine iR_asB ?_ | refine iR_truR ?_ | refine iR_andT ?_ | refine iR_orT ?_ | refine iR_notT ?_ | refine iR_andV ?_ | refine iR_orV ?_ | refine iR_notV ?_ | refine iR_ifE ?_ | refine iR_asI ?_ | refine iS_sub ?_ | refine iS_retO ?_ | refine iR_mtF ?_ | refine iR_cNil ?_ | refine iR_cVal ?_ | refine iR_call ?_ | refine iR_readV ?_ | refine iR_readN ?_ | refine iR_writeN ?_ | refine iR_writeC ?_ | refine iR_asR1 ?_ | refine iR_asR2 ?_ | refine iR_bind ?_ | refine iR_lc ?_ | refine iR_slN ?_ | refine iR_oSome ?_ | refine iR_oNone ?_ | refine iR_lRg2 ?_ | refine iR_eqi ?_ | refine iR_nei ?_ | refine iR_eqs ?_ | refine iR_nes ?_ | refine iR_eqb ?_ | refine iR_neb ?_) | ((with_reducible first | refine eR_getV ?_ | refine eR_getCv ?_ | refine eR_ownL ?_ | refine eR_cOwn ?_ | refine eR_readO ?_ | refine eS_frz ?_ | refine eR_cellO ?_ | refine eR_of (r := gT _ _ _ _) ?_ | refine eR_of (r := gN _ _ _) ?_ | refine eR_of (r := dAddA _ _) ?_ | refine eR_of (r := dSub _ _) ?_ | refine eR_of (r := dLt _ _) ?_ | refine eR_of (r := dLe _ _) ?_ | refine eR_of (r := dGt _ _) ?_ | refine eR_of (r := dGe _ _) ?_ | refine eR_of (r := dIsN _ _) ?_ | refine eR_of (r := dNotN _ _) ?_ | refine eR_of (r := dIx _ _) ?_ | refine eR_of (r := dNeg _) ?_ | refine eR_of (r := dLen _) ?_ | refine eR_of (r := dList _) ?_ | refine eR_of (r := dTuple _) ?_ | refine eR_of (r := dRev _) ?_ | refine eR_of (r := dInt1 _) ?_ | refine eR_of (r := boolR _) ?_ | refine eR_of (r := intR _) ?_ | refine eR_of (r := itemsR _) ?_ | refine eR_of (r := truD _) ?_ | refine eR_of (r := dMax2 _) ?_ | refine eR_of (r := dMin2 _) ?_ | refine eR_of (r := slD _ _ _) ?_ | refine eR_of (r := mkT _) ?_ | refine eR_of (r := mkL _) ?_ | refine eR_of (r := endR _ _ _ _) ?_ | refine eR_of (r := lRg _ _) ?_ | refine eR_of (r := optB _) ?_ | refine eR_of (r := optR _) ?_); refine ⟨_, rfl, ?_⟩) | ((with_reducible first | refine eR_getCo ?_ | refine eS_frz' ?_); refine ⟨_, rfl, ?_⟩) | ((with_reducible first | refine iR_rng1 ?hh_ ?_ | refine iR_rng2 ?hh_ ?_ | refine iR_dMul ?hh_ ?_ | refine iR_dDiv ?hh_ ?_ | refine iR_dMod ?hh_ ?_ | refine iR_dPow ?hh_ ?_ | refine iR_dAddl ?hh_ ?_ | refine iR_dAdds ?hh_ ?_ | refine iR_dCat ?hh_ ?_ | refine iR_app ?hh_ ?_); (case hh_ => first | omega | decide)) | ((with_reducible first | refine iR_isi_t ?hh_ ?_ | refine if_ct ?hh_ ?_); (case hh_ => exact rfl)) | ((with_reducible first | refine iR_isi_f ?hh_ ?_ | refine if_cf ?hh_ ?_); (case hh_ => exact rfl)) | ((with_reducible refine iR_guard ?hh_ ?_); (case hh_ => first | decide | omega)) | (with_reducible refine iR_okk ?_) | ((with_reducible refine And.intro ?hh_ ?_); (case hh_ => first | decide | exact List.nodup_singleton _ | exact rfl | (simp only [List.length_cons, List.length_nil]; decide) | (intro z; cases z) | omega | (intro _; rfl)))); try dsimp only [List.set_cons_zero, List.set_cons_succ, ownIx, wipeE, restore, List.nil_append, List.cons_append])
  rfl
def SameOk : Nat → D → Prop
  | 0, _ => False
  | n + 1, d => match d with
    | .none => True
    | .bool _ => True
    | .int _ => True
    | .str _ => True
    | .list ds => ds.length < 2 ^ 60 ∧ ∀ d ∈ ds, SameOk n d
    | .tuple ds => ds.length < 2 ^ 60 ∧ ∀ d ∈ ds, SameOk n d
    | _ => False
theorem same_bool {n : Nat} {i j : Bool} : RLSame (n + 1) [.bool i, .bool j] = .ok false (.bool (j == i)) [] := by
  refine runF_eq (G := GLSame (RLSame n)) ?_
  unfold GLSame
  dsimp only [DL.env0, DL.cells, DL.cellOf_t, DL.cellOf_f, List.length_cons, List.length_nil, Nat.reduceAdd, Nat.reduceSub, List.replicate, List.cons_append, List.nil_append]
  repeat ((first | (with_reducible first | refine iR_yesT ?_ | refine iR_lcNil ?_ | refine iR_lcCons ?_ | refine if_t ?_ | refine if_f ?_ | refine iS_seq ?_ | refine iS_set ?_ | refine iS_own ?_ | refine iS_drop ?_ | refine iS_ret ?_ | refine iS_retF ?_ | refine iS_next ?_ | refine iS_if ?_ | refine iS_asg ?_ | refine iS_for0 ?_ | refine iR_ap1 ?_ | refine iR_ap2 ?_ | refine iR_ap2N ?_ | refine iR_apA ?_ | refine iR_kst ?_ | refine iR_aNil ?_ | refine iR_aCons ?_ | refine iR_asB ?_ | refine iR_truR ?_ | refine iR_andT ?_ | refine iR_orT ?_ | refine iR_notT ?_ | refine iR_andV ?_ | refine iR_orV ?_ | refine iR_notV ?_ | refine iR_ifE ?_ | refine iR_asI ?_ | refine iS_sub ?_ | refine iS_retO ?_ | refine iR_mtF ?_ | refine iR_cNil ?_ | refine iR_cVal ?_ | refine iR_call ?_ | refine iR_readV ?_ | refine iR_readN ?_ | refine iR_writeN ?_ | refine iR_writeC ?_ | refine iR_asR1 ?_ | refine iR_asR2 ?_ | refine iR_bind ?_ | refine iR_lc ?_ | refine iR_slN ?_ | refine iR_oSome ?_ | refine iR_oNone ?_ | refine iR_lRg2 ?_ | refine iR_eqi ?_ | refine iR_nei ?_ | refine iR_eqs ?_ | refine iR_nes ?_ | refine iR_eqb ?_ | refine iR_neb ?_) | ((with_reducible first | refine eR_getV ?_ | refine eR_getCv ?_ | refine eR_ownL ?_ | refine eR_cOwn ?_ | refine eR_readO ?_ | refine eS_frz ?_ | refine eR_cellO ?_ | refine eR_of (r := gT _ _ _ _) ?_ | refine eR_of (r := gN _ _ _) ?_ | refine eR_of (r := dAddA _ _) ?_ | refine eR_of (r := dSub _ _) ?_ | refine eR_of (r := dLt _ _) ?_ | refine eR_of (r := dLe _ _) ?_ | refine eR_of (r := dGt _ _) ?_ | refine eR_of (r := dGe _ _) ?_ | refine eR_of (r := dIsN _ _) ?_ | refine eR_of (r := dNotN _ _) ?_ | refine eR_of (r := dIx _ _) ?_ | refine eR_of (r := dNeg _) ?_ | refine eR_of (r := dLen _) ?_ | refine eR_of (r := dList _) ?_ | refine eR_of (r := dTuple _) ?_ | refine eR_of (r := dRev _) ?_ | refine eR_of (r := dInt1 _) ?_ | refine eR_of (r := boolR _) ?_ | refine eR_of (r := intR _) ?_ | refine eR_of (r := itemsR _) ?_ | refine eR_of (r := truD _) ?_ | refine eR_of (r := dMax2 _) ?_ | refine eR_of (r := dMin2 _) ?_ | refine eR_of (r := slD _ _ _) ?_ | refine eR_of (r := mkT _) ?_ | refine eR_of (r := mkL _) ?_ | refine eR_of (r := endR _ _ _ _) ?_ | refine eR_of (r := lRg _ _) ?_ | refine eR_of (r := optB _) ?_ | refine eR_of (r := optR _) ?_); refine ⟨_, rfl, ?_⟩) | ((with_reducible first | refine eR_getCo ?_ | refine eS_frz' ?_); refine ⟨_, rfl, ?_⟩) | ((with_reducible first | refine iR_rng1 ?hh_ ?_ | refine iR_rng2 ?hh_ ?_ | refine iR_dMul ?hh_ ?_ | refine iR_dDiv ?hh_ ?_ | refine iR_dMod ?hh_ ?_ | refine iR_dPow ?hh_ ?_ | refine iR_dAddl ?hh_ ?_ | refine iR_dAdds ?hh_ ?_ | refine iR_dCat ?hh_ ?_ | refine iR_app ?hh_ ?_); (case hh_ => first | omega | decide)) | ((with_reducible first | refine iR_isi_t ?hh_ ?_ | refine if_ct ?hh_ ?_); (case hh_ => exact rfl)) | ((with_reducible first | refine iR_isi_f ?hh_ ?_ | refine if_cf ?hh_ ?_); (case hh_ => exact rfl)) | ((with_reducible refine iR_guard ?hh_ ?_); (case hh_ => first | decide | omega)) | (with_reducible refine iR_okk ?_) | ((with_reducible refine And.intro ?hh_ ?_); (case hh_ => first | decide | exact List.nodup_singleton _ | exact rfl | (simp only [List.length_cons, List.length_nil]; decide) | (intro z; cases z) | omega | (intro _; rfl)))); try dsimp only [List.set_cons_zero, List.set_cons_succ, ownIx, wipeE, restore, List.nil_append, List.cons_append])
  rfl
theorem same_self : ∀ {n : Nat} {d : D}, SameOk n d → RLSame n [d, d] = .ok false (.bool true) []
  | 0, _, h => h.elim
  | n + 1, d, h => by
    cases d with
    | int i => rw [same_int]; simp
    | bool b => rw [same_bool]; simp
    | none =>
      refine runF_eq (G := GLSame (RLSame n)) ?_
      unfold GLSame
      dsimp only [DL.env0, DL.cells, DL.cellOf_t, DL.cellOf_f, List.length_cons, List.length_nil, Nat.reduceAdd, Nat.reduceSub, List.replicate, List.cons_append, List.nil_append]
      repeat ((first | (with_reducible first | refine iR_yesT ?_ | refine iR_lcNil ?_ | refine iR_lcCons ?_ | refine if_t ?_ | refine if_f ?_ | refine iS_seq ?_ | refine iS_set ?_ | refine iS_own ?_ | refine iS_drop ?_ | refine iS_ret ?_ | refine iS_retF ?_ | refine iS_next ?_ | refine iS_if ?_ | refine iS_asg ?_ | refine iS_for0 ?_ | refine iR_ap1 ?_ | refine iR_ap2 ?_ | refine iR_ap2N ?_ | refine iR_apA ?_ | refine iR_kst ?_ | refine iR_aNil ?_ | refine iR_aCons ?_ | refine iR_asB ?_ | refine iR_truR ?_ | refine iR_andT ?_ | refine iR_orT ?_ | refine iR_notT ?_ | refine iR_andV ?_ | refine iR_orV ?_ | refine iR_notV ?_ | refine iR_ifE ?_ | refine iR_asI ?_ | refine iS_sub ?_ | refine iS_retO ?_ | refine iR_mtF ?_ | refine iR_cNil ?_ | refine iR_cVal ?_ | refine iR_call ?_ | refine iR_readV ?_ | refine iR_readN ?_ | refine iR_writeN ?_ | refine iR_writeC ?_ | refine iR_asR1 ?_ | refine iR_asR2 ?_ | refine iR_bind ?_ | refine iR_lc ?_ | refine iR_slN ?_ | refine iR_oSome ?_ | refine iR_oNone ?_ | refine iR_lRg2 ?_ | refine iR_eqi ?_ | refine iR_nei ?_ | refine iR_eqs ?_ | refine iR_nes ?_ | refine iR_eqb ?_ | refine iR_neb ?_) | ((with_reducible first | refine eR_getV ?_ | refine eR_getCv ?_ | refine eR_ownL ?_ | refine eR_cOwn ?_ | refine eR_readO ?_ | refine eS_frz ?_ | refine eR_cellO ?_ | refine eR_of (r := gT _ _ _ _) ?_ | refine eR_of (r := gN _ _ _) ?_ | refine eR_of (r := dAddA _ _) ?_ | refine eR_of (r := dSub _ _) ?_ | refine eR_of (r := dLt _ _) ?_ | refine eR_of (r := dLe _ _) ?_ | refine eR_of (r := dGt _ _) ?_ | refine eR_of (r := dGe _ _) ?_ | refine eR_of (r := dIsN _ _) ?_ | refine eR_of (r := dNotN _ _) ?_ | refine eR_of (r := dIx _ _) ?_ | refine eR_of (r := dNeg _) ?_ | refine eR_of (r := dLen _) ?_ | refine eR_of (r := dList _) ?_ | refine eR_of (r := dTuple _) ?_ | refine eR_of (r := dRev _) ?_ | refine eR_of (r := dInt1 _) ?_ | refine eR_of (r := boolR _) ?_ | refine eR_of (r := intR _) ?_ | refine eR_of (r := itemsR _) ?_ | refine eR_of (r := truD _) ?_ | refine eR_of (r := dMax2 _) ?_ | refine eR_of (r := dMin2 _) ?_ | refine eR_of (r := slD _ _ _) ?_ | refine eR_of (r := mkT _) ?_ | refine eR_of (r := mkL _) ?_ | refine eR_of (r := endR _ _ _ _) ?_ | refine eR_of (r := lRg _ _) ?_ | refine eR_of (r := optB _) ?_ | refine eR_of (r := optR _) ?_); refine ⟨_, rfl, ?_⟩) | ((with_reducible first | refine eR_getCo ?_ | refine eS_frz' ?_); refine ⟨_, rfl, ?_⟩) | ((with_reducible first | refine iR_rng1 ?hh_ ?_ | refine iR_rng2 ?hh_ ?_ | refine iR_dMul ?hh_ ?_ | refine iR_dDiv ?hh_ ?_ | refine iR_dMod ?hh_ ?_ | refine iR_dPow ?hh_ ?_ | refine iR_dAddl ?hh_ ?_ | refine iR_dAdds ?hh_ ?_ | refine iR_dCat ?hh_ ?_ | refine iR_app ?hh_ ?_); (case hh_ => first | omega | decide)) | ((with_reducible first | refine iR_isi_t ?hh_ ?_ | refine if_ct ?hh_ ?_); (case hh_ => exact rfl)) | ((with_reducible first | refine iR_isi_f ?hh_ ?_ | refine if_cf ?hh_ ?_); (case hh_ => exact rfl)) | ((with_reducible refine iR_guard ?hh_ ?_); (case hh_ => first | decide | omega)) | (with_reducible refine iR_okk ?_) | ((with_reducible refine And.intro ?hh_ ?_); (case hh_ => first | decide | exact List.nodup_singleton _ | exact rfl | (simp only [List.length_cons, List.length_nil]; decide) | (intro z; cases z) | omega | (intro _; rfl)))); try dsimp only [List.set_cons_zero, List.set_cons_succ, ownIx, wipeE, restore, List.nil_append, List.cons_append])
      rfl
    | str x =>
      refine runF_eq (G := GLSame (RLSame n)) ?_
      unfold GLSame
      dsimp only [DL.env0, DL.cells, DL.cellOf_t, DL.cellOf_f, List.length_cons, List.length_nil, Nat.reduceAdd, Nat.reduceSub, List.replicate, List.cons_append, List.nil_append]
      repeat ((first | (with_reducible first | refine iR_yesT ?_ | refine iR_lcNil ?_ | refine iR_lcCons ?_ | refine if_t ?_ | refine if_f ?_ | refine iS_seq ?_ | refine iS_set ?_ | refine iS_own ?_ | refine iS_drop ?_ | refine iS_ret ?_ | refine iS_retF ?_ | refine iS_next ?_ | refine iS_if ?_ | refine iS_asg ?_ | refine iS_for0 ?_ | refine iR_ap1 ?_ | refine iR_ap2 ?_ | refine iR_ap2N ?_ | refine iR_apA ?_ | refine iR_kst ?_ | refine iR_aNil ?_ | refine iR_aCons ?_ | refine iR_asB ?_ | refine iR_truR ?_ | refine iR_andT ?_ | refine iR_orT ?_ | refine iR_notT ?_ | refine iR_andV ?_ | refine iR_orV ?_ | refine iR_notV ?_ | refine iR_ifE ?_ | refine iR_asI ?_ | refine iS_sub ?_ | refine iS_retO ?_ | refine iR_mtF ?_ | refine iR_cNil ?_ | refine iR_cVal ?_ | refine iR_call ?_ | refine iR_readV ?_ | refine iR_readN ?_ | refine iR_writeN ?_ | refine iR_writeC ?_ | refine iR_asR1 ?_ | refine iR_asR2 ?_ | refine iR_bind ?_ | refine iR_lc ?_ | refine iR_slN ?_ | refine iR_oSome ?_ | refine iR_oNone ?_ | refine iR_lRg2 ?_ | refine iR_eqi ?_ | refine iR_nei ?_ | refine iR_eqs ?_ | refine iR_nes ?_ | refine iR_eqb ?_ | refine iR_neb ?_) | ((with_reducible first | refine eR_getV ?_ | refine eR_getCv ?_ | refine eR_ownL ?_ | refine eR_cOwn ?_ | refine eR_readO ?_ | refine eS_frz ?_ | refine eR_cellO ?_ | refine eR_of (r := gT _ _ _ _) ?_ | refine eR_of (r := gN _ _ _) ?_ | refine eR_of (r := dAddA _ _) ?_ | refine eR_of (r := dSub _ _) ?_ | refine eR_of (r := dLt _ _) ?_ | refine eR_of (r := dLe _ _) ?_ | refine eR_of (r := dGt _ _) ?_ | refine eR_of (r := dGe _ _) ?_ | refine eR_of (r := dIsN _ _) ?_ | refine eR_of (r := dNotN _ _) ?_ | refine eR_of (r := dIx _ _) ?_ | refine eR_of (r := dNeg _) ?_ | refine eR_of (r := dLen _) ?_ | refine eR_of (r := dList _) ?_ | refine eR_of (r := dTuple _) ?_ | refine eR_of (r := dRev _) ?_ | refine eR_of (r := dInt1 _) ?_ | refine eR_of (r := boolR _) ?_ | refine eR_of (r := intR _) ?_ | refine eR_of (r := itemsR _) ?_ | refine eR_of (r := truD _) ?_ | refine eR_of (r := dMax2 _) ?_ | refine eR_of (r := dMin2 _) ?_ | refine eR_of (r := slD _ _ _) ?_ | refine eR_of (r := mkT _) ?_ | refine eR_of (r := mkL _) ?_ | refine eR_of (r := endR _ _ _ _) ?_ | refine eR_of (r := lRg _ _) ?_ | refine eR_of (r := optB _) ?_ | refine eR_of (r := optR _) ?_); refine ⟨_, rfl, ?_⟩) | ((with_reducible first | refine eR_getCo ?_ | refine eS_frz' ?_); refine ⟨_, rfl, ?_⟩) | ((with_reducible first | refine iR_rng1 ?hh_ ?_ | refine iR_rng2 ?hh_ ?_ | refine iR_dMul ?hh_ ?_ | refine iR_dDiv ?hh_ ?_ | refine iR_dMod ?hh_ ?_ | refine iR_dPow ?hh_ ?_ | refine iR_dAddl ?hh_ ?_ | refine iR_dAdds ?hh_ ?_ | refine iR_dCat ?hh_ ?_ | refine iR_app ?hh_ ?_); (case hh_ => first | omega | decide)) | ((with_reducible first | refine iR_isi_t ?hh_ ?_ | refine if_ct ?hh_ ?_); (case hh_ => exact rfl)) | ((with_reducible first | refine iR_isi_f ?hh_ ?_ | refine if_cf ?hh_ ?_); (case hh_ => exact rfl)) | ((with_reducible refine iR_guard ?hh_ ?_); (case hh_ => first | decide | omega)) | (with_reducible refine iR_okk ?_) | ((with_reducible refine And.intro ?hh_ ?_); (case hh_ => first | decide | exact List.nodup_singleton _ | exact rfl | (simp only [List.length_cons, List.length_nil]; decide) | (intro z; cases z) | omega | (intro _; rfl)))); try dsimp only [List.set_cons_zero, List.set_cons_succ, ownIx, wipeE, restore, List.nil_append, List.cons_append])
      simp [endR, outD, slots]
    | list ds =>
      obtain ⟨hl, h⟩ : ds.length < 2 ^ 60 ∧ ∀ d ∈ ds, SameOk n d := h
      refine runF_eq (G := GLSame (RLSame n)) ?_
      unfold GLSame
      dsimp only [DL.env0, DL.cells, DL.cellOf_t, DL.cellOf_f, List.length_cons, List.length_nil, Nat.reduceAdd, Nat.reduceSub, List.replicate, List.cons_append, List.nil_append]
      repeat ((first | (with_reducible first | refine iR_yesT ?_ | refine iR_lcNil ?_ | refine iR_lcCons ?_ | refine if_t ?_ | refine if_f ?_ | refine iS_seq ?_ | refine iS_set ?_ | refine iS_own ?_ | refine iS_drop ?_ | refine iS_ret ?_ | refine iS_retF ?_ | refine iS_next ?_ | refine iS_if ?_ | refine iS_asg ?_ | refine iS_for0 ?_ | refine iR_ap1 ?_ | refine iR_ap2 ?_ | refine iR_ap2N ?_ | refine iR_apA ?_ | refine iR_kst ?_ | refine iR_aNil ?_ | refine iR_aCons ?_ | refine iR_asB ?_ | refine iR_truR ?_ | refine iR_andT ?_ | refine iR_orT ?_ | refine iR_notT ?_ | refine iR_andV ?_ | refine iR_orV ?_ | refine iR_notV ?_ | refine iR_ifE ?_ | refine iR_asI ?_ | refine iS_sub ?_ | refine iS_retO ?_ | refine iR_mtF ?_ | refine iR_cNil ?_ | refine iR_cVal ?_ | refine iR_call ?_ | refine iR_readV ?_ | refine iR_readN ?_ | refine iR_writeN ?_ | refine iR_writeC ?_ | refine iR_asR1 ?_ | refine iR_asR2 ?_ | refine iR_bind ?_ | refine iR_lc ?_ | refine iR_slN ?_ | refine iR_oSome ?_ | refine iR_oNone ?_ | refine iR_lRg2 ?_ | refine iR_eqi ?_ | refine iR_nei ?_ | refine iR_eqs ?_ | refine iR_nes ?_ | refine iR_eqb ?_ | refine iR_neb ?_) | ((with_reducible first | refine eR_getV ?_ | refine eR_getCv ?_ | refine eR_ownL ?_ | refine eR_cOwn ?_ | refine eR_readO ?_ | refine eS_frz ?_ | refine eR_cellO ?_ | refine eR_of (r := gT _ _ _ _) ?_ | refine eR_of (r := gN _ _ _) ?_ | refine eR_of (r := dAddA _ _) ?_ | refine eR_of (r := dSub _ _) ?_ | refine eR_of (r := dLt _ _) ?_ | refine eR_of (r := dLe _ _) ?_ | refine eR_of (r := dGt _ _) ?_ | refine eR_of (r := dGe _ _) ?_ | refine eR_of (r := dIsN _ _) ?_ | refine eR_of (r := dNotN _ _) ?_ | refine eR_of (r := dIx _ _) ?_ | refine eR_of (r := dNeg _) ?_ | refine eR_of (r := dLen _) ?_ | refine eR_of (r := dList _) ?_ | refine eR_of (r := dTuple _) ?_ | refine eR_of (r := dRev _) ?_ | refine eR_of (r := dInt1 _) ?_ | refine eR_of (r := boolR _) ?_ | refine eR_of (r := intR _) ?_ | refine eR_of (r := itemsR _) ?_ | refine eR_of (r := truD _) ?_ | refine eR_of (r := dMax2 _) ?_ | refine eR_of (r := dMin2 _) ?_ | refine eR_of (r := slD _ _ _) ?_ | refine eR_of (r := mkT _) ?_ | refine eR_of (r := mkL _) ?_ | refine eR_of (r := endR _ _ _ _) ?_ | refine eR_of (r := lRg _ _) ?_ | refine eR_of (r := optB _) ?_ | refine eR_of (r := optR _) ?_); refine ⟨_, rfl, ?_⟩) | ((with_reducible first | refine eR_getCo ?_ | refine eS_frz' ?_); refine ⟨_, rfl, ?_⟩) | ((with_reducible first | refine iR_rng1 ?hh_ ?_ | refine iR_rng2 ?hh_ ?_ | refine iR_dMul ?hh_ ?_ | refine iR_dDiv ?hh_ ?_ | refine iR_dMod ?hh_ ?_ | refine iR_dPow ?hh_ ?_ | refine iR_dAddl ?hh_ ?_ | refine iR_dAdds ?hh_ ?_ | refine iR_dCat ?hh_ ?_ | refine iR_app ?hh_ ?_); (case hh_ => first | omega | decide)) | ((with_reducible first | refine iR_isi_t ?hh_ ?_ | refine if_ct ?hh_ ?_); (case hh_ => exact rfl)) | ((with_reducible first | refine iR_isi_f ?hh_ ?_ | refine if_cf ?hh_ ?_); (case hh_ => exact rfl)) | ((with_reducible refine iR_guard ?hh_ ?_); (case hh_ => first | decide | omega)) | (with_reducible refine iR_okk ?_) | ((with_reducible refine And.intro ?hh_ ?_); (case hh_ => first | decide | exact List.nodup_singleton _ | exact rfl | (simp only [List.length_cons, List.length_nil]; decide) | (intro z; cases z) | omega | (intro _; rfl)))); try dsimp only [List.set_cons_zero, List.set_cons_succ, ownIx, wipeE, restore, List.nil_append, List.cons_append])
      refine ifb (fun z => ?_) fun _ => ?_
      · simp at z
      repeat ((first | (with_reducible first | refine iR_yesT ?_ | refine iR_lcNil ?_ | refine iR_lcCons ?_ | refine if_t ?_ | refine if_f ?_ | refine iS_seq ?_ | refine iS_set ?_ | refine iS_own ?_ | refine iS_drop ?_ | refine iS_ret ?_ | refine iS_retF ?_ | refine iS_next ?_ | refine iS_if ?_ | refine iS_asg ?_ | refine iS_for0 ?_ | refine iR_ap1 ?_ | refine iR_ap2 ?_ | refine iR_ap2N ?_ | refine iR_apA ?_ | refine iR_kst ?_ | refine iR_aNil ?_ | refine iR_aCons ?_ | refine iR_asB ?_ | refine iR_truR ?_ | refine iR_andT ?_ | refine iR_orT ?_ | refine iR_notT ?_ | refine iR_andV ?_ | refine iR_orV ?_ | refine iR_notV ?_ | refine iR_ifE ?_ | refine iR_asI ?_ | refine iS_sub ?_ | refine iS_retO ?_ | refine iR_mtF ?_ | refine iR_cNil ?_ | refine iR_cVal ?_ | refine iR_call ?_ | refine iR_readV ?_ | refine iR_readN ?_ | refine iR_writeN ?_ | refine iR_writeC ?_ | refine iR_asR1 ?_ | refine iR_asR2 ?_ | refine iR_bind ?_ | refine iR_lc ?_ | refine iR_slN ?_ | refine iR_oSome ?_ | refine iR_oNone ?_ | refine iR_lRg2 ?_ | refine iR_eqi ?_ | refine iR_nei ?_ | refine iR_eqs ?_ | refine iR_nes ?_ | refine iR_eqb ?_ | refine iR_neb ?_) | ((with_reducible first | refine eR_getV ?_ | refine eR_getCv ?_ | refine eR_ownL ?_ | refine eR_cOwn ?_ | refine eR_readO ?_ | refine eS_frz ?_ | refine eR_cellO ?_ | refine eR_of (r := gT _ _ _ _) ?_ | refine eR_of (r := gN _ _ _) ?_ | refine eR_of (r := dAddA _ _) ?_ | refine eR_of (r := dSub _ _) ?_ | refine eR_of (r := dLt _ _) ?_ | refine eR_of (r := dLe _ _) ?_ | refine eR_of (r := dGt _ _) ?_ | refine eR_of (r := dGe _ _) ?_ | refine eR_of (r := dIsN _ _) ?_ | refine eR_of (r := dNotN _ _) ?_ | refine eR_of (r := dIx _ _) ?_ | refine eR_of (r := dNeg _) ?_ | refine eR_of (r := dLen _) ?_ | refine eR_of (r := dList _) ?_ | refine eR_of (r := dTuple _) ?_ | refine eR_of (r := dRev _) ?_ | refine eR_of (r := dInt1 _) ?_ | refine eR_of (r := boolR _) ?_ | refine eR_of (r := intR _) ?_ | refine eR_of (r := itemsR _) ?_ | refine eR_of (r := truD _) ?_ | refine eR_of (r := dMax2 _) ?_ | refine eR_of (r := dMin2 _) ?_ | refine eR_of (r := slD _ _ _) ?_ | refine eR_of (r := mkT _) ?_ | refine eR_of (r := mkL _) ?_ | refine eR_of (r := endR _ _ _ _) ?_ | refine eR_of (r := lRg _ _) ?_ | refine eR_of (r := optB _) ?_ | refine eR_of (r := optR _) ?_); refine ⟨_, rfl, ?_⟩) | ((with_reducible first | refine eR_getCo ?_ | refine eS_frz' ?_); refine ⟨_, rfl, ?_⟩) | ((with_reducible first | refine iR_rng1 ?hh_ ?_ | refine iR_rng2 ?hh_ ?_ | refine iR_dMul ?hh_ ?_ | refine iR_dDiv ?hh_ ?_ | refine iR_dMod ?hh_ ?_ | refine iR_dPow ?hh_ ?_ | refine iR_dAddl ?hh_ ?_ | refine iR_dAdds ?hh_ ?_ | refine iR_dCat ?hh_ ?_ | refine iR_app ?hh_ ?_); (case hh_ => first | omega | decide)) | ((with_reducible first | refine iR_isi_t ?hh_ ?_ | refine if_ct ?hh_ ?_); (case hh_ => exact rfl)) | ((with_reducible first | refine iR_isi_f ?hh_ ?_ | refine if_cf ?hh_ ?_); (case hh_ => exact rfl)) | ((with_reducible refine iR_guard ?hh_ ?_); (case hh_ => first | decide | omega)) | (with_reducible refine iR_okk ?_) | ((with_reducible refine And.intro ?hh_ ?_); (case hh_ => first | decide | exact List.nodup_singleton _ | exact rfl | (simp only [List.length_cons, List.length_nil]; decide) | (intro z; cases z) | omega | (intro _; rfl)))); try dsimp only [List.set_cons_zero, List.set_cons_succ, ownIx, wipeE, restore, List.nil_append, List.cons_append])
      refine iS_forN (fun j e => ∃ x, e = [some (.val (.list ds)), some (.val (.list ds)), x]) ⟨_, rfl⟩ ?_ ?_
      · rintro j e hj ⟨x, rfl⟩
        have hj : j < ds.length := by simpa using hj
        have q : atI ds (0 + (j : Int)) = some ds[j] := by rw [Int.zero_add]; exact atI_nat (by rw [List.getElem?_eq_getElem hj])
        repeat ((first | (with_reducible first | refine iR_yesT ?_ | refine iR_lcNil ?_ | refine iR_lcCons ?_ | refine if_t ?_ | refine if_f ?_ | refine iS_seq ?_ | refine iS_set ?_ | refine iS_own ?_ | refine iS_drop ?_ | refine iS_ret ?_ | refine iS_retF ?_ | refine iS_next ?_ | refine iS_if ?_ | refine iS_asg ?_ | refine iS_for0 ?_ | refine iR_ap1 ?_ | refine iR_ap2 ?_ | refine iR_ap2N ?_ | refine iR_apA ?_ | refine iR_kst ?_ | refine iR_aNil ?_ | refine iR_aCons ?_ | refine iR_asB ?_ | refine iR_truR ?_ | refine iR_andT ?_ | refine iR_orT ?_ | refine iR_notT ?_ | refine iR_andV ?_ | refine iR_orV ?_ | refine iR_notV ?_ | refine iR_ifE ?_ | refine iR_asI ?_ | refine iS_sub ?_ | refine iS_retO ?_ | refine iR_mtF ?_ | refine iR_cNil ?_ | refine iR_cVal ?_ | refine iR_call ?_ | refine iR_readV ?_ | refine iR_readN ?_ | refine iR_writeN ?_ | refine iR_writeC ?_ | refine iR_asR1 ?_ | refine iR_asR2 ?_ | refine iR_bind ?_ | refine iR_lc ?_ | refine iR_slN ?_ | refine iR_oSome ?_ | refine iR_oNone ?_ | refine iR_lRg2 ?_ | refine iR_eqi ?_ | refine iR_nei ?_ | refine iR_eqs ?_ | refine iR_nes ?_ | refine iR_eqb ?_ | refine iR_neb ?_) | ((with_reducible first | refine eR_getV ?_ | refine eR_getCv ?_ | refine eR_ownL ?_ | refine eR_cOwn ?_ | refine eR_readO ?_ | refine eS_frz ?_ | refine eR_cellO ?_ | refine eR_of (r := gT _ _ _ _) ?_ | refine eR_of (r := gN _ _ _) ?_ | refine eR_of (r := dAddA _ _) ?_ | refine eR_of (r := dSub _ _) ?_ | refine eR_of (r := dLt _ _) ?_ | refine eR_of (r := dLe _ _) ?_ | refine eR_of (r := dGt _ _) ?_ | refine eR_of (r := dGe _ _) ?_ | refine eR_of (r := dIsN _ _) ?_ | refine eR_of (r := dNotN _ _) ?_ | refine eR_of (r := dIx _ _) ?_ | refine eR_of (r := dNeg _) ?_ | refine eR_of (r := dLen _) ?_ | refine eR_of (r := dList _) ?_ | refine eR_of (r := dTuple _) ?_ | refine eR_of (r := dRev _) ?_ | refine eR_of (r := dInt1 _) ?_ | refine eR_of (r := boolR _) ?_ | refine eR_of (r := intR _) ?_ | refine eR_of (r := itemsR _) ?_ | refine eR_of (r := truD _) ?_ | refine eR_of (r := dMax2 _) ?_ | refine eR_of (r := dMin2 _) ?_ | refine eR_of (r := slD _ _ _) ?_ | refine eR_of (r := mkT _) ?_ | refine eR_of (r := mkL _) ?_ | refine eR_of (r := endR _ _ _ _) ?_ | refine eR_of (r := lRg _ _) ?_ | refine eR_of (r := optB _) ?_ | refine eR_of (r := optR _) ?_); refine ⟨_, rfl, ?_⟩) | ((with_reducible first | refine eR_getCo ?_ | refine eS_frz' ?_); refine ⟨_, rfl, ?_⟩) | ((with_reducible first | refine iR_rng1 ?hh_ ?_ | refine iR_rng2 ?hh_ ?_ | refine iR_dMul ?hh_ ?_ | refine iR_dDiv ?hh_ ?_ | refine iR_dMod ?hh_ ?_ | refine iR_dPow ?hh_ ?_ | refine iR_dAddl ?hh_ ?_ | refine iR_dAdds ?hh_ ?_ | refine iR_dCat ?hh_ ?_ | refine iR_app ?hh_ ?_); (case hh_ => first | omega | decide)) | ((with_reducible first | refine iR_isi_t ?hh_ ?_ | refine if_ct ?hh_ ?_); (case hh_ => exact rfl)) | ((with_reducible first | refine iR_isi_f ?hh_ ?_ | refine if_cf ?hh_ ?_); (case hh_ => exact rfl)) | ((with_reducible refine iR_guard ?hh_ ?_); (case hh_ => first | decide | omega)) | (with_reducible refine iR_okk ?_) | ((with_reducible refine And.intro ?hh_ ?_); (case hh_ => first | decide | exact List.nodup_singleton _ | exact rfl | (simp only [List.length_cons, List.length_nil]; decide) | (intro z; cases z) | omega | (intro _; rfl)))); try dsimp only [List.set_cons_zero, List.set_cons_succ, ownIx, wipeE, restore, List.nil_append, List.cons_append])
        refine iR_ixl q ?_
        repeat ((first | (with_reducible first | refine iR_yesT ?_ | refine iR_lcNil ?_ | refine iR_lcCons ?_ | refine if_t ?_ | refine if_f ?_ | refine iS_seq ?_ | refine iS_set ?_ | refine iS_own ?_ | refine iS_drop ?_ | refine iS_ret ?_ | refine iS_retF ?_ | refine iS_next ?_ | refine iS_if ?_ | refine iS_asg ?_ | refine iS_for0 ?_ | refine iR_ap1 ?_ | refine iR_ap2 ?_ | refine iR_ap2N ?_ | refine iR_apA ?_ | refine iR_kst ?_ | refine iR_aNil ?_ | refine iR_aCons ?_ | refine iR_asB ?_ | refine iR_truR ?_ | refine iR_andT ?_ | refine iR_orT ?_ | refine iR_notT ?_ | refine iR_andV ?_ | refine iR_orV ?_ | refine iR_notV ?_ | refine iR_ifE ?_ | refine iR_asI ?_ | refine iS_sub ?_ | refine iS_retO ?_ | refine iR_mtF ?_ | refine iR_cNil ?_ | refine iR_cVal ?_ | refine iR_call ?_ | refine iR_readV ?_ | refine iR_readN ?_ | refine iR_writeN ?_ | refine iR_writeC ?_ | refine iR_asR1 ?_ | refine iR_asR2 ?_ | refine iR_bind ?_ | refine iR_lc ?_ | refine iR_slN ?_ | refine iR_oSome ?_ | refine iR_oNone ?_ | refine iR_lRg2 ?_ | refine iR_eqi ?_ | refine iR_nei ?_ | refine iR_eqs ?_ | refine iR_nes ?_ | refine iR_eqb ?_ | refine iR_neb ?_) | ((with_reducible first | refine eR_getV ?_ | refine eR_getCv ?_ | refine eR_ownL ?_ | refine eR_cOwn ?_ | refine eR_readO ?_ | refine eS_frz ?_ | refine eR_cellO ?_ | refine eR_of (r := gT _ _ _ _) ?_ | refine eR_of (r := gN _ _ _) ?_ | refine eR_of (r := dAddA _ _) ?_ | refine eR_of (r := dSub _ _) ?_ | refine eR_of (r := dLt _ _) ?_ | refine eR_of (r := dLe _ _) ?_ | refine eR_of (r := dGt _ _) ?_ | refine eR_of (r := dGe _ _) ?_ | refine eR_of (r := dIsN _ _) ?_ | refine eR_of (r := dNotN _ _) ?_ | refine eR_of (r := dIx _ _) ?_ | refine eR_of (r := dNeg _) ?_ | refine eR_of (r := dLen _) ?_ | refine eR_of (r := dList _) ?_ | refine eR_of (r := dTuple _) ?_ | refine eR_of (r := dRev _) ?_ | refine eR_of (r := dInt1 _) ?_ | refine eR_of (r := boolR _) ?_ | refine eR_of (r := intR _) ?_ | refine eR_of (r := itemsR _) ?_ | refine eR_of (r := truD _) ?_ | refine eR_of (r := dMax2 _) ?_ | refine eR_of (r := dMin2 _) ?_ | refine eR_of (r := slD _ _ _) ?_ | refine eR_of (r := mkT _) ?_ | refine eR_of (r := mkL _) ?_ | refine eR_of (r := endR _ _ _ _) ?_ | refine eR_of (r := lRg _ _) ?_ | refine eR_of (r := optB _) ?_ | refine eR_of (r := optR _) ?_); refine ⟨_, rfl, ?_⟩) | ((with_reducible first | refine eR_getCo ?_ | refine eS_frz' ?_); refine ⟨_, rfl, ?_⟩) | ((with_reducible first | refine iR_rng1 ?hh_ ?_ | refine iR_rng2 ?hh_ ?_ | refine iR_dMul ?hh_ ?_ | refine iR_dDiv ?hh_ ?_ | refine iR_dMod ?hh_ ?_ | refine iR_dPow ?hh_ ?_ | refine iR_dAddl ?hh_ ?_ | refine iR_dAdds ?hh_ ?_ | refine iR_dCat ?hh_ ?_ | refine iR_app ?hh_ ?_); (case hh_ => first | omega | decide)) | ((with_reducible first | refine iR_isi_t ?hh_ ?_ | refine if_ct ?hh_ ?_); (case hh_ => exact rfl)) | ((with_reducible first | refine iR_isi_f ?hh_ ?_ | refine if_cf ?hh_ ?_); (case hh_ => exact rfl)) | ((with_reducible refine iR_guard ?hh_ ?_); (case hh_ => first | decide | omega)) | (with_reducible refine iR_okk ?_) | ((with_reducible refine And.intro ?hh_ ?_); (case hh_ => first | decide | exact List.nodup_singleton _ | exact rfl | (simp only [List.length_cons, List.length_nil]; decide) | (intro z; cases z) | omega | (intro _; rfl)))); try dsimp only [List.set_cons_zero, List.set_cons_succ, ownIx, wipeE, restore, List.nil_append, List.cons_append])
        refine iR_ixl q ?_
        repeat ((first | (with_reducible first | refine iR_yesT ?_ | refine iR_lcNil ?_ | refine iR_lcCons ?_ | refine if_t ?_ | refine if_f ?_ | refine iS_seq ?_ | refine iS_set ?_ | refine iS_own ?_ | refine iS_drop ?_ | refine iS_ret ?_ | refine iS_retF ?_ | refine iS_next ?_ | refine iS_if ?_ | refine iS_asg ?_ | refine iS_for0 ?_ | refine iR_ap1 ?_ | refine iR_ap2 ?_ | refine iR_ap2N ?_ | refine iR_apA ?_ | refine iR_kst ?_ | refine iR_aNil ?_ | refine iR_aCons ?_ | refine iR_asB ?_ | refine iR_truR ?_ | refine iR_andT ?_ | refine iR_orT ?_ | refine iR_notT ?_ | refine iR_andV ?_ | refine iR_orV ?_ | refine iR_notV ?_ | refine iR_ifE ?_ | refine iR_asI ?_ | refine iS_sub ?_ | refine iS_retO ?_ | refine iR_mtF ?_ | refine iR_cNil ?_ | refine iR_cVal ?_ | refine iR_call ?_ | refine iR_readV ?_ | refine iR_readN ?_ | refine iR_writeN ?_ | refine iR_writeC ?_ | refine iR_asR1 ?_ | refine iR_asR2 ?_ | refine iR_bind ?_ | refine iR_lc ?_ | refine iR_slN ?_ | refine iR_oSome ?_ | refine iR_oNone ?_ | refine iR_lRg2 ?_ | refine iR_eqi ?_ | refine iR_nei ?_ | refine iR_eqs ?_ | refine iR_nes ?_ | refine iR_eqb ?_ | refine iR_neb ?_) | ((with_reducible first | refine eR_getV ?_ | refine eR_getCv ?_ | refine eR_ownL ?_ | refine eR_cOwn ?_ | refine eR_readO ?_ | refine eS_frz ?_ | refine eR_cellO ?_ | refine eR_of (r := gT _ _ _ _) ?_ | refine eR_of (r := gN _ _ _) ?_ | refine eR_of (r := dAddA _ _) ?_ | refine eR_of (r := dSub _ _) ?_ | refine eR_of (r := dLt _ _) ?_ | refine eR_of (r := dLe _ _) ?_ | refine eR_of (r := dGt _ _) ?_ | refine eR_of (r := dGe _ _) ?_ | refine eR_of (r := dIsN _ _) ?_ | refine eR_of (r := dNotN _ _) ?_ | refine eR_of (r := dIx _ _) ?_ | refine eR_of (r := dNeg _) ?_ | refine eR_of (r := dLen _) ?_ | refine eR_of (r := dList _) ?_ | refine eR_of (r := dTuple _) ?_ | refine eR_of (r := dRev _) ?_ | refine eR_of (r := dInt1 _) ?_ | refine eR_of (r := boolR _) ?_ | refine eR_of (r := intR _) ?_ | refine eR_of (r := itemsR _) ?_ | refine eR_of (r := truD _) ?_ | refine eR_of (r := dMax2 _) ?_ | refine eR_of (r := dMin2 _) ?_ | refine eR_of (r := slD _ _ _) ?_ | refine eR_of (r := mkT _) ?_ | refine eR_of (r := mkL _) ?_ | refine eR_of (r := endR _ _ _ _) ?_ | refine eR_of (r := lRg _ _) ?_ | refine eR_of (r := optB _) ?_ | refine eR_of (r := optR _) ?_); refine ⟨_, rfl, ?_⟩) | ((with_reducible first | refine eR_getCo ?_ | refine eS_frz' ?_); refine ⟨_, rfl, ?_⟩) | ((with_reducible first | refine iR_rng1 ?hh_ ?_ | refine iR_rng2 ?hh_ ?_ | refine iR_dMul ?hh_ ?_ | refine iR_dDiv ?hh_ ?_ | refine iR_dMod ?hh_ ?_ | refine iR_dPow ?hh_ ?_ | refine iR_dAddl ?hh_ ?_ | refine iR_dAdds ?hh_ ?_ | refine iR_dCat ?hh_ ?_ | refine iR_app ?hh_ ?_); (case hh_ => first | omega | decide)) | ((with_reducible first | refine iR_isi_t ?hh_ ?_ | refine if_ct ?hh_ ?_); (case hh_ => exact rfl)) | ((with_reducible first | refine iR_isi_f ?hh_ ?_ | refine if_cf ?hh_ ?_); (case hh_ => exact rfl)) | ((with_reducible refine iR_guard ?hh_ ?_); (case hh_ => first | decide | omega)) | (with_reducible refine iR_okk ?_) | ((with_reducible refine And.intro ?hh_ ?_); (case hh_ => first | decide | exact List.nodup_singleton _ | exact rfl | (simp only [List.length_cons, List.length_nil]; decide) | (intro z; cases z) | omega | (intro _; rfl)))); try dsimp only [List.set_cons_zero, List.set_cons_succ, ownIx, wipeE, restore, List.nil_append, List.cons_append])
        refine iD_of (same_self (h _ (List.getElem_mem hj))) ?_
        repeat ((first | (with_reducible first | refine iR_yesT ?_ | refine iR_lcNil ?_ | refine iR_lcCons ?_ | refine if_t ?_ | refine if_f ?_ | refine iS_seq ?_ | refine iS_set ?_ | refine iS_own ?_ | refine iS_drop ?_ | refine iS_ret ?_ | refine iS_retF ?_ | refine iS_next ?_ | refine iS_if ?_ | refine iS_asg ?_ | refine iS_for0 ?_ | refine iR_ap1 ?_ | refine iR_ap2 ?_ | refine iR_ap2N ?_ | refine iR_apA ?_ | refine iR_kst ?_ | refine iR_aNil ?_ | refine iR_aCons ?_ | refine iR_asB ?_ | refine iR_truR ?_ | refine iR_andT ?_ | refine iR_orT ?_ | refine iR_notT ?_ | refine iR_andV ?_ | refine iR_orV ?_ | refine iR_notV ?_ | refine iR_ifE ?_ | refine iR_asI ?_ | refine iS_sub ?_ | refine iS_retO ?_ | refine iR_mtF ?_ | refine iR_cNil ?_ | refine iR_cVal ?_ | refine iR_call ?_ | refine iR_readV ?_ | refine iR_readN ?_ | refine iR_writeN ?_ | refine iR_writeC ?_ | refine iR_asR1 ?_ | refine iR_asR2 ?_ | refine iR_bind ?_ | refine iR_lc ?_ | refine iR_slN ?_ | refine iR_oSome ?_ | refine iR_oNone ?_ | refine iR_lRg2 ?_ | refine iR_eqi ?_ | refine iR_nei ?_ | refine iR_eqs ?_ | refine iR_nes ?_ | refine iR_eqb ?_ | refine iR_neb ?_) | ((with_reducible first | refine eR_getV ?_ | refine eR_getCv ?_ | refine eR_ownL ?_ | refine eR_cOwn ?_ | refine eR_readO ?_ | refine eS_frz ?_ | refine eR_cellO ?_ | refine eR_of (r := gT _ _ _ _) ?_ | refine eR_of (r := gN _ _ _) ?_ | refine eR_of (r := dAddA _ _) ?_ | refine eR_of (r := dSub _ _) ?_ | refine eR_of (r := dLt _ _) ?_ | refine eR_of (r := dLe _ _) ?_ | refine eR_of (r := dGt _ _) ?_ | refine eR_of (r := dGe _ _) ?_ | refine eR_of (r := dIsN _ _) ?_ | refine eR_of (r := dNotN _ _) ?_ | refine eR_of (r := dIx _ _) ?_ | refine eR_of (r := dNeg _) ?_ | refine eR_of (r := dLen _) ?_ | refine eR_of (r := dList _) ?_ | refine eR_of (r := dTuple _) ?_ | refine eR_of (r := dRev _) ?_ | refine eR_of (r := dInt1 _) ?_ | refine eR_of (r := boolR _) ?_ | refine eR_of (r := intR _) ?_ | refine eR_of (r := itemsR _) ?_ | refine eR_of (r := truD _) ?_ | refine eR_of (r := dMax2 _) ?_ | refine eR_of (r := dMin2 _) ?_ | refine eR_of (r := slD _ _ _) ?_ | refine eR_of (r := mkT _) ?_ | refine eR_of (r := mkL _) ?_ | refine eR_of (r := endR _ _ _ _) ?_ | refine eR_of (r := lRg _ _) ?_ | refine eR_of (r := optB _) ?_ | refine eR_of (r := optR _) ?_); refine ⟨_, rfl, ?_⟩) | ((with_reducible first | refine eR_getCo ?_ | refine eS_frz' ?_); refine ⟨_, rfl, ?_⟩) | ((with_reducible first | refine iR_rng1 ?hh_ ?_ | refine iR_rng2 ?hh_ ?_ | refine iR_dMul ?hh_ ?_ | refine iR_dDiv ?hh_ ?_ | refine iR_dMod ?hh_ ?_ | refine iR_dPow ?hh_ ?_ | refine iR_dAddl ?hh_ ?_ | refine iR_dAdds ?hh_ ?_ | refine iR_dCat ?hh_ ?_ | refine iR_app ?hh_ ?_); (case hh_ => first | omega | decide)) | ((with_reducible first | refine iR_isi_t ?hh_ ?_ | refine if_ct ?hh_ ?_); (case hh_ => exact rfl)) | ((with_reducible first | refine iR_isi_f ?hh_ ?_ | refine if_cf ?hh_ ?_); (case hh_ => exact rfl)) | ((with_reducible refine iR_guard ?hh_ ?_); (case hh_ => first | decide | omega)) | (with_reducible refine iR_okk ?_) | ((with_reducible refine And.intro ?hh_ ?_); (case hh_ => first | decide | exact List.nodup_singleton _ | exact rfl | (simp only [List.length_cons, List.length_nil]; decide) | (intro z; cases z) | omega | (intro _; rfl)))); try dsimp only [List.set_cons_zero, List.set_cons_succ, ownIx, wipeE, restore, List.nil_append, List.cons_append])
        exact ⟨_, rfl⟩
      · rintro e ⟨x, rfl⟩
        repeat ((first | (with_reducible first | refine iR_yesT ?_ | refine iR_lcNil ?_ | refine iR_lcCons ?_ | refine if_t ?_ | refine if_f ?_ | refine iS_seq ?_ | refine iS_set ?_ | refine iS_own ?_ | refine iS_drop ?_ | refine iS_ret ?_ | refine iS_retF ?_ | refine iS_next ?_ | refine iS_if ?_ | refine iS_asg ?_ | refine iS_for0 ?_ | refine iR_ap1 ?_ | refine iR_ap2 ?_ | refine iR_ap2N ?_ | refine iR_apA ?_ | refine iR_kst ?_ | refine iR_aNil ?_ | refine iR_aCons ?_ | refine iR_asB ?_ | refine iR_truR ?_ | refine iR_andT ?_ | refine iR_orT ?_ | refine iR_notT ?_ | refine iR_andV ?_ | refine iR_orV ?_ | refine iR_notV ?_ | refine iR_ifE ?_ | refine iR_asI ?_ | refine iS_sub ?_ | refine iS_retO ?_ | refine iR_mtF ?_ | refine iR_cNil ?_ | refine iR_cVal ?_ | refine iR_call ?_ | refine iR_readV ?_ | refine iR_readN ?_ | refine iR_writeN ?_ | refine iR_writeC ?_ | refine iR_asR1 ?_ | refine iR_asR2 ?_ | refine iR_bind ?_ | refine iR_lc ?_ | refine iR_slN ?_ | refine iR_oSome ?_ | refine iR_oNone ?_ | refine iR_lRg2 ?_ | refine iR_eqi ?_ | refine iR_nei ?_ | refine iR_eqs ?_ | refine iR_nes ?_ | refine iR_eqb ?_ | refine iR_neb ?_) | ((with_reducible first | refine eR_getV ?_ | refine eR_getCv ?_ | refine eR_ownL ?_ | refine eR_cOwn ?_ | refine eR_readO ?_ | refine eS_frz ?_ | refine eR_cellO ?_ | refine eR_of (r := gT _ _ _ _) ?_ | refine eR_of (r := gN _ _ _) ?_ | refine eR_of (r := dAddA _ _) ?_ | refine eR_of (r := dSub _ _) ?_ | refine eR_of (r := dLt _ _) ?_ | refine eR_of (r := dLe _ _) ?_ | refine eR_of (r := dGt _ _) ?_ | refine eR_of (r := dGe _ _) ?_ | refine eR_of (r := dIsN _ _) ?_ | refine eR_of (r := dNotN _ _) ?_ | refine eR_of (r := dIx _ _) ?_ | refine eR_of (r := dNeg _) ?_ | refine eR_of (r := dLen _) ?_ | refine eR_of (r := dList _) ?_ | refine eR_of (r := dTuple _) ?_ | refine eR_of (r := dRev _) ?_ | refine eR_of (r := dInt1 _) ?_ | refine eR_of (r := boolR _) ?_ | refine eR_of (r := intR _) ?_ | refine eR_of (r := itemsR _) ?_ | refine eR_of (r := truD _) ?_ | refine eR_of (r := dMax2 _) ?_ | refine eR_of (r := dMin2 _) ?_ | refine eR_of (r := slD _ _ _) ?_ | refine eR_of (r := mkT _) ?_ | refine eR_of (r := mkL _) ?_ | refine eR_of (r := endR _ _ _ _) ?_ | refine eR_of (r := lRg _ _) ?_ | refine eR_of (r := optB _) ?_ | refine eR_of (r := optR _) ?_); refine ⟨_, rfl, ?_⟩) | ((with_reducible first | refine eR_getCo ?_ | refine eS_frz' ?_); refine ⟨_, rfl, ?_⟩) | ((with_reducible first | refine iR_rng1 ?hh_ ?_ | refine iR_rng2 ?hh_ ?_ | refine iR_dMul ?hh_ ?_ | refine iR_dDiv ?hh_ ?_ | refine iR_dMod ?hh_ ?_ | refine iR_dPow ?hh_ ?_ | refine iR_dAddl ?hh_ ?_ | refine iR_dAdds ?hh_ ?_ | refine iR_dCat ?hh_ ?_ | refine iR_app ?hh_ ?_); (case hh_ => first | omega | decide)) | ((with_reducible first | refine iR_isi_t ?hh_ ?_ | refine if_ct ?hh_ ?_); (case hh_ => exact rfl)) | ((with_reducible first | refine iR_isi_f ?hh_ ?_ | refine if_cf ?hh_ ?_); (case hh_ => exact rfl)) | ((with_reducible refine iR_guard ?hh_ ?_); (case hh_ => first | decide | omega)) | (with_reducible refine iR_okk ?_) | ((with_reducible refine And.intro ?hh_ ?_); (case hh_ => first | decide | exact List.nodup_singleton _ | exact rfl | (simp only [List.length_cons, List.length_nil]; decide) | (intro z; cases z) | omega | (intro _; rfl)))); try dsimp only [List.set_cons_zero, List.set_cons_succ, ownIx, wipeE, restore, List.nil_append, List.cons_append])
        rfl
    | tuple ds =>
      obtain ⟨hl, h⟩ : ds.length < 2 ^ 60 ∧ ∀ d ∈ ds, SameOk n d := h
      refine runF_eq (G := GLSame (RLSame n)) ?_
      unfold GLSame
      dsimp only [DL.env0, DL.cells, DL.cellOf_t, DL.cellOf_f, List.length_cons, List.length_nil, Nat.reduceAdd, Nat.reduceSub, List.replicate, List.cons_append, List.nil_append]
      repeat ((first | (with_reducible first | refine iR_yesT ?_ | refine iR_lcNil ?_ | refine iR_lcCons ?_ | refine if_t ?_ | refine if_f ?_ | refine iS_seq ?_ | refine iS_set ?_ | refine iS_own ?_ | refine iS_drop ?_ | refine iS_ret ?_ | refine iS_retF ?_ | refine iS_next ?_ | refine iS_if ?_ | refine iS_asg ?_ | refine iS_for0 ?_ | refine iR_ap1 ?_ | refine iR_ap2 ?_ | refine iR_ap2N ?_ | refine iR_apA ?_ | refine iR_kst ?_ | refine iR_aNil ?_ | refine iR_aCons ?_ | refine iR_asB ?_ | refine iR_truR ?_ | refine iR_andT ?_ | refine iR_orT ?_ | refine iR_notT ?_ | refine iR_andV ?_ | refine iR_orV ?_ | refine iR_notV ?_ | refine iR_ifE ?_ | refine iR_asI ?_ | refine iS_sub ?_ | refine iS_retO ?_ | refine iR_mtF ?_ | refine iR_cNil ?_ | refine iR_cVal ?_ | refine iR_call ?_ | refine iR_readV ?_ | refine iR_readN ?_ | refine iR_writeN ?_ | refine iR_writeC ?_ | refine iR_asR1 ?_ | refine iR_asR2 ?_ | refine iR_bind ?_ | refine iR_lc ?_ | refine iR_slN ?_ | refine iR_oSome ?_ | refine iR_oNone ?_ | refine iR_lRg2 ?_ | refine iR_eqi ?_ | refine iR_nei ?_ | refine iR_eqs ?_ | refine iR_nes ?_ | refine iR_eqb ?_ | refine iR_neb ?_) | ((with_reducible first | refine eR_getV ?_ | refine eR_getCv ?_ | refine eR_ownL ?_ | refine eR_cOwn ?_ | refine eR_readO ?_ | refine eS_frz ?_ | refine eR_cellO ?_ | refine eR_of (r := gT _ _ _ _) ?_ | refine eR_of (r := gN _ _ _) ?_ | refine eR_of (r := dAddA _ _) ?_ | refine eR_of (r := dSub _ _) ?_ | refine eR_of (r := dLt _ _) ?_ | refine eR_of (r := dLe _ _) ?_ | refine eR_of (r := dGt _ _) ?_ | refine eR_of (r := dGe _ _) ?_ | refine eR_of (r := dIsN _ _) ?_ | refine eR_of (r := dNotN _ _) ?_ | refine eR_of (r := dIx _ _) ?_ | refine eR_of (r := dNeg _) ?_ | refine eR_of (r := dLen _) ?_ | refine eR_of (r := dList _) ?_ | refine eR_of (r := dTuple _) ?_ | refine eR_of (r := dRev _) ?_ | refine eR_of (r := dInt1 _) ?_ | refine eR_of (r := boolR _) ?_ | refine eR_of (r := intR _) ?_ | refine eR_of (r := itemsR _) ?_ | refine eR_of (r := truD _) ?_ | refine eR_of (r := dMax2 _) ?_ | refine eR_of (r := dMin2 _) ?_ | refine eR_of (r := slD _ _ _) ?_ | refine eR_of (r := mkT _) ?_ | refine eR_of (r := mkL _) ?_ | refine eR_of (r := endR _ _ _ _) ?_ | refine eR_of (r := lRg _ _) ?_ | refine eR_of (r := optB _) ?_ | refine eR_of (r := optR _) ?_); refine ⟨_, rfl, ?_⟩) | ((with_reducible first | refine eR_getCo ?_ | refine eS_frz' ?_); refine ⟨_, rfl, ?_⟩) | ((with_reducible first | refine iR_rng1 ?hh_ ?_ | refine iR_rng2 ?hh_ ?_ | refine iR_dMul ?hh_ ?_ | refine iR_dDiv ?hh_ ?_ | refine iR_dMod ?hh_ ?_ | refine iR_dPow ?hh_ ?_ | refine iR_dAddl ?hh_ ?_ | refine iR_dAdds ?hh_ ?_ | refine iR_dCat ?hh_ ?_ | refine iR_app ?hh_ ?_); (case hh_ => first | omega | decide)) | ((with_reducible first | refine iR_isi_t ?hh_ ?_ | refine if_ct ?hh_ ?_); (case hh_ => exact rfl)) | ((with_reducible first | refine iR_isi_f ?hh_ ?_ | refine if_cf ?hh_ ?_); (case hh_ => exact rfl)) | ((with_reducible refine iR_guard ?hh_ ?_); (case hh_ => first | decide | omega)) | (with_reducible refine iR_okk ?_) | ((with_reducible refine And.intro ?hh_ ?_); (case hh_ => first | decide | exact List.nodup_singleton _ | exact rfl | (simp only [List.length_cons, List.length_nil]; decide) | (intro z; cases z) | omega | (intro _; rfl)))); try dsimp only [List.set_cons_zero, List.set_cons_succ, ownIx, wipeE, restore, List.nil_append, List.cons_append])
      refine ifb (fun z => ?_) fun _ => ?_
      · simp at z
      repeat ((first | (with_reducible first | refine iR_yesT ?_ | refine iR_lcNil ?_ | refine iR_lcCons ?_ | refine if_t ?_ | refine if_f ?_ | refine iS_seq ?_ | refine iS_set ?_ | refine iS_own ?_ | refine iS_drop ?_ | refine iS_ret ?_ | refine iS_retF ?_ | refine iS_next ?_ | refine iS_if ?_ | refine iS_asg ?_ | refine iS_for0 ?_ | refine iR_ap1 ?_ | refine iR_ap2 ?_ | refine iR_ap2N ?_ | refine iR_apA ?_ | refine iR_kst ?_ | refine iR_aNil ?_ | refine iR_aCons ?_ | refine iR_asB ?_ | refine iR_truR ?_ | refine iR_andT ?_ | refine iR_orT ?_ | refine iR_notT ?_ | refine iR_andV ?_ | refine iR_orV ?_ | refine iR_notV ?_ | refine iR_ifE ?_ | refine iR_asI ?_ | refine iS_sub ?_ | refine iS_retO ?_ | refine iR_mtF ?_ | refine iR_cNil ?_ | refine iR_cVal ?_ | refine iR_call ?_ | refine iR_readV ?_ | refine iR_readN ?_ | refine iR_writeN ?_ | refine iR_writeC ?_ | refine iR_asR1 ?_ | refine iR_asR2 ?_ | refine iR_bind ?_ | refine iR_lc ?_ | refine iR_slN ?_ | refine iR_oSome ?_ | refine iR_oNone ?_ | refine iR_lRg2 ?_ | refine iR_eqi ?_ | refine iR_nei ?_ | refine iR_eqs ?_ | refine iR_nes ?_ | refine iR_eqb ?_ | refine iR_neb ?_) | ((with_reducible first | refine eR_getV ?_ | refine eR_getCv ?_ | refine eR_ownL ?_ | refine eR_cOwn ?_ | refine eR_readO ?_ | refine eS_frz ?_ | refine eR_cellO ?_ | refine eR_of (r := gT _ _ _ _) ?_ | refine eR_of (r := gN _ _ _) ?_ | refine eR_of (r := dAddA _ _) ?_ | refine eR_of (r := dSub _ _) ?_ | refine eR_of (r := dLt _ _) ?_ | refine eR_of (r := dLe _ _) ?_ | refine eR_of (r := dGt _ _) ?_ | refine eR_of (r := dGe _ _) ?_ | refine eR_of (r := dIsN _ _) ?_ | refine eR_of (r := dNotN _ _) ?_ | refine eR_of (r := dIx _ _) ?_ | refine eR_of (r := dNeg _) ?_ | refine eR_of (r := dLen _) ?_ | refine eR_of (r := dList _) ?_ | refine eR_of (r := dTuple _) ?_ | refine eR_of (r := dRev _) ?_ | refine eR_of (r := dInt1 _) ?_ | refine eR_of (r := boolR _) ?_ | refine eR_of (r := intR _) ?_ | refine eR_of (r := itemsR _) ?_ | refine eR_of (r := truD _) ?_ | refine eR_of (r := dMax2 _) ?_ | refine eR_of (r := dMin2 _) ?_ | refine eR_of (r := slD _ _ _) ?_ | refine eR_of (r := mkT _) ?_ | refine eR_of (r := mkL _) ?_ | refine eR_of (r := endR _ _ _ _) ?_ | refine eR_of (r := lRg _ _) ?_ | refine eR_of (r := optB _) ?_ | refine eR_of (r := optR _) ?_); refine ⟨_, rfl, ?_⟩) | ((with_reducible first | refine eR_getCo ?_ | refine eS_frz' ?_); refine ⟨_, rfl, ?_⟩) | ((with_reducible first | refine iR_rng1 ?hh_ ?_ | refine iR_rng2 ?hh_ ?_ | refine iR_dMul ?hh_ ?_ | refine iR_dDiv ?hh_ ?_ | refine iR_dMod ?hh_ ?_ | refine iR_dPow ?hh_ ?_ | refine iR_dAddl ?hh_ ?_ | refine iR_dAdds ?hh_ ?_ | refine iR_dCat ?hh_ ?_ | refine iR_app ?hh_ ?_); (case hh_ => first | omega | decide)) | ((with_reducible first | refine iR_isi_t ?hh_ ?_ | refine if_ct ?hh_ ?_); (case hh_ => exact rfl)) | ((with_reducible first | refine iR_isi_f ?hh_ ?_ | refine if_cf ?hh_ ?_); (case hh_ => exact rfl)) | ((with_reducible refine iR_guard ?hh_ ?_); (case hh_ => first | decide | omega)) | (with_reducible refine iR_okk ?_) | ((with_reducible refine And.intro ?hh_ ?_); (case hh_ => first | decide | exact List.nodup_singleton _ | exact rfl | (simp only [List.length_cons, List.length_nil]; decide) | (intro z; cases z) | omega | (intro _; rfl)))); try dsimp only [List.set_cons_zero, List.set_cons_succ, ownIx, wipeE, restore, List.nil_append, List.cons_append])
      refine iS_forN (fun j e => ∃ x, e = [some (.val (.tuple ds)), some (.val (.tuple ds)), x]) ⟨_, rfl⟩ ?_ ?_
      · rintro j e hj ⟨x, rfl⟩
        have hj : j < ds.length := by simpa using hj
        have q : atI ds (0 + (j : Int)) = some ds[j] := by rw [Int.zero_add]; exact atI_nat (by rw [List.getElem?_eq_getElem hj])
        repeat ((first | (with_reducible first | refine iR_yesT ?_ | refine iR_lcNil ?_ | refine iR_lcCons ?_ | refine if_t ?_ | refine if_f ?_ | refine iS_seq ?_ | refine iS_set ?_ | refine iS_own ?_ | refine iS_drop ?_ | refine iS_ret ?_ | refine iS_retF ?_ | refine iS_next ?_ | refine iS_if ?_ | refine iS_asg ?_ | refine iS_for0 ?_ | refine iR_ap1 ?_ | refine iR_ap2 ?_ | refine iR_ap2N ?_ | refine iR_apA ?_ | refine iR_kst ?_ | refine iR_aNil ?_ | refine iR_aCons ?_ | refine iR_asB ?_ | refine iR_truR ?_ | refine iR_andT ?_ | refine iR_orT ?_ | refine iR_notT ?_ | refine iR_andV ?_ | refine iR_orV ?_ | refine iR_notV ?_ | refine iR_ifE ?_ | refine iR_asI ?_ | refine iS_sub ?_ | refine iS_retO ?_ | refine iR_mtF ?_ | refine iR_cNil ?_ | refine iR_cVal ?_ | refine iR_call ?_ | refine iR_readV ?_ | refine iR_readN ?_ | refine iR_writeN ?_ | refine iR_writeC ?_ | refine iR_asR1 ?_ | refine iR_asR2 ?_ | refine iR_bind ?_ | refine iR_lc ?_ | refine iR_slN ?_ | refine iR_oSome ?_ | refine iR_oNone ?_ | refine iR_lRg2 ?_ | refine iR_eqi ?_ | refine iR_nei ?_ | refine iR_eqs ?_ | refine iR_nes ?_ | refine iR_eqb ?_ | refine iR_neb ?_) | ((with_reducible first | refine eR_getV ?_ | refine eR_getCv ?_ | refine eR_ownL ?_ | refine eR_cOwn ?_ | refine eR_readO ?_ | refine eS_frz ?_ | refine eR_cellO ?_ | refine eR_of (r := gT _ _ _ _) ?_ | refine eR_of (r := gN _ _ _) ?_ | refine eR_of (r := dAddA _ _) ?_ | refine eR_of (r := dSub _ _) ?_ | refine eR_of (r := dLt _ _) ?_ | refine eR_of (r := dLe _ _) ?_ | refine eR_of (r := dGt _ _) ?_ | refine eR_of (r := dGe _ _) ?_ | refine eR_of (r := dIsN _ _) ?_ | refine eR_of (r := dNotN _ _) ?_ | refine eR_of (r := dIx _ _) ?_ | refine eR_of (r := dNeg _) ?_ | refine eR_of (r := dLen _) ?_ | refine eR_of (r := dList _) ?_ | refine eR_of (r := dTuple _) ?_ | refine eR_of (r := dRev _) ?_ | refine eR_of (r := dInt1 _) ?_ | refine eR_of (r := boolR _) ?_ | refine eR_of (r := intR _) ?_ | refine eR_of (r := itemsR _) ?_ | refine eR_of (r := truD _) ?_ | refine eR_of (r := dMax2 _) ?_ | refine eR_of (r := dMin2 _) ?_ | refine eR_of (r := slD _ _ _) ?_ | refine eR_of (r := mkT _) ?_ | refine eR_of (r := mkL _) ?_ | refine eR_of (r := endR _ _ _ _) ?_ | refine eR_of (r := lRg _ _) ?_ | refine eR_of (r := optB _) ?_ | refine eR_of (r := optR _) ?_); refine ⟨_, rfl, ?_⟩) | ((with_reducible first | refine eR_getCo ?_ | refine eS_frz' ?_); refine ⟨_, rfl, ?_⟩) | ((with_reducible first | refine iR_rng1 ?hh_ ?_ | refine iR_rng2 ?hh_ ?_ | refine iR_dMul ?hh_ ?_ | refine iR_dDiv ?hh_ ?_ | refine iR_dMod ?hh_ ?_ | refine iR_dPow ?hh_ ?_ | refine iR_dAddl ?hh_ ?_ | refine iR_dAdds ?hh_ ?_ | refine iR_dCat ?hh_ ?_ | refine iR_app ?hh_ ?_); (case hh_ => first | omega | decide)) | ((with_reducible first | refine iR_isi_t ?hh_ ?_ | refine if_ct ?hh_ ?_); (case hh_ => exact rfl)) | ((with_reducible first | refine iR_isi_f ?hh_ ?_ | refine if_cf ?hh_ ?_); (case hh_ => exact rfl)) | ((with_reducible refine iR_guard ?hh_ ?_); (case hh_ => first | decide | omega)) | (with_reducible refine iR_okk ?_) | ((with_reducible refine And.intro ?hh_ ?_); (case hh_ => first | decide | exact List.nodup_singleton _ | exact rfl | (simp only [List.length_cons, List.length_nil]; decide) | (intro z; cases z) | omega | (intro _; rfl)))); try dsimp only [List.set_cons_zero, List.set_cons_succ, ownIx, wipeE, restore, List.nil_append, List.cons_append])
        refine iR_ixt q ?_
        repeat ((first | (with_reducible first | refine iR_yesT ?_ | refine iR_lcNil ?_ | refine iR_lcCons ?_ | refine if_t ?_ | refine if_f ?_ | refine iS_seq ?_ | refine iS_set ?_ | refine iS_own ?_ | refine iS_drop ?_ | refine iS_ret ?_ | refine iS_retF ?_ | refine iS_next ?_ | refine iS_if ?_ | refine iS_asg ?_ | refine iS_for0 ?_ | refine iR_ap1 ?_ | refine iR_ap2 ?_ | refine iR_ap2N ?_ | refine iR_apA ?_ | refine iR_kst ?_ | refine iR_aNil ?_ | refine iR_aCons ?_ | refine iR_asB ?_ | refine iR_truR ?_ | refine iR_andT ?_ | refine iR_orT ?_ | refine iR_notT ?_ | refine iR_andV ?_ | refine iR_orV ?_ | refine iR_notV ?_ | refine iR_ifE ?_ | refine iR_asI ?_ | refine iS_sub ?_ | refine iS_retO ?_ | refine iR_mtF ?_ | refine iR_cNil ?_ | refine iR_cVal ?_ | refine iR_call ?_ | refine iR_readV ?_ | refine iR_readN ?_ | refine iR_writeN ?_ | refine iR_writeC ?_ | refine iR_asR1 ?_ | refine iR_asR2 ?_ | refine iR_bind ?_ | refine iR_lc ?_ | refine iR_slN ?_ | refine iR_oSome ?_ | refine iR_oNone ?_ | refine iR_lRg2 ?_ | refine iR_eqi ?_ | refine iR_nei ?_ | refine iR_eqs ?_ | refine iR_nes ?_ | refine iR_eqb ?_ | refine iR_neb ?_) | ((with_reducible first | refine eR_getV ?_ | refine eR_getCv ?_ | refine eR_ownL ?_ | refine eR_cOwn ?_ | refine eR_readO ?_ | refine eS_frz ?_ | refine eR_cellO ?_ | refine eR_of (r := gT _ _ _ _) ?_ | refine eR_of (r := gN _ _ _) ?_ | refine eR_of (r := dAddA _ _) ?_ | refine eR_of (r := dSub _ _) ?_ | refine eR_of (r := dLt _ _) ?_ | refine eR_of (r := dLe _ _) ?_ | refine eR_of (r := dGt _ _) ?_ | refine eR_of (r := dGe _ _) ?_ | refine eR_of (r := dIsN _ _) ?_ | refine eR_of (r := dNotN _ _) ?_ | refine eR_of (r := dIx _ _) ?_ | refine eR_of (r := dNeg _) ?_ | refine eR_of (r := dLen _) ?_ | refine eR_of (r := dList _) ?_ | refine eR_of (r := dTuple _) ?_ | refine eR_of (r := dRev _) ?_ | refine eR_of (r := dInt1 _) ?_ | refine eR_of (r := boolR _) ?_ | refine eR_of (r := intR _) ?_ | refine eR_of (r := itemsR _) ?_ | refine eR_of (r := truD _) ?_ | refine eR_of (r := dMax2 _) ?_ | refine eR_of (r := dMin2 _) ?_ | refine eR_of (r := slD _ _ _) ?_ | refine eR_of (r := mkT _) ?_ | refine eR_of (r := mkL _) ?_ | refine eR_of (r := endR _ _ _ _) ?_ | refine eR_of (r := lRg _ _) ?_ | refine eR_of (r := optB _) ?_ | refine eR_of (r := optR _) ?_); refine ⟨_, rfl, ?_⟩) | ((with_reducible first | refine eR_getCo ?_ | refine eS_frz' ?_); refine ⟨_, rfl, ?_⟩) | ((with_reducible first | refine iR_rng1 ?hh_ ?_ | refine iR_rng2 ?hh_ ?_ | refine iR_dMul ?hh_ ?_ | refine iR_dDiv ?hh_ ?_ | refine iR_dMod ?hh_ ?_ | refine iR_dPow ?hh_ ?_ | refine iR_dAddl ?hh_ ?_ | refine iR_dAdds ?hh_ ?_ | refine iR_dCat ?hh_ ?_ | refine iR_app ?hh_ ?_); (case hh_ => first | omega | decide)) | ((with_reducible first | refine iR_isi_t ?hh_ ?_ | refine if_ct ?hh_ ?_); (case hh_ => exact rfl)) | ((with_reducible first | refine iR_isi_f ?hh_ ?_ | refine if_cf ?hh_ ?_); (case hh_ => exact rfl)) | ((with_reducible refine iR_guard ?hh_ ?_); (case hh_ => first | decide | omega)) | (with_reducible refine iR_okk ?_) | ((with_reducible refine And.intro ?hh_ ?_); (case hh_ => first | decide | exact List.nodup_singleton _ | exact rfl | (simp only [List.length_cons, List.length_nil]; decide) | (intro z; cases z) | omega | (intro _; rfl)))); try dsimp only [List.set_cons_zero, List.set_cons_succ, ownIx, wipeE, restore, List.nil_append, List.cons_append])
        refine iR_ixt q ?_
        repeat ((first | (with_reducible first | refine iR_yesT ?_ | refine iR_lcNil ?_ | refine iR_lcCons ?_ | refine if_t ?_ | refine if_f ?_ | refine iS_seq ?_ | refine iS_set ?_ | refine iS_own ?_ | refine iS_drop ?_ | refine iS_ret ?_ | refine iS_retF ?_ | refine iS_next ?_ | refine iS_if ?_ | refine iS_asg ?_ | refine iS_for0 ?_ | refine iR_ap1 ?_ | refine iR_ap2 ?_ | refine iR_ap2N ?_ | refine iR_apA ?_ | refine iR_kst ?_ | refine iR_aNil ?_ | refine iR_aCons ?_ | refine iR_asB ?_ | refine iR_truR ?_ | refine iR_andT ?_ | refine iR_orT ?_ | refine iR_notT ?_ | refine iR_andV ?_ | refine iR_orV ?_ | refine iR_notV ?_ | refine iR_ifE ?_ | refine iR_asI ?_ | refine iS_sub ?_ | refine iS_retO ?_ | refine iR_mtF ?_ | refine iR_cNil ?_ | refine iR_cVal ?_ | refine iR_call ?_ | refine iR_readV ?_ | refine iR_readN ?_ | refine iR_writeN ?_ | refine iR_writeC ?_ | refine iR_asR1 ?_ | refine iR_asR2 ?_ | refine iR_bind ?_ | refine iR_lc ?_ | refine iR_slN ?_ | refine iR_oSome ?_ | refine iR_oNone ?_ | refine iR_lRg2 ?_ | refine iR_eqi ?_ | refine iR_nei ?_ | refine iR_eqs ?_ | refine iR_nes ?_ | refine iR_eqb ?_ | refine iR_neb ?_) | ((with_reducible first | refine eR_getV ?_ | refine eR_getCv ?_ | refine eR_ownL ?_ | refine eR_cOwn ?_ | refine eR_readO ?_ | refine eS_frz ?_ | refine eR_cellO ?_ | refine eR_of (r := gT _ _ _ _) ?_ | refine eR_of (r := gN _ _ _) ?_ | refine eR_of (r := dAddA _ _) ?_ | refine eR_of (r := dSub _ _) ?_ | refine eR_of (r := dLt _ _) ?_ | refine eR_of (r := dLe _ _) ?_ | refine eR_of (r := dGt _ _) ?_ | refine eR_of (r := dGe _ _) ?_ | refine eR_of (r := dIsN _ _) ?_ | refine eR_of (r := dNotN _ _) ?_ | refine eR_of (r := dIx _ _) ?_ | refine eR_of (r := dNeg _) ?_ | refine eR_of (r := dLen _) ?_ | refine eR_of (r := dList _) ?_ | refine eR_of (r := dTuple _) ?_ | refine eR_of (r := dRev _) ?_ | refine eR_of (r := dInt1 _) ?_ | refine eR_of (r := boolR _) ?_ | refine eR_of (r := intR _) ?_ | refine eR_of (r := itemsR _) ?_ | refine eR_of (r := truD _) ?_ | refine eR_of (r := dMax2 _) ?_ | refine eR_of (r := dMin2 _) ?_ | refine eR_of (r := slD _ _ _) ?_ | refine eR_of (r := mkT _) ?_ | refine eR_of (r := mkL _) ?_ | refine eR_of (r := endR _ _ _ _) ?_ | refine eR_of (r := lRg _ _) ?_ | refine eR_of (r := optB _) ?_ | refine eR_of (r := optR _) ?_); refine ⟨_, rfl, ?_⟩) | ((with_reducible first | refine eR_getCo ?_ | refine eS_frz' ?_); refine ⟨_, rfl, ?_⟩) | ((with_reducible first | refine iR_rng1 ?hh_ ?_ | refine iR_rng2 ?hh_ ?_ | refine iR_dMul ?hh_ ?_ | refine iR_dDiv ?hh_ ?_ | refine iR_dMod ?hh_ ?_ | refine iR_dPow ?hh_ ?_ | refine iR_dAddl ?hh_ ?_ | refine iR_dAdds ?hh_ ?_ | refine iR_dCat ?hh_ ?_ | refine iR_app ?hh_ ?_); (case hh_ => first | omega | decide)) | ((with_reducible first | refine iR_isi_t ?hh_ ?_ | refine if_ct ?hh_ ?_); (case hh_ => exact rfl)) | ((with_reducible first | refine iR_isi_f ?hh_ ?_ | refine if_cf ?hh_ ?_); (case hh_ => exact rfl)) | ((with_reducible refine iR_guard ?hh_ ?_); (case hh_ => first | decide | omega)) | (with_reducible refine iR_okk ?_) | ((with_reducible refine And.intro ?hh_ ?_); (case hh_ => first | decide | exact List.nodup_singleton _ | exact rfl | (simp only [List.length_cons, List.length_nil]; decide) | (intro z; cases z) | omega | (intro _; rfl)))); try dsimp only [List.set_cons_zero, List.set_cons_succ, ownIx, wipeE, restore, List.nil_append, List.cons_append])
        refine iD_of (same_self (h _ (List.getElem_mem hj))) ?_
        repeat ((first | (with_reducible first | refine iR_yesT ?_ | refine iR_lcNil ?_ | refine iR_lcCons ?_ | refine if_t ?_ | refine if_f ?_ | refine iS_seq ?_ | refine iS_set ?_ | refine iS_own ?_ | refine iS_drop ?_ | refine iS_ret ?_ | refine iS_retF ?_ | refine iS_next ?_ | refine iS_if ?_ | refine iS_asg ?_ | refine iS_for0 ?_ | refine iR_ap1 ?_ | refine iR_ap2 ?_ | refine iR_ap2N ?_ | refine iR_apA ?_ | refine iR_kst ?_ | refine iR_aNil ?_ | refine iR_aCons ?_ | refine iR_asB ?_ | refine iR_truR ?_ | refine iR_andT ?_ | refine iR_orT ?_ | refine iR_notT ?_ | refine iR_andV ?_ | refine iR_orV ?_ | refine iR_notV ?_ | refine iR_ifE ?_ | refine iR_asI ?_ | refine iS_sub ?_ | refine iS_retO ?_ | refine iR_mtF ?_ | refine iR_cNil ?_ | refine iR_cVal ?_ | refine iR_call ?_ | refine iR_readV ?_ | refine iR_readN ?_ | refine iR_writeN ?_ | refine iR_writeC ?_ | refine iR_asR1 ?_ | refine iR_asR2 ?_ | refine iR_bind ?_ | refine iR_lc ?_ | refine iR_slN ?_ | refine iR_oSome ?_ | refine iR_oNone ?_ | refine iR_lRg2 ?_ | refine iR_eqi ?_ | refine iR_nei ?_ | refine iR_eqs ?_ | refine iR_nes ?_ | refine iR_eqb ?_ | refine iR_neb ?_) | ((with_reducible first | refine eR_getV ?_ | refine eR_getCv ?_ | refine eR_ownL ?_ | refine eR_cOwn ?_ | refine eR_readO ?_ | refine eS_frz ?_ | refine eR_cellO ?_ | refine eR_of (r := gT _ _ _ _) ?_ | refine eR_of (r := gN _ _ _) ?_ | refine eR_of (r := dAddA _ _) ?_ | refine eR_of (r := dSub _ _) ?_ | refine eR_of (r := dLt _ _) ?_ | refine eR_of (r := dLe _ _) ?_ | refine eR_of (r := dGt _ _) ?_ | refine eR_of (r := dGe _ _) ?_ | refine eR_of (r := dIsN _ _) ?_ | refine eR_of (r := dNotN _ _) ?_ | refine eR_of (r := dIx _ _) ?_ | refine eR_of (r := dNeg _) ?_ | refine eR_of (r := dLen _) ?_ | refine eR_of (r := dList _) ?_ | refine eR_of (r := dTuple _) ?_ | refine eR_of (r := dRev _) ?_ | refine eR_of (r := dInt1 _) ?_ | refine eR_of (r := boolR _) ?_ | refine eR_of (r := intR _) ?_ | refine eR_of (r := itemsR _) ?_ | refine eR_of (r := truD _) ?_ | refine eR_of (r := dMax2 _) ?_ | refine eR_of (r := dMin2 _) ?_ | refine eR_of (r := slD _ _ _) ?_ | refine eR_of (r := mkT _) ?_ | refine eR_of (r := mkL _) ?_ | refine eR_of (r := endR _ _ _ _) ?_ | refine eR_of (r := lRg _ _) ?_ | refine eR_of (r := optB _) ?_ | refine eR_of (r := optR _) ?_); refine ⟨_, rfl, ?_⟩) | ((with_reducible first | refine eR_getCo ?_ | refine eS_frz' ?_); refine ⟨_, rfl, ?_⟩) | ((with_reducible first | refine iR_rng1 ?hh_ ?_ | refine iR_rng2 ?hh_ ?_ | refine iR_dMul ?hh_ ?_ | refine iR_dDiv ?hh_ ?_ | refine iR_dMod ?hh_ ?_ | refine iR_dPow ?hh_ ?_ | refine iR_dAddl ?hh_ ?_ | refine iR_dAdds ?hh_ ?_ | refine iR_dCat ?hh_ ?_ | refine iR_app ?hh_ ?_); (case hh_ => first | omega | decide)) | ((with_reducible first | refine iR_isi_t ?hh_ ?_ | refine if_ct ?hh_ ?_); (case hh_ => exact rfl)) | ((with_reducible first | refine iR_isi_f ?hh_ ?_ | refine if_cf ?hh_ ?_); (case hh_ => exact rfl)) | ((with_reducible refine iR_guard ?hh_ ?_); (case hh_ => first | decide | omega)) | (with_reducible refine iR_okk ?_) | ((with_reducible refine And.intro ?hh_ ?_); (case hh_ => first | decide | exact List.nodup_singleton _ | exact rfl | (simp only [List.length_cons, List.length_nil]; decide) | (intro z; cases z) | omega | (intro _; rfl)))); try dsimp only [List.set_cons_zero, List.set_cons_succ, ownIx, wipeE, restore, List.nil_append, List.cons_append])
        exact ⟨_, rfl⟩
      · rintro e ⟨x, rfl⟩
        repeat ((first | (with_reducible first | refine iR_yesT ?_ | refine iR_lcNil ?_ | refine iR_lcCons ?_ | refine if_t ?_ | refine if_f ?_ | refine iS_seq ?_ | refine iS_set ?_ | refine iS_own ?_ | refine iS_drop ?_ | refine iS_ret ?_ | refine iS_retF ?_ | refine iS_next ?_ | refine iS_if ?_ | refine iS_asg ?_ | refine iS_for0 ?_ | refine iR_ap1 ?_ | refine iR_ap2 ?_ | refine iR_ap2N ?_ | refine iR_apA ?_ | refine iR_kst ?_ | refine iR_aNil ?_ | refine iR_aCons ?_ | refine iR_asB ?_ | refine iR_truR ?_ | refine iR_andT ?_ | refine iR_orT ?_ | refine iR_notT ?_ | refine iR_andV ?_ | refine iR_orV ?_ | refine iR_notV ?_ | refine iR_ifE ?_ | refine iR_asI ?_ | refine iS_sub ?_ | refine iS_retO ?_ | refine iR_mtF ?_ | refine iR_cNil ?_ | refine iR_cVal ?_ | refine iR_call ?_ | refine iR_readV ?_ | refine iR_readN ?_ | refine iR_writeN ?_ | refine iR_writeC ?_ | refine iR_asR1 ?_ | refine iR_asR2 ?_ | refine iR_bind ?_ | refine iR_lc ?_ | refine iR_slN ?_ | refine iR_oSome ?_ | refine iR_oNone ?_ | refine iR_lRg2 ?_ | refine iR_eqi ?_ | refine iR_nei ?_ | refine iR_eqs ?_ | refine iR_nes ?_ | refine iR_eqb ?_ | refine iR_neb ?_) | ((with_reducible first | refine eR_getV ?_ | refine eR_getCv ?_ | refine eR_ownL ?_ | refine eR_cOwn ?_ | refine eR_readO ?_ | refine eS_frz ?_ | refine eR_cellO ?_ | refine eR_of (r := gT _ _ _ _) ?_ | refine eR_of (r := gN _ _ _) ?_ | refine eR_of (r := dAddA _ _) ?_ | refine eR_of (r := dSub _ _) ?_ | refine eR_of (r := dLt _ _) ?_ | refine eR_of (r := dLe _ _) ?_ | refine eR_of (r := dGt _ _) ?_ | refine eR_of (r := dGe _ _) ?_ | refine eR_of (r := dIsN _ _) ?_ | refine eR_of (r := dNotN _ _) ?_ | refine eR_of (r := dIx _ _) ?_ | refine eR_of (r := dNeg _) ?_ | refine eR_of (r := dLen _) ?_ | refine eR_of (r := dList _) ?_ | refine eR_of (r := dTuple _) ?_ | refine eR_of (r := dRev _) ?_ | refine eR_of (r := dInt1 _) ?_ | refine eR_of (r := boolR _) ?_ | refine eR_of (r := intR _) ?_ | refine eR_of (r := itemsR _) ?_ | refine eR_of (r := truD _) ?_ | refine eR_of (r := dMax2 _) ?_ | refine eR_of (r := dMin2 _) ?_ | refine eR_of (r := slD _ _ _) ?_ | refine eR_of (r := mkT _) ?_ | refine eR_of (r := mkL _) ?_ | refine eR_of (r := endR _ _ _ _) ?_ | refine eR_of (r := lRg _ _) ?_ | refine eR_of (r := optB _) ?_ | refine eR_of (r := optR _) ?_); refine ⟨_, rfl, ?_⟩) | ((with_reducible first | refine eR_getCo ?_ | refine eS_frz' ?_); refine ⟨_, rfl, ?_⟩) | ((with_reducible first | refine iR_rng1 ?hh_ ?_ | refine iR_rng2 ?hh_ ?_ | refine iR_dMul ?hh_ ?_ | refine iR_dDiv ?hh_ ?_ | refine iR_dMod ?hh_ ?_ | refine iR_dPow ?hh_ ?_ | refine iR_dAddl ?hh_ ?_ | refine iR_dAdds ?hh_ ?_ | refine iR_dCat ?hh_ ?_ | refine iR_app ?hh_ ?_); (case hh_ => first | omega | decide)) | ((with_reducible first | refine iR_isi_t ?hh_ ?_ | refine if_ct ?hh_ ?_); (case hh_ => exact rfl)) | ((with_reducible first | refine iR_isi_f ?hh_ ?_ | refine if_cf ?hh_ ?_); (case hh_ => exact rfl)) | ((with_reducible refine iR_guard ?hh_ ?_); (case hh_ => first | decide | omega)) | (with_reducible refine iR_okk ?_) | ((with_reducible refine And.intro ?hh_ ?_); (case hh_ => first | decide | exact List.nodup_singleton _ | exact rfl | (simp only [List.length_cons, List.length_nil]; decide) | (intro z; cases z) | omega | (intro _; rfl)))); try dsimp only [List.set_cons_zero, List.set_cons_succ, ownIx, wipeE, restore, List.nil_append, List.cons_append])
        rfl
    | _ => exact h.elim
theorem same_list {ds : List D} (hl : ds.length < 2 ^ 60) (h : ∀ d ∈ ds, SameOk 4 d) : RLSameList [.list ds, .list ds] = .ok false (.bool true) [] := by
  refine runF_eq (G := GLSameList) ?_
  unfold GLSameList
  dsimp only [DL.env0, DL.cells, DL.cellOf_t, DL.cellOf_f, List.length_cons, List.length_nil, Nat.reduceAdd, Nat.reduceSub, List.replicate, List.cons_append, List.nil_append]
  repeat ((first | (with_reducible first | refine iR_yesT ?_ | refine iR_lcNil ?_ | refine iR_lcCons ?_ | refine if_t ?_ | refine if_f ?_ | refine iS_seq ?_ | refine iS_set ?_ | refine iS_own ?_ | refine iS_drop ?_ | refine iS_ret ?_ | refine iS_retF ?_ | refine iS_next ?_ | refine iS_if ?_ | refine iS_asg ?_ | refine iS_for0 ?_ | refine iR_ap1 ?_ | refine iR_ap2 ?_ | refine iR_ap2N ?_ | refine iR_apA ?_ | refine iR_kst ?_ | refine iR_aNil ?_ | refine iR_aCons ?_ | refine iR_asB ?_ | refine iR_truR ?_ | refine iR_andT ?_ | refine iR_orT ?_ | refine iR_notT ?_ | refine iR_andV ?_ | refine iR_orV ?_ | refine iR_notV ?_ | refine iR_ifE ?_ | refine iR_asI ?_ | refine iS_sub ?_ | refine iS_retO ?_ | refine iR_mtF ?_ | refine iR_cNil ?_ | refine iR_cVal ?_ | refine iR_call ?_ | refine iR_readV ?_ | refine iR_readN ?_ | refine iR_writeN ?_ | refine iR_writeC ?_ | refine iR_asR1 ?_ | refine iR_asR2 ?_ | refine iR_bind ?_ | refine iR_lc ?_ | refine iR_slN ?_ | refine iR_oSome ?_ | refine iR_oNone ?_ | refine iR_lRg2 ?_ | refine iR_eqi ?_ | refine iR_nei ?_ | refine iR_eqs ?_ | refine iR_nes ?_ | refine iR_eqb ?_ | refine iR_neb ?_) | ((with_reducible first | refine eR_getV ?_ | refine eR_getCv ?_ | refine eR_ownL ?_ | refine eR_cOwn ?_ | refine eR_readO ?_ | refine eS_frz ?_ | refine eR_cellO ?_ | refine eR_of (r := gT _ _ _ _) ?_ | refine eR_of (r := gN _ _ _) ?_ | refine eR_of (r := dAddA _ _) ?_ | refine eR_of (r := dSub _ _) ?_ | refine eR_of (r := dLt _ _) ?_ | refine eR_of (r := dLe _ _) ?_ | refine eR_of (r := dGt _ _) ?_ | refine eR_of (r := dGe _ _) ?_ | refine eR_of (r := dIsN _ _) ?_ | refine eR_of (r := dNotN _ _) ?_ | refine eR_of (r := dIx _ _) ?_ | refine eR_of (r := dNeg _) ?_ | refine eR_of (r := dLen _) ?_ | refine eR_of (r := dList _) ?_ | refine eR_of (r := dTuple _) ?_ | refine eR_of (r := dRev _) ?_ | refine eR_of (r := dInt1 _) ?_ | refine eR_of (r := boolR _) ?_ | refine eR_of (r := intR _) ?_ | refine eR_of (r := itemsR _) ?_ | refine eR_of (r := truD _) ?_ | refine eR_of (r := dMax2 _) ?_ | refine eR_of (r := dMin2 _) ?_ | refine eR_of (r := slD _ _ _) ?_ | refine eR_of (r := mkT _) ?_ | refine eR_of (r := mkL _) ?_ | refine eR_of (r := endR _ _ _ _) ?_ | refine eR_of (r := lRg _ _) ?_ | refine eR_of (r := optB _) ?_ | refine eR_of (r := optR _) ?_); refine ⟨_, rfl, ?_⟩) | ((with_reducible first | refine eR_getCo ?_ | refine eS_frz' ?_); refine ⟨_, rfl, ?_⟩) | ((with_reducible first | refine iR_rng1 ?hh_ ?_ | refine iR_rng2 ?hh_ ?_ | refine iR_dMul ?hh_ ?_ | refine iR_dDiv ?hh_ ?_ | refine iR_dMod ?hh_ ?_ | refine iR_dPow ?hh_ ?_ | refine iR_dAddl ?hh_ ?_ | refine iR_dAdds ?hh_ ?_ | refine iR_dCat ?hh_ ?_ | refine iR_app ?hh_ ?_); (case hh_ => first | omega | decide)) | ((with_reducible first | refine iR_isi_t ?hh_ ?_ | refine if_ct ?hh_ ?_); (case hh_ => exact rfl)) | ((with_reducible first | refine iR_isi_f ?hh_ ?_ | refine if_cf ?hh_ ?_); (case hh_ => exact rfl)) | ((with_reducible refine iR_guard ?hh_ ?_); (case hh_ => first | decide | omega)) | (with_reducible refine iR_okk ?_) | ((with_reducible refine And.intro ?hh_ ?_); (case hh_ => first | decide | exact List.nodup_singleton _ | exact rfl | (simp only [List.length_cons, List.length_nil]; decide) | (intro z; cases z) | omega | (intro _; rfl)))); try dsimp only [List.set_cons_zero, List.set_cons_succ, ownIx, wipeE, restore, List.nil_append, List.cons_append])
  refine ifb (fun z => ?_) fun _ => ?_
  · simp at z
  repeat ((first | (with_reducible first | refine iR_yesT ?_ | refine iR_lcNil ?_ | refine iR_lcCons ?_ | refine if_t ?_ | refine if_f ?_ | refine iS_seq ?_ | refine iS_set ?_ | refine iS_own ?_ | refine iS_drop ?_ | refine iS_ret ?_ | refine iS_retF ?_ | refine iS_next ?_ | refine iS_if ?_ | refine iS_asg ?_ | refine iS_for0 ?_ | refine iR_ap1 ?_ | refine iR_ap2 ?_ | refine iR_ap2N ?_ | refine iR_apA ?_ | refine iR_kst ?_ | refine iR_aNil ?_ | refine iR_aCons ?_ | refine iR_asB ?_ | refine iR_truR ?_ | refine iR_andT ?_ | refine iR_orT ?_ | refine iR_notT ?_ | refine iR_andV ?_ | refine iR_orV ?_ | refine iR_notV ?_ | refine iR_ifE ?_ | refine iR_asI ?_ | refine iS_sub ?_ | refine iS_retO ?_ | refine iR_mtF ?_ | refine iR_cNil ?_ | refine iR_cVal ?_ | refine iR_call ?_ | refine iR_readV ?_ | refine iR_readN ?_ | refine iR_writeN ?_ | refine iR_writeC ?_ | refine iR_asR1 ?_ | refine iR_asR2 ?_ | refine iR_bind ?_ | refine iR_lc ?_ | refine iR_slN ?_ | refine iR_oSome ?_ | refine iR_oNone ?_ | refine iR_lRg2 ?_ | refine iR_eqi ?_ | refine iR_nei ?_ | refine iR_eqs ?_ | refine iR_nes ?_ | refine iR_eqb ?_ | refine iR_neb ?_) | ((with_reducible first | refine eR_getV ?_ | refine eR_getCv ?_ | refine eR_ownL ?_ | refine eR_cOwn ?_ | refine eR_readO ?_ | refine eS_frz ?_ | refine eR_cellO ?_ | refine eR_of (r := gT _ _ _ _) ?_ | refine eR_of (r := gN _ _ _) ?_ | refine eR_of (r := dAddA _ _) ?_ | refine eR_of (r := dSub _ _) ?_ | refine eR_of (r := dLt _ _) ?_ | refine eR_of (r := dLe _ _) ?_ | refine eR_of (r := dGt _ _) ?_ | refine eR_of (r := dGe _ _) ?_ | refine eR_of (r := dIsN _ _) ?_ | refine eR_of (r := dNotN _ _) ?_ | refine eR_of (r := dIx _ _) ?_ | refine eR_of (r := dNeg _) ?_ | refine eR_of (r := dLen _) ?_ | refine eR_of (r := dList _) ?_ | refine eR_of (r := dTuple _) ?_ | refine eR_of (r := dRev _) ?_ | refine eR_of (r := dInt1 _) ?_ | refine eR_of (r := boolR _) ?_ | refine eR_of (r := intR _) ?_ | refine eR_of (r := itemsR _) ?_ | refine eR_of (r := truD _) ?_ | refine eR_of (r := dMax2 _) ?_ | refine eR_of (r := dMin2 _) ?_ | refine eR_of (r := slD _ _ _) ?_ | refine eR_of (r := mkT _) ?_ | refine eR_of (r := mkL _) ?_ | refine eR_of (r := endR _ _ _ _) ?_ | refine eR_of (r := lRg _ _) ?_ | refine eR_of (r := optB _) ?_ | refine eR_of (r := optR _) ?_); refine ⟨_, rfl, ?_⟩) | ((with_reducible first | refine eR_getCo ?_ | refine eS_frz' ?_); refine ⟨_, rfl, ?_⟩) | ((with_reducible first | refine iR_rng1 ?hh_ ?_ | refine iR_rng2 ?hh_ ?_ | refine iR_dMul ?hh_ ?_ | refine iR_dDiv ?hh_ ?_ | refine iR_dMod ?hh_ ?_ | refine iR_dPow ?hh_ ?_ | refine iR_dAddl ?hh_ ?_ | refine iR_dAdds ?hh_ ?_ | refine iR_dCat ?hh_ ?_ | refine iR_app ?hh_ ?_); (case hh_ => first | omega | decide)) | ((with_reducible first | refine iR_isi_t ?hh_ ?_ | refine if_ct ?hh_ ?_); (case hh_ => exact rfl)) | ((with_reducible first | refine iR_isi_f ?hh_ ?_ | refine if_cf ?hh_ ?_); (case hh_ => exact rfl)) | ((with_reducible refine iR_guard ?hh_ ?_); (case hh_ => first | decide | omega)) | (with_reducible refine iR_okk ?_) | ((with_reducible refine And.intro ?hh_ ?_); (case hh_ => first | decide | exact List.nodup_singleton _ | exact rfl | (simp only [List.length_cons, List.length_nil]; decide) | (intro z; cases z) | omega | (intro _; rfl)))); try dsimp only [List.set_cons_zero, List.set_cons_succ, ownIx, wipeE, restore, List.nil_append, List.cons_append])
  refine iS_forN (fun j e => ∃ x, e = [some (.val (.list ds)), some (.val (.list ds)), x]) ⟨_, rfl⟩ ?_ ?_
  · rintro j e hj ⟨x, rfl⟩
    have hj : j < ds.length := by simpa using hj
    have q : atI ds (0 + (j : Int)) = some ds[j] := by rw [Int.zero_add]; exact atI_nat (by rw [List.getElem?_eq_getElem hj])
    repeat ((first | (with_reducible first | refine iR_yesT ?_ | refine iR_lcNil ?_ | refine iR_lcCons ?_ | refine if_t ?_ | refine if_f ?_ | refine iS_seq ?_ | refine iS_set ?_ | refine iS_own ?_ | refine iS_drop ?_ | refine iS_ret ?_ | refine iS_retF ?_ | refine iS_next ?_ | refine iS_if ?_ | refine iS_asg ?_ | refine iS_for0 ?_ | refine iR_ap1 ?_ | refine iR_ap2 ?_ | refine iR_ap2N ?_ | refine iR_apA ?_ | refine iR_kst ?_ | refine iR_aNil ?_ | refine iR_aCons ?_ | refine iR_asB ?_ | refine iR_truR ?_ | refine iR_andT ?_ | refine iR_orT ?_ | refine iR_notT ?_ | refine iR_andV ?_ | refine iR_orV ?_ | refine iR_notV ?_ | refine iR_ifE ?_ | refine iR_asI ?_ | refine iS_sub ?_ | refine iS_retO ?_ | refine iR_mtF ?_ | refine iR_cNil ?_ | refine iR_cVal ?_ | refine iR_call ?_ | refine iR_readV ?_ | refine iR_readN ?_ | refine iR_writeN ?_ | refine iR_writeC ?_ | refine iR_asR1 ?_ | refine iR_asR2 ?_ | refine iR_bind ?_ | refine iR_lc ?_ | refine iR_slN ?_ | refine iR_oSome ?_ | refine iR_oNone ?_ | refine iR_lRg2 ?_ | refine iR_eqi ?_ | refine iR_nei ?_ | refine iR_eqs ?_ | refine iR_nes ?_ | refine iR_eqb ?_ | refine iR_neb ?_) | ((with_reducible first | refine eR_getV ?_ | refine eR_getCv ?_ | refine eR_ownL ?_ | refine eR_cOwn ?_ | refine eR_readO ?_ | refine eS_frz ?_ | refine eR_cellO ?_ | refine eR_of (r := gT _ _ _ _) ?_ | refine eR_of (r := gN _ _ _) ?_ | refine eR_of (r := dAddA _ _) ?_ | refine eR_of (r := dSub _ _) ?_ | refine eR_of (r := dLt _ _) ?_ | refine eR_of (r := dLe _ _) ?_ | refine eR_of (r := dGt _ _) ?_ | refine eR_of (r := dGe _ _) ?_ | refine eR_of (r := dIsN _ _) ?_ | refine eR_of (r := dNotN _ _) ?_ | refine eR_of (r := dIx _ _) ?_ | refine eR_of (r := dNeg _) ?_ | refine eR_of (r := dLen _) ?_ | refine eR_of (r := dList _) ?_ | refine eR_of (r := dTuple _) ?_ | refine eR_of (r := dRev _) ?_ | refine eR_of (r := dInt1 _) ?_ | refine eR_of (r := boolR _) ?_ | refine eR_of (r := intR _) ?_ | refine eR_of (r := itemsR _) ?_ | refine eR_of (r := truD _) ?_ | refine eR_of (r := dMax2 _) ?_ | refine eR_of (r := dMin2 _) ?_ | refine eR_of (r := slD _ _ _) ?_ | refine eR_of (r := mkT _) ?_ | refine eR_of (r := mkL _) ?_ | refine eR_of (r := endR _ _ _ _) ?_ | refine eR_of (r := lRg _ _) ?_ | refine eR_of (r := optB _) ?_ | refine eR_of (r := optR _) ?_); refine ⟨_, rfl, ?_⟩) | ((with_reducible first | refine eR_getCo ?_ | refine eS_frz' ?_); refine ⟨_, rfl, ?_⟩) | ((with_reducible first | refine iR_rng1 ?hh_ ?_ | refine iR_rng2 ?hh_ ?_ | refine iR_dMul ?hh_ ?_ | refine iR_dDiv ?hh_ ?_ | refine iR_dMod ?hh_ ?_ | refine iR_dPow ?hh_ ?_ | refine iR_dAddl ?hh_ ?_ | refine iR_dAdds ?hh_ ?_ | refine iR_dCat ?hh_ ?_ | refine iR_app ?hh_ ?_); (case hh_ => first | omega | decide)) | ((with_reducible first | refine iR_isi_t ?hh_ ?_ | refine if_ct ?hh_ ?_); (case hh_ => exact rfl)) | ((with_reducible first | refine iR_isi_f ?hh_ ?_ | refine if_cf ?hh_ ?_); (case hh_ => exact rfl)) | ((with_reducible refine iR_guard ?hh_ ?_); (case hh_ => first | decide | omega)) | (with_reducible refine iR_okk ?_) | ((with_reducible refine And.intro ?hh_ ?_); (case hh_ => first | decide | exact List.nodup_singleton _ | exact rfl | (simp only [List.length_cons, List.length_nil]; decide) | (intro z; cases z) | omega | (intro _; rfl)))); try dsimp only [List.set_cons_zero, List.set_cons_succ, ownIx, wipeE, restore, List.nil_append, List.cons_append])
    refine iR_ixl q ?_
    repeat ((first | (with_reducible first | refine iR_yesT ?_ | refine iR_lcNil ?_ | refine iR_lcCons ?_ | refine if_t ?_ | refine if_f ?_ | refine iS_seq ?_ | refine iS_set ?_ | refine iS_own ?_ | refine iS_drop ?_ | refine iS_ret ?_ | refine iS_retF ?_ | refine iS_next ?_ | refine iS_if ?_ | refine iS_asg ?_ | refine iS_for0 ?_ | refine iR_ap1 ?_ | refine iR_ap2 ?_ | refine iR_ap2N ?_ | refine iR_apA ?_ | refine iR_kst ?_ | refine iR_aNil ?_ | refine iR_aCons ?_ | refine iR_asB ?_ | refine iR_truR ?_ | refine iR_andT ?_ | refine iR_orT ?_ | refine iR_notT ?_ | refine iR_andV ?_ | refine iR_orV ?_ | refine iR_notV ?_ | refine iR_ifE ?_ | refine iR_asI ?_ | refine iS_sub ?_ | refine iS_retO ?_ | refine iR_mtF ?_ | refine iR_cNil ?_ | refine iR_cVal ?_ | refine iR_call ?_ | refine iR_readV ?_ | refine iR_readN ?_ | refine iR_writeN ?_ | refine iR_writeC ?_ | refine iR_asR1 ?_ | refine iR_asR2 ?_ | refine iR_bind ?_ | refine iR_lc ?_ | refine iR_slN ?_ | refine iR_oSome ?_ | refine iR_oNone ?_ | refine iR_lRg2 ?_ | refine iR_eqi ?_ | refine iR_nei ?_ | refine iR_eqs ?_ | refine iR_nes ?_ | refine iR_eqb ?_ | refine iR_neb ?_) | ((with_reducible first | refine eR_getV ?_ | refine eR_getCv ?_ | refine eR_ownL ?_ | refine eR_cOwn ?_ | refine eR_readO ?_ | refine eS_frz ?_ | refine eR_cellO ?_ | refine eR_of (r := gT _ _ _ _) ?_ | refine eR_of (r := gN _ _ _) ?_ | refine eR_of (r := dAddA _ _) ?_ | refine eR_of (r := dSub _ _) ?_ | refine eR_of (r := dLt _ _) ?_ | refine eR_of (r := dLe _ _) ?_ | refine eR_of (r := dGt _ _) ?_ | refine eR_of (r := dGe _ _) ?_ | refine eR_of (r := dIsN _ _) ?_ | refine eR_of (r := dNotN _ _) ?_ | refine eR_of (r := dIx _ _) ?_ | refine eR_of (r := dNeg _) ?_ | refine eR_of (r := dLen _) ?_ | refine eR_of (r := dList _) ?_ | refine eR_of (r := dTuple _) ?_ | refine eR_of (r := dRev _) ?_ | refine eR_of (r := dInt1 _) ?_ | refine eR_of (r := boolR _) ?_ | refine eR_of (r := intR _) ?_ | refine eR_of (r := itemsR _) ?_ | refine eR_of (r := truD _) ?_ | refine eR_of (r := dMax2 _) ?_ | refine eR_of (r := dMin2 _) ?_ | refine eR_of (r := slD _ _ _) ?_ | refine eR_of (r := mkT _) ?_ | refine eR_of (r := mkL _) ?_ | refine eR_of (r := endR _ _ _ _) ?_ | refine eR_of (r := lRg _ _) ?_ | refine eR_of (r := optB _) ?_ | refine eR_of (r := optR _) ?_); refine ⟨_, rfl, ?_⟩) | ((with_reducible first | refine eR_getCo ?_ | refine eS_frz' ?_); refine ⟨_, rfl, ?_⟩) | ((with_reducible first | refine iR_rng1 ?hh_ ?_ | refine iR_rng2 ?hh_ ?_ | refine iR_dMul ?hh_ ?_ | refine iR_dDiv ?hh_ ?_ | refine iR_dMod ?hh_ ?_ | refine iR_dPow ?hh_ ?_ | refine iR_dAddl ?hh_ ?_ | refine iR_dAdds ?hh_ ?_ | refine iR_dCat ?hh_ ?_ | refine iR_app ?hh_ ?_); (case hh_ => first | omega | decide)) | ((with_reducible first | refine iR_isi_t ?hh_ ?_ | refine if_ct ?hh_ ?_); (case hh_ => exact rfl)) | ((with_reducible first | refine iR_isi_f ?hh_ ?_ | refine if_cf ?hh_ ?_); (case hh_ => exact rfl)) | ((with_reducible refine iR_guard ?hh_ ?_); (case hh_ => first | decide | omega)) | (with_reducible refine iR_okk ?_) | ((with_reducible refine And.intro ?hh_ ?_); (case hh_ => first | decide | exact List.nodup_singleton _ | exact rfl | (simp only [List.length_cons, List.length_nil]; decide) | (intro z; cases z) | omega | (intro _; rfl)))); try dsimp only [List.set_cons_zero, List.set_cons_succ, ownIx, wipeE, restore, List.nil_append, List.cons_append])
    refine iR_ixl q ?_
    repeat ((first | (with_reducible first | refine iR_yesT ?_ | refine iR_lcNil ?_ | refine iR_lcCons ?_ | refine if_t ?_ | refine if_f ?_ | refine iS_seq ?_ | refine iS_set ?_ | refine iS_own ?_ | refine iS_drop ?_ | refine iS_ret ?_ | refine iS_retF ?_ | refine iS_next ?_ | refine iS_if ?_ | refine iS_asg ?_ | refine iS_for0 ?_ | refine iR_ap1 ?_ | refine iR_ap2 ?_ | refine iR_ap2N ?_ | refine iR_apA ?_ | refine iR_kst ?_ | refine iR_aNil ?_ | refine iR_aCons ?_ | refine iR_asB ?_ | refine iR_truR ?_ | refine iR_andT ?_ | refine iR_orT ?_ | refine iR_notT ?_ | refine iR_andV ?_ | refine iR_orV ?_ | refine iR_notV ?_ | refine iR_ifE ?_ | refine iR_asI ?_ | refine iS_sub ?_ | refine iS_retO ?_ | refine iR_mtF ?_ | refine iR_cNil ?_ | refine iR_cVal ?_ | refine iR_call ?_ | refine iR_readV ?_ | refine iR_readN ?_ | refine iR_writeN ?_ | refine iR_writeC ?_ | refine iR_asR1 ?_ | refine iR_asR2 ?_ | refine iR_bind ?_ | refine iR_lc ?_ | refine iR_slN ?_ | refine iR_oSome ?_ | refine iR_oNone ?_ | refine iR_lRg2 ?_ | refine iR_eqi ?_ | refine iR_nei ?_ | refine iR_eqs ?_ | refine iR_nes ?_ | refine iR_eqb ?_ | refine iR_neb ?_) | ((with_reducible first | refine eR_getV ?_ | refine eR_getCv ?_ | refine eR_ownL ?_ | refine eR_cOwn ?_ | refine eR_readO ?_ | refine eS_frz ?_ | refine eR_cellO ?_ | refine eR_of (r := gT _ _ _ _) ?_ | refine eR_of (r := gN _ _ _) ?_ | refine eR_of (r := dAddA _ _) ?_ | refine eR_of (r := dSub _ _) ?_ | refine eR_of (r := dLt _ _) ?_ | refine eR_of (r := dLe _ _) ?_ | refine eR_of (r := dGt _ _) ?_ | refine eR_of (r := dGe _ _) ?_ | refine eR_of (r := dIsN _ _) ?_ | refine eR_of (r := dNotN _ _) ?_ | refine eR_of (r := dIx _ _) ?_ | refine eR_of (r := dNeg _) ?_ | refine eR_of (r := dLen _) ?_ | refine eR_of (r := dList _) ?_ | refine eR_of (r := dTuple _) ?_ | refine eR_of (r := dRev _) ?_ | refine eR_of (r := dInt1 _) ?_ | refine eR_of (r := boolR _) ?_ | refine eR_of (r := intR _) ?_ | refine eR_of (r := itemsR _) ?_ | refine eR_of (r := truD _) ?_ | refine eR_of (r := dMax2 _) ?_ | refine eR_of (r := dMin2 _) ?_ | refine eR_of (r := slD _ _ _) ?_ | refine eR_of (r := mkT _) ?_ | refine eR_of (r := mkL _) ?_ | refine eR_of (r := endR _ _ _ _) ?_ | refine eR_of (r := lRg _ _) ?_ | refine eR_of (r := optB _) ?_ | refine eR_of (r := optR _) ?_); refine ⟨_, rfl, ?_⟩) | ((with_reducible first | refine eR_getCo ?_ | refine eS_frz' ?_); refine ⟨_, rfl, ?_⟩) | ((with_reducible first | refine iR_rng1 ?hh_ ?_ | refine iR_rng2 ?hh_ ?_ | refine iR_dMul ?hh_ ?_ | refine iR_dDiv ?hh_ ?_ | refine iR_dMod ?hh_ ?_ | refine iR_dPow ?hh_ ?_ | refine iR_dAddl ?hh_ ?_ | refine iR_dAdds ?hh_ ?_ | refine iR_dCat ?hh_ ?_ | refine iR_app ?hh_ ?_); (case hh_ => first | omega | decide)) | ((with_reducible first | refine iR_isi_t ?hh_ ?_ | refine if_ct ?hh_ ?_); (case hh_ => exact rfl)) | ((with_reducible first | refine iR_isi_f ?hh_ ?_ | refine if_cf ?hh_ ?_); (case hh_ => exact rfl)) | ((with_reducible refine iR_guard ?hh_ ?_); (case hh_ => first | decide | omega)) | (with_reducible refine iR_okk ?_) | ((with_reducible refine And.intro ?hh_ ?_); (case hh_ => first | decide | exact List.nodup_singleton _ | exact rfl | (simp only [List.length_cons, List.length_nil]; decide) | (intro z; cases z) | omega | (intro _; rfl)))); try dsimp only [List.set_cons_zero, List.set_cons_succ, ownIx, wipeE, restore, List.nil_append, List.cons_append])
    refine iD_of (same_self (h _ (List.getElem_mem hj))) ?_
    repeat ((first | (with_reducible first | refine iR_yesT ?_ | refine iR_lcNil ?_ | refine iR_lcCons ?_ | refine if_t ?_ | refine if_f ?_ | refine iS_seq ?_ | refine iS_set ?_ | refine iS_own ?_ | refine iS_drop ?_ | refine iS_ret ?_ | refine iS_retF ?_ | refine iS_next ?_ | refine iS_if ?_ | refine iS_asg ?_ | refine iS_for0 ?_ | refine iR_ap1 ?_ | refine iR_ap2 ?_ | refine iR_ap2N ?_ | refine iR_apA ?_ | refine iR_kst ?_ | refine iR_aNil ?_ | refine iR_aCons ?_ | refine iR_asB ?_ | refine iR_truR ?_ | refine iR_andT ?_ | refine iR_orT ?_ | refine iR_notT ?_ | refine iR_andV ?_ | refine iR_orV ?_ | refine iR_notV ?_ | refine iR_ifE ?_ | refine iR_asI ?_ | refine iS_sub ?_ | refine iS_retO ?_ | refine iR_mtF ?_ | refine iR_cNil ?_ | refine iR_cVal ?_ | refine iR_call ?_ | refine iR_readV ?_ | refine iR_readN ?_ | refine iR_writeN ?_ | refine iR_writeC ?_ | refine iR_asR1 ?_ | refine iR_asR2 ?_ | refine iR_bind ?_ | refine iR_lc ?_ | refine iR_slN ?_ | refine iR_oSome ?_ | refine iR_oNone ?_ | refine iR_lRg2 ?_ | refine iR_eqi ?_ | refine iR_nei ?_ | refine iR_eqs ?_ | refine iR_nes ?_ | refine iR_eqb ?_ | refine iR_neb ?_) | ((with_reducible first | refine eR_getV ?_ | refine eR_getCv ?_ | refine eR_ownL ?_ | refine eR_cOwn ?_ | refine eR_readO ?_ | refine eS_frz ?_ | refine eR_cellO ?_ | refine eR_of (r := gT _ _ _ _) ?_ | refine eR_of (r := gN _ _ _) ?_ | refine eR_of (r := dAddA _ _) ?_ | refine eR_of (r := dSub _ _) ?_ | refine eR_of (r := dLt _ _) ?_ | refine eR_of (r := dLe _ _) ?_ | refine eR_of (r := dGt _ _) ?_ | refine eR_of (r := dGe _ _) ?_ | refine eR_of (r := dIsN _ _) ?_ | refine eR_of (r := dNotN _ _) ?_ | refine eR_of (r := dIx _ _) ?_ | refine eR_of (r := dNeg _) ?_ | refine eR_of (r := dLen _) ?_ | refine eR_of (r := dList _) ?_ | refine eR_of (r := dTuple _) ?_ | refine eR_of (r := dRev _) ?_ | refine eR_of (r := dInt1 _) ?_ | refine eR_of (r := boolR _) ?_ | refine eR_of (r := intR _) ?_ | refine eR_of (r := itemsR _) ?_ | refine eR_of (r := truD _) ?_ | refine eR_of (r := dMax2 _) ?_ | refine eR_of (r := dMin2 _) ?_ | refine eR_of (r := slD _ _ _) ?_ | refine eR_of (r := mkT _) ?_ | refine eR_of (r := mkL _) ?_ | refine eR_of (r := endR _ _ _ _) ?_ | refine eR_of (r := lRg _ _) ?_ | refine eR_of (r := optB _) ?_ | refine eR_of (r := optR _) ?_); refine ⟨_, rfl, ?_⟩) | ((with_reducible first | refine eR_getCo ?_ | refine eS_frz' ?_); refine ⟨_, rfl, ?_⟩) | ((with_reducible first | refine iR_rng1 ?hh_ ?_ | refine iR_rng2 ?hh_ ?_ | refine iR_dMul ?hh_ ?_ | refine iR_dDiv ?hh_ ?_ | refine iR_dMod ?hh_ ?_ | refine iR_dPow ?hh_ ?_ | refine iR_dAddl ?hh_ ?_ | refine iR_dAdds ?hh_ ?_ | refine iR_dCat ?hh_ ?_ | refine iR_app ?hh_ ?_); (case hh_ => first | omega | decide)) | ((with_reducible first | refine iR_isi_t ?hh_ ?_ | refine if_ct ?hh_ ?_); (case hh_ => exact rfl)) | ((with_reducible first | refine iR_isi_f ?hh_ ?_ | refine if_cf ?hh_ ?_); (case hh_ => exact rfl)) | ((with_reducible refine iR_guard ?hh_ ?_); (case hh_ => first | decide | omega)) | (with_reducible refine iR_okk ?_) | ((with_reducible refine And.intro ?hh_ ?_); (case hh_ => first | decide | exact List.nodup_singleton _ | exact rfl | (simp only [List.length_cons, List.length_nil]; decide) | (intro z; cases z) | omega | (intro _; rfl)))); try dsimp only [List.set_cons_zero, List.set_cons_succ, ownIx, wipeE, restore, List.nil_append, List.cons_append])
    exact ⟨_, rfl⟩
  · rintro e ⟨x, rfl⟩
    repeat ((first | (with_reducible first | refine iR_yesT ?_ | refine iR_lcNil ?_ | refine iR_lcCons ?_ | refine if_t ?_ | refine if_f ?_ | refine iS_seq ?_ | refine iS_set ?_ | refine iS_own ?_ | refine iS_drop ?_ | refine iS_ret ?_ | refine iS_retF ?_ | refine iS_next ?_ | refine iS_if ?_ | refine iS_asg ?_ | refine iS_for0 ?_ | refine iR_ap1 ?_ | refine iR_ap2 ?_ | refine iR_ap2N ?_ | refine iR_apA ?_ | refine iR_kst ?_ | refine iR_aNil ?_ | refine iR_aCons ?_ | refine iR_asB ?_ | refine iR_truR ?_ | refine iR_andT ?_ | refine iR_orT ?_ | refine iR_notT ?_ | refine iR_andV ?_ | refine iR_orV ?_ | refine iR_notV ?_ | refine iR_ifE ?_ | refine iR_asI ?_ | refine iS_sub ?_ | refine iS_retO ?_ | refine iR_mtF ?_ | refine iR_cNil ?_ | refine iR_cVal ?_ | refine iR_call ?_ | refine iR_readV ?_ | refine iR_readN ?_ | refine iR_writeN ?_ | refine iR_writeC ?_ | refine iR_asR1 ?_ | refine iR_asR2 ?_ | refine iR_bind ?_ | refine iR_lc ?_ | refine iR_slN ?_ | refine iR_oSome ?_ | refine iR_oNone ?_ | refine iR_lRg2 ?_ | refine iR_eqi ?_ | refine iR_nei ?_ | refine iR_eqs ?_ | refine iR_nes ?_ | refine iR_eqb ?_ | refine iR_neb ?_) | ((with_reducible first | refine eR_getV ?_ | refine eR_getCv ?_ | refine eR_ownL ?_ | refine eR_cOwn ?_ | refine eR_readO ?_ | refine eS_frz ?_ | refine eR_cellO ?_ | refine eR_of (r := gT _ _ _ _) ?_ | refine eR_of (r := gN _ _ _) ?_ | refine eR_of (r := dAddA _ _) ?_ | refine eR_of (r := dSub _ _) ?_ | refine eR_of (r := dLt _ _) ?_ | refine eR_of (r := dLe _ _) ?_ | refine eR_of (r := dGt _ _) ?_ | refine eR_of (r := dGe _ _) ?_ | refine eR_of (r := dIsN _ _) ?_ | refine eR_of (r := dNotN _ _) ?_ | refine eR_of (r := dIx _ _) ?_ | refine eR_of (r := dNeg _) ?_ | refine eR_of (r := dLen _) ?_ | refine eR_of (r := dList _) ?_ | refine eR_of (r := dTuple _) ?_ | refine eR_of (r := dRev _) ?_ | refine eR_of (r := dInt1 _) ?_ | refine eR_of (r := boolR _) ?_ | refine eR_of (r := intR _) ?_ | refine eR_of (r := itemsR _) ?_ | refine eR_of (r := truD _) ?_ | refine eR_of (r := dMax2 _) ?_ | refine eR_of (r := dMin2 _) ?_ | refine eR_of (r := slD _ _ _) ?_ | refine eR_of (r := mkT _) ?_ | refine eR_of (r := mkL _) ?_ | refine eR_of (r := endR _ _ _ _) ?_ | refine eR_of (r := lRg _ _) ?_ | refine eR_of (r := optB _) ?_ | refine eR_of (r := optR _) ?_); refine ⟨_, rfl, ?_⟩) | ((with_reducible first | refine eR_getCo ?_ | refine eS_frz' ?_); refine ⟨_, rfl, ?_⟩) | ((with_reducible first | refine iR_rng1 ?hh_ ?_ | refine iR_rng2 ?hh_ ?_ | refine iR_dMul ?hh_ ?_ | refine iR_dDiv ?hh_ ?_ | refine iR_dMod ?hh_ ?_ | refine iR_dPow ?hh_ ?_ | refine iR_dAddl ?hh_ ?_ | refine iR_dAdds ?hh_ ?_ | refine iR_dCat ?hh_ ?_ | refine iR_app ?hh_ ?_); (case hh_ => first | omega | decide)) | ((with_reducible first | refine iR_isi_t ?hh_ ?_ | refine if_ct ?hh_ ?_); (case hh_ => exact rfl)) | ((with_reducible first | refine iR_isi_f ?hh_ ?_ | refine if_cf ?hh_ ?_); (case hh_ => exact rfl)) | ((with_reducible refine iR_guard ?hh_ ?_); (case hh_ => first | decide | omega)) | (with_reducible refine iR_okk ?_) | ((with_reducible refine And.intro ?hh_ ?_); (case hh_ => first | decide | exact List.nodup_singleton _ | exact rfl | (simp only [List.length_cons, List.length_nil]; decide) | (intro z; cases z) | omega | (intro _; rfl)))); try dsimp only [List.set_cons_zero, List.set_cons_succ, ownIx, wipeE, restore, List.nil_append, List.cons_append])
    rfl
end D51
namespace D51
open PySem PySem.Spec L2 DL
def rngI (lo : Int) (n : Nat) : List Int := (List.range n).map fun (i : Nat) => lo + (i : Int)
theorem rngD_I {lo : Int} {n : Nat} : rngD lo n = (rngI lo n).map PyData.int := by
  unfold rngD rngI; rw [List.map_map]; rfl
theorem rngI_len {lo : Int} {n : Nat} : (rngI lo n).length = n := by unfold rngI; rw [List.length_map, List.length_range]
theorem rngI_zero {lo : Int} : rngI lo 0 = [] := rfl
theorem rngI_succ {lo : Int} {n : Nat} : rngI lo (n + 1) = lo :: rngI (lo + 1) n := by
  unfold rngI
  rw [List.range_succ_eq_map, List.map_cons, List.map_map]
  congr 1
  · simp
  · apply List.map_congr_left; intro a _; simp [Function.comp]; omega
theorem rngI_add {lo : Int} : ∀ {a b : Nat}, rngI lo (a + b) = rngI lo a ++ rngI (lo + (a : Int)) b
  | 0, b => by rw [Nat.zero_add, rngI_zero, List.nil_append]; congr 1; omega
  | a + 1, b => by
    rw [show a + 1 + b = (a + b) + 1 by omega, rngI_succ, rngI_succ, rngI_add (lo := lo + 1) (a := a), List.cons_append]
    congr 3; omega
def covI : List (Int × Int) → List Int
  | [] => []
  | p :: qs => rngI p.1 (p.2 + 1 - p.1).toNat ++ covI qs
def prt : Int → List (Int × Int) → Option Int
  | d, [] => some d
  | d, p :: qs => if p.1 ≠ d ∨ p.2 < p.1 then none else prt (p.2 + 1) qs
def Prop' (qs : List (Int × Int)) : Prop := ∀ p ∈ qs, p.1 ≤ p.2
theorem prt_some : ∀ {qs : List (Int × Int)} {d z : Int}, prt d qs = some z → Prop' qs ∧ d ≤ z ∧ covI qs = rngI d (z - d).toNat
  | [], d, z, h => by cases h; refine ⟨fun _ h => (nomatch h), Int.le_refl _, ?_⟩; rw [Int.sub_self]; rfl
  | p :: qs, d, z, h => by
    unfold prt at h
    split at h
    · cases h
    · rename_i c
      obtain ⟨h1, h2, h3⟩ := prt_some h
      have c1 : p.1 = d := by omega
      refine ⟨?_, by omega, ?_⟩
      · intro q hq
        cases hq with
        | head => omega
        | tail _ hq => exact h1 q hq
      · unfold covI
        rw [h3, c1, show (z - d).toNat = (p.2 + 1 - d).toNat + (z - (p.2 + 1)).toNat by omega, rngI_add]
        congr 2; omega
theorem prt_of : ∀ {qs : List (Int × Int)} {d z : Int}, Prop' qs → d ≤ z → covI qs = rngI d (z - d).toNat → prt d qs = some z
  | [], d, z, _, h, e => by
    have : (rngI d (z - d).toNat).length = 0 := by rw [← e]; rfl
    rw [rngI_len] at this
    show some d = some z
    congr 1; omega
  | p :: qs, d, z, hp, h, e => by
    have hp0 : p.1 ≤ p.2 := hp p List.mem_cons_self
    unfold covI at e
    obtain ⟨m, hm⟩ : ∃ m, (p.2 + 1 - p.1).toNat = m + 1 := ⟨(p.2 - p.1).toNat, by omega⟩
    obtain ⟨k, hk⟩ : ∃ k, (z - d).toNat = k := ⟨_, rfl⟩
    have hl := congrArg List.length e
    rw [List.length_append, rngI_len, rngI_len] at hl
    have hd : p.1 = d := by
      rw [hm, show (z - d).toNat = ((z - d).toNat - 1) + 1 by omega, rngI_succ, rngI_succ, List.cons_append] at e
      injection e
    unfold prt
    rw [if_neg (by omega)]
    refine prt_of (fun q hq => hp q (List.mem_cons_of_mem _ hq)) (by omega) ?_
    rw [hd, show (z - d).toNat = (p.2 + 1 - d).toNat + (z - (p.2 + 1)).toNat by omega, rngI_add, List.append_cancel_left_eq] at e
    rw [e]; congr 1; omega
theorem pr_at {qs : List (Int × Int)} : itemsR (.list (qs.map prD)) = .ok (qs.map prD) := rfl
theorem parts_ok {qs : List (Int × Int)} {a b : Int} : RPartsRange [.list (qs.map prD), .int a, .int b] = .ok false (.bool (prt a qs == some (max a (b + 1)))) [] := by
  refine runF_eq (G := GPartsRange) ?_
  unfold GPartsRange
  dsimp only [DL.env0, DL.cells, DL.cellOf_t, DL.cellOf_f, List.length_cons, List.length_nil, Nat.reduceAdd, Nat.reduceSub, List.replicate, List.cons_append, List.nil_append]
  repeat ((first | (with_reducible first | refine iR_yesT ?_ | refine iR_lcNil ?_ | refine iR_lcCons ?_ | refine if_t ?_ | refine if_f ?_ | refine iS_seq ?_ | refine iS_set ?_ | refine iS_own ?_ | refine iS_drop ?_ | refine iS_ret ?_ | refine iS_retF ?_ | refine iS_next ?_ | refine iS_if ?_ | refine iS_asg ?_ | refine iS_for0 ?_ | refine iR_ap1 ?_ | refine iR_ap2 ?_ | refine iR_ap2N ?_ | refine iR_apA ?_ | refine iR_kst ?_ | refine iR_aNil ?_ | refine iR_aCons ?_ | refine iR_asB ?_ | refine iR_truR ?_ | refine iR_andT ?_ | refine iR_orT ?_ | refine iR_notT ?_ | refine iR_andV ?_ | refine iR_orV ?_ | refine iR_notV ?_ | refine iR_ifE ?_ | refine iR_asI ?_ | refine iS_sub ?_ | refine iS_retO ?_ | refine iR_mtF ?_ | refine iR_cNil ?_ | refine iR_cVal ?_ | refine iR_call ?_ | refine iR_readV ?_ | refine iR_readN ?_ | refine iR_writeN ?_ | refine iR_writeC ?_ | refine iR_asR1 ?_ | refine iR_asR2 ?_ | refine iR_bind ?_ | refine iR_lc ?_ | refine iR_slN ?_ | refine iR_oSome ?_ | refine iR_oNone ?_ | refine iR_lRg2 ?_ | refine iR_eqi ?_ | refine iR_nei ?_ | refine iR_eqs ?_ | refine iR_nes ?_ | refine iR_eqb ?_ | refine iR_neb ?_) | ((with_reducible first | refine eR_getV ?_ | refine eR_getCv ?_ | refine eR_ownL ?_ | refine eR_cOwn ?_ | refine eR_readO ?_ | refine eS_frz ?_ | refine eR_cellO ?_ | refine eR_of (r := gT _ _ _ _) ?_ | refine eR_of (r := gN _ _ _) ?_ | refine eR_of (r := dAddA _ _) ?_ | refine eR_of (r := dSub _ _) ?_ | refine eR_of (r := dLt _ _) ?_ | refine eR_of (r := dLe _ _) ?_ | refine eR_of (r := dGt _ _) ?_ | refine eR_of (r := dGe _ _) ?_ | refine eR_of (r := dIsN _ _) ?_ | refine eR_of (r := dNotN _ _) ?_ | refine eR_of (r := dIx _ _) ?_ | refine eR_of (r := dNeg _) ?_ | refine eR_of (r := dLen _) ?_ | refine eR_of (r := dList _) ?_ | refine eR_of (r := dTuple _) ?_ | refine eR_of (r := dRev _) ?_ | refine eR_of (r := dInt1 _) ?_ | refine eR_of (r := boolR _) ?_ | refine eR_of (r := intR _) ?_ | refine eR_of (r := itemsR _) ?_ | refine eR_of (r := truD _) ?_ | refine eR_of (r := dMax2 _) ?_ | refine eR_of (r := dMin2 _) ?_ | refine eR_of (r := slD _ _ _) ?_ | refine eR_of (r := mkT _) ?_ | refine eR_of (r := mkL _) ?_ | refine eR_of (r := endR _ _ _ _) ?_ | refine eR_of (r := lRg _ _) ?_ | refine eR_of (r := optB _) ?_ | refine eR_of (r := optR _) ?_); refine ⟨_, rfl, ?_⟩) | ((with_reducible first | refine eR_getCo ?_ | refine eS_frz' ?_); refine ⟨_, rfl, ?_⟩) | ((with_reducible first | refine iR_rng1 ?hh_ ?_ | refine iR_rng2 ?hh_ ?_ | refine iR_dMul ?hh_ ?_ | refine iR_dDiv ?hh_ ?_ | refine iR_dMod ?hh_ ?_ | refine iR_dPow ?hh_ ?_ | refine iR_dAddl ?hh_ ?_ | refine iR_dAdds ?hh_ ?_ | refine iR_dCat ?hh_ ?_ | refine iR_app ?hh_ ?_); (case hh_ => first | omega | decide)) | ((with_reducible first | refine iR_isi_t ?hh_ ?_ | refine if_ct ?hh_ ?_); (case hh_ => exact rfl)) | ((with_reducible first | refine iR_isi_f ?hh_ ?_ | refine if_cf ?hh_ ?_); (case hh_ => exact rfl)) | ((with_reducible refine iR_guard ?hh_ ?_); (case hh_ => first | decide | omega)) | (with_reducible refine iR_okk ?_) | ((with_reducible refine And.intro ?hh_ ?_); (case hh_ => first | decide | exact List.nodup_singleton _ | exact rfl | (simp only [List.length_cons, List.length_nil]; decide) | (intro z; cases z) | omega | (intro _; rfl)))); try dsimp only [List.set_cons_zero, List.set_cons_succ, ownIx, wipeE, restore, List.nil_append, List.cons_append])
  refine iS_for (fun rest e => ∃ (d : Int) (ps : List (Int × Int)) (x y : Option DCell), rest = ps.map prD ∧ prt a qs = prt d ps ∧ e = [some (.val (.list (qs.map prD))), some (.val (.int a)), some (.val (.int b)), some (.val (.int d)), x, y]) ⟨a, qs, none, none, rfl, rfl, rfl⟩ ?_ ?_
  · rintro d rest e ⟨c, ps, x, y, hr, hq, rfl⟩
    cases ps with
    | nil => cases hr
    | cons p ps =>
      cases hr
      unfold prD
      repeat ((first | (with_reducible first | refine iR_yesT ?_ | refine iR_lcNil ?_ | refine iR_lcCons ?_ | refine if_t ?_ | refine if_f ?_ | refine iS_seq ?_ | refine iS_set ?_ | refine iS_own ?_ | refine iS_drop ?_ | refine iS_ret ?_ | refine iS_retF ?_ | refine iS_next ?_ | refine iS_if ?_ | refine iS_asg ?_ | refine iS_for0 ?_ | refine iR_ap1 ?_ | refine iR_ap2 ?_ | refine iR_ap2N ?_ | refine iR_apA ?_ | refine iR_kst ?_ | refine iR_aNil ?_ | refine iR_aCons ?_ | refine iR_asB ?_ | refine iR_truR ?_ | refine iR_andT ?_ | refine iR_orT ?_ | refine iR_notT ?_ | refine iR_andV ?_ | refine iR_orV ?_ | refine iR_notV ?_ | refine iR_ifE ?_ | refine iR_asI ?_ | refine iS_sub ?_ | refine iS_retO ?_ | refine iR_mtF ?_ | refine iR_cNil ?_ | refine iR_cVal ?_ | refine iR_call ?_ | refine iR_readV ?_ | refine iR_readN ?_ | refine iR_writeN ?_ | refine iR_writeC ?_ | refine iR_asR1 ?_ | refine iR_asR2 ?_ | refine iR_bind ?_ | refine iR_lc ?_ | refine iR_slN ?_ | refine iR_oSome ?_ | refine iR_oNone ?_ | refine iR_lRg2 ?_ | refine iR_eqi ?_ | refine iR_nei ?_ | refine iR_eqs ?_ | refine iR_nes ?_ | refine iR_eqb ?_ | refine iR_neb ?_) | ((with_reducible first | refine eR_getV ?_ | refine eR_getCv ?_ | refine eR_ownL ?_ | refine eR_cOwn ?_ | refine eR_readO ?_ | refine eS_frz ?_ | refine eR_cellO ?_ | refine eR_of (r := gT _ _ _ _) ?_ | refine eR_of (r := gN _ _ _) ?_ | refine eR_of (r := dAddA _ _) ?_ | refine eR_of (r := dSub _ _) ?_ | refine eR_of (r := dLt _ _) ?_ | refine eR_of (r := dLe _ _) ?_ | refine eR_of (r := dGt _ _) ?_ | refine eR_of (r := dGe _ _) ?_ | refine eR_of (r := dIsN _ _) ?_ | refine eR_of (r := dNotN _ _) ?_ | refine eR_of (r := dIx _ _) ?_ | refine eR_of (r := dNeg _) ?_ | refine eR_of (r := dLen _) ?_ | refine eR_of (r := dList _) ?_ | refine eR_of (r := dTuple _) ?_ | refine eR_of (r := dRev _) ?_ | refine eR_of (r := dInt1 _) ?_ | refine eR_of (r := boolR _) ?_ | refine eR_of (r := intR _) ?_ | refine eR_of (r := itemsR _) ?_ | refine eR_of (r := truD _) ?_ | refine eR_of (r := dMax2 _) ?_ | refine eR_of (r := dMin2 _) ?_ | refine eR_of (r := slD _ _ _) ?_ | refine eR_of (r := mkT _) ?_ | refine eR_of (r := mkL _) ?_ | refine eR_of (r := endR _ _ _ _) ?_ | refine eR_of (r := lRg _ _) ?_ | refine eR_of (r := optB _) ?_ | refine eR_of (r := optR _) ?_); refine ⟨_, rfl, ?_⟩) | ((with_reducible first | refine eR_getCo ?_ | refine eS_frz' ?_); refine ⟨_, rfl, ?_⟩) | ((with_reducible first | refine iR_rng1 ?hh_ ?_ | refine iR_rng2 ?hh_ ?_ | refine iR_dMul ?hh_ ?_ | refine iR_dDiv ?hh_ ?_ | refine iR_dMod ?hh_ ?_ | refine iR_dPow ?hh_ ?_ | refine iR_dAddl ?hh_ ?_ | refine iR_dAdds ?hh_ ?_ | refine iR_dCat ?hh_ ?_ | refine iR_app ?hh_ ?_); (case hh_ => first | omega | decide)) | ((with_reducible first | refine iR_isi_t ?hh_ ?_ | refine if_ct ?hh_ ?_); (case hh_ => exact rfl)) | ((with_reducible first | refine iR_isi_f ?hh_ ?_ | refine if_cf ?hh_ ?_); (case hh_ => exact rfl)) | ((with_reducible refine iR_guard ?hh_ ?_); (case hh_ => first | decide | omega)) | (with_reducible refine iR_okk ?_) | ((with_reducible refine And.intro ?hh_ ?_); (case hh_ => first | decide | exact List.nodup_singleton _ | exact rfl | (simp only [List.length_cons, List.length_nil]; decide) | (intro z; cases z) | omega | (intro _; rfl)))); try dsimp only [List.set_cons_zero, List.set_cons_succ, ownIx, wipeE, restore, List.nil_append, List.cons_append])
      refine ifb (fun h => ?_) fun h => ?_
      · repeat ((first | (with_reducible first | refine iR_yesT ?_ | refine iR_lcNil ?_ | refine iR_lcCons ?_ | refine if_t ?_ | refine if_f ?_ | refine iS_seq ?_ | refine iS_set ?_ | refine iS_own ?_ | refine iS_drop ?_ | refine iS_ret ?_ | refine iS_retF ?_ | refine iS_next ?_ | refine iS_if ?_ | refine iS_asg ?_ | refine iS_for0 ?_ | refine iR_ap1 ?_ | refine iR_ap2 ?_ | refine iR_ap2N ?_ | refine iR_apA ?_ | refine iR_kst ?_ | refine iR_aNil ?_ | refine iR_aCons ?_ | refine iR_asB ?_ | refine iR_truR ?_ | refine iR_andT ?_ | refine iR_orT ?_ | refine iR_notT ?_ | refine iR_andV ?_ | refine iR_orV ?_ | refine iR_notV ?_ | refine iR_ifE ?_ | refine iR_asI ?_ | refine iS_sub ?_ | refine iS_retO ?_ | refine iR_mtF ?_ | refine iR_cNil ?_ | refine iR_cVal ?_ | refine iR_call ?_ | refine iR_readV ?_ | refine iR_readN ?_ | refine iR_writeN ?_ | refine iR_writeC ?_ | refine iR_asR1 ?_ | refine iR_asR2 ?_ | refine iR_bind ?_ | refine iR_lc ?_ | refine iR_slN ?_ | refine iR_oSome ?_ | refine iR_oNone ?_ | refine iR_lRg2 ?_ | refine iR_eqi ?_ | refine iR_nei ?_ | refine iR_eqs ?_ | refine iR_nes ?_ | refine iR_eqb ?_ | refine iR_neb ?_) | ((with_reducible first | refine eR_getV ?_ | refine eR_getCv ?_ | refine eR_ownL ?_ | refine eR_cOwn ?_ | refine eR_readO ?_ | refine eS_frz ?_ | refine eR_cellO ?_ | refine eR_of (r := gT _ _ _ _) ?_ | refine eR_of (r := gN _ _ _) ?_ | refine eR_of (r := dAddA _ _) ?_ | refine eR_of (r := dSub _ _) ?_ | refine eR_of (r := dLt _ _) ?_ | refine eR_of (r := dLe _ _) ?_ | refine eR_of (r := dGt _ _) ?_ | refine eR_of (r := dGe _ _) ?_ | refine eR_of (r := dIsN _ _) ?_ | refine eR_of (r := dNotN _ _) ?_ | refine eR_of (r := dIx _ _) ?_ | refine eR_of (r := dNeg _) ?_ | refine eR_of (r := dLen _) ?_ | refine eR_of (r := dList _) ?_ | refine eR_of (r := dTuple _) ?_ | refine eR_of (r := dRev _) ?_ | refine eR_of (r := dInt1 _) ?_ | refine eR_of (r := boolR _) ?_ | refine eR_of (r := intR _) ?_ | refine eR_of (r := itemsR _) ?_ | refine eR_of (r := truD _) ?_ | refine eR_of (r := dMax2 _) ?_ | refine eR_of (r := dMin2 _) ?_ | refine eR_of (r := slD _ _ _) ?_ | refine eR_of (r := mkT _) ?_ | refine eR_of (r := mkL _) ?_ | refine eR_of (r := endR _ _ _ _) ?_ | refine eR_of (r := lRg _ _) ?_ | refine eR_of (r := optB _) ?_ | refine eR_of (r := optR _) ?_); refine ⟨_, rfl, ?_⟩) | ((with_reducible first | refine eR_getCo ?_ | refine eS_frz' ?_); refine ⟨_, rfl, ?_⟩) | ((with_reducible first | refine iR_rng1 ?hh_ ?_ | refine iR_rng2 ?hh_ ?_ | refine iR_dMul ?hh_ ?_ | refine iR_dDiv ?hh_ ?_ | refine iR_dMod ?hh_ ?_ | refine iR_dPow ?hh_ ?_ | refine iR_dAddl ?hh_ ?_ | refine iR_dAdds ?hh_ ?_ | refine iR_dCat ?hh_ ?_ | refine iR_app ?hh_ ?_); (case hh_ => first | omega | decide)) | ((with_reducible first | refine iR_isi_t ?hh_ ?_ | refine if_ct ?hh_ ?_); (case hh_ => exact rfl)) | ((with_reducible first | refine iR_isi_f ?hh_ ?_ | refine if_cf ?hh_ ?_); (case hh_ => exact rfl)) | ((with_reducible refine iR_guard ?hh_ ?_); (case hh_ => first | decide | omega)) | (with_reducible refine iR_okk ?_) | ((with_reducible refine And.intro ?hh_ ?_); (case hh_ => first | decide | exact List.nodup_singleton _ | exact rfl | (simp only [List.length_cons, List.length_nil]; decide) | (intro z; cases z) | omega | (intro _; rfl)))); try dsimp only [List.set_cons_zero, List.set_cons_succ, ownIx, wipeE, restore, List.nil_append, List.cons_append])
        rw [hq]; unfold prt
        rw [if_pos (Or.inl (by simpa using h))]
        rfl
      repeat ((first | (with_reducible first | refine iR_yesT ?_ | refine iR_lcNil ?_ | refine iR_lcCons ?_ | refine if_t ?_ | refine if_f ?_ | refine iS_seq ?_ | refine iS_set ?_ | refine iS_own ?_ | refine iS_drop ?_ | refine iS_ret ?_ | refine iS_retF ?_ | refine iS_next ?_ | refine iS_if ?_ | refine iS_asg ?_ | refine iS_for0 ?_ | refine iR_ap1 ?_ | refine iR_ap2 ?_ | refine iR_ap2N ?_ | refine iR_apA ?_ | refine iR_kst ?_ | refine iR_aNil ?_ | refine iR_aCons ?_ | refine iR_asB ?_ | refine iR_truR ?_ | refine iR_andT ?_ | refine iR_orT ?_ | refine iR_notT ?_ | refine iR_andV ?_ | refine iR_orV ?_ | refine iR_notV ?_ | refine iR_ifE ?_ | refine iR_asI ?_ | refine iS_sub ?_ | refine iS_retO ?_ | refine iR_mtF ?_ | refine iR_cNil ?_ | refine iR_cVal ?_ | refine iR_call ?_ | refine iR_readV ?_ | refine iR_readN ?_ | refine iR_writeN ?_ | refine iR_writeC ?_ | refine iR_asR1 ?_ | refine iR_asR2 ?_ | refine iR_bind ?_ | refine iR_lc ?_ | refine iR_slN ?_ | refine iR_oSome ?_ | refine iR_oNone ?_ | refine iR_lRg2 ?_ | refine iR_eqi ?_ | refine iR_nei ?_ | refine iR_eqs ?_ | refine iR_nes ?_ | refine iR_eqb ?_ | refine iR_neb ?_) | ((with_reducible first | refine eR_getV ?_ | refine eR_getCv ?_ | refine eR_ownL ?_ | refine eR_cOwn ?_ | refine eR_readO ?_ | refine eS_frz ?_ | refine eR_cellO ?_ | refine eR_of (r := gT _ _ _ _) ?_ | refine eR_of (r := gN _ _ _) ?_ | refine eR_of (r := dAddA _ _) ?_ | refine eR_of (r := dSub _ _) ?_ | refine eR_of (r := dLt _ _) ?_ | refine eR_of (r := dLe _ _) ?_ | refine eR_of (r := dGt _ _) ?_ | refine eR_of (r := dGe _ _) ?_ | refine eR_of (r := dIsN _ _) ?_ | refine eR_of (r := dNotN _ _) ?_ | refine eR_of (r := dIx _ _) ?_ | refine eR_of (r := dNeg _) ?_ | refine eR_of (r := dLen _) ?_ | refine eR_of (r := dList _) ?_ | refine eR_of (r := dTuple _) ?_ | refine eR_of (r := dRev _) ?_ | refine eR_of (r := dInt1 _) ?_ | refine eR_of (r := boolR _) ?_ | refine eR_of (r := intR _) ?_ | refine eR_of (r := itemsR _) ?_ | refine eR_of (r := truD _) ?_ | refine eR_of (r := dMax2 _) ?_ | refine eR_of (r := dMin2 _) ?_ | refine eR_of (r := slD _ _ _) ?_ | refine eR_of (r := mkT _) ?_ | refine eR_of (r := mkL _) ?_ | refine eR_of (r := endR _ _ _ _) ?_ | refine eR_of (r := lRg _ _) ?_ | refine eR_of (r := optB _) ?_ | refine eR_of (r := optR _) ?_); refine ⟨_, rfl, ?_⟩) | ((with_reducible first | refine eR_getCo ?_ | refine eS_frz' ?_); refine ⟨_, rfl, ?_⟩) | ((with_reducible first | refine iR_rng1 ?hh_ ?_ | refine iR_rng2 ?hh_ ?_ | refine iR_dMul ?hh_ ?_ | refine iR_dDiv ?hh_ ?_ | refine iR_dMod ?hh_ ?_ | refine iR_dPow ?hh_ ?_ | refine iR_dAddl ?hh_ ?_ | refine iR_dAdds ?hh_ ?_ | refine iR_dCat ?hh_ ?_ | refine iR_app ?hh_ ?_); (case hh_ => first | omega | decide)) | ((with_reducible first | refine iR_isi_t ?hh_ ?_ | refine if_ct ?hh_ ?_); (case hh_ => exact rfl)) | ((with_reducible first | refine iR_isi_f ?hh_ ?_ | refine if_cf ?hh_ ?_); (case hh_ => exact rfl)) | ((with_reducible refine iR_guard ?hh_ ?_); (case hh_ => first | decide | omega)) | (with_reducible refine iR_okk ?_) | ((with_reducible refine And.intro ?hh_ ?_); (case hh_ => first | decide | exact List.nodup_singleton _ | exact rfl | (simp only [List.length_cons, List.length_nil]; decide) | (intro z; cases z) | omega | (intro _; rfl)))); try dsimp only [List.set_cons_zero, List.set_cons_succ, ownIx, wipeE, restore, List.nil_append, List.cons_append])
      refine DL.ifd (fun h2 => ?_) (fun h2 => ?_)
      · repeat ((first | (with_reducible first | refine iR_yesT ?_ | refine iR_lcNil ?_ | refine iR_lcCons ?_ | refine if_t ?_ | refine if_f ?_ | refine iS_seq ?_ | refine iS_set ?_ | refine iS_own ?_ | refine iS_drop ?_ | refine iS_ret ?_ | refine iS_retF ?_ | refine iS_next ?_ | refine iS_if ?_ | refine iS_asg ?_ | refine iS_for0 ?_ | refine iR_ap1 ?_ | refine iR_ap2 ?_ | refine iR_ap2N ?_ | refine iR_apA ?_ | refine iR_kst ?_ | refine iR_aNil ?_ | refine iR_aCons ?_ | refine iR_asB ?_ | refine iR_truR ?_ | refine iR_andT ?_ | refine iR_orT ?_ | refine iR_notT ?_ | refine iR_andV ?_ | refine iR_orV ?_ | refine iR_notV ?_ | refine iR_ifE ?_ | refine iR_asI ?_ | refine iS_sub ?_ | refine iS_retO ?_ | refine iR_mtF ?_ | refine iR_cNil ?_ | refine iR_cVal ?_ | refine iR_call ?_ | refine iR_readV ?_ | refine iR_readN ?_ | refine iR_writeN ?_ | refine iR_writeC ?_ | refine iR_asR1 ?_ | refine iR_asR2 ?_ | refine iR_bind ?_ | refine iR_lc ?_ | refine iR_slN ?_ | refine iR_oSome ?_ | refine iR_oNone ?_ | refine iR_lRg2 ?_ | refine iR_eqi ?_ | refine iR_nei ?_ | refine iR_eqs ?_ | refine iR_nes ?_ | refine iR_eqb ?_ | refine iR_neb ?_) | ((with_reducible first | refine eR_getV ?_ | refine eR_getCv ?_ | refine eR_ownL ?_ | refine eR_cOwn ?_ | refine eR_readO ?_ | refine eS_frz ?_ | refine eR_cellO ?_ | refine eR_of (r := gT _ _ _ _) ?_ | refine eR_of (r := gN _ _ _) ?_ | refine eR_of (r := dAddA _ _) ?_ | refine eR_of (r := dSub _ _) ?_ | refine eR_of (r := dLt _ _) ?_ | refine eR_of (r := dLe _ _) ?_ | refine eR_of (r := dGt _ _) ?_ | refine eR_of (r := dGe _ _) ?_ | refine eR_of (r := dIsN _ _) ?_ | refine eR_of (r := dNotN _ _) ?_ | refine eR_of (r := dIx _ _) ?_ | refine eR_of (r := dNeg _) ?_ | refine eR_of (r := dLen _) ?_ | refine eR_of (r := dList _) ?_ | refine eR_of (r := dTuple _) ?_ | refine eR_of (r := dRev _) ?_ | refine eR_of (r := dInt1 _) ?_ | refine eR_of (r := boolR _) ?_ | refine eR_of (r := intR _) ?_ | refine eR_of (r := itemsR _) ?_ | refine eR_of (r := truD _) ?_ | refine eR_of (r := dMax2 _) ?_ | refine eR_of (r := dMin2 _) ?_ | refine eR_of (r := slD _ _ _) ?_ | refine eR_of (r := mkT _) ?_ | refine eR_of (r := mkL _) ?_ | refine eR_of (r := endR _ _ _ _) ?_ | refine eR_of (r := lRg _ _) ?_ | refine eR_of (r := optB _) ?_ | refine eR_of (r := optR _) ?_); refine ⟨_, rfl, ?_⟩) | ((with_reducible first | refine eR_getCo ?_ | refine eS_frz' ?_); refine ⟨_, rfl, ?_⟩) | ((with_reducible first | refine iR_rng1 ?hh_ ?_ | refine iR_rng2 ?hh_ ?_ | refine iR_dMul ?hh_ ?_ | refine iR_dDiv ?hh_ ?_ | refine iR_dMod ?hh_ ?_ | refine iR_dPow ?hh_ ?_ | refine iR_dAddl ?hh_ ?_ | refine iR_dAdds ?hh_ ?_ | refine iR_dCat ?hh_ ?_ | refine iR_app ?hh_ ?_); (case hh_ => first | omega | decide)) | ((with_reducible first | refine iR_isi_t ?hh_ ?_ | refine if_ct ?hh_ ?_); (case hh_ => exact rfl)) | ((with_reducible first | refine iR_isi_f ?hh_ ?_ | refine if_cf ?hh_ ?_); (case hh_ => exact rfl)) | ((with_reducible refine iR_guard ?hh_ ?_); (case hh_ => first | decide | omega)) | (with_reducible refine iR_okk ?_) | ((with_reducible refine And.intro ?hh_ ?_); (case hh_ => first | decide | exact List.nodup_singleton _ | exact rfl | (simp only [List.length_cons, List.length_nil]; decide) | (intro z; cases z) | omega | (intro _; rfl)))); try dsimp only [List.set_cons_zero, List.set_cons_succ, ownIx, wipeE, restore, List.nil_append, List.cons_append])
        rw [hq]; unfold prt
        rw [if_pos (Or.inr h2)]
        rfl
      repeat ((first | (with_reducible first | refine iR_yesT ?_ | refine iR_lcNil ?_ | refine iR_lcCons ?_ | refine if_t ?_ | refine if_f ?_ | refine iS_seq ?_ | refine iS_set ?_ | refine iS_own ?_ | refine iS_drop ?_ | refine iS_ret ?_ | refine iS_retF ?_ | refine iS_next ?_ | refine iS_if ?_ | refine iS_asg ?_ | refine iS_for0 ?_ | refine iR_ap1 ?_ | refine iR_ap2 ?_ | refine iR_ap2N ?_ | refine iR_apA ?_ | refine iR_kst ?_ | refine iR_aNil ?_ | refine iR_aCons ?_ | refine iR_asB ?_ | refine iR_truR ?_ | refine iR_andT ?_ | refine iR_orT ?_ | refine iR_notT ?_ | refine iR_andV ?_ | refine iR_orV ?_ | refine iR_notV ?_ | refine iR_ifE ?_ | refine iR_asI ?_ | refine iS_sub ?_ | refine iS_retO ?_ | refine iR_mtF ?_ | refine iR_cNil ?_ | refine iR_cVal ?_ | refine iR_call ?_ | refine iR_readV ?_ | refine iR_readN ?_ | refine iR_writeN ?_ | refine iR_writeC ?_ | refine iR_asR1 ?_ | refine iR_asR2 ?_ | refine iR_bind ?_ | refine iR_lc ?_ | refine iR_slN ?_ | refine iR_oSome ?_ | refine iR_oNone ?_ | refine iR_lRg2 ?_ | refine iR_eqi ?_ | refine iR_nei ?_ | refine iR_eqs ?_ | refine iR_nes ?_ | refine iR_eqb ?_ | refine iR_neb ?_) | ((with_reducible first | refine eR_getV ?_ | refine eR_getCv ?_ | refine eR_ownL ?_ | refine eR_cOwn ?_ | refine eR_readO ?_ | refine eS_frz ?_ | refine eR_cellO ?_ | refine eR_of (r := gT _ _ _ _) ?_ | refine eR_of (r := gN _ _ _) ?_ | refine eR_of (r := dAddA _ _) ?_ | refine eR_of (r := dSub _ _) ?_ | refine eR_of (r := dLt _ _) ?_ | refine eR_of (r := dLe _ _) ?_ | refine eR_of (r := dGt _ _) ?_ | refine eR_of (r := dGe _ _) ?_ | refine eR_of (r := dIsN _ _) ?_ | refine eR_of (r := dNotN _ _) ?_ | refine eR_of (r := dIx _ _) ?_ | refine eR_of (r := dNeg _) ?_ | refine eR_of (r := dLen _) ?_ | refine eR_of (r := dList _) ?_ | refine eR_of (r := dTuple _) ?_ | refine eR_of (r := dRev _) ?_ | refine eR_of (r := dInt1 _) ?_ | refine eR_of (r := boolR _) ?_ | refine eR_of (r := intR _) ?_ | refine eR_of (r := itemsR _) ?_ | refine eR_of (r := truD _) ?_ | refine eR_of (r := dMax2 _) ?_ | refine eR_of (r := dMin2 _) ?_ | refine eR_of (r := slD _ _ _) ?_ | refine eR_of (r := mkT _) ?_ | refine eR_of (r := mkL _) ?_ | refine eR_of (r := endR _ _ _ _) ?_ | refine eR_of (r := lRg _ _) ?_ | refine eR_of (r := optB _) ?_ | refine eR_of (r := optR _) ?_); refine ⟨_, rfl, ?_⟩) | ((with_reducible first | refine eR_getCo ?_ | refine eS_frz' ?_); refine ⟨_, rfl, ?_⟩) | ((with_reducible first | refine iR_rng1 ?hh_ ?_ | refine iR_rng2 ?hh_ ?_ | refine iR_dMul ?hh_ ?_ | refine iR_dDiv ?hh_ ?_ | refine iR_dMod ?hh_ ?_ | refine iR_dPow ?hh_ ?_ | refine iR_dAddl ?hh_ ?_ | refine iR_dAdds ?hh_ ?_ | refine iR_dCat ?hh_ ?_ | refine iR_app ?hh_ ?_); (case hh_ => first | omega | decide)) | ((with_reducible first | refine iR_isi_t ?hh_ ?_ | refine if_ct ?hh_ ?_); (case hh_ => exact rfl)) | ((with_reducible first | refine iR_isi_f ?hh_ ?_ | refine if_cf ?hh_ ?_); (case hh_ => exact rfl)) | ((with_reducible refine iR_guard ?hh_ ?_); (case hh_ => first | decide | omega)) | (with_reducible refine iR_okk ?_) | ((with_reducible refine And.intro ?hh_ ?_); (case hh_ => first | decide | exact List.nodup_singleton _ | exact rfl | (simp only [List.length_cons, List.length_nil]; decide) | (intro z; cases z) | omega | (intro _; rfl)))); try dsimp only [List.set_cons_zero, List.set_cons_succ, ownIx, wipeE, restore, List.nil_append, List.cons_append])
      refine ⟨p.2 + 1, ps, _, _, rfl, ?_, rfl⟩
      rw [hq]
      show (if _ then _ else _) = _
      rw [if_neg]
      simp at h; omega
  · rintro e ⟨c, ps, x, y, hr, hq, rfl⟩
    cases ps with
    | cons p ps => cases hr
    | nil =>
      repeat ((first | (with_reducible first | refine iR_yesT ?_ | refine iR_lcNil ?_ | refine iR_lcCons ?_ | refine if_t ?_ | refine if_f ?_ | refine iS_seq ?_ | refine iS_set ?_ | refine iS_own ?_ | refine iS_drop ?_ | refine iS_ret ?_ | refine iS_retF ?_ | refine iS_next ?_ | refine iS_if ?_ | refine iS_asg ?_ | refine iS_for0 ?_ | refine iR_ap1 ?_ | refine iR_ap2 ?_ | refine iR_ap2N ?_ | refine iR_apA ?_ | refine iR_kst ?_ | refine iR_aNil ?_ | refine iR_aCons ?_ | refine iR_asB ?_ | refine iR_truR ?_ | refine iR_andT ?_ | refine iR_orT ?_ | refine iR_notT ?_ | refine iR_andV ?_ | refine iR_orV ?_ | refine iR_notV ?_ | refine iR_ifE ?_ | refine iR_asI ?_ | refine iS_sub ?_ | refine iS_retO ?_ | refine iR_mtF ?_ | refine iR_cNil ?_ | refine iR_cVal ?_ | refine iR_call ?_ | refine iR_readV ?_ | refine iR_readN ?_ | refine iR_writeN ?_ | refine iR_writeC ?_ | refine iR_asR1 ?_ | refine iR_asR2 ?_ | refine iR_bind ?_ | refine iR_lc ?_ | refine iR_slN ?_ | refine iR_oSome ?_ | refine iR_oNone ?_ | refine iR_lRg2 ?_ | refine iR_eqi ?_ | refine iR_nei ?_ | refine iR_eqs ?_ | refine iR_nes ?_ | refine iR_eqb ?_ | refine iR_neb ?_) | ((with_reducible first | refine eR_getV ?_ | refine eR_getCv ?_ | refine eR_ownL ?_ | refine eR_cOwn ?_ | refine eR_readO ?_ | refine eS_frz ?_ | refine eR_cellO ?_ | refine eR_of (r := gT _ _ _ _) ?_ | refine eR_of (r := gN _ _ _) ?_ | refine eR_of (r := dAddA _ _) ?_ | refine eR_of (r := dSub _ _) ?_ | refine eR_of (r := dLt _ _) ?_ | refine eR_of (r := dLe _ _) ?_ | refine eR_of (r := dGt _ _) ?_ | refine eR_of (r := dGe _ _) ?_ | refine eR_of (r := dIsN _ _) ?_ | refine eR_of (r := dNotN _ _) ?_ | refine eR_of (r := dIx _ _) ?_ | refine eR_of (r := dNeg _) ?_ | refine eR_of (r := dLen _) ?_ | refine eR_of (r := dList _) ?_ | refine eR_of (r := dTuple _) ?_ | refine eR_of (r := dRev _) ?_ | refine eR_of (r := dInt1 _) ?_ | refine eR_of (r := boolR _) ?_ | refine eR_of (r := intR _) ?_ | refine eR_of (r := itemsR _) ?_ | refine eR_of (r := truD _) ?_ | refine eR_of (r := dMax2 _) ?_ | refine eR_of (r := dMin2 _) ?_ | refine eR_of (r := slD _ _ _) ?_ | refine eR_of (r := mkT _) ?_ | refine eR_of (r := mkL _) ?_ | refine eR_of (r := endR _ _ _ _) ?_ | refine eR_of (r := lRg _ _) ?_ | refine eR_of (r := optB _) ?_ | refine eR_of (r := optR _) ?_); refine ⟨_, rfl, ?_⟩) | ((with_reducible first | refine eR_getCo ?_ | refine eS_frz' ?_); refine ⟨_, rfl, ?_⟩) | ((with_reducible first | refine iR_rng1 ?hh_ ?_ | refine iR_rng2 ?hh_ ?_ | refine iR_dMul ?hh_ ?_ | refine iR_dDiv ?hh_ ?_ | refine iR_dMod ?hh_ ?_ | refine iR_dPow ?hh_ ?_ | refine iR_dAddl ?hh_ ?_ | refine iR_dAdds ?hh_ ?_ | refine iR_dCat ?hh_ ?_ | refine iR_app ?hh_ ?_); (case hh_ => first | omega | decide)) | ((with_reducible first | refine iR_isi_t ?hh_ ?_ | refine if_ct ?hh_ ?_); (case hh_ => exact rfl)) | ((with_reducible first | refine iR_isi_f ?hh_ ?_ | refine if_cf ?hh_ ?_); (case hh_ => exact rfl)) | ((with_reducible refine iR_guard ?hh_ ?_); (case hh_ => first | decide | omega)) | (with_reducible refine iR_okk ?_) | ((with_reducible refine And.intro ?hh_ ?_); (case hh_ => first | decide | exact List.nodup_singleton _ | exact rfl | (simp only [List.length_cons, List.length_nil]; decide) | (intro z; cases z) | omega | (intro _; rfl)))); try dsimp only [List.set_cons_zero, List.set_cons_succ, ownIx, wipeE, restore, List.nil_append, List.cons_append])
      have hm : max a (b + 1) = if b + 1 > a then b + 1 else a := by split <;> omega
      rw [hq, ← hm]
      show endR _ _ _ _ = .ok _ (.bool (some c == some _)) _
      rfl
end D51
namespace D51
open PySem PySem.Spec L2 DL
def mst (acc : List (Int × Int)) (p : Int × Int) : List (Int × Int) := match acc.getLast? with
  | some q => if q.2 + 1 = p.1 then acc.dropLast ++ [(q.1, p.2)] else acc ++ [p]
  | none => [p]
theorem mst_nil {p : Int × Int} : mst [] p = [p] := rfl
theorem mst_snoc {acc : List (Int × Int)} {q p : Int × Int} : mst (acc ++ [q]) p = if q.2 + 1 = p.1 then acc ++ [(q.1, p.2)] else (acc ++ [q]) ++ [p] := by
  unfold mst
  rw [List.getLast?_concat, List.dropLast_concat]
theorem mst_ext {A : List (Int × Int)} {x : Int} : ∀ {n : Nat} {f : Int}, (rngI (f + 1) n).foldl (fun acc u => mst acc (u, u)) (A ++ [(x, f)]) = A ++ [(x, f + n)]
  | 0, f => by rw [rngI_zero]; show _ = A ++ [(x, f + ((0 : Nat) : Int))]; rw [show f + ((0 : Nat) : Int) = f by omega]; rfl
  | n + 1, f => by
    rw [rngI_succ, List.foldl_cons, mst_snoc, if_pos rfl, mst_ext]
    congr 3; omega
theorem mst_rng {acc : List (Int × Int)} {f l : Int} (h : f ≤ l) : (rngI f (l + 1 - f).toNat).foldl (fun acc u => mst acc (u, u)) acc = mst acc (f, l) := by
  rw [show (l + 1 - f).toNat = (l - f).toNat + 1 by omega, rngI_succ, List.foldl_cons]
  have hl : f + ((l - f).toNat : Int) = l := by omega
  rcases List.eq_nil_or_concat acc with rfl | ⟨A, q, rfl⟩
  · rw [mst_nil, mst_nil, show [(f, f)] = [] ++ [(f, f)] from rfl, mst_ext, hl]; rfl
  · rw [List.concat_eq_append, mst_snoc, mst_snoc]
    dsimp only
    split
    · rw [mst_ext, hl]
    · rw [mst_ext, hl]
theorem mst_cov : ∀ {ps : List (Int × Int)} {acc : List (Int × Int)}, Prop' ps → (covI ps).foldl (fun acc u => mst acc (u, u)) acc = ps.foldl mst acc
  | [], _, _ => rfl
  | p :: ps, acc, h => by
    unfold covI
    rw [List.foldl_append, mst_rng (h p List.mem_cons_self), mst_cov (fun q hq => h q (List.mem_cons_of_mem _ hq))]
    rfl
theorem mst_len {acc : List (Int × Int)} {p : Int × Int} : (mst acc p).length ≤ acc.length + 1 := by
  rcases List.eq_nil_or_concat acc with rfl | ⟨A, q, rfl⟩
  · rw [mst_nil]; simp
  · rw [List.concat_eq_append, mst_snoc]
    split <;> simp
theorem ixN_last {α : Type} {xs : List α} {v : α} : ixN (xs ++ [v]).length (-1) = some xs.length := by
  unfold ixN
  rw [if_neg (by decide), if_pos (by simp; omega)]
  congr 1
  simp; omega
theorem set_last {α : Type} {xs : List α} {v u : α} : (xs ++ [v]).set xs.length u = xs ++ [u] := by
  rw [List.set_append_right _ _ (Nat.le_refl _), Nat.sub_self]; rfl
theorem ne_snoc {xs : List D} {v : D} : (!(xs ++ [v]).isEmpty) = true := by
  cases xs <;> rfl
theorem united_ok {ps : List (Int × Int)} (hl : ps.length ≤ 64) : RUnited [.list (ps.map prD)] = .ok true (.list ((ps.foldl mst []).map prD)) [] := by
  refine runF_eq (G := GUnited) ?_
  unfold GUnited
  dsimp only [DL.env0, DL.cells, DL.cellOf_t, DL.cellOf_f, List.length_cons, List.length_nil, Nat.reduceAdd, Nat.reduceSub, List.replicate, List.cons_append, List.nil_append]
  repeat ((first | (with_reducible first | refine iR_yesT ?_ | refine iR_lcNil ?_ | refine iR_lcCons ?_ | refine if_t ?_ | refine if_f ?_ | refine iS_seq ?_ | refine iS_set ?_ | refine iS_own ?_ | refine iS_drop ?_ | refine iS_ret ?_ | refine iS_retF ?_ | refine iS_next ?_ | refine iS_if ?_ | refine iS_asg ?_ | refine iS_for0 ?_ | refine iR_ap1 ?_ | refine iR_ap2 ?_ | refine iR_ap2N ?_ | refine iR_apA ?_ | refine iR_kst ?_ | refine iR_aNil ?_ | refine iR_aCons ?_ | refine iR_asB ?_ | refine iR_truR ?_ | refine iR_andT ?_ | refine iR_orT ?_ | refine iR_notT ?_ | refine iR_andV ?_ | refine iR_orV ?_ | refine iR_notV ?_ | refine iR_ifE ?_ | refine iR_asI ?_ | refine iS_sub ?_ | refine iS_retO ?_ | refine iR_mtF ?_ | refine iR_cNil ?_ | refine iR_cVal ?_ | refine iR_call ?_ | refine iR_readV ?_ | refine iR_readN ?_ | refine iR_writeN ?_ | refine iR_writeC ?_ | refine iR_asR1 ?_ | refine iR_asR2 ?_ | refine iR_bind ?_ | refine iR_lc ?_ | refine iR_slN ?_ | refine iR_oSome ?_ | refine iR_oNone ?_ | refine iR_lRg2 ?_ | refine iR_eqi ?_ | refine iR_nei ?_ | refine iR_eqs ?_ | refine iR_nes ?_ | refine iR_eqb ?_ | refine iR_neb ?_) | ((with_reducible first | refine eR_getV ?_ | refine eR_getCv ?_ | refine eR_ownL ?_ | refine eR_cOwn ?_ | refine eR_readO ?_ | refine eS_frz ?_ | refine eR_cellO ?_ | refine eR_of (r := gT _ _ _ _) ?_ | refine eR_of (r := gN _ _ _) ?_ | refine eR_of (r := dAddA _ _) ?_ | refine eR_of (r := dSub _ _) ?_ | refine eR_of (r := dLt _ _) ?_ | refine eR_of (r := dLe _ _) ?_ | refine eR_of (r := dGt _ _) ?_ | refine eR_of (r := dGe _ _) ?_ | refine eR_of (r := dIsN _ _) ?_ | refine eR_of (r := dNotN _ _) ?_ | refine eR_of (r := dIx _ _) ?_ | refine eR_of (r := dNeg _) ?_ | refine eR_of (r := dLen _) ?_ | refine eR_of (r := dList _) ?_ | refine eR_of (r := dTuple _) ?_ | refine eR_of (r := dRev _) ?_ | refine eR_of (r := dInt1 _) ?_ | refine eR_of (r := boolR _) ?_ | refine eR_of (r := intR _) ?_ | refine eR_of (r := itemsR _) ?_ | refine eR_of (r := truD _) ?_ | refine eR_of (r := dMax2 _) ?_ | refine eR_of (r := dMin2 _) ?_ | refine eR_of (r := slD _ _ _) ?_ | refine eR_of (r := mkT _) ?_ | refine eR_of (r := mkL _) ?_ | refine eR_of (r := endR _ _ _ _) ?_ | refine eR_of (r := lRg _ _) ?_ | refine eR_of (r := optB _) ?_ | refine eR_of (r := optR _) ?_); refine ⟨_, rfl, ?_⟩) | ((with_reducible first | refine eR_getCo ?_ | refine eS_frz' ?_); refine ⟨_, rfl, ?_⟩) | ((with_reducible first | refine iR_rng1 ?hh_ ?_ | refine iR_rng2 ?hh_ ?_ | refine iR_dMul ?hh_ ?_ | refine iR_dDiv ?hh_ ?_ | refine iR_dMod ?hh_ ?_ | refine iR_dPow ?hh_ ?_ | refine iR_dAddl ?hh_ ?_ | refine iR_dAdds ?hh_ ?_ | refine iR_dCat ?hh_ ?_ | refine iR_app ?hh_ ?_); (case hh_ => first | omega | decide)) | ((with_reducible first | refine iR_isi_t ?hh_ ?_ | refine if_ct ?hh_ ?_); (case hh_ => exact rfl)) | ((with_reducible first | refine iR_isi_f ?hh_ ?_ | refine if_cf ?hh_ ?_); (case hh_ => exact rfl)) | ((with_reducible refine iR_guard ?hh_ ?_); (case hh_ => first | decide | omega)) | (with_reducible refine iR_okk ?_) | ((with_reducible refine And.intro ?hh_ ?_); (case hh_ => first | decide | exact List.nodup_singleton _ | exact rfl | (simp only [List.length_cons, List.length_nil]; decide) | (intro z; cases z) | omega | (intro _; rfl)))); try dsimp only [List.set_cons_zero, List.set_cons_succ, ownIx, wipeE, restore, List.nil_append, List.cons_append])
  refine iS_for (fun rest e => ∃ (acc qs : List (Int × Int)) (x y : Option DCell), rest = qs.map prD ∧ ps.foldl mst [] = qs.foldl mst acc ∧ acc.length + qs.length ≤ 64 ∧ e = [some (.val (.list (ps.map prD))), some (.own (.list (acc.map prD))), x, y]) ⟨[], ps, none, none, rfl, rfl, by simpa using hl, rfl⟩ ?_ ?_
  · rintro d rest e ⟨acc, qs, x, y, hr, hq, hn, rfl⟩
    cases qs with
    | nil => cases hr
    | cons p qs =>
      cases hr
      rw [List.foldl_cons] at hq
      rw [List.length_cons] at hn
      rcases List.eq_nil_or_concat acc with rfl | ⟨A, q, rfl⟩
      · unfold prD
        repeat ((first | (with_reducible first | refine iR_yesT ?_ | refine iR_lcNil ?_ | refine iR_lcCons ?_ | refine if_t ?_ | refine if_f ?_ | refine iS_seq ?_ | refine iS_set ?_ | refine iS_own ?_ | refine iS_drop ?_ | refine iS_ret ?_ | refine iS_retF ?_ | refine iS_next ?_ | refine iS_if ?_ | refine iS_asg ?_ | refine iS_for0 ?_ | refine iR_ap1 ?_ | refine iR_ap2 ?_ | refine iR_ap2N ?_ | refine iR_apA ?_ | refine iR_kst ?_ | refine iR_aNil ?_ | refine iR_aCons ?_ | refine iR_asB ?_ | refine iR_truR ?_ | refine iR_andT ?_ | refine iR_orT ?_ | refine iR_notT ?_ | refine iR_andV ?_ | refine iR_orV ?_ | refine iR_notV ?_ | refine iR_ifE ?_ | refine iR_asI ?_ | refine iS_sub ?_ | refine iS_retO ?_ | refine iR_mtF ?_ | refine iR_cNil ?_ | refine iR_cVal ?_ | refine iR_call ?_ | refine iR_readV ?_ | refine iR_readN ?_ | refine iR_writeN ?_ | refine iR_writeC ?_ | refine iR_asR1 ?_ | refine iR_asR2 ?_ | refine iR_bind ?_ | refine iR_lc ?_ | refine iR_slN ?_ | refine iR_oSome ?_ | refine iR_oNone ?_ | refine iR_lRg2 ?_ | refine iR_eqi ?_ | refine iR_nei ?_ | refine iR_eqs ?_ | refine iR_nes ?_ | refine iR_eqb ?_ | refine iR_neb ?_) | ((with_reducible first | refine eR_getV ?_ | refine eR_getCv ?_ | refine eR_ownL ?_ | refine eR_cOwn ?_ | refine eR_readO ?_ | refine eS_frz ?_ | refine eR_cellO ?_ | refine eR_of (r := gT _ _ _ _) ?_ | refine eR_of (r := gN _ _ _) ?_ | refine eR_of (r := dAddA _ _) ?_ | refine eR_of (r := dSub _ _) ?_ | refine eR_of (r := dLt _ _) ?_ | refine eR_of (r := dLe _ _) ?_ | refine eR_of (r := dGt _ _) ?_ | refine eR_of (r := dGe _ _) ?_ | refine eR_of (r := dIsN _ _) ?_ | refine eR_of (r := dNotN _ _) ?_ | refine eR_of (r := dIx _ _) ?_ | refine eR_of (r := dNeg _) ?_ | refine eR_of (r := dLen _) ?_ | refine eR_of (r := dList _) ?_ | refine eR_of (r := dTuple _) ?_ | refine eR_of (r := dRev _) ?_ | refine eR_of (r := dInt1 _) ?_ | refine eR_of (r := boolR _) ?_ | refine eR_of (r := intR _) ?_ | refine eR_of (r := itemsR _) ?_ | refine eR_of (r := truD _) ?_ | refine eR_of (r := dMax2 _) ?_ | refine eR_of (r := dMin2 _) ?_ | refine eR_of (r := slD _ _ _) ?_ | refine eR_of (r := mkT _) ?_ | refine eR_of (r := mkL _) ?_ | refine eR_of (r := endR _ _ _ _) ?_ | refine eR_of (r := lRg _ _) ?_ | refine eR_of (r := optB _) ?_ | refine eR_of (r := optR _) ?_); refine ⟨_, rfl, ?_⟩) | ((with_reducible first | refine eR_getCo ?_ | refine eS_frz' ?_); refine ⟨_, rfl, ?_⟩) | ((with_reducible first | refine iR_rng1 ?hh_ ?_ | refine iR_rng2 ?hh_ ?_ | refine iR_dMul ?hh_ ?_ | refine iR_dDiv ?hh_ ?_ | refine iR_dMod ?hh_ ?_ | refine iR_dPow ?hh_ ?_ | refine iR_dAddl ?hh_ ?_ | refine iR_dAdds ?hh_ ?_ | refine iR_dCat ?hh_ ?_ | refine iR_app ?hh_ ?_); (case hh_ => first | omega | decide)) | ((with_reducible first | refine iR_isi_t ?hh_ ?_ | refine if_ct ?hh_ ?_); (case hh_ => exact rfl)) | ((with_reducible first | refine iR_isi_f ?hh_ ?_ | refine if_cf ?hh_ ?_); (case hh_ => exact rfl)) | ((with_reducible refine iR_guard ?hh_ ?_); (case hh_ => first | decide | omega)) | (with_reducible refine iR_okk ?_) | ((with_reducible refine And.intro ?hh_ ?_); (case hh_ => first | decide | exact List.nodup_singleton _ | exact rfl | (simp only [List.length_cons, List.length_nil]; decide) | (intro z; cases z) | omega | (intro _; rfl)))); try dsimp only [List.set_cons_zero, List.set_cons_succ, ownIx, wipeE, restore, List.nil_append, List.cons_append])
        refine ⟨[p], qs, _, _, rfl, hq, by simp at hn ⊢; omega, rfl⟩
      · rw [List.concat_eq_append, mst_snoc] at hq
        rw [List.concat_eq_append] at hn ⊢
        rw [List.length_append] at hn
        have hs : sizeLine ≥ 66 := by decide
        rw [List.map_append]
        have hpq : ∀ p : Int × Int, prD p = .tuple [.int p.1, .int p.2] := fun _ => rfl
        simp only [hpq, List.map_cons, List.map_nil]
        repeat ((first | (with_reducible first | refine iR_yesT ?_ | refine iR_lcNil ?_ | refine iR_lcCons ?_ | refine if_t ?_ | refine if_f ?_ | refine iS_seq ?_ | refine iS_set ?_ | refine iS_own ?_ | refine iS_drop ?_ | refine iS_ret ?_ | refine iS_retF ?_ | refine iS_next ?_ | refine iS_if ?_ | refine iS_asg ?_ | refine iS_for0 ?_ | refine iR_ap1 ?_ | refine iR_ap2 ?_ | refine iR_ap2N ?_ | refine iR_apA ?_ | refine iR_kst ?_ | refine iR_aNil ?_ | refine iR_aCons ?_ | refine iR_asB ?_ | refine iR_truR ?_ | refine iR_andT ?_ | refine iR_orT ?_ | refine iR_notT ?_ | refine iR_andV ?_ | refine iR_orV ?_ | refine iR_notV ?_ | refine iR_ifE ?_ | refine iR_asI ?_ | refine iS_sub ?_ | refine iS_retO ?_ | refine iR_mtF ?_ | refine iR_cNil ?_ | refine iR_cVal ?_ | refine iR_call ?_ | refine iR_readV ?_ | refine iR_readN ?_ | refine iR_writeN ?_ | refine iR_writeC ?_ | refine iR_asR1 ?_ | refine iR_asR2 ?_ | refine iR_bind ?_ | refine iR_lc ?_ | refine iR_slN ?_ | refine iR_oSome ?_ | refine iR_oNone ?_ | refine iR_lRg2 ?_ | refine iR_eqi ?_ | refine iR_nei ?_ | refine iR_eqs ?_ | refine iR_nes ?_ | refine iR_eqb ?_ | refine iR_neb ?_) | ((with_reducible first | refine eR_getV ?_ | refine eR_getCv ?_ | refine eR_ownL ?_ | refine eR_cOwn ?_ | refine eR_readO ?_ | refine eS_frz ?_ | refine eR_cellO ?_ | refine eR_of (r := gT _ _ _ _) ?_ | refine eR_of (r := gN _ _ _) ?_ | refine eR_of (r := dAddA _ _) ?_ | refine eR_of (r := dSub _ _) ?_ | refine eR_of (r := dLt _ _) ?_ | refine eR_of (r := dLe _ _) ?_ | refine eR_of (r := dGt _ _) ?_ | refine eR_of (r := dGe _ _) ?_ | refine eR_of (r := dIsN _ _) ?_ | refine eR_of (r := dNotN _ _) ?_ | refine eR_of (r := dIx _ _) ?_ | refine eR_of (r := dNeg _) ?_ | refine eR_of (r := dLen _) ?_ | refine eR_of (r := dList _) ?_ | refine eR_of (r := dTuple _) ?_ | refine eR_of (r := dRev _) ?_ | refine eR_of (r := dInt1 _) ?_ | refine eR_of (r := boolR _) ?_ | refine eR_of (r := intR _) ?_ | refine eR_of (r := itemsR _) ?_ | refine eR_of (r := truD _) ?_ | refine eR_of (r := dMax2 _) ?_ | refine eR_of (r := dMin2 _) ?_ | refine eR_of (r := slD _ _ _) ?_ | refine eR_of (r := mkT _) ?_ | refine eR_of (r := mkL _) ?_ | refine eR_of (r := endR _ _ _ _) ?_ | refine eR_of (r := lRg _ _) ?_ | refine eR_of (r := optB _) ?_ | refine eR_of (r := optR _) ?_); refine ⟨_, rfl, ?_⟩) | ((with_reducible first | refine eR_getCo ?_ | refine eS_frz' ?_); refine ⟨_, rfl, ?_⟩) | ((with_reducible first | refine iR_rng1 ?hh_ ?_ | refine iR_rng2 ?hh_ ?_ | refine iR_dMul ?hh_ ?_ | refine iR_dDiv ?hh_ ?_ | refine iR_dMod ?hh_ ?_ | refine iR_dPow ?hh_ ?_ | refine iR_dAddl ?hh_ ?_ | refine iR_dAdds ?hh_ ?_ | refine iR_dCat ?hh_ ?_ | refine iR_app ?hh_ ?_); (case hh_ => first | omega | decide)) | ((with_reducible first | refine iR_isi_t ?hh_ ?_ | refine if_ct ?hh_ ?_); (case hh_ => exact rfl)) | ((with_reducible first | refine iR_isi_f ?hh_ ?_ | refine if_cf ?hh_ ?_); (case hh_ => exact rfl)) | ((with_reducible refine iR_guard ?hh_ ?_); (case hh_ => first | decide | omega)) | (with_reducible refine iR_okk ?_) | ((with_reducible refine And.intro ?hh_ ?_); (case hh_ => first | decide | exact List.nodup_singleton _ | exact rfl | (simp only [List.length_cons, List.length_nil]; decide) | (intro z; cases z) | omega | (intro _; rfl)))); try dsimp only [List.set_cons_zero, List.set_cons_succ, ownIx, wipeE, restore, List.nil_append, List.cons_append])
        refine if_ct ne_snoc ?_
        repeat ((first | (with_reducible first | refine iR_yesT ?_ | refine iR_lcNil ?_ | refine iR_lcCons ?_ | refine if_t ?_ | refine if_f ?_ | refine iS_seq ?_ | refine iS_set ?_ | refine iS_own ?_ | refine iS_drop ?_ | refine iS_ret ?_ | refine iS_retF ?_ | refine iS_next ?_ | refine iS_if ?_ | refine iS_asg ?_ | refine iS_for0 ?_ | refine iR_ap1 ?_ | refine iR_ap2 ?_ | refine iR_ap2N ?_ | refine iR_apA ?_ | refine iR_kst ?_ | refine iR_aNil ?_ | refine iR_aCons ?_ | refine iR_asB ?_ | refine iR_truR ?_ | refine iR_andT ?_ | refine iR_orT ?_ | refine iR_notT ?_ | refine iR_andV ?_ | refine iR_orV ?_ | refine iR_notV ?_ | refine iR_ifE ?_ | refine iR_asI ?_ | refine iS_sub ?_ | refine iS_retO ?_ | refine iR_mtF ?_ | refine iR_cNil ?_ | refine iR_cVal ?_ | refine iR_call ?_ | refine iR_readV ?_ | refine iR_readN ?_ | refine iR_writeN ?_ | refine iR_writeC ?_ | refine iR_asR1 ?_ | refine iR_asR2 ?_ | refine iR_bind ?_ | refine iR_lc ?_ | refine iR_slN ?_ | refine iR_oSome ?_ | refine iR_oNone ?_ | refine iR_lRg2 ?_ | refine iR_eqi ?_ | refine iR_nei ?_ | refine iR_eqs ?_ | refine iR_nes ?_ | refine iR_eqb ?_ | refine iR_neb ?_) | ((with_reducible first | refine eR_getV ?_ | refine eR_getCv ?_ | refine eR_ownL ?_ | refine eR_cOwn ?_ | refine eR_readO ?_ | refine eS_frz ?_ | refine eR_cellO ?_ | refine eR_of (r := gT _ _ _ _) ?_ | refine eR_of (r := gN _ _ _) ?_ | refine eR_of (r := dAddA _ _) ?_ | refine eR_of (r := dSub _ _) ?_ | refine eR_of (r := dLt _ _) ?_ | refine eR_of (r := dLe _ _) ?_ | refine eR_of (r := dGt _ _) ?_ | refine eR_of (r := dGe _ _) ?_ | refine eR_of (r := dIsN _ _) ?_ | refine eR_of (r := dNotN _ _) ?_ | refine eR_of (r := dIx _ _) ?_ | refine eR_of (r := dNeg _) ?_ | refine eR_of (r := dLen _) ?_ | refine eR_of (r := dList _) ?_ | refine eR_of (r := dTuple _) ?_ | refine eR_of (r := dRev _) ?_ | refine eR_of (r := dInt1 _) ?_ | refine eR_of (r := boolR _) ?_ | refine eR_of (r := intR _) ?_ | refine eR_of (r := itemsR _) ?_ | refine eR_of (r := truD _) ?_ | refine eR_of (r := dMax2 _) ?_ | refine eR_of (r := dMin2 _) ?_ | refine eR_of (r := slD _ _ _) ?_ | refine eR_of (r := mkT _) ?_ | refine eR_of (r := mkL _) ?_ | refine eR_of (r := endR _ _ _ _) ?_ | refine eR_of (r := lRg _ _) ?_ | refine eR_of (r := optB _) ?_ | refine eR_of (r := optR _) ?_); refine ⟨_, rfl, ?_⟩) | ((with_reducible first | refine eR_getCo ?_ | refine eS_frz' ?_); refine ⟨_, rfl, ?_⟩) | ((with_reducible first | refine iR_rng1 ?hh_ ?_ | refine iR_rng2 ?hh_ ?_ | refine iR_dMul ?hh_ ?_ | refine iR_dDiv ?hh_ ?_ | refine iR_dMod ?hh_ ?_ | refine iR_dPow ?hh_ ?_ | refine iR_dAddl ?hh_ ?_ | refine iR_dAdds ?hh_ ?_ | refine iR_dCat ?hh_ ?_ | refine iR_app ?hh_ ?_); (case hh_ => first | omega | decide)) | ((with_reducible first | refine iR_isi_t ?hh_ ?_ | refine if_ct ?hh_ ?_); (case hh_ => exact rfl)) | ((with_reducible first | refine iR_isi_f ?hh_ ?_ | refine if_cf ?hh_ ?_); (case hh_ => exact rfl)) | ((with_reducible refine iR_guard ?hh_ ?_); (case hh_ => first | decide | omega)) | (with_reducible refine iR_okk ?_) | ((with_reducible refine And.intro ?hh_ ?_); (case hh_ => first | decide | exact List.nodup_singleton _ | exact rfl | (simp only [List.length_cons, List.length_nil]; decide) | (intro z; cases z) | omega | (intro _; rfl)))); try dsimp only [List.set_cons_zero, List.set_cons_succ, ownIx, wipeE, restore, List.nil_append, List.cons_append])
        refine iR_ixl (atI_last _ _) ?_
        repeat ((first | (with_reducible first | refine iR_yesT ?_ | refine iR_lcNil ?_ | refine iR_lcCons ?_ | refine if_t ?_ | refine if_f ?_ | refine iS_seq ?_ | refine iS_set ?_ | refine iS_own ?_ | refine iS_drop ?_ | refine iS_ret ?_ | refine iS_retF ?_ | refine iS_next ?_ | refine iS_if ?_ | refine iS_asg ?_ | refine iS_for0 ?_ | refine iR_ap1 ?_ | refine iR_ap2 ?_ | refine iR_ap2N ?_ | refine iR_apA ?_ | refine iR_kst ?_ | refine iR_aNil ?_ | refine iR_aCons ?_ | refine iR_asB ?_ | refine iR_truR ?_ | refine iR_andT ?_ | refine iR_orT ?_ | refine iR_notT ?_ | refine iR_andV ?_ | refine iR_orV ?_ | refine iR_notV ?_ | refine iR_ifE ?_ | refine iR_asI ?_ | refine iS_sub ?_ | refine iS_retO ?_ | refine iR_mtF ?_ | refine iR_cNil ?_ | refine iR_cVal ?_ | refine iR_call ?_ | refine iR_readV ?_ | refine iR_readN ?_ | refine iR_writeN ?_ | refine iR_writeC ?_ | refine iR_asR1 ?_ | refine iR_asR2 ?_ | refine iR_bind ?_ | refine iR_lc ?_ | refine iR_slN ?_ | refine iR_oSome ?_ | refine iR_oNone ?_ | refine iR_lRg2 ?_ | refine iR_eqi ?_ | refine iR_nei ?_ | refine iR_eqs ?_ | refine iR_nes ?_ | refine iR_eqb ?_ | refine iR_neb ?_) | ((with_reducible first | refine eR_getV ?_ | refine eR_getCv ?_ | refine eR_ownL ?_ | refine eR_cOwn ?_ | refine eR_readO ?_ | refine eS_frz ?_ | refine eR_cellO ?_ | refine eR_of (r := gT _ _ _ _) ?_ | refine eR_of (r := gN _ _ _) ?_ | refine eR_of (r := dAddA _ _) ?_ | refine eR_of (r := dSub _ _) ?_ | refine eR_of (r := dLt _ _) ?_ | refine eR_of (r := dLe _ _) ?_ | refine eR_of (r := dGt _ _) ?_ | refine eR_of (r := dGe _ _) ?_ | refine eR_of (r := dIsN _ _) ?_ | refine eR_of (r := dNotN _ _) ?_ | refine eR_of (r := dIx _ _) ?_ | refine eR_of (r := dNeg _) ?_ | refine eR_of (r := dLen _) ?_ | refine eR_of (r := dList _) ?_ | refine eR_of (r := dTuple _) ?_ | refine eR_of (r := dRev _) ?_ | refine eR_of (r := dInt1 _) ?_ | refine eR_of (r := boolR _) ?_ | refine eR_of (r := intR _) ?_ | refine eR_of (r := itemsR _) ?_ | refine eR_of (r := truD _) ?_ | refine eR_of (r := dMax2 _) ?_ | refine eR_of (r := dMin2 _) ?_ | refine eR_of (r := slD _ _ _) ?_ | refine eR_of (r := mkT _) ?_ | refine eR_of (r := mkL _) ?_ | refine eR_of (r := endR _ _ _ _) ?_ | refine eR_of (r := lRg _ _) ?_ | refine eR_of (r := optB _) ?_ | refine eR_of (r := optR _) ?_); refine ⟨_, rfl, ?_⟩) | ((with_reducible first | refine eR_getCo ?_ | refine eS_frz' ?_); refine ⟨_, rfl, ?_⟩) | ((with_reducible first | refine iR_rng1 ?hh_ ?_ | refine iR_rng2 ?hh_ ?_ | refine iR_dMul ?hh_ ?_ | refine iR_dDiv ?hh_ ?_ | refine iR_dMod ?hh_ ?_ | refine iR_dPow ?hh_ ?_ | refine iR_dAddl ?hh_ ?_ | refine iR_dAdds ?hh_ ?_ | refine iR_dCat ?hh_ ?_ | refine iR_app ?hh_ ?_); (case hh_ => first | omega | decide)) | ((with_reducible first | refine iR_isi_t ?hh_ ?_ | refine if_ct ?hh_ ?_); (case hh_ => exact rfl)) | ((with_reducible first | refine iR_isi_f ?hh_ ?_ | refine if_cf ?hh_ ?_); (case hh_ => exact rfl)) | ((with_reducible refine iR_guard ?hh_ ?_); (case hh_ => first | decide | omega)) | (with_reducible refine iR_okk ?_) | ((with_reducible refine And.intro ?hh_ ?_); (case hh_ => first | decide | exact List.nodup_singleton _ | exact rfl | (simp only [List.length_cons, List.length_nil]; decide) | (intro z; cases z) | omega | (intro _; rfl)))); try dsimp only [List.set_cons_zero, List.set_cons_succ, ownIx, wipeE, restore, List.nil_append, List.cons_append])
        refine DL.ifb (fun h => ?_) (fun h => ?_)
        · repeat ((first | (with_reducible first | refine iR_yesT ?_ | refine iR_lcNil ?_ | refine iR_lcCons ?_ | refine if_t ?_ | refine if_f ?_ | refine iS_seq ?_ | refine iS_set ?_ | refine iS_own ?_ | refine iS_drop ?_ | refine iS_ret ?_ | refine iS_retF ?_ | refine iS_next ?_ | refine iS_if ?_ | refine iS_asg ?_ | refine iS_for0 ?_ | refine iR_ap1 ?_ | refine iR_ap2 ?_ | refine iR_ap2N ?_ | refine iR_apA ?_ | refine iR_kst ?_ | refine iR_aNil ?_ | refine iR_aCons ?_ | refine iR_asB ?_ | refine iR_truR ?_ | refine iR_andT ?_ | refine iR_orT ?_ | refine iR_notT ?_ | refine iR_andV ?_ | refine iR_orV ?_ | refine iR_notV ?_ | refine iR_ifE ?_ | refine iR_asI ?_ | refine iS_sub ?_ | refine iS_retO ?_ | refine iR_mtF ?_ | refine iR_cNil ?_ | refine iR_cVal ?_ | refine iR_call ?_ | refine iR_readV ?_ | refine iR_readN ?_ | refine iR_writeN ?_ | refine iR_writeC ?_ | refine iR_asR1 ?_ | refine iR_asR2 ?_ | refine iR_bind ?_ | refine iR_lc ?_ | refine iR_slN ?_ | refine iR_oSome ?_ | refine iR_oNone ?_ | refine iR_lRg2 ?_ | refine iR_eqi ?_ | refine iR_nei ?_ | refine iR_eqs ?_ | refine iR_nes ?_ | refine iR_eqb ?_ | refine iR_neb ?_) | ((with_reducible first | refine eR_getV ?_ | refine eR_getCv ?_ | refine eR_ownL ?_ | refine eR_cOwn ?_ | refine eR_readO ?_ | refine eS_frz ?_ | refine eR_cellO ?_ | refine eR_of (r := gT _ _ _ _) ?_ | refine eR_of (r := gN _ _ _) ?_ | refine eR_of (r := dAddA _ _) ?_ | refine eR_of (r := dSub _ _) ?_ | refine eR_of (r := dLt _ _) ?_ | refine eR_of (r := dLe _ _) ?_ | refine eR_of (r := dGt _ _) ?_ | refine eR_of (r := dGe _ _) ?_ | refine eR_of (r := dIsN _ _) ?_ | refine eR_of (r := dNotN _ _) ?_ | refine eR_of (r := dIx _ _) ?_ | refine eR_of (r := dNeg _) ?_ | refine eR_of (r := dLen _) ?_ | refine eR_of (r := dList _) ?_ | refine eR_of (r := dTuple _) ?_ | refine eR_of (r := dRev _) ?_ | refine eR_of (r := dInt1 _) ?_ | refine eR_of (r := boolR _) ?_ | refine eR_of (r := intR _) ?_ | refine eR_of (r := itemsR _) ?_ | refine eR_of (r := truD _) ?_ | refine eR_of (r := dMax2 _) ?_ | refine eR_of (r := dMin2 _) ?_ | refine eR_of (r := slD _ _ _) ?_ | refine eR_of (r := mkT _) ?_ | refine eR_of (r := mkL _) ?_ | refine eR_of (r := endR _ _ _ _) ?_ | refine eR_of (r := lRg _ _) ?_ | refine eR_of (r := optB _) ?_ | refine eR_of (r := optR _) ?_); refine ⟨_, rfl, ?_⟩) | ((with_reducible first | refine eR_getCo ?_ | refine eS_frz' ?_); refine ⟨_, rfl, ?_⟩) | ((with_reducible first | refine iR_rng1 ?hh_ ?_ | refine iR_rng2 ?hh_ ?_ | refine iR_dMul ?hh_ ?_ | refine iR_dDiv ?hh_ ?_ | refine iR_dMod ?hh_ ?_ | refine iR_dPow ?hh_ ?_ | refine iR_dAddl ?hh_ ?_ | refine iR_dAdds ?hh_ ?_ | refine iR_dCat ?hh_ ?_ | refine iR_app ?hh_ ?_); (case hh_ => first | omega | decide)) | ((with_reducible first | refine iR_isi_t ?hh_ ?_ | refine if_ct ?hh_ ?_); (case hh_ => exact rfl)) | ((with_reducible first | refine iR_isi_f ?hh_ ?_ | refine if_cf ?hh_ ?_); (case hh_ => exact rfl)) | ((with_reducible refine iR_guard ?hh_ ?_); (case hh_ => first | decide | omega)) | (with_reducible refine iR_okk ?_) | ((with_reducible refine And.intro ?hh_ ?_); (case hh_ => first | decide | exact List.nodup_singleton _ | exact rfl | (simp only [List.length_cons, List.length_nil]; decide) | (intro z; cases z) | omega | (intro _; rfl)))); try dsimp only [List.set_cons_zero, List.set_cons_succ, ownIx, wipeE, restore, List.nil_append, List.cons_append])
          refine iR_ixl (atI_last _ _) ?_
          repeat ((first | (with_reducible first | refine iR_yesT ?_ | refine iR_lcNil ?_ | refine iR_lcCons ?_ | refine if_t ?_ | refine if_f ?_ | refine iS_seq ?_ | refine iS_set ?_ | refine iS_own ?_ | refine iS_drop ?_ | refine iS_ret ?_ | refine iS_retF ?_ | refine iS_next ?_ | refine iS_if ?_ | refine iS_asg ?_ | refine iS_for0 ?_ | refine iR_ap1 ?_ | refine iR_ap2 ?_ | refine iR_ap2N ?_ | refine iR_apA ?_ | refine iR_kst ?_ | refine iR_aNil ?_ | refine iR_aCons ?_ | refine iR_asB ?_ | refine iR_truR ?_ | refine iR_andT ?_ | refine iR_orT ?_ | refine iR_notT ?_ | refine iR_andV ?_ | refine iR_orV ?_ | refine iR_notV ?_ | refine iR_ifE ?_ | refine iR_asI ?_ | refine iS_sub ?_ | refine iS_retO ?_ | refine iR_mtF ?_ | refine iR_cNil ?_ | refine iR_cVal ?_ | refine iR_call ?_ | refine iR_readV ?_ | refine iR_readN ?_ | refine iR_writeN ?_ | refine iR_writeC ?_ | refine iR_asR1 ?_ | refine iR_asR2 ?_ | refine iR_bind ?_ | refine iR_lc ?_ | refine iR_slN ?_ | refine iR_oSome ?_ | refine iR_oNone ?_ | refine iR_lRg2 ?_ | refine iR_eqi ?_ | refine iR_nei ?_ | refine iR_eqs ?_ | refine iR_nes ?_ | refine iR_eqb ?_ | refine iR_neb ?_) | ((with_reducible first | refine eR_getV ?_ | refine eR_getCv ?_ | refine eR_ownL ?_ | refine eR_cOwn ?_ | refine eR_readO ?_ | refine eS_frz ?_ | refine eR_cellO ?_ | refine eR_of (r := gT _ _ _ _) ?_ | refine eR_of (r := gN _ _ _) ?_ | refine eR_of (r := dAddA _ _) ?_ | refine eR_of (r := dSub _ _) ?_ | refine eR_of (r := dLt _ _) ?_ | refine eR_of (r := dLe _ _) ?_ | refine eR_of (r := dGt _ _) ?_ | refine eR_of (r := dGe _ _) ?_ | refine eR_of (r := dIsN _ _) ?_ | refine eR_of (r := dNotN _ _) ?_ | refine eR_of (r := dIx _ _) ?_ | refine eR_of (r := dNeg _) ?_ | refine eR_of (r := dLen _) ?_ | refine eR_of (r := dList _) ?_ | refine eR_of (r := dTuple _) ?_ | refine eR_of (r := dRev _) ?_ | refine eR_of (r := dInt1 _) ?_ | refine eR_of (r := boolR _) ?_ | refine eR_of (r := intR _) ?_ | refine eR_of (r := itemsR _) ?_ | refine eR_of (r := truD _) ?_ | refine eR_of (r := dMax2 _) ?_ | refine eR_of (r := dMin2 _) ?_ | refine eR_of (r := slD _ _ _) ?_ | refine eR_of (r := mkT _) ?_ | refine eR_of (r := mkL _) ?_ | refine eR_of (r := endR _ _ _ _) ?_ | refine eR_of (r := lRg _ _) ?_ | refine eR_of (r := optB _) ?_ | refine eR_of (r := optR _) ?_); refine ⟨_, rfl, ?_⟩) | ((with_reducible first | refine eR_getCo ?_ | refine eS_frz' ?_); refine ⟨_, rfl, ?_⟩) | ((with_reducible first | refine iR_rng1 ?hh_ ?_ | refine iR_rng2 ?hh_ ?_ | refine iR_dMul ?hh_ ?_ | refine iR_dDiv ?hh_ ?_ | refine iR_dMod ?hh_ ?_ | refine iR_dPow ?hh_ ?_ | refine iR_dAddl ?hh_ ?_ | refine iR_dAdds ?hh_ ?_ | refine iR_dCat ?hh_ ?_ | refine iR_app ?hh_ ?_); (case hh_ => first | omega | decide)) | ((with_reducible first | refine iR_isi_t ?hh_ ?_ | refine if_ct ?hh_ ?_); (case hh_ => exact rfl)) | ((with_reducible first | refine iR_isi_f ?hh_ ?_ | refine if_cf ?hh_ ?_); (case hh_ => exact rfl)) | ((with_reducible refine iR_guard ?hh_ ?_); (case hh_ => first | decide | omega)) | (with_reducible refine iR_okk ?_) | ((with_reducible refine And.intro ?hh_ ?_); (case hh_ => first | decide | exact List.nodup_singleton _ | exact rfl | (simp only [List.length_cons, List.length_nil]; decide) | (intro z; cases z) | omega | (intro _; rfl)))); try dsimp only [List.set_cons_zero, List.set_cons_succ, ownIx, wipeE, restore, List.nil_append, List.cons_append])
          refine iR_opt ixN_last ?_
          repeat ((first | (with_reducible first | refine iR_yesT ?_ | refine iR_lcNil ?_ | refine iR_lcCons ?_ | refine if_t ?_ | refine if_f ?_ | refine iS_seq ?_ | refine iS_set ?_ | refine iS_own ?_ | refine iS_drop ?_ | refine iS_ret ?_ | refine iS_retF ?_ | refine iS_next ?_ | refine iS_if ?_ | refine iS_asg ?_ | refine iS_for0 ?_ | refine iR_ap1 ?_ | refine iR_ap2 ?_ | refine iR_ap2N ?_ | refine iR_apA ?_ | refine iR_kst ?_ | refine iR_aNil ?_ | refine iR_aCons ?_ | refine iR_asB ?_ | refine iR_truR ?_ | refine iR_andT ?_ | refine iR_orT ?_ | refine iR_notT ?_ | refine iR_andV ?_ | refine iR_orV ?_ | refine iR_notV ?_ | refine iR_ifE ?_ | refine iR_asI ?_ | refine iS_sub ?_ | refine iS_retO ?_ | refine iR_mtF ?_ | refine iR_cNil ?_ | refine iR_cVal ?_ | refine iR_call ?_ | refine iR_readV ?_ | refine iR_readN ?_ | refine iR_writeN ?_ | refine iR_writeC ?_ | refine iR_asR1 ?_ | refine iR_asR2 ?_ | refine iR_bind ?_ | refine iR_lc ?_ | refine iR_slN ?_ | refine iR_oSome ?_ | refine iR_oNone ?_ | refine iR_lRg2 ?_ | refine iR_eqi ?_ | refine iR_nei ?_ | refine iR_eqs ?_ | refine iR_nes ?_ | refine iR_eqb ?_ | refine iR_neb ?_) | ((with_reducible first | refine eR_getV ?_ | refine eR_getCv ?_ | refine eR_ownL ?_ | refine eR_cOwn ?_ | refine eR_readO ?_ | refine eS_frz ?_ | refine eR_cellO ?_ | refine eR_of (r := gT _ _ _ _) ?_ | refine eR_of (r := gN _ _ _) ?_ | refine eR_of (r := dAddA _ _) ?_ | refine eR_of (r := dSub _ _) ?_ | refine eR_of (r := dLt _ _) ?_ | refine eR_of (r := dLe _ _) ?_ | refine eR_of (r := dGt _ _) ?_ | refine eR_of (r := dGe _ _) ?_ | refine eR_of (r := dIsN _ _) ?_ | refine eR_of (r := dNotN _ _) ?_ | refine eR_of (r := dIx _ _) ?_ | refine eR_of (r := dNeg _) ?_ | refine eR_of (r := dLen _) ?_ | refine eR_of (r := dList _) ?_ | refine eR_of (r := dTuple _) ?_ | refine eR_of (r := dRev _) ?_ | refine eR_of (r := dInt1 _) ?_ | refine eR_of (r := boolR _) ?_ | refine eR_of (r := intR _) ?_ | refine eR_of (r := itemsR _) ?_ | refine eR_of (r := truD _) ?_ | refine eR_of (r := dMax2 _) ?_ | refine eR_of (r := dMin2 _) ?_ | refine eR_of (r := slD _ _ _) ?_ | refine eR_of (r := mkT _) ?_ | refine eR_of (r := mkL _) ?_ | refine eR_of (r := endR _ _ _ _) ?_ | refine eR_of (r := lRg _ _) ?_ | refine eR_of (r := optB _) ?_ | refine eR_of (r := optR _) ?_); refine ⟨_, rfl, ?_⟩) | ((with_reducible first | refine eR_getCo ?_ | refine eS_frz' ?_); refine ⟨_, rfl, ?_⟩) | ((with_reducible first | refine iR_rng1 ?hh_ ?_ | refine iR_rng2 ?hh_ ?_ | refine iR_dMul ?hh_ ?_ | refine iR_dDiv ?hh_ ?_ | refine iR_dMod ?hh_ ?_ | refine iR_dPow ?hh_ ?_ | refine iR_dAddl ?hh_ ?_ | refine iR_dAdds ?hh_ ?_ | refine iR_dCat ?hh_ ?_ | refine iR_app ?hh_ ?_); (case hh_ => first | omega | decide)) | ((with_reducible first | refine iR_isi_t ?hh_ ?_ | refine if_ct ?hh_ ?_); (case hh_ => exact rfl)) | ((with_reducible first | refine iR_isi_f ?hh_ ?_ | refine if_cf ?hh_ ?_); (case hh_ => exact rfl)) | ((with_reducible refine iR_guard ?hh_ ?_); (case hh_ => first | decide | omega)) | (with_reducible refine iR_okk ?_) | ((with_reducible refine And.intro ?hh_ ?_); (case hh_ => first | decide | exact List.nodup_singleton _ | exact rfl | (simp only [List.length_cons, List.length_nil]; decide) | (intro z; cases z) | omega | (intro _; rfl)))); try dsimp only [List.set_cons_zero, List.set_cons_succ, ownIx, wipeE, restore, List.nil_append, List.cons_append])
          rw [set_last]
          rw [if_pos (by simpa using h)] at hq
          exact ⟨A ++ [(q.1, p.2)], qs, _, _, rfl, hq, by simp at hn ⊢; omega, by rw [List.map_append]; rfl⟩
        · repeat ((first | (with_reducible first | refine iR_yesT ?_ | refine iR_lcNil ?_ | refine iR_lcCons ?_ | refine if_t ?_ | refine if_f ?_ | refine iS_seq ?_ | refine iS_set ?_ | refine iS_own ?_ | refine iS_drop ?_ | refine iS_ret ?_ | refine iS_retF ?_ | refine iS_next ?_ | refine iS_if ?_ | refine iS_asg ?_ | refine iS_for0 ?_ | refine iR_ap1 ?_ | refine iR_ap2 ?_ | refine iR_ap2N ?_ | refine iR_apA ?_ | refine iR_kst ?_ | refine iR_aNil ?_ | refine iR_aCons ?_ | refine iR_asB ?_ | refine iR_truR ?_ | refine iR_andT ?_ | refine iR_orT ?_ | refine iR_notT ?_ | refine iR_andV ?_ | refine iR_orV ?_ | refine iR_notV ?_ | refine iR_ifE ?_ | refine iR_asI ?_ | refine iS_sub ?_ | refine iS_retO ?_ | refine iR_mtF ?_ | refine iR_cNil ?_ | refine iR_cVal ?_ | refine iR_call ?_ | refine iR_readV ?_ | refine iR_readN ?_ | refine iR_writeN ?_ | refine iR_writeC ?_ | refine iR_asR1 ?_ | refine iR_asR2 ?_ | refine iR_bind ?_ | refine iR_lc ?_ | refine iR_slN ?_ | refine iR_oSome ?_ | refine iR_oNone ?_ | refine iR_lRg2 ?_ | refine iR_eqi ?_ | refine iR_nei ?_ | refine iR_eqs ?_ | refine iR_nes ?_ | refine iR_eqb ?_ | refine iR_neb ?_) | ((with_reducible first | refine eR_getV ?_ | refine eR_getCv ?_ | refine eR_ownL ?_ | refine eR_cOwn ?_ | refine eR_readO ?_ | refine eS_frz ?_ | refine eR_cellO ?_ | refine eR_of (r := gT _ _ _ _) ?_ | refine eR_of (r := gN _ _ _) ?_ | refine eR_of (r := dAddA _ _) ?_ | refine eR_of (r := dSub _ _) ?_ | refine eR_of (r := dLt _ _) ?_ | refine eR_of (r := dLe _ _) ?_ | refine eR_of (r := dGt _ _) ?_ | refine eR_of (r := dGe _ _) ?_ | refine eR_of (r := dIsN _ _) ?_ | refine eR_of (r := dNotN _ _) ?_ | refine eR_of (r := dIx _ _) ?_ | refine eR_of (r := dNeg _) ?_ | refine eR_of (r := dLen _) ?_ | refine eR_of (r := dList _) ?_ | refine eR_of (r := dTuple _) ?_ | refine eR_of (r := dRev _) ?_ | refine eR_of (r := dInt1 _) ?_ | refine eR_of (r := boolR _) ?_ | refine eR_of (r := intR _) ?_ | refine eR_of (r := itemsR _) ?_ | refine eR_of (r := truD _) ?_ | refine eR_of (r := dMax2 _) ?_ | refine eR_of (r := dMin2 _) ?_ | refine eR_of (r := slD _ _ _) ?_ | refine eR_of (r := mkT _) ?_ | refine eR_of (r := mkL _) ?_ | refine eR_of (r := endR _ _ _ _) ?_ | refine eR_of (r := lRg _ _) ?_ | refine eR_of (r := optB _) ?_ | refine eR_of (r := optR _) ?_); refine ⟨_, rfl, ?_⟩) | ((with_reducible first | refine eR_getCo ?_ | refine eS_frz' ?_); refine ⟨_, rfl, ?_⟩) | ((with_reducible first | refine iR_rng1 ?hh_ ?_ | refine iR_rng2 ?hh_ ?_ | refine iR_dMul ?hh_ ?_ | refine iR_dDiv ?hh_ ?_ | refine iR_dMod ?hh_ ?_ | refine iR_dPow ?hh_ ?_ | refine iR_dAddl ?hh_ ?_ | refine iR_dAdds ?hh_ ?_ | refine iR_dCat ?hh_ ?_ | refine iR_app ?hh_ ?_); (case hh_ => first | omega | decide)) | ((with_reducible first | refine iR_isi_t ?hh_ ?_ | refine if_ct ?hh_ ?_); (case hh_ => exact rfl)) | ((with_reducible first | refine iR_isi_f ?hh_ ?_ | refine if_cf ?hh_ ?_); (case hh_ => exact rfl)) | ((with_reducible refine iR_guard ?hh_ ?_); (case hh_ => first | decide | omega)) | (with_reducible refine iR_okk ?_) | ((with_reducible refine And.intro ?hh_ ?_); (case hh_ => first | decide | exact List.nodup_singleton _ | exact rfl | (simp only [List.length_cons, List.length_nil]; decide) | (intro z; cases z) | omega | (intro _; rfl)))); try dsimp only [List.set_cons_zero, List.set_cons_succ, ownIx, wipeE, restore, List.nil_append, List.cons_append])
          refine iR_app (by simp at hn ⊢; omega) ?_
          repeat ((first | (with_reducible first | refine iR_yesT ?_ | refine iR_lcNil ?_ | refine iR_lcCons ?_ | refine if_t ?_ | refine if_f ?_ | refine iS_seq ?_ | refine iS_set ?_ | refine iS_own ?_ | refine iS_drop ?_ | refine iS_ret ?_ | refine iS_retF ?_ | refine iS_next ?_ | refine iS_if ?_ | refine iS_asg ?_ | refine iS_for0 ?_ | refine iR_ap1 ?_ | refine iR_ap2 ?_ | refine iR_ap2N ?_ | refine iR_apA ?_ | refine iR_kst ?_ | refine iR_aNil ?_ | refine iR_aCons ?_ | refine iR_asB ?_ | refine iR_truR ?_ | refine iR_andT ?_ | refine iR_orT ?_ | refine iR_notT ?_ | refine iR_andV ?_ | refine iR_orV ?_ | refine iR_notV ?_ | refine iR_ifE ?_ | refine iR_asI ?_ | refine iS_sub ?_ | refine iS_retO ?_ | refine iR_mtF ?_ | refine iR_cNil ?_ | refine iR_cVal ?_ | refine iR_call ?_ | refine iR_readV ?_ | refine iR_readN ?_ | refine iR_writeN ?_ | refine iR_writeC ?_ | refine iR_asR1 ?_ | refine iR_asR2 ?_ | refine iR_bind ?_ | refine iR_lc ?_ | refine iR_slN ?_ | refine iR_oSome ?_ | refine iR_oNone ?_ | refine iR_lRg2 ?_ | refine iR_eqi ?_ | refine iR_nei ?_ | refine iR_eqs ?_ | refine iR_nes ?_ | refine iR_eqb ?_ | refine iR_neb ?_) | ((with_reducible first | refine eR_getV ?_ | refine eR_getCv ?_ | refine eR_ownL ?_ | refine eR_cOwn ?_ | refine eR_readO ?_ | refine eS_frz ?_ | refine eR_cellO ?_ | refine eR_of (r := gT _ _ _ _) ?_ | refine eR_of (r := gN _ _ _) ?_ | refine eR_of (r := dAddA _ _) ?_ | refine eR_of (r := dSub _ _) ?_ | refine eR_of (r := dLt _ _) ?_ | refine eR_of (r := dLe _ _) ?_ | refine eR_of (r := dGt _ _) ?_ | refine eR_of (r := dGe _ _) ?_ | refine eR_of (r := dIsN _ _) ?_ | refine eR_of (r := dNotN _ _) ?_ | refine eR_of (r := dIx _ _) ?_ | refine eR_of (r := dNeg _) ?_ | refine eR_of (r := dLen _) ?_ | refine eR_of (r := dList _) ?_ | refine eR_of (r := dTuple _) ?_ | refine eR_of (r := dRev _) ?_ | refine eR_of (r := dInt1 _) ?_ | refine eR_of (r := boolR _) ?_ | refine eR_of (r := intR _) ?_ | refine eR_of (r := itemsR _) ?_ | refine eR_of (r := truD _) ?_ | refine eR_of (r := dMax2 _) ?_ | refine eR_of (r := dMin2 _) ?_ | refine eR_of (r := slD _ _ _) ?_ | refine eR_of (r := mkT _) ?_ | refine eR_of (r := mkL _) ?_ | refine eR_of (r := endR _ _ _ _) ?_ | refine eR_of (r := lRg _ _) ?_ | refine eR_of (r := optB _) ?_ | refine eR_of (r := optR _) ?_); refine ⟨_, rfl, ?_⟩) | ((with_reducible first | refine eR_getCo ?_ | refine eS_frz' ?_); refine ⟨_, rfl, ?_⟩) | ((with_reducible first | refine iR_rng1 ?hh_ ?_ | refine iR_rng2 ?hh_ ?_ | refine iR_dMul ?hh_ ?_ | refine iR_dDiv ?hh_ ?_ | refine iR_dMod ?hh_ ?_ | refine iR_dPow ?hh_ ?_ | refine iR_dAddl ?hh_ ?_ | refine iR_dAdds ?hh_ ?_ | refine iR_dCat ?hh_ ?_ | refine iR_app ?hh_ ?_); (case hh_ => first | omega | decide)) | ((with_reducible first | refine iR_isi_t ?hh_ ?_ | refine if_ct ?hh_ ?_); (case hh_ => exact rfl)) | ((with_reducible first | refine iR_isi_f ?hh_ ?_ | refine if_cf ?hh_ ?_); (case hh_ => exact rfl)) | ((with_reducible refine iR_guard ?hh_ ?_); (case hh_ => first | decide | omega)) | (with_reducible refine iR_okk ?_) | ((with_reducible refine And.intro ?hh_ ?_); (case hh_ => first | decide | exact List.nodup_singleton _ | exact rfl | (simp only [List.length_cons, List.length_nil]; decide) | (intro z; cases z) | omega | (intro _; rfl)))); try dsimp only [List.set_cons_zero, List.set_cons_succ, ownIx, wipeE, restore, List.nil_append, List.cons_append])
          rw [if_neg (by simpa using h)] at hq
          exact ⟨A ++ [q] ++ [p], qs, _, _, rfl, hq, by simp at hn ⊢; omega, by rw [List.map_append, List.map_append]; rfl⟩
  · rintro e ⟨acc, qs, x, y, hr, hq, hn, rfl⟩
    cases qs with
    | cons p ps => cases hr
    | nil =>
      repeat ((first | (with_reducible first | refine iR_yesT ?_ | refine iR_lcNil ?_ | refine iR_lcCons ?_ | refine if_t ?_ | refine if_f ?_ | refine iS_seq ?_ | refine iS_set ?_ | refine iS_own ?_ | refine iS_drop ?_ | refine iS_ret ?_ | refine iS_retF ?_ | refine iS_next ?_ | refine iS_if ?_ | refine iS_asg ?_ | refine iS_for0 ?_ | refine iR_ap1 ?_ | refine iR_ap2 ?_ | refine iR_ap2N ?_ | refine iR_apA ?_ | refine iR_kst ?_ | refine iR_aNil ?_ | refine iR_aCons ?_ | refine iR_asB ?_ | refine iR_truR ?_ | refine iR_andT ?_ | refine iR_orT ?_ | refine iR_notT ?_ | refine iR_andV ?_ | refine iR_orV ?_ | refine iR_notV ?_ | refine iR_ifE ?_ | refine iR_asI ?_ | refine iS_sub ?_ | refine iS_retO ?_ | refine iR_mtF ?_ | refine iR_cNil ?_ | refine iR_cVal ?_ | refine iR_call ?_ | refine iR_readV ?_ | refine iR_readN ?_ | refine iR_writeN ?_ | refine iR_writeC ?_ | refine iR_asR1 ?_ | refine iR_asR2 ?_ | refine iR_bind ?_ | refine iR_lc ?_ | refine iR_slN ?_ | refine iR_oSome ?_ | refine iR_oNone ?_ | refine iR_lRg2 ?_ | refine iR_eqi ?_ | refine iR_nei ?_ | refine iR_eqs ?_ | refine iR_nes ?_ | refine iR_eqb ?_ | refine iR_neb ?_) | ((with_reducible first | refine eR_getV ?_ | refine eR_getCv ?_ | refine eR_ownL ?_ | refine eR_cOwn ?_ | refine eR_readO ?_ | refine eS_frz ?_ | refine eR_cellO ?_ | refine eR_of (r := gT _ _ _ _) ?_ | refine eR_of (r := gN _ _ _) ?_ | refine eR_of (r := dAddA _ _) ?_ | refine eR_of (r := dSub _ _) ?_ | refine eR_of (r := dLt _ _) ?_ | refine eR_of (r := dLe _ _) ?_ | refine eR_of (r := dGt _ _) ?_ | refine eR_of (r := dGe _ _) ?_ | refine eR_of (r := dIsN _ _) ?_ | refine eR_of (r := dNotN _ _) ?_ | refine eR_of (r := dIx _ _) ?_ | refine eR_of (r := dNeg _) ?_ | refine eR_of (r := dLen _) ?_ | refine eR_of (r := dList _) ?_ | refine eR_of (r := dTuple _) ?_ | refine eR_of (r := dRev _) ?_ | refine eR_of (r := dInt1 _) ?_ | refine eR_of (r := boolR _) ?_ | refine eR_of (r := intR _) ?_ | refine eR_of (r := itemsR _) ?_ | refine eR_of (r := truD _) ?_ | refine eR_of (r := dMax2 _) ?_ | refine eR_of (r := dMin2 _) ?_ | refine eR_of (r := slD _ _ _) ?_ | refine eR_of (r := mkT _) ?_ | refine eR_of (r := mkL _) ?_ | refine eR_of (r := endR _ _ _ _) ?_ | refine eR_of (r := lRg _ _) ?_ | refine eR_of (r := optB _) ?_ | refine eR_of (r := optR _) ?_); refine ⟨_, rfl, ?_⟩) | ((with_reducible first | refine eR_getCo ?_ | refine eS_frz' ?_); refine ⟨_, rfl, ?_⟩) | ((with_reducible first | refine iR_rng1 ?hh_ ?_ | refine iR_rng2 ?hh_ ?_ | refine iR_dMul ?hh_ ?_ | refine iR_dDiv ?hh_ ?_ | refine iR_dMod ?hh_ ?_ | refine iR_dPow ?hh_ ?_ | refine iR_dAddl ?hh_ ?_ | refine iR_dAdds ?hh_ ?_ | refine iR_dCat ?hh_ ?_ | refine iR_app ?hh_ ?_); (case hh_ => first | omega | decide)) | ((with_reducible first | refine iR_isi_t ?hh_ ?_ | refine if_ct ?hh_ ?_); (case hh_ => exact rfl)) | ((with_reducible first | refine iR_isi_f ?hh_ ?_ | refine if_cf ?hh_ ?_); (case hh_ => exact rfl)) | ((with_reducible refine iR_guard ?hh_ ?_); (case hh_ => first | decide | omega)) | (with_reducible refine iR_okk ?_) | ((with_reducible refine And.intro ?hh_ ?_); (case hh_ => first | decide | exact List.nodup_singleton _ | exact rfl | (simp only [List.length_cons, List.length_nil]; decide) | (intro z; cases z) | omega | (intro _; rfl)))); try dsimp only [List.set_cons_zero, List.set_cons_succ, ownIx, wipeE, restore, List.nil_append, List.cons_append])
      rw [hq]
      rfl
end D51
namespace D51
open PySem PySem.Spec L2 DL
theorem sort2_of {x y u v : Int} (hp0 : [x, y].Perm [u, v]) (h : u ≤ v) : ([x, y].mergeSort fun a b => decide (a ≤ b)) = [u, v] := by
  have hp : ([x, y].mergeSort fun a b => decide (a ≤ b)).Perm [u, v] := (List.mergeSort_perm _ _).trans hp0
  have hs := List.pairwise_mergeSort (le := fun (a b : Int) => decide (a ≤ b)) (fun a b c h1 h2 => by simp at *; omega) (fun a b => by simp; omega) [x, y]
  refine hp.eq_of_pairwise (le := fun (a b : Int) => decide (a ≤ b) = true) ?_ hs ?_
  · intro a b _ _ h1 h2; simp at h1 h2; omega
  · simp [h]
theorem sort2 (x y : Int) : ([x, y].mergeSort fun a b => decide (a ≤ b)) = [min x y, max x y] := by
  by_cases h : x ≤ y
  · rw [Int.min_eq_left h, Int.max_eq_right h]; exact sort2_of (List.Perm.refl _) h
  · have h : y ≤ x := by omega
    rw [Int.min_eq_right h, Int.max_eq_left h]; exact sort2_of (List.Perm.swap _ _ _) h
theorem bounds_ok {a b i j : Int} (hi : -(2 ^ 64) < i ∧ i < 2 ^ 64) (hj : -(2 ^ 64) < j ∧ j < 2 ^ 64) : RBounds [.tuple [.int a, .int b], .tuple [.int i, .int j]] = .ok false (.tuple [.int (min (a * i + b) (a * j + b)), .int (max (a * i + b) (a * j + b))]) [] := by
  refine runF_eq (G := GBounds) ?_
  unfold GBounds
  dsimp only [DL.env0, DL.cells, DL.cellOf_t, DL.cellOf_f, List.length_cons, List.length_nil, Nat.reduceAdd, Nat.reduceSub, List.replicate, List.cons_append, List.nil_append]
  repeat ((first | (with_reducible first | refine iR_yesT ?_ | refine iR_lcNil ?_ | refine iR_lcCons ?_ | refine if_t ?_ | refine if_f ?_ | refine iS_seq ?_ | refine iS_set ?_ | refine iS_own ?_ | refine iS_drop ?_ | refine iS_ret ?_ | refine iS_retF ?_ | refine iS_next ?_ | refine iS_if ?_ | refine iS_asg ?_ | refine iS_for0 ?_ | refine iR_ap1 ?_ | refine iR_ap2 ?_ | refine iR_ap2N ?_ | refine iR_apA ?_ | refine iR_kst ?_ | refine iR_aNil ?_ | refine iR_aCons ?_ | refine iR_asB ?_ | refine iR_truR ?_ | refine iR_andT ?_ | refine iR_orT ?_ | refine iR_notT ?_ | refine iR_andV ?_ | refine iR_orV ?_ | refine iR_notV ?_ | refine iR_ifE ?_ | refine iR_asI ?_ | refine iS_sub ?_ | refine iS_retO ?_ | refine iR_mtF ?_ | refine iR_cNil ?_ | refine iR_cVal ?_ | refine iR_call ?_ | refine iR_readV ?_ | refine iR_readN ?_ | refine iR_writeN ?_ | refine iR_writeC ?_ | refine iR_asR1 ?_ | refine iR_asR2 ?_ | refine iR_bind ?_ | refine iR_lc ?_ | refine iR_slN ?_ | refine iR_oSome ?_ | refine iR_oNone ?_ | refine iR_lRg2 ?_ | refine iR_eqi ?_ | refine iR_nei ?_ | refine iR_eqs ?_ | refine iR_nes ?_ | refine iR_eqb ?_ | refine iR_neb ?_) | ((with_reducible first | refine eR_getV ?_ | refine eR_getCv ?_ | refine eR_ownL ?_ | refine eR_cOwn ?_ | refine eR_readO ?_ | refine eS_frz ?_ | refine eR_cellO ?_ | refine eR_of (r := gT _ _ _ _) ?_ | refine eR_of (r := gN _ _ _) ?_ | refine eR_of (r := dAddA _ _) ?_ | refine eR_of (r := dSub _ _) ?_ | refine eR_of (r := dLt _ _) ?_ | refine eR_of (r := dLe _ _) ?_ | refine eR_of (r := dGt _ _) ?_ | refine eR_of (r := dGe _ _) ?_ | refine eR_of (r := dIsN _ _) ?_ | refine eR_of (r := dNotN _ _) ?_ | refine eR_of (r := dIx _ _) ?_ | refine eR_of (r := dNeg _) ?_ | refine eR_of (r := dLen _) ?_ | refine eR_of (r := dList _) ?_ | refine eR_of (r := dTuple _) ?_ | refine eR_of (r := dRev _) ?_ | refine eR_of (r := dInt1 _) ?_ | refine eR_of (r := boolR _) ?_ | refine eR_of (r := intR _) ?_ | refine eR_of (r := itemsR _) ?_ | refine eR_of (r := truD _) ?_ | refine eR_of (r := dMax2 _) ?_ | refine eR_of (r := dMin2 _) ?_ | refine eR_of (r := slD _ _ _) ?_ | refine eR_of (r := mkT _) ?_ | refine eR_of (r := mkL _) ?_ | refine eR_of (r := endR _ _ _ _) ?_ | refine eR_of (r := lRg _ _) ?_ | refine eR_of (r := optB _) ?_ | refine eR_of (r := optR _) ?_); refine ⟨_, rfl, ?_⟩) | ((with_reducible first | refine eR_getCo ?_ | refine eS_frz' ?_); refine ⟨_, rfl, ?_⟩) | ((with_reducible first | refine iR_rng1 ?hh_ ?_ | refine iR_rng2 ?hh_ ?_ | refine iR_dMul ?hh_ ?_ | refine iR_dDiv ?hh_ ?_ | refine iR_dMod ?hh_ ?_ | refine iR_dPow ?hh_ ?_ | refine iR_dAddl ?hh_ ?_ | refine iR_dAdds ?hh_ ?_ | refine iR_dCat ?hh_ ?_ | refine iR_app ?hh_ ?_); (case hh_ => first | omega | decide)) | ((with_reducible first | refine iR_isi_t ?hh_ ?_ | refine if_ct ?hh_ ?_); (case hh_ => exact rfl)) | ((with_reducible first | refine iR_isi_f ?hh_ ?_ | refine if_cf ?hh_ ?_); (case hh_ => exact rfl)) | ((with_reducible refine iR_guard ?hh_ ?_); (case hh_ => first | decide | omega)) | (with_reducible refine iR_okk ?_) | ((with_reducible refine And.intro ?hh_ ?_); (case hh_ => first | decide | exact List.nodup_singleton _ | exact rfl | (simp only [List.length_cons, List.length_nil]; decide) | (intro z; cases z) | omega | (intro _; rfl)))); try dsimp only [List.set_cons_zero, List.set_cons_succ, ownIx, wipeE, restore, List.nil_append, List.cons_append])
  refine iD_of (valueAt_ok (Or.inr hi)) ?_
  repeat ((first | (with_reducible first | refine iR_yesT ?_ | refine iR_lcNil ?_ | refine iR_lcCons ?_ | refine if_t ?_ | refine if_f ?_ | refine iS_seq ?_ | refine iS_set ?_ | refine iS_own ?_ | refine iS_drop ?_ | refine iS_ret ?_ | refine iS_retF ?_ | refine iS_next ?_ | refine iS_if ?_ | refine iS_asg ?_ | refine iS_for0 ?_ | refine iR_ap1 ?_ | refine iR_ap2 ?_ | refine iR_ap2N ?_ | refine iR_apA ?_ | refine iR_kst ?_ | refine iR_aNil ?_ | refine iR_aCons ?_ | refine iR_asB ?_ | refine iR_truR ?_ | refine iR_andT ?_ | refine iR_orT ?_ | refine iR_notT ?_ | refine iR_andV ?_ | refine iR_orV ?_ | refine iR_notV ?_ | refine iR_ifE ?_ | refine iR_asI ?_ | refine iS_sub ?_ | refine iS_retO ?_ | refine iR_mtF ?_ | refine iR_cNil ?_ | refine iR_cVal ?_ | refine iR_call ?_ | refine iR_readV ?_ | refine iR_readN ?_ | refine iR_writeN ?_ | refine iR_writeC ?_ | refine iR_asR1 ?_ | refine iR_asR2 ?_ | refine iR_bind ?_ | refine iR_lc ?_ | refine iR_slN ?_ | refine iR_oSome ?_ | refine iR_oNone ?_ | refine iR_lRg2 ?_ | refine iR_eqi ?_ | refine iR_nei ?_ | refine iR_eqs ?_ | refine iR_nes ?_ | refine iR_eqb ?_ | refine iR_neb ?_) | ((with_reducible first | refine eR_getV ?_ | refine eR_getCv ?_ | refine eR_ownL ?_ | refine eR_cOwn ?_ | refine eR_readO ?_ | refine eS_frz ?_ | refine eR_cellO ?_ | refine eR_of (r := gT _ _ _ _) ?_ | refine eR_of (r := gN _ _ _) ?_ | refine eR_of (r := dAddA _ _) ?_ | refine eR_of (r := dSub _ _) ?_ | refine eR_of (r := dLt _ _) ?_ | refine eR_of (r := dLe _ _) ?_ | refine eR_of (r := dGt _ _) ?_ | refine eR_of (r := dGe _ _) ?_ | refine eR_of (r := dIsN _ _) ?_ | refine eR_of (r := dNotN _ _) ?_ | refine eR_of (r := dIx _ _) ?_ | refine eR_of (r := dNeg _) ?_ | refine eR_of (r := dLen _) ?_ | refine eR_of (r := dList _) ?_ | refine eR_of (r := dTuple _) ?_ | refine eR_of (r := dRev _) ?_ | refine eR_of (r := dInt1 _) ?_ | refine eR_of (r := boolR _) ?_ | refine eR_of (r := intR _) ?_ | refine eR_of (r := itemsR _) ?_ | refine eR_of (r := truD _) ?_ | refine eR_of (r := dMax2 _) ?_ | refine eR_of (r := dMin2 _) ?_ | refine eR_of (r := slD _ _ _) ?_ | refine eR_of (r := mkT _) ?_ | refine eR_of (r := mkL _) ?_ | refine eR_of (r := endR _ _ _ _) ?_ | refine eR_of (r := lRg _ _) ?_ | refine eR_of (r := optB _) ?_ | refine eR_of (r := optR _) ?_); refine ⟨_, rfl, ?_⟩) | ((with_reducible first | refine eR_getCo ?_ | refine eS_frz' ?_); refine ⟨_, rfl, ?_⟩) | ((with_reducible first | refine iR_rng1 ?hh_ ?_ | refine iR_rng2 ?hh_ ?_ | refine iR_dMul ?hh_ ?_ | refine iR_dDiv ?hh_ ?_ | refine iR_dMod ?hh_ ?_ | refine iR_dPow ?hh_ ?_ | refine iR_dAddl ?hh_ ?_ | refine iR_dAdds ?hh_ ?_ | refine iR_dCat ?hh_ ?_ | refine iR_app ?hh_ ?_); (case hh_ => first | omega | decide)) | ((with_reducible first | refine iR_isi_t ?hh_ ?_ | refine if_ct ?hh_ ?_); (case hh_ => exact rfl)) | ((with_reducible first | refine iR_isi_f ?hh_ ?_ | refine if_cf ?hh_ ?_); (case hh_ => exact rfl)) | ((with_reducible refine iR_guard ?hh_ ?_); (case hh_ => first | decide | omega)) | (with_reducible refine iR_okk ?_) | ((with_reducible refine And.intro ?hh_ ?_); (case hh_ => first | decide | exact List.nodup_singleton _ | exact rfl | (simp only [List.length_cons, List.length_nil]; decide) | (intro z; cases z) | omega | (intro _; rfl)))); try dsimp only [List.set_cons_zero, List.set_cons_succ, ownIx, wipeE, restore, List.nil_append, List.cons_append])
  refine iD_of (valueAt_ok (Or.inr hj)) ?_
  repeat ((first | (with_reducible first | refine iR_yesT ?_ | refine iR_lcNil ?_ | refine iR_lcCons ?_ | refine if_t ?_ | refine if_f ?_ | refine iS_seq ?_ | refine iS_set ?_ | refine iS_own ?_ | refine iS_drop ?_ | refine iS_ret ?_ | refine iS_retF ?_ | refine iS_next ?_ | refine iS_if ?_ | refine iS_asg ?_ | refine iS_for0 ?_ | refine iR_ap1 ?_ | refine iR_ap2 ?_ | refine iR_ap2N ?_ | refine iR_apA ?_ | refine iR_kst ?_ | refine iR_aNil ?_ | refine iR_aCons ?_ | refine iR_asB ?_ | refine iR_truR ?_ | refine iR_andT ?_ | refine iR_orT ?_ | refine iR_notT ?_ | refine iR_andV ?_ | refine iR_orV ?_ | refine iR_notV ?_ | refine iR_ifE ?_ | refine iR_asI ?_ | refine iS_sub ?_ | refine iS_retO ?_ | refine iR_mtF ?_ | refine iR_cNil ?_ | refine iR_cVal ?_ | refine iR_call ?_ | refine iR_readV ?_ | refine iR_readN ?_ | refine iR_writeN ?_ | refine iR_writeC ?_ | refine iR_asR1 ?_ | refine iR_asR2 ?_ | refine iR_bind ?_ | refine iR_lc ?_ | refine iR_slN ?_ | refine iR_oSome ?_ | refine iR_oNone ?_ | refine iR_lRg2 ?_ | refine iR_eqi ?_ | refine iR_nei ?_ | refine iR_eqs ?_ | refine iR_nes ?_ | refine iR_eqb ?_ | refine iR_neb ?_) | ((with_reducible first | refine eR_getV ?_ | refine eR_getCv ?_ | refine eR_ownL ?_ | refine eR_cOwn ?_ | refine eR_readO ?_ | refine eS_frz ?_ | refine eR_cellO ?_ | refine eR_of (r := gT _ _ _ _) ?_ | refine eR_of (r := gN _ _ _) ?_ | refine eR_of (r := dAddA _ _) ?_ | refine eR_of (r := dSub _ _) ?_ | refine eR_of (r := dLt _ _) ?_ | refine eR_of (r := dLe _ _) ?_ | refine eR_of (r := dGt _ _) ?_ | refine eR_of (r := dGe _ _) ?_ | refine eR_of (r := dIsN _ _) ?_ | refine eR_of (r := dNotN _ _) ?_ | refine eR_of (r := dIx _ _) ?_ | refine eR_of (r := dNeg _) ?_ | refine eR_of (r := dLen _) ?_ | refine eR_of (r := dList _) ?_ | refine eR_of (r := dTuple _) ?_ | refine eR_of (r := dRev _) ?_ | refine eR_of (r := dInt1 _) ?_ | refine eR_of (r := boolR _) ?_ | refine eR_of (r := intR _) ?_ | refine eR_of (r := itemsR _) ?_ | refine eR_of (r := truD _) ?_ | refine eR_of (r := dMax2 _) ?_ | refine eR_of (r := dMin2 _) ?_ | refine eR_of (r := slD _ _ _) ?_ | refine eR_of (r := mkT _) ?_ | refine eR_of (r := mkL _) ?_ | refine eR_of (r := endR _ _ _ _) ?_ | refine eR_of (r := lRg _ _) ?_ | refine eR_of (r := optB _) ?_ | refine eR_of (r := optR _) ?_); refine ⟨_, rfl, ?_⟩) | ((with_reducible first | refine eR_getCo ?_ | refine eS_frz' ?_); refine ⟨_, rfl, ?_⟩) | ((with_reducible first | refine iR_rng1 ?hh_ ?_ | refine iR_rng2 ?hh_ ?_ | refine iR_dMul ?hh_ ?_ | refine iR_dDiv ?hh_ ?_ | refine iR_dMod ?hh_ ?_ | refine iR_dPow ?hh_ ?_ | refine iR_dAddl ?hh_ ?_ | refine iR_dAdds ?hh_ ?_ | refine iR_dCat ?hh_ ?_ | refine iR_app ?hh_ ?_); (case hh_ => first | omega | decide)) | ((with_reducible first | refine iR_isi_t ?hh_ ?_ | refine if_ct ?hh_ ?_); (case hh_ => exact rfl)) | ((with_reducible first | refine iR_isi_f ?hh_ ?_ | refine if_cf ?hh_ ?_); (case hh_ => exact rfl)) | ((with_reducible refine iR_guard ?hh_ ?_); (case hh_ => first | decide | omega)) | (with_reducible refine iR_okk ?_) | ((with_reducible refine And.intro ?hh_ ?_); (case hh_ => first | decide | exact List.nodup_singleton _ | exact rfl | (simp only [List.length_cons, List.length_nil]; decide) | (intro z; cases z) | omega | (intro _; rfl)))); try dsimp only [List.set_cons_zero, List.set_cons_succ, ownIx, wipeE, restore, List.nil_append, List.cons_append])
  refine iR_of (dSorted_ints [a * i + b, a * j + b]) ?_
  rw [sort2]
  repeat ((first | (with_reducible first | refine iR_yesT ?_ | refine iR_lcNil ?_ | refine iR_lcCons ?_ | refine if_t ?_ | refine if_f ?_ | refine iS_seq ?_ | refine iS_set ?_ | refine iS_own ?_ | refine iS_drop ?_ | refine iS_ret ?_ | refine iS_retF ?_ | refine iS_next ?_ | refine iS_if ?_ | refine iS_asg ?_ | refine iS_for0 ?_ | refine iR_ap1 ?_ | refine iR_ap2 ?_ | refine iR_ap2N ?_ | refine iR_apA ?_ | refine iR_kst ?_ | refine iR_aNil ?_ | refine iR_aCons ?_ | refine iR_asB ?_ | refine iR_truR ?_ | refine iR_andT ?_ | refine iR_orT ?_ | refine iR_notT ?_ | refine iR_andV ?_ | refine iR_orV ?_ | refine iR_notV ?_ | refine iR_ifE ?_ | refine iR_asI ?_ | refine iS_sub ?_ | refine iS_retO ?_ | refine iR_mtF ?_ | refine iR_cNil ?_ | refine iR_cVal ?_ | refine iR_call ?_ | refine iR_readV ?_ | refine iR_readN ?_ | refine iR_writeN ?_ | refine iR_writeC ?_ | refine iR_asR1 ?_ | refine iR_asR2 ?_ | refine iR_bind ?_ | refine iR_lc ?_ | refine iR_slN ?_ | refine iR_oSome ?_ | refine iR_oNone ?_ | refine iR_lRg2 ?_ | refine iR_eqi ?_ | refine iR_nei ?_ | refine iR_eqs ?_ | refine iR_nes ?_ | refine iR_eqb ?_ | refine iR_neb ?_) | ((with_reducible first | refine eR_getV ?_ | refine eR_getCv ?_ | refine eR_ownL ?_ | refine eR_cOwn ?_ | refine eR_readO ?_ | refine eS_frz ?_ | refine eR_cellO ?_ | refine eR_of (r := gT _ _ _ _) ?_ | refine eR_of (r := gN _ _ _) ?_ | refine eR_of (r := dAddA _ _) ?_ | refine eR_of (r := dSub _ _) ?_ | refine eR_of (r := dLt _ _) ?_ | refine eR_of (r := dLe _ _) ?_ | refine eR_of (r := dGt _ _) ?_ | refine eR_of (r := dGe _ _) ?_ | refine eR_of (r := dIsN _ _) ?_ | refine eR_of (r := dNotN _ _) ?_ | refine eR_of (r := dIx _ _) ?_ | refine eR_of (r := dNeg _) ?_ | refine eR_of (r := dLen _) ?_ | refine eR_of (r := dList _) ?_ | refine eR_of (r := dTuple _) ?_ | refine eR_of (r := dRev _) ?_ | refine eR_of (r := dInt1 _) ?_ | refine eR_of (r := boolR _) ?_ | refine eR_of (r := intR _) ?_ | refine eR_of (r := itemsR _) ?_ | refine eR_of (r := truD _) ?_ | refine eR_of (r := dMax2 _) ?_ | refine eR_of (r := dMin2 _) ?_ | refine eR_of (r := slD _ _ _) ?_ | refine eR_of (r := mkT _) ?_ | refine eR_of (r := mkL _) ?_ | refine eR_of (r := endR _ _ _ _) ?_ | refine eR_of (r := lRg _ _) ?_ | refine eR_of (r := optB _) ?_ | refine eR_of (r := optR _) ?_); refine ⟨_, rfl, ?_⟩) | ((with_reducible first | refine eR_getCo ?_ | refine eS_frz' ?_); refine ⟨_, rfl, ?_⟩) | ((with_reducible first | refine iR_rng1 ?hh_ ?_ | refine iR_rng2 ?hh_ ?_ | refine iR_dMul ?hh_ ?_ | refine iR_dDiv ?hh_ ?_ | refine iR_dMod ?hh_ ?_ | refine iR_dPow ?hh_ ?_ | refine iR_dAddl ?hh_ ?_ | refine iR_dAdds ?hh_ ?_ | refine iR_dCat ?hh_ ?_ | refine iR_app ?hh_ ?_); (case hh_ => first | omega | decide)) | ((with_reducible first | refine iR_isi_t ?hh_ ?_ | refine if_ct ?hh_ ?_); (case hh_ => exact rfl)) | ((with_reducible first | refine iR_isi_f ?hh_ ?_ | refine if_cf ?hh_ ?_); (case hh_ => exact rfl)) | ((with_reducible refine iR_guard ?hh_ ?_); (case hh_ => first | decide | omega)) | (with_reducible refine iR_okk ?_) | ((with_reducible refine And.intro ?hh_ ?_); (case hh_ => first | decide | exact List.nodup_singleton _ | exact rfl | (simp only [List.length_cons, List.length_nil]; decide) | (intro z; cases z) | omega | (intro _; rfl)))); try dsimp only [List.set_cons_zero, List.set_cons_succ, ownIx, wipeE, restore, List.nil_append, List.cons_append])
  rfl
def padL (x : Option (Int × Int)) : D := match x with
  | none => .none
  | some p => prD p
def pad (a b i j : Int) : Option (Int × Int) := if a > 0 then (if max i (-(b.fdiv a)) ≤ j then some (max i (-(b.fdiv a)), j) else none) else if a < 0 then (if i ≤ min j (b.fdiv (-a)) then some (i, min j (b.fdiv (-a))) else none) else if b < 0 then none else if i ≤ j then some (i, j) else none
theorem part_ok {a b i j : Int} (ha : -(2 ^ 63) < a ∧ a < 2 ^ 63) : RPartAtLeast [.tuple [.int a, .int b], .tuple [.int i, .int j]] = .ok false (padL (pad a b i j)) [] := by
  refine runF_eq (G := GPartAtLeast) ?_
  unfold GPartAtLeast
  dsimp only [DL.env0, DL.cells, DL.cellOf_t, DL.cellOf_f, List.length_cons, List.length_nil, Nat.reduceAdd, Nat.reduceSub, List.replicate, List.cons_append, List.nil_append]
  repeat ((first | (with_reducible first | refine iR_yesT ?_ | refine iR_lcNil ?_ | refine iR_lcCons ?_ | refine if_t ?_ | refine if_f ?_ | refine iS_seq ?_ | refine iS_set ?_ | refine iS_own ?_ | refine iS_drop ?_ | refine iS_ret ?_ | refine iS_retF ?_ | refine iS_next ?_ | refine iS_if ?_ | refine iS_asg ?_ | refine iS_for0 ?_ | refine iR_ap1 ?_ | refine iR_ap2 ?_ | refine iR_ap2N ?_ | refine iR_apA ?_ | refine iR_kst ?_ | refine iR_aNil ?_ | refine iR_aCons ?_ | refine iR_asB ?_ | refine iR_truR ?_ | refine iR_andT ?_ | refine iR_orT ?_ | refine iR_notT ?_ | refine iR_andV ?_ | refine iR_orV ?_ | refine iR_notV ?_ | refine iR_ifE ?_ | refine iR_asI ?_ | refine iS_sub ?_ | refine iS_retO ?_ | refine iR_mtF ?_ | refine iR_cNil ?_ | refine iR_cVal ?_ | refine iR_call ?_ | refine iR_readV ?_ | refine iR_readN ?_ | refine iR_writeN ?_ | refine iR_writeC ?_ | refine iR_asR1 ?_ | refine iR_asR2 ?_ | refine iR_bind ?_ | refine iR_lc ?_ | refine iR_slN ?_ | refine iR_oSome ?_ | refine iR_oNone ?_ | refine iR_lRg2 ?_ | refine iR_eqi ?_ | refine iR_nei ?_ | refine iR_eqs ?_ | refine iR_nes ?_ | refine iR_eqb ?_ | refine iR_neb ?_) | ((with_reducible first | refine eR_getV ?_ | refine eR_getCv ?_ | refine eR_ownL ?_ | refine eR_cOwn ?_ | refine eR_readO ?_ | refine eS_frz ?_ | refine eR_cellO ?_ | refine eR_of (r := gT _ _ _ _) ?_ | refine eR_of (r := gN _ _ _) ?_ | refine eR_of (r := dAddA _ _) ?_ | refine eR_of (r := dSub _ _) ?_ | refine eR_of (r := dLt _ _) ?_ | refine eR_of (r := dLe _ _) ?_ | refine eR_of (r := dGt _ _) ?_ | refine eR_of (r := dGe _ _) ?_ | refine eR_of (r := dIsN _ _) ?_ | refine eR_of (r := dNotN _ _) ?_ | refine eR_of (r := dIx _ _) ?_ | refine eR_of (r := dNeg _) ?_ | refine eR_of (r := dLen _) ?_ | refine eR_of (r := dList _) ?_ | refine eR_of (r := dTuple _) ?_ | refine eR_of (r := dRev _) ?_ | refine eR_of (r := dInt1 _) ?_ | refine eR_of (r := boolR _) ?_ | refine eR_of (r := intR _) ?_ | refine eR_of (r := itemsR _) ?_ | refine eR_of (r := truD _) ?_ | refine eR_of (r := dMax2 _) ?_ | refine eR_of (r := dMin2 _) ?_ | refine eR_of (r := slD _ _ _) ?_ | refine eR_of (r := mkT _) ?_ | refine eR_of (r := mkL _) ?_ | refine eR_of (r := endR _ _ _ _) ?_ | refine eR_of (r := lRg _ _) ?_ | refine eR_of (r := optB _) ?_ | refine eR_of (r := optR _) ?_); refine ⟨_, rfl, ?_⟩) | ((with_reducible first | refine eR_getCo ?_ | refine eS_frz' ?_); refine ⟨_, rfl, ?_⟩) | ((with_reducible first | refine iR_rng1 ?hh_ ?_ | refine iR_rng2 ?hh_ ?_ | refine iR_dMul ?hh_ ?_ | refine iR_dDiv ?hh_ ?_ | refine iR_dMod ?hh_ ?_ | refine iR_dPow ?hh_ ?_ | refine iR_dAddl ?hh_ ?_ | refine iR_dAdds ?hh_ ?_ | refine iR_dCat ?hh_ ?_ | refine iR_app ?hh_ ?_); (case hh_ => first | omega | decide)) | ((with_reducible first | refine iR_isi_t ?hh_ ?_ | refine if_ct ?hh_ ?_); (case hh_ => exact rfl)) | ((with_reducible first | refine iR_isi_f ?hh_ ?_ | refine if_cf ?hh_ ?_); (case hh_ => exact rfl)) | ((with_reducible refine iR_guard ?hh_ ?_); (case hh_ => first | decide | omega)) | (with_reducible refine iR_okk ?_) | ((with_reducible refine And.intro ?hh_ ?_); (case hh_ => first | decide | exact List.nodup_singleton _ | exact rfl | (simp only [List.length_cons, List.length_nil]; decide) | (intro z; cases z) | omega | (intro _; rfl)))); try dsimp only [List.set_cons_zero, List.set_cons_succ, ownIx, wipeE, restore, List.nil_append, List.cons_append])
  refine DL.ifd (fun h => ?_) (fun h => ?_)
  · repeat ((first | (with_reducible first | refine iR_yesT ?_ | refine iR_lcNil ?_ | refine iR_lcCons ?_ | refine if_t ?_ | refine if_f ?_ | refine iS_seq ?_ | refine iS_set ?_ | refine iS_own ?_ | refine iS_drop ?_ | refine iS_ret ?_ | refine iS_retF ?_ | refine iS_next ?_ | refine iS_if ?_ | refine iS_asg ?_ | refine iS_for0 ?_ | refine iR_ap1 ?_ | refine iR_ap2 ?_ | refine iR_ap2N ?_ | refine iR_apA ?_ | refine iR_kst ?_ | refine iR_aNil ?_ | refine iR_aCons ?_ | refine iR_asB ?_ | refine iR_truR ?_ | refine iR_andT ?_ | refine iR_orT ?_ | refine iR_notT ?_ | refine iR_andV ?_ | refine iR_orV ?_ | refine iR_notV ?_ | refine iR_ifE ?_ | refine iR_asI ?_ | refine iS_sub ?_ | refine iS_retO ?_ | refine iR_mtF ?_ | refine iR_cNil ?_ | refine iR_cVal ?_ | refine iR_call ?_ | refine iR_readV ?_ | refine iR_readN ?_ | refine iR_writeN ?_ | refine iR_writeC ?_ | refine iR_asR1 ?_ | refine iR_asR2 ?_ | refine iR_bind ?_ | refine iR_lc ?_ | refine iR_slN ?_ | refine iR_oSome ?_ | refine iR_oNone ?_ | refine iR_lRg2 ?_ | refine iR_eqi ?_ | refine iR_nei ?_ | refine iR_eqs ?_ | refine iR_nes ?_ | refine iR_eqb ?_ | refine iR_neb ?_) | ((with_reducible first | refine eR_getV ?_ | refine eR_getCv ?_ | refine eR_ownL ?_ | refine eR_cOwn ?_ | refine eR_readO ?_ | refine eS_frz ?_ | refine eR_cellO ?_ | refine eR_of (r := gT _ _ _ _) ?_ | refine eR_of (r := gN _ _ _) ?_ | refine eR_of (r := dAddA _ _) ?_ | refine eR_of (r := dSub _ _) ?_ | refine eR_of (r := dLt _ _) ?_ | refine eR_of (r := dLe _ _) ?_ | refine eR_of (r := dGt _ _) ?_ | refine eR_of (r := dGe _ _) ?_ | refine eR_of (r := dIsN _ _) ?_ | refine eR_of (r := dNotN _ _) ?_ | refine eR_of (r := dIx _ _) ?_ | refine eR_of (r := dNeg _) ?_ | refine eR_of (r := dLen _) ?_ | refine eR_of (r := dList _) ?_ | refine eR_of (r := dTuple _) ?_ | refine eR_of (r := dRev _) ?_ | refine eR_of (r := dInt1 _) ?_ | refine eR_of (r := boolR _) ?_ | refine eR_of (r := intR _) ?_ | refine eR_of (r := itemsR _) ?_ | refine eR_of (r := truD _) ?_ | refine eR_of (r := dMax2 _) ?_ | refine eR_of (r := dMin2 _) ?_ | refine eR_of (r := slD _ _ _) ?_ | refine eR_of (r := mkT _) ?_ | refine eR_of (r := mkL _) ?_ | refine eR_of (r := endR _ _ _ _) ?_ | refine eR_of (r := lRg _ _) ?_ | refine eR_of (r := optB _) ?_ | refine eR_of (r := optR _) ?_); refine ⟨_, rfl, ?_⟩) | ((with_reducible first | refine eR_getCo ?_ | refine eS_frz' ?_); refine ⟨_, rfl, ?_⟩) | ((with_reducible first | refine iR_rng1 ?hh_ ?_ | refine iR_rng2 ?hh_ ?_ | refine iR_dMul ?hh_ ?_ | refine iR_dDiv ?hh_ ?_ | refine iR_dMod ?hh_ ?_ | refine iR_dPow ?hh_ ?_ | refine iR_dAddl ?hh_ ?_ | refine iR_dAdds ?hh_ ?_ | refine iR_dCat ?hh_ ?_ | refine iR_app ?hh_ ?_); (case hh_ => first | omega | decide)) | ((with_reducible first | refine iR_isi_t ?hh_ ?_ | refine if_ct ?hh_ ?_); (case hh_ => exact rfl)) | ((with_reducible first | refine iR_isi_f ?hh_ ?_ | refine if_cf ?hh_ ?_); (case hh_ => exact rfl)) | ((with_reducible refine iR_guard ?hh_ ?_); (case hh_ => first | decide | omega)) | (with_reducible refine iR_okk ?_) | ((with_reducible refine And.intro ?hh_ ?_); (case hh_ => first | decide | exact List.nodup_singleton _ | exact rfl | (simp only [List.length_cons, List.length_nil]; decide) | (intro z; cases z) | omega | (intro _; rfl)))); try dsimp only [List.set_cons_zero, List.set_cons_succ, ownIx, wipeE, restore, List.nil_append, List.cons_append])
    have e : (if -(b.fdiv a) > i then -(b.fdiv a) else i) = max i (-(b.fdiv a)) := by split <;> omega
    rw [e]
    have q : pad a b i j = if max i (-(b.fdiv a)) ≤ j then some (max i (-(b.fdiv a)), j) else none := by unfold pad; rw [if_pos h]
    refine DL.ifd (fun h2 => ?_) (fun h2 => ?_)
    · repeat ((first | (with_reducible first | refine iR_yesT ?_ | refine iR_lcNil ?_ | refine iR_lcCons ?_ | refine if_t ?_ | refine if_f ?_ | refine iS_seq ?_ | refine iS_set ?_ | refine iS_own ?_ | refine iS_drop ?_ | refine iS_ret ?_ | refine iS_retF ?_ | refine iS_next ?_ | refine iS_if ?_ | refine iS_asg ?_ | refine iS_for0 ?_ | refine iR_ap1 ?_ | refine iR_ap2 ?_ | refine iR_ap2N ?_ | refine iR_apA ?_ | refine iR_kst ?_ | refine iR_aNil ?_ | refine iR_aCons ?_ | refine iR_asB ?_ | refine iR_truR ?_ | refine iR_andT ?_ | refine iR_orT ?_ | refine iR_notT ?_ | refine iR_andV ?_ | refine iR_orV ?_ | refine iR_notV ?_ | refine iR_ifE ?_ | refine iR_asI ?_ | refine iS_sub ?_ | refine iS_retO ?_ | refine iR_mtF ?_ | refine iR_cNil ?_ | refine iR_cVal ?_ | refine iR_call ?_ | refine iR_readV ?_ | refine iR_readN ?_ | refine iR_writeN ?_ | refine iR_writeC ?_ | refine iR_asR1 ?_ | refine iR_asR2 ?_ | refine iR_bind ?_ | refine iR_lc ?_ | refine iR_slN ?_ | refine iR_oSome ?_ | refine iR_oNone ?_ | refine iR_lRg2 ?_ | refine iR_eqi ?_ | refine iR_nei ?_ | refine iR_eqs ?_ | refine iR_nes ?_ | refine iR_eqb ?_ | refine iR_neb ?_) | ((with_reducible first | refine eR_getV ?_ | refine eR_getCv ?_ | refine eR_ownL ?_ | refine eR_cOwn ?_ | refine eR_readO ?_ | refine eS_frz ?_ | refine eR_cellO ?_ | refine eR_of (r := gT _ _ _ _) ?_ | refine eR_of (r := gN _ _ _) ?_ | refine eR_of (r := dAddA _ _) ?_ | refine eR_of (r := dSub _ _) ?_ | refine eR_of (r := dLt _ _) ?_ | refine eR_of (r := dLe _ _) ?_ | refine eR_of (r := dGt _ _) ?_ | refine eR_of (r := dGe _ _) ?_ | refine eR_of (r := dIsN _ _) ?_ | refine eR_of (r := dNotN _ _) ?_ | refine eR_of (r := dIx _ _) ?_ | refine eR_of (r := dNeg _) ?_ | refine eR_of (r := dLen _) ?_ | refine eR_of (r := dList _) ?_ | refine eR_of (r := dTuple _) ?_ | refine eR_of (r := dRev _) ?_ | refine eR_of (r := dInt1 _) ?_ | refine eR_of (r := boolR _) ?_ | refine eR_of (r := intR _) ?_ | refine eR_of (r := itemsR _) ?_ | refine eR_of (r := truD _) ?_ | refine eR_of (r := dMax2 _) ?_ | refine eR_of (r := dMin2 _) ?_ | refine eR_of (r := slD _ _ _) ?_ | refine eR_of (r := mkT _) ?_ | refine eR_of (r := mkL _) ?_ | refine eR_of (r := endR _ _ _ _) ?_ | refine eR_of (r := lRg _ _) ?_ | refine eR_of (r := optB _) ?_ | refine eR_of (r := optR _) ?_); refine ⟨_, rfl, ?_⟩) | ((with_reducible first | refine eR_getCo ?_ | refine eS_frz' ?_); refine ⟨_, rfl, ?_⟩) | ((with_reducible first | refine iR_rng1 ?hh_ ?_ | refine iR_rng2 ?hh_ ?_ | refine iR_dMul ?hh_ ?_ | refine iR_dDiv ?hh_ ?_ | refine iR_dMod ?hh_ ?_ | refine iR_dPow ?hh_ ?_ | refine iR_dAddl ?hh_ ?_ | refine iR_dAdds ?hh_ ?_ | refine iR_dCat ?hh_ ?_ | refine iR_app ?hh_ ?_); (case hh_ => first | omega | decide)) | ((with_reducible first | refine iR_isi_t ?hh_ ?_ | refine if_ct ?hh_ ?_); (case hh_ => exact rfl)) | ((with_reducible first | refine iR_isi_f ?hh_ ?_ | refine if_cf ?hh_ ?_); (case hh_ => exact rfl)) | ((with_reducible refine iR_guard ?hh_ ?_); (case hh_ => first | decide | omega)) | (with_reducible refine iR_okk ?_) | ((with_reducible refine And.intro ?hh_ ?_); (case hh_ => first | decide | exact List.nodup_singleton _ | exact rfl | (simp only [List.length_cons, List.length_nil]; decide) | (intro z; cases z) | omega | (intro _; rfl)))); try dsimp only [List.set_cons_zero, List.set_cons_succ, ownIx, wipeE, restore, List.nil_append, List.cons_append])
      rw [q, if_pos h2]; rfl
    · repeat ((first | (with_reducible first | refine iR_yesT ?_ | refine iR_lcNil ?_ | refine iR_lcCons ?_ | refine if_t ?_ | refine if_f ?_ | refine iS_seq ?_ | refine iS_set ?_ | refine iS_own ?_ | refine iS_drop ?_ | refine iS_ret ?_ | refine iS_retF ?_ | refine iS_next ?_ | refine iS_if ?_ | refine iS_asg ?_ | refine iS_for0 ?_ | refine iR_ap1 ?_ | refine iR_ap2 ?_ | refine iR_ap2N ?_ | refine iR_apA ?_ | refine iR_kst ?_ | refine iR_aNil ?_ | refine iR_aCons ?_ | refine iR_asB ?_ | refine iR_truR ?_ | refine iR_andT ?_ | refine iR_orT ?_ | refine iR_notT ?_ | refine iR_andV ?_ | refine iR_orV ?_ | refine iR_notV ?_ | refine iR_ifE ?_ | refine iR_asI ?_ | refine iS_sub ?_ | refine iS_retO ?_ | refine iR_mtF ?_ | refine iR_cNil ?_ | refine iR_cVal ?_ | refine iR_call ?_ | refine iR_readV ?_ | refine iR_readN ?_ | refine iR_writeN ?_ | refine iR_writeC ?_ | refine iR_asR1 ?_ | refine iR_asR2 ?_ | refine iR_bind ?_ | refine iR_lc ?_ | refine iR_slN ?_ | refine iR_oSome ?_ | refine iR_oNone ?_ | refine iR_lRg2 ?_ | refine iR_eqi ?_ | refine iR_nei ?_ | refine iR_eqs ?_ | refine iR_nes ?_ | refine iR_eqb ?_ | refine iR_neb ?_) | ((with_reducible first | refine eR_getV ?_ | refine eR_getCv ?_ | refine eR_ownL ?_ | refine eR_cOwn ?_ | refine eR_readO ?_ | refine eS_frz ?_ | refine eR_cellO ?_ | refine eR_of (r := gT _ _ _ _) ?_ | refine eR_of (r := gN _ _ _) ?_ | refine eR_of (r := dAddA _ _) ?_ | refine eR_of (r := dSub _ _) ?_ | refine eR_of (r := dLt _ _) ?_ | refine eR_of (r := dLe _ _) ?_ | refine eR_of (r := dGt _ _) ?_ | refine eR_of (r := dGe _ _) ?_ | refine eR_of (r := dIsN _ _) ?_ | refine eR_of (r := dNotN _ _) ?_ | refine eR_of (r := dIx _ _) ?_ | refine eR_of (r := dNeg _) ?_ | refine eR_of (r := dLen _) ?_ | refine eR_of (r := dList _) ?_ | refine eR_of (r := dTuple _) ?_ | refine eR_of (r := dRev _) ?_ | refine eR_of (r := dInt1 _) ?_ | refine eR_of (r := boolR _) ?_ | refine eR_of (r := intR _) ?_ | refine eR_of (r := itemsR _) ?_ | refine eR_of (r := truD _) ?_ | refine eR_of (r := dMax2 _) ?_ | refine eR_of (r := dMin2 _) ?_ | refine eR_of (r := slD _ _ _) ?_ | refine eR_of (r := mkT _) ?_ | refine eR_of (r := mkL _) ?_ | refine eR_of (r := endR _ _ _ _) ?_ | refine eR_of (r := lRg _ _) ?_ | refine eR_of (r := optB _) ?_ | refine eR_of (r := optR _) ?_); refine ⟨_, rfl, ?_⟩) | ((with_reducible first | refine eR_getCo ?_ | refine eS_frz' ?_); refine ⟨_, rfl, ?_⟩) | ((with_reducible first | refine iR_rng1 ?hh_ ?_ | refine iR_rng2 ?hh_ ?_ | refine iR_dMul ?hh_ ?_ | refine iR_dDiv ?hh_ ?_ | refine iR_dMod ?hh_ ?_ | refine iR_dPow ?hh_ ?_ | refine iR_dAddl ?hh_ ?_ | refine iR_dAdds ?hh_ ?_ | refine iR_dCat ?hh_ ?_ | refine iR_app ?hh_ ?_); (case hh_ => first | omega | decide)) | ((with_reducible first | refine iR_isi_t ?hh_ ?_ | refine if_ct ?hh_ ?_); (case hh_ => exact rfl)) | ((with_reducible first | refine iR_isi_f ?hh_ ?_ | refine if_cf ?hh_ ?_); (case hh_ => exact rfl)) | ((with_reducible refine iR_guard ?hh_ ?_); (case hh_ => first | decide | omega)) | (with_reducible refine iR_okk ?_) | ((with_reducible refine And.intro ?hh_ ?_); (case hh_ => first | decide | exact List.nodup_singleton _ | exact rfl | (simp only [List.length_cons, List.length_nil]; decide) | (intro z; cases z) | omega | (intro _; rfl)))); try dsimp only [List.set_cons_zero, List.set_cons_succ, ownIx, wipeE, restore, List.nil_append, List.cons_append])
      rw [q, if_neg h2]; rfl
  repeat ((first | (with_reducible first | refine iR_yesT ?_ | refine iR_lcNil ?_ | refine iR_lcCons ?_ | refine if_t ?_ | refine if_f ?_ | refine iS_seq ?_ | refine iS_set ?_ | refine iS_own ?_ | refine iS_drop ?_ | refine iS_ret ?_ | refine iS_retF ?_ | refine iS_next ?_ | refine iS_if ?_ | refine iS_asg ?_ | refine iS_for0 ?_ | refine iR_ap1 ?_ | refine iR_ap2 ?_ | refine iR_ap2N ?_ | refine iR_apA ?_ | refine iR_kst ?_ | refine iR_aNil ?_ | refine iR_aCons ?_ | refine iR_asB ?_ | refine iR_truR ?_ | refine iR_andT ?_ | refine iR_orT ?_ | refine iR_notT ?_ | refine iR_andV ?_ | refine iR_orV ?_ | refine iR_notV ?_ | refine iR_ifE ?_ | refine iR_asI ?_ | refine iS_sub ?_ | refine iS_retO ?_ | refine iR_mtF ?_ | refine iR_cNil ?_ | refine iR_cVal ?_ | refine iR_call ?_ | refine iR_readV ?_ | refine iR_readN ?_ | refine iR_writeN ?_ | refine iR_writeC ?_ | refine iR_asR1 ?_ | refine iR_asR2 ?_ | refine iR_bind ?_ | refine iR_lc ?_ | refine iR_slN ?_ | refine iR_oSome ?_ | refine iR_oNone ?_ | refine iR_lRg2 ?_ | refine iR_eqi ?_ | refine iR_nei ?_ | refine iR_eqs ?_ | refine iR_nes ?_ | refine iR_eqb ?_ | refine iR_neb ?_) | ((with_reducible first | refine eR_getV ?_ | refine eR_getCv ?_ | refine eR_ownL ?_ | refine eR_cOwn ?_ | refine eR_readO ?_ | refine eS_frz ?_ | refine eR_cellO ?_ | refine eR_of (r := gT _ _ _ _) ?_ | refine eR_of (r := gN _ _ _) ?_ | refine eR_of (r := dAddA _ _) ?_ | refine eR_of (r := dSub _ _) ?_ | refine eR_of (r := dLt _ _) ?_ | refine eR_of (r := dLe _ _) ?_ | refine eR_of (r := dGt _ _) ?_ | refine eR_of (r := dGe _ _) ?_ | refine eR_of (r := dIsN _ _) ?_ | refine eR_of (r := dNotN _ _) ?_ | refine eR_of (r := dIx _ _) ?_ | refine eR_of (r := dNeg _) ?_ | refine eR_of (r := dLen _) ?_ | refine eR_of (r := dList _) ?_ | refine eR_of (r := dTuple _) ?_ | refine eR_of (r := dRev _) ?_ | refine eR_of (r := dInt1 _) ?_ | refine eR_of (r := boolR _) ?_ | refine eR_of (r := intR _) ?_ | refine eR_of (r := itemsR _) ?_ | refine eR_of (r := truD _) ?_ | refine eR_of (r := dMax2 _) ?_ | refine eR_of (r := dMin2 _) ?_ | refine eR_of (r := slD _ _ _) ?_ | refine eR_of (r := mkT _) ?_ | refine eR_of (r := mkL _) ?_ | refine eR_of (r := endR _ _ _ _) ?_ | refine eR_of (r := lRg _ _) ?_ | refine eR_of (r := optB _) ?_ | refine eR_of (r := optR _) ?_); refine ⟨_, rfl, ?_⟩) | ((with_reducible first | refine eR_getCo ?_ | refine eS_frz' ?_); refine ⟨_, rfl, ?_⟩) | ((with_reducible first | refine iR_rng1 ?hh_ ?_ | refine iR_rng2 ?hh_ ?_ | refine iR_dMul ?hh_ ?_ | refine iR_dDiv ?hh_ ?_ | refine iR_dMod ?hh_ ?_ | refine iR_dPow ?hh_ ?_ | refine iR_dAddl ?hh_ ?_ | refine iR_dAdds ?hh_ ?_ | refine iR_dCat ?hh_ ?_ | refine iR_app ?hh_ ?_); (case hh_ => first | omega | decide)) | ((with_reducible first | refine iR_isi_t ?hh_ ?_ | refine if_ct ?hh_ ?_); (case hh_ => exact rfl)) | ((with_reducible first | refine iR_isi_f ?hh_ ?_ | refine if_cf ?hh_ ?_); (case hh_ => exact rfl)) | ((with_reducible refine iR_guard ?hh_ ?_); (case hh_ => first | decide | omega)) | (with_reducible refine iR_okk ?_) | ((with_reducible refine And.intro ?hh_ ?_); (case hh_ => first | decide | exact List.nodup_singleton _ | exact rfl | (simp only [List.length_cons, List.length_nil]; decide) | (intro z; cases z) | omega | (intro _; rfl)))); try dsimp only [List.set_cons_zero, List.set_cons_succ, ownIx, wipeE, restore, List.nil_append, List.cons_append])
  refine DL.ifd (fun h3 => ?_) (fun h3 => ?_)
  · repeat ((first | (with_reducible first | refine iR_yesT ?_ | refine iR_lcNil ?_ | refine iR_lcCons ?_ | refine if_t ?_ | refine if_f ?_ | refine iS_seq ?_ | refine iS_set ?_ | refine iS_own ?_ | refine iS_drop ?_ | refine iS_ret ?_ | refine iS_retF ?_ | refine iS_next ?_ | refine iS_if ?_ | refine iS_asg ?_ | refine iS_for0 ?_ | refine iR_ap1 ?_ | refine iR_ap2 ?_ | refine iR_ap2N ?_ | refine iR_apA ?_ | refine iR_kst ?_ | refine iR_aNil ?_ | refine iR_aCons ?_ | refine iR_asB ?_ | refine iR_truR ?_ | refine iR_andT ?_ | refine iR_orT ?_ | refine iR_notT ?_ | refine iR_andV ?_ | refine iR_orV ?_ | refine iR_notV ?_ | refine iR_ifE ?_ | refine iR_asI ?_ | refine iS_sub ?_ | refine iS_retO ?_ | refine iR_mtF ?_ | refine iR_cNil ?_ | refine iR_cVal ?_ | refine iR_call ?_ | refine iR_readV ?_ | refine iR_readN ?_ | refine iR_writeN ?_ | refine iR_writeC ?_ | refine iR_asR1 ?_ | refine iR_asR2 ?_ | refine iR_bind ?_ | refine iR_lc ?_ | refine iR_slN ?_ | refine iR_oSome ?_ | refine iR_oNone ?_ | refine iR_lRg2 ?_ | refine iR_eqi ?_ | refine iR_nei ?_ | refine iR_eqs ?_ | refine iR_nes ?_ | refine iR_eqb ?_ | refine iR_neb ?_) | ((with_reducible first | refine eR_getV ?_ | refine eR_getCv ?_ | refine eR_ownL ?_ | refine eR_cOwn ?_ | refine eR_readO ?_ | refine eS_frz ?_ | refine eR_cellO ?_ | refine eR_of (r := gT _ _ _ _) ?_ | refine eR_of (r := gN _ _ _) ?_ | refine eR_of (r := dAddA _ _) ?_ | refine eR_of (r := dSub _ _) ?_ | refine eR_of (r := dLt _ _) ?_ | refine eR_of (r := dLe _ _) ?_ | refine eR_of (r := dGt _ _) ?_ | refine eR_of (r := dGe _ _) ?_ | refine eR_of (r := dIsN _ _) ?_ | refine eR_of (r := dNotN _ _) ?_ | refine eR_of (r := dIx _ _) ?_ | refine eR_of (r := dNeg _) ?_ | refine eR_of (r := dLen _) ?_ | refine eR_of (r := dList _) ?_ | refine eR_of (r := dTuple _) ?_ | refine eR_of (r := dRev _) ?_ | refine eR_of (r := dInt1 _) ?_ | refine eR_of (r := boolR _) ?_ | refine eR_of (r := intR _) ?_ | refine eR_of (r := itemsR _) ?_ | refine eR_of (r := truD _) ?_ | refine eR_of (r := dMax2 _) ?_ | refine eR_of (r := dMin2 _) ?_ | refine eR_of (r := slD _ _ _) ?_ | refine eR_of (r := mkT _) ?_ | refine eR_of (r := mkL _) ?_ | refine eR_of (r := endR _ _ _ _) ?_ | refine eR_of (r := lRg _ _) ?_ | refine eR_of (r := optB _) ?_ | refine eR_of (r := optR _) ?_); refine ⟨_, rfl, ?_⟩) | ((with_reducible first | refine eR_getCo ?_ | refine eS_frz' ?_); refine ⟨_, rfl, ?_⟩) | ((with_reducible first | refine iR_rng1 ?hh_ ?_ | refine iR_rng2 ?hh_ ?_ | refine iR_dMul ?hh_ ?_ | refine iR_dDiv ?hh_ ?_ | refine iR_dMod ?hh_ ?_ | refine iR_dPow ?hh_ ?_ | refine iR_dAddl ?hh_ ?_ | refine iR_dAdds ?hh_ ?_ | refine iR_dCat ?hh_ ?_ | refine iR_app ?hh_ ?_); (case hh_ => first | omega | decide)) | ((with_reducible first | refine iR_isi_t ?hh_ ?_ | refine if_ct ?hh_ ?_); (case hh_ => exact rfl)) | ((with_reducible first | refine iR_isi_f ?hh_ ?_ | refine if_cf ?hh_ ?_); (case hh_ => exact rfl)) | ((with_reducible refine iR_guard ?hh_ ?_); (case hh_ => first | decide | omega)) | (with_reducible refine iR_okk ?_) | ((with_reducible refine And.intro ?hh_ ?_); (case hh_ => first | decide | exact List.nodup_singleton _ | exact rfl | (simp only [List.length_cons, List.length_nil]; decide) | (intro z; cases z) | omega | (intro _; rfl)))); try dsimp only [List.set_cons_zero, List.set_cons_succ, ownIx, wipeE, restore, List.nil_append, List.cons_append])
    have e : (if b.fdiv (-a) < j then b.fdiv (-a) else j) = min j (b.fdiv (-a)) := by split <;> omega
    rw [e]
    have q : pad a b i j = if i ≤ min j (b.fdiv (-a)) then some (i, min j (b.fdiv (-a))) else none := by unfold pad; rw [if_neg h, if_pos h3]
    refine DL.ifd (fun h2 => ?_) (fun h2 => ?_)
    · repeat ((first | (with_reducible first | refine iR_yesT ?_ | refine iR_lcNil ?_ | refine iR_lcCons ?_ | refine if_t ?_ | refine if_f ?_ | refine iS_seq ?_ | refine iS_set ?_ | refine iS_own ?_ | refine iS_drop ?_ | refine iS_ret ?_ | refine iS_retF ?_ | refine iS_next ?_ | refine iS_if ?_ | refine iS_asg ?_ | refine iS_for0 ?_ | refine iR_ap1 ?_ | refine iR_ap2 ?_ | refine iR_ap2N ?_ | refine iR_apA ?_ | refine iR_kst ?_ | refine iR_aNil ?_ | refine iR_aCons ?_ | refine iR_asB ?_ | refine iR_truR ?_ | refine iR_andT ?_ | refine iR_orT ?_ | refine iR_notT ?_ | refine iR_andV ?_ | refine iR_orV ?_ | refine iR_notV ?_ | refine iR_ifE ?_ | refine iR_asI ?_ | refine iS_sub ?_ | refine iS_retO ?_ | refine iR_mtF ?_ | refine iR_cNil ?_ | refine iR_cVal ?_ | refine iR_call ?_ | refine iR_readV ?_ | refine iR_readN ?_ | refine iR_writeN ?_ | refine iR_writeC ?_ | refine iR_asR1 ?_ | refine iR_asR2 ?_ | refine iR_bind ?_ | refine iR_lc ?_ | refine iR_slN ?_ | refine iR_oSome ?_ | refine iR_oNone ?_ | refine iR_lRg2 ?_ | refine iR_eqi ?_ | refine iR_nei ?_ | refine iR_eqs ?_ | refine iR_nes ?_ | refine iR_eqb ?_ | refine iR_neb ?_) | ((with_reducible first | refine eR_getV ?_ | refine eR_getCv ?_ | refine eR_ownL ?_ | refine eR_cOwn ?_ | refine eR_readO ?_ | refine eS_frz ?_ | refine eR_cellO ?_ | refine eR_of (r := gT _ _ _ _) ?_ | refine eR_of (r := gN _ _ _) ?_ | refine eR_of (r := dAddA _ _) ?_ | refine eR_of (r := dSub _ _) ?_ | refine eR_of (r := dLt _ _) ?_ | refine eR_of (r := dLe _ _) ?_ | refine eR_of (r := dGt _ _) ?_ | refine eR_of (r := dGe _ _) ?_ | refine eR_of (r := dIsN _ _) ?_ | refine eR_of (r := dNotN _ _) ?_ | refine eR_of (r := dIx _ _) ?_ | refine eR_of (r := dNeg _) ?_ | refine eR_of (r := dLen _) ?_ | refine eR_of (r := dList _) ?_ | refine eR_of (r := dTuple _) ?_ | refine eR_of (r := dRev _) ?_ | refine eR_of (r := dInt1 _) ?_ | refine eR_of (r := boolR _) ?_ | refine eR_of (r := intR _) ?_ | refine eR_of (r := itemsR _) ?_ | refine eR_of (r := truD _) ?_ | refine eR_of (r := dMax2 _) ?_ | refine eR_of (r := dMin2 _) ?_ | refine eR_of (r := slD _ _ _) ?_ | refine eR_of (r := mkT _) ?_ | refine eR_of (r := mkL _) ?_ | refine eR_of (r := endR _ _ _ _) ?_ | refine eR_of (r := lRg _ _) ?_ | refine eR_of (r := optB _) ?_ | refine eR_of (r := optR _) ?_); refine ⟨_, rfl, ?_⟩) | ((with_reducible first | refine eR_getCo ?_ | refine eS_frz' ?_); refine ⟨_, rfl, ?_⟩) | ((with_reducible first | refine iR_rng1 ?hh_ ?_ | refine iR_rng2 ?hh_ ?_ | refine iR_dMul ?hh_ ?_ | refine iR_dDiv ?hh_ ?_ | refine iR_dMod ?hh_ ?_ | refine iR_dPow ?hh_ ?_ | refine iR_dAddl ?hh_ ?_ | refine iR_dAdds ?hh_ ?_ | refine iR_dCat ?hh_ ?_ | refine iR_app ?hh_ ?_); (case hh_ => first | omega | decide)) | ((with_reducible first | refine iR_isi_t ?hh_ ?_ | refine if_ct ?hh_ ?_); (case hh_ => exact rfl)) | ((with_reducible first | refine iR_isi_f ?hh_ ?_ | refine if_cf ?hh_ ?_); (case hh_ => exact rfl)) | ((with_reducible refine iR_guard ?hh_ ?_); (case hh_ => first | decide | omega)) | (with_reducible refine iR_okk ?_) | ((with_reducible refine And.intro ?hh_ ?_); (case hh_ => first | decide | exact List.nodup_singleton _ | exact rfl | (simp only [List.length_cons, List.length_nil]; decide) | (intro z; cases z) | omega | (intro _; rfl)))); try dsimp only [List.set_cons_zero, List.set_cons_succ, ownIx, wipeE, restore, List.nil_append, List.cons_append])
      rw [q, if_pos h2]; rfl
    · repeat ((first | (with_reducible first | refine iR_yesT ?_ | refine iR_lcNil ?_ | refine iR_lcCons ?_ | refine if_t ?_ | refine if_f ?_ | refine iS_seq ?_ | refine iS_set ?_ | refine iS_own ?_ | refine iS_drop ?_ | refine iS_ret ?_ | refine iS_retF ?_ | refine iS_next ?_ | refine iS_if ?_ | refine iS_asg ?_ | refine iS_for0 ?_ | refine iR_ap1 ?_ | refine iR_ap2 ?_ | refine iR_ap2N ?_ | refine iR_apA ?_ | refine iR_kst ?_ | refine iR_aNil ?_ | refine iR_aCons ?_ | refine iR_asB ?_ | refine iR_truR ?_ | refine iR_andT ?_ | refine iR_orT ?_ | refine iR_notT ?_ | refine iR_andV ?_ | refine iR_orV ?_ | refine iR_notV ?_ | refine iR_ifE ?_ | refine iR_asI ?_ | refine iS_sub ?_ | refine iS_retO ?_ | refine iR_mtF ?_ | refine iR_cNil ?_ | refine iR_cVal ?_ | refine iR_call ?_ | refine iR_readV ?_ | refine iR_readN ?_ | refine iR_writeN ?_ | refine iR_writeC ?_ | refine iR_asR1 ?_ | refine iR_asR2 ?_ | refine iR_bind ?_ | refine iR_lc ?_ | refine iR_slN ?_ | refine iR_oSome ?_ | refine iR_oNone ?_ | refine iR_lRg2 ?_ | refine iR_eqi ?_ | refine iR_nei ?_ | refine iR_eqs ?_ | refine iR_nes ?_ | refine iR_eqb ?_ | refine iR_neb ?_) | ((with_reducible first | refine eR_getV ?_ | refine eR_getCv ?_ | refine eR_ownL ?_ | refine eR_cOwn ?_ | refine eR_readO ?_ | refine eS_frz ?_ | refine eR_cellO ?_ | refine eR_of (r := gT _ _ _ _) ?_ | refine eR_of (r := gN _ _ _) ?_ | refine eR_of (r := dAddA _ _) ?_ | refine eR_of (r := dSub _ _) ?_ | refine eR_of (r := dLt _ _) ?_ | refine eR_of (r := dLe _ _) ?_ | refine eR_of (r := dGt _ _) ?_ | refine eR_of (r := dGe _ _) ?_ | refine eR_of (r := dIsN _ _) ?_ | refine eR_of (r := dNotN _ _) ?_ | refine eR_of (r := dIx _ _) ?_ | refine eR_of (r := dNeg _) ?_ | refine eR_of (r := dLen _) ?_ | refine eR_of (r := dList _) ?_ | refine eR_of (r := dTuple _) ?_ | refine eR_of (r := dRev _) ?_ | refine eR_of (r := dInt1 _) ?_ | refine eR_of (r := boolR _) ?_ | refine eR_of (r := intR _) ?_ | refine eR_of (r := itemsR _) ?_ | refine eR_of (r := truD _) ?_ | refine eR_of (r := dMax2 _) ?_ | refine eR_of (r := dMin2 _) ?_ | refine eR_of (r := slD _ _ _) ?_ | refine eR_of (r := mkT _) ?_ | refine eR_of (r := mkL _) ?_ | refine eR_of (r := endR _ _ _ _) ?_ | refine eR_of (r := lRg _ _) ?_ | refine eR_of (r := optB _) ?_ | refine eR_of (r := optR _) ?_); refine ⟨_, rfl, ?_⟩) | ((with_reducible first | refine eR_getCo ?_ | refine eS_frz' ?_); refine ⟨_, rfl, ?_⟩) | ((with_reducible first | refine iR_rng1 ?hh_ ?_ | refine iR_rng2 ?hh_ ?_ | refine iR_dMul ?hh_ ?_ | refine iR_dDiv ?hh_ ?_ | refine iR_dMod ?hh_ ?_ | refine iR_dPow ?hh_ ?_ | refine iR_dAddl ?hh_ ?_ | refine iR_dAdds ?hh_ ?_ | refine iR_dCat ?hh_ ?_ | refine iR_app ?hh_ ?_); (case hh_ => first | omega | decide)) | ((with_reducible first | refine iR_isi_t ?hh_ ?_ | refine if_ct ?hh_ ?_); (case hh_ => exact rfl)) | ((with_reducible first | refine iR_isi_f ?hh_ ?_ | refine if_cf ?hh_ ?_); (case hh_ => exact rfl)) | ((with_reducible refine iR_guard ?hh_ ?_); (case hh_ => first | decide | omega)) | (with_reducible refine iR_okk ?_) | ((with_reducible refine And.intro ?hh_ ?_); (case hh_ => first | decide | exact List.nodup_singleton _ | exact rfl | (simp only [List.length_cons, List.length_nil]; decide) | (intro z; cases z) | omega | (intro _; rfl)))); try dsimp only [List.set_cons_zero, List.set_cons_succ, ownIx, wipeE, restore, List.nil_append, List.cons_append])
      rw [q, if_neg h2]; rfl
  repeat ((first | (with_reducible first | refine iR_yesT ?_ | refine iR_lcNil ?_ | refine iR_lcCons ?_ | refine if_t ?_ | refine if_f ?_ | refine iS_seq ?_ | refine iS_set ?_ | refine iS_own ?_ | refine iS_drop ?_ | refine iS_ret ?_ | refine iS_retF ?_ | refine iS_next ?_ | refine iS_if ?_ | refine iS_asg ?_ | refine iS_for0 ?_ | refine iR_ap1 ?_ | refine iR_ap2 ?_ | refine iR_ap2N ?_ | refine iR_apA ?_ | refine iR_kst ?_ | refine iR_aNil ?_ | refine iR_aCons ?_ | refine iR_asB ?_ | refine iR_truR ?_ | refine iR_andT ?_ | refine iR_orT ?_ | refine iR_notT ?_ | refine iR_andV ?_ | refine iR_orV ?_ | refine iR_notV ?_ | refine iR_ifE ?_ | refine iR_asI ?_ | refine iS_sub ?_ | refine iS_retO ?_ | refine iR_mtF ?_ | refine iR_cNil ?_ | refine iR_cVal ?_ | refine iR_call ?_ | refine iR_readV ?_ | refine iR_readN ?_ | refine iR_writeN ?_ | refine iR_writeC ?_ | refine iR_asR1 ?_ | refine iR_asR2 ?_ | refine iR_bind ?_ | refine iR_lc ?_ | refine iR_slN ?_ | refine iR_oSome ?_ | refine iR_oNone ?_ | refine iR_lRg2 ?_ | refine iR_eqi ?_ | refine iR_nei ?_ | refine iR_eqs ?_ | refine iR_nes ?_ | refine iR_eqb ?_ | refine iR_neb ?_) | ((with_reducible first | refine eR_getV ?_ | refine eR_getCv ?_ | refine eR_ownL ?_ | refine eR_cOwn ?_ | refine eR_readO ?_ | refine eS_frz ?_ | refine eR_cellO ?_ | refine eR_of (r := gT _ _ _ _) ?_ | refine eR_of (r := gN _ _ _) ?_ | refine eR_of (r := dAddA _ _) ?_ | refine eR_of (r := dSub _ _) ?_ | refine eR_of (r := dLt _ _) ?_ | refine eR_of (r := dLe _ _) ?_ | refine eR_of (r := dGt _ _) ?_ | refine eR_of (r := dGe _ _) ?_ | refine eR_of (r := dIsN _ _) ?_ | refine eR_of (r := dNotN _ _) ?_ | refine eR_of (r := dIx _ _) ?_ | refine eR_of (r := dNeg _) ?_ | refine eR_of (r := dLen _) ?_ | refine eR_of (r := dList _) ?_ | refine eR_of (r := dTuple _) ?_ | refine eR_of (r := dRev _) ?_ | refine eR_of (r := dInt1 _) ?_ | refine eR_of (r := boolR _) ?_ | refine eR_of (r := intR _) ?_ | refine eR_of (r := itemsR _) ?_ | refine eR_of (r := truD _) ?_ | refine eR_of (r := dMax2 _) ?_ | refine eR_of (r := dMin2 _) ?_ | refine eR_of (r := slD _ _ _) ?_ | refine eR_of (r := mkT _) ?_ | refine eR_of (r := mkL _) ?_ | refine eR_of (r := endR _ _ _ _) ?_ | refine eR_of (r := lRg _ _) ?_ | refine eR_of (r := optB _) ?_ | refine eR_of (r := optR _) ?_); refine ⟨_, rfl, ?_⟩) | ((with_reducible first | refine eR_getCo ?_ | refine eS_frz' ?_); refine ⟨_, rfl, ?_⟩) | ((with_reducible first | refine iR_rng1 ?hh_ ?_ | refine iR_rng2 ?hh_ ?_ | refine iR_dMul ?hh_ ?_ | refine iR_dDiv ?hh_ ?_ | refine iR_dMod ?hh_ ?_ | refine iR_dPow ?hh_ ?_ | refine iR_dAddl ?hh_ ?_ | refine iR_dAdds ?hh_ ?_ | refine iR_dCat ?hh_ ?_ | refine iR_app ?hh_ ?_); (case hh_ => first | omega | decide)) | ((with_reducible first | refine iR_isi_t ?hh_ ?_ | refine if_ct ?hh_ ?_); (case hh_ => exact rfl)) | ((with_reducible first | refine iR_isi_f ?hh_ ?_ | refine if_cf ?hh_ ?_); (case hh_ => exact rfl)) | ((with_reducible refine iR_guard ?hh_ ?_); (case hh_ => first | decide | omega)) | (with_reducible refine iR_okk ?_) | ((with_reducible refine And.intro ?hh_ ?_); (case hh_ => first | decide | exact List.nodup_singleton _ | exact rfl | (simp only [List.length_cons, List.length_nil]; decide) | (intro z; cases z) | omega | (intro _; rfl)))); try dsimp only [List.set_cons_zero, List.set_cons_succ, ownIx, wipeE, restore, List.nil_append, List.cons_append])
  refine DL.ifd (fun h4 => ?_) (fun h4 => ?_)
  · repeat ((first | (with_reducible first | refine iR_yesT ?_ | refine iR_lcNil ?_ | refine iR_lcCons ?_ | refine if_t ?_ | refine if_f ?_ | refine iS_seq ?_ | refine iS_set ?_ | refine iS_own ?_ | refine iS_drop ?_ | refine iS_ret ?_ | refine iS_retF ?_ | refine iS_next ?_ | refine iS_if ?_ | refine iS_asg ?_ | refine iS_for0 ?_ | refine iR_ap1 ?_ | refine iR_ap2 ?_ | refine iR_ap2N ?_ | refine iR_apA ?_ | refine iR_kst ?_ | refine iR_aNil ?_ | refine iR_aCons ?_ | refine iR_asB ?_ | refine iR_truR ?_ | refine iR_andT ?_ | refine iR_orT ?_ | refine iR_notT ?_ | refine iR_andV ?_ | refine iR_orV ?_ | refine iR_notV ?_ | refine iR_ifE ?_ | refine iR_asI ?_ | refine iS_sub ?_ | refine iS_retO ?_ | refine iR_mtF ?_ | refine iR_cNil ?_ | refine iR_cVal ?_ | refine iR_call ?_ | refine iR_readV ?_ | refine iR_readN ?_ | refine iR_writeN ?_ | refine iR_writeC ?_ | refine iR_asR1 ?_ | refine iR_asR2 ?_ | refine iR_bind ?_ | refine iR_lc ?_ | refine iR_slN ?_ | refine iR_oSome ?_ | refine iR_oNone ?_ | refine iR_lRg2 ?_ | refine iR_eqi ?_ | refine iR_nei ?_ | refine iR_eqs ?_ | refine iR_nes ?_ | refine iR_eqb ?_ | refine iR_neb ?_) | ((with_reducible first | refine eR_getV ?_ | refine eR_getCv ?_ | refine eR_ownL ?_ | refine eR_cOwn ?_ | refine eR_readO ?_ | refine eS_frz ?_ | refine eR_cellO ?_ | refine eR_of (r := gT _ _ _ _) ?_ | refine eR_of (r := gN _ _ _) ?_ | refine eR_of (r := dAddA _ _) ?_ | refine eR_of (r := dSub _ _) ?_ | refine eR_of (r := dLt _ _) ?_ | refine eR_of (r := dLe _ _) ?_ | refine eR_of (r := dGt _ _) ?_ | refine eR_of (r := dGe _ _) ?_ | refine eR_of (r := dIsN _ _) ?_ | refine eR_of (r := dNotN _ _) ?_ | refine eR_of (r := dIx _ _) ?_ | refine eR_of (r := dNeg _) ?_ | refine eR_of (r := dLen _) ?_ | refine eR_of (r := dList _) ?_ | refine eR_of (r := dTuple _) ?_ | refine eR_of (r := dRev _) ?_ | refine eR_of (r := dInt1 _) ?_ | refine eR_of (r := boolR _) ?_ | refine eR_of (r := intR _) ?_ | refine eR_of (r := itemsR _) ?_ | refine eR_of (r := truD _) ?_ | refine eR_of (r := dMax2 _) ?_ | refine eR_of (r := dMin2 _) ?_ | refine eR_of (r := slD _ _ _) ?_ | refine eR_of (r := mkT _) ?_ | refine eR_of (r := mkL _) ?_ | refine eR_of (r := endR _ _ _ _) ?_ | refine eR_of (r := lRg _ _) ?_ | refine eR_of (r := optB _) ?_ | refine eR_of (r := optR _) ?_); refine ⟨_, rfl, ?_⟩) | ((with_reducible first | refine eR_getCo ?_ | refine eS_frz' ?_); refine ⟨_, rfl, ?_⟩) | ((with_reducible first | refine iR_rng1 ?hh_ ?_ | refine iR_rng2 ?hh_ ?_ | refine iR_dMul ?hh_ ?_ | refine iR_dDiv ?hh_ ?_ | refine iR_dMod ?hh_ ?_ | refine iR_dPow ?hh_ ?_ | refine iR_dAddl ?hh_ ?_ | refine iR_dAdds ?hh_ ?_ | refine iR_dCat ?hh_ ?_ | refine iR_app ?hh_ ?_); (case hh_ => first | omega | decide)) | ((with_reducible first | refine iR_isi_t ?hh_ ?_ | refine if_ct ?hh_ ?_); (case hh_ => exact rfl)) | ((with_reducible first | refine iR_isi_f ?hh_ ?_ | refine if_cf ?hh_ ?_); (case hh_ => exact rfl)) | ((with_reducible refine iR_guard ?hh_ ?_); (case hh_ => first | decide | omega)) | (with_reducible refine iR_okk ?_) | ((with_reducible refine And.intro ?hh_ ?_); (case hh_ => first | decide | exact List.nodup_singleton _ | exact rfl | (simp only [List.length_cons, List.length_nil]; decide) | (intro z; cases z) | omega | (intro _; rfl)))); try dsimp only [List.set_cons_zero, List.set_cons_succ, ownIx, wipeE, restore, List.nil_append, List.cons_append])
    rw [show pad a b i j = none by unfold pad; rw [if_neg h, if_neg h3, if_pos h4]]; rfl
  repeat ((first | (with_reducible first | refine iR_yesT ?_ | refine iR_lcNil ?_ | refine iR_lcCons ?_ | refine if_t ?_ | refine if_f ?_ | refine iS_seq ?_ | refine iS_set ?_ | refine iS_own ?_ | refine iS_drop ?_ | refine iS_ret ?_ | refine iS_retF ?_ | refine iS_next ?_ | refine iS_if ?_ | refine iS_asg ?_ | refine iS_for0 ?_ | refine iR_ap1 ?_ | refine iR_ap2 ?_ | refine iR_ap2N ?_ | refine iR_apA ?_ | refine iR_kst ?_ | refine iR_aNil ?_ | refine iR_aCons ?_ | refine iR_asB ?_ | refine iR_truR ?_ | refine iR_andT ?_ | refine iR_orT ?_ | refine iR_notT ?_ | refine iR_andV ?_ | refine iR_orV ?_ | refine iR_notV ?_ | refine iR_ifE ?_ | refine iR_asI ?_ | refine iS_sub ?_ | refine iS_retO ?_ | refine iR_mtF ?_ | refine iR_cNil ?_ | refine iR_cVal ?_ | refine iR_call ?_ | refine iR_readV ?_ | refine iR_readN ?_ | refine iR_writeN ?_ | refine iR_writeC ?_ | refine iR_asR1 ?_ | refine iR_asR2 ?_ | refine iR_bind ?_ | refine iR_lc ?_ | refine iR_slN ?_ | refine iR_oSome ?_ | refine iR_oNone ?_ | refine iR_lRg2 ?_ | refine iR_eqi ?_ | refine iR_nei ?_ | refine iR_eqs ?_ | refine iR_nes ?_ | refine iR_eqb ?_ | refine iR_neb ?_) | ((with_reducible first | refine eR_getV ?_ | refine eR_getCv ?_ | refine eR_ownL ?_ | refine eR_cOwn ?_ | refine eR_readO ?_ | refine eS_frz ?_ | refine eR_cellO ?_ | refine eR_of (r := gT _ _ _ _) ?_ | refine eR_of (r := gN _ _ _) ?_ | refine eR_of (r := dAddA _ _) ?_ | refine eR_of (r := dSub _ _) ?_ | refine eR_of (r := dLt _ _) ?_ | refine eR_of (r := dLe _ _) ?_ | refine eR_of (r := dGt _ _) ?_ | refine eR_of (r := dGe _ _) ?_ | refine eR_of (r := dIsN _ _) ?_ | refine eR_of (r := dNotN _ _) ?_ | refine eR_of (r := dIx _ _) ?_ | refine eR_of (r := dNeg _) ?_ | refine eR_of (r := dLen _) ?_ | refine eR_of (r := dList _) ?_ | refine eR_of (r := dTuple _) ?_ | refine eR_of (r := dRev _) ?_ | refine eR_of (r := dInt1 _) ?_ | refine eR_of (r := boolR _) ?_ | refine eR_of (r := intR _) ?_ | refine eR_of (r := itemsR _) ?_ | refine eR_of (r := truD _) ?_ | refine eR_of (r := dMax2 _) ?_ | refine eR_of (r := dMin2 _) ?_ | refine eR_of (r := slD _ _ _) ?_ | refine eR_of (r := mkT _) ?_ | refine eR_of (r := mkL _) ?_ | refine eR_of (r := endR _ _ _ _) ?_ | refine eR_of (r := lRg _ _) ?_ | refine eR_of (r := optB _) ?_ | refine eR_of (r := optR _) ?_); refine ⟨_, rfl, ?_⟩) | ((with_reducible first | refine eR_getCo ?_ | refine eS_frz' ?_); refine ⟨_, rfl, ?_⟩) | ((with_reducible first | refine iR_rng1 ?hh_ ?_ | refine iR_rng2 ?hh_ ?_ | refine iR_dMul ?hh_ ?_ | refine iR_dDiv ?hh_ ?_ | refine iR_dMod ?hh_ ?_ | refine iR_dPow ?hh_ ?_ | refine iR_dAddl ?hh_ ?_ | refine iR_dAdds ?hh_ ?_ | refine iR_dCat ?hh_ ?_ | refine iR_app ?hh_ ?_); (case hh_ => first | omega | decide)) | ((with_reducible first | refine iR_isi_t ?hh_ ?_ | refine if_ct ?hh_ ?_); (case hh_ => exact rfl)) | ((with_reducible first | refine iR_isi_f ?hh_ ?_ | refine if_cf ?hh_ ?_); (case hh_ => exact rfl)) | ((with_reducible refine iR_guard ?hh_ ?_); (case hh_ => first | decide | omega)) | (with_reducible refine iR_okk ?_) | ((with_reducible refine And.intro ?hh_ ?_); (case hh_ => first | decide | exact List.nodup_singleton _ | exact rfl | (simp only [List.length_cons, List.length_nil]; decide) | (intro z; cases z) | omega | (intro _; rfl)))); try dsimp only [List.set_cons_zero, List.set_cons_succ, ownIx, wipeE, restore, List.nil_append, List.cons_append])
  refine DL.ifd (fun h5 => ?_) (fun h5 => ?_)
  · repeat ((first | (with_reducible first | refine iR_yesT ?_ | refine iR_lcNil ?_ | refine iR_lcCons ?_ | refine if_t ?_ | refine if_f ?_ | refine iS_seq ?_ | refine iS_set ?_ | refine iS_own ?_ | refine iS_drop ?_ | refine iS_ret ?_ | refine iS_retF ?_ | refine iS_next ?_ | refine iS_if ?_ | refine iS_asg ?_ | refine iS_for0 ?_ | refine iR_ap1 ?_ | refine iR_ap2 ?_ | refine iR_ap2N ?_ | refine iR_apA ?_ | refine iR_kst ?_ | refine iR_aNil ?_ | refine iR_aCons ?_ | refine iR_asB ?_ | refine iR_truR ?_ | refine iR_andT ?_ | refine iR_orT ?_ | refine iR_notT ?_ | refine iR_andV ?_ | refine iR_orV ?_ | refine iR_notV ?_ | refine iR_ifE ?_ | refine iR_asI ?_ | refine iS_sub ?_ | refine iS_retO ?_ | refine iR_mtF ?_ | refine iR_cNil ?_ | refine iR_cVal ?_ | refine iR_call ?_ | refine iR_readV ?_ | refine iR_readN ?_ | refine iR_writeN ?_ | refine iR_writeC ?_ | refine iR_asR1 ?_ | refine iR_asR2 ?_ | refine iR_bind ?_ | refine iR_lc ?_ | refine iR_slN ?_ | refine iR_oSome ?_ | refine iR_oNone ?_ | refine iR_lRg2 ?_ | refine iR_eqi ?_ | refine iR_nei ?_ | refine iR_eqs ?_ | refine iR_nes ?_ | refine iR_eqb ?_ | refine iR_neb ?_) | ((with_reducible first | refine eR_getV ?_ | refine eR_getCv ?_ | refine eR_ownL ?_ | refine eR_cOwn ?_ | refine eR_readO ?_ | refine eS_frz ?_ | refine eR_cellO ?_ | refine eR_of (r := gT _ _ _ _) ?_ | refine eR_of (r := gN _ _ _) ?_ | refine eR_of (r := dAddA _ _) ?_ | refine eR_of (r := dSub _ _) ?_ | refine eR_of (r := dLt _ _) ?_ | refine eR_of (r := dLe _ _) ?_ | refine eR_of (r := dGt _ _) ?_ | refine eR_of (r := dGe _ _) ?_ | refine eR_of (r := dIsN _ _) ?_ | refine eR_of (r := dNotN _ _) ?_ | refine eR_of (r := dIx _ _) ?_ | refine eR_of (r := dNeg _) ?_ | refine eR_of (r := dLen _) ?_ | refine eR_of (r := dList _) ?_ | refine eR_of (r := dTuple _) ?_ | refine eR_of (r := dRev _) ?_ | refine eR_of (r := dInt1 _) ?_ | refine eR_of (r := boolR _) ?_ | refine eR_of (r := intR _) ?_ | refine eR_of (r := itemsR _) ?_ | refine eR_of (r := truD _) ?_ | refine eR_of (r := dMax2 _) ?_ | refine eR_of (r := dMin2 _) ?_ | refine eR_of (r := slD _ _ _) ?_ | refine eR_of (r := mkT _) ?_ | refine eR_of (r := mkL _) ?_ | refine eR_of (r := endR _ _ _ _) ?_ | refine eR_of (r := lRg _ _) ?_ | refine eR_of (r := optB _) ?_ | refine eR_of (r := optR _) ?_); refine ⟨_, rfl, ?_⟩) | ((with_reducible first | refine eR_getCo ?_ | refine eS_frz' ?_); refine ⟨_, rfl, ?_⟩) | ((with_reducible first | refine iR_rng1 ?hh_ ?_ | refine iR_rng2 ?hh_ ?_ | refine iR_dMul ?hh_ ?_ | refine iR_dDiv ?hh_ ?_ | refine iR_dMod ?hh_ ?_ | refine iR_dPow ?hh_ ?_ | refine iR_dAddl ?hh_ ?_ | refine iR_dAdds ?hh_ ?_ | refine iR_dCat ?hh_ ?_ | refine iR_app ?hh_ ?_); (case hh_ => first | omega | decide)) | ((with_reducible first | refine iR_isi_t ?hh_ ?_ | refine if_ct ?hh_ ?_); (case hh_ => exact rfl)) | ((with_reducible first | refine iR_isi_f ?hh_ ?_ | refine if_cf ?hh_ ?_); (case hh_ => exact rfl)) | ((with_reducible refine iR_guard ?hh_ ?_); (case hh_ => first | decide | omega)) | (with_reducible refine iR_okk ?_) | ((with_reducible refine And.intro ?hh_ ?_); (case hh_ => first | decide | exact List.nodup_singleton _ | exact rfl | (simp only [List.length_cons, List.length_nil]; decide) | (intro z; cases z) | omega | (intro _; rfl)))); try dsimp only [List.set_cons_zero, List.set_cons_succ, ownIx, wipeE, restore, List.nil_append, List.cons_append])
    rw [show pad a b i j = some (i, j) by unfold pad; rw [if_neg h, if_neg h3, if_neg h4, if_pos h5]]; rfl
  · repeat ((first | (with_reducible first | refine iR_yesT ?_ | refine iR_lcNil ?_ | refine iR_lcCons ?_ | refine if_t ?_ | refine if_f ?_ | refine iS_seq ?_ | refine iS_set ?_ | refine iS_own ?_ | refine iS_drop ?_ | refine iS_ret ?_ | refine iS_retF ?_ | refine iS_next ?_ | refine iS_if ?_ | refine iS_asg ?_ | refine iS_for0 ?_ | refine iR_ap1 ?_ | refine iR_ap2 ?_ | refine iR_ap2N ?_ | refine iR_apA ?_ | refine iR_kst ?_ | refine iR_aNil ?_ | refine iR_aCons ?_ | refine iR_asB ?_ | refine iR_truR ?_ | refine iR_andT ?_ | refine iR_orT ?_ | refine iR_notT ?_ | refine iR_andV ?_ | refine iR_orV ?_ | refine iR_notV ?_ | refine iR_ifE ?_ | refine iR_asI ?_ | refine iS_sub ?_ | refine iS_retO ?_ | refine iR_mtF ?_ | refine iR_cNil ?_ | refine iR_cVal ?_ | refine iR_call ?_ | refine iR_readV ?_ | refine iR_readN ?_ | refine iR_writeN ?_ | refine iR_writeC ?_ | refine iR_asR1 ?_ | refine iR_asR2 ?_ | refine iR_bind ?_ | refine iR_lc ?_ | refine iR_slN ?_ | refine iR_oSome ?_ | refine iR_oNone ?_ | refine iR_lRg2 ?_ | refine iR_eqi ?_ | refine iR_nei ?_ | refine iR_eqs ?_ | refine iR_nes ?_ | refine iR_eqb ?_ | refine iR_neb ?_) | ((with_reducible first | refine eR_getV ?_ | refine eR_getCv ?_ | refine eR_ownL ?_ | refine eR_cOwn ?_ | refine eR_readO ?_ | refine eS_frz ?_ | refine eR_cellO ?_ | refine eR_of (r := gT _ _ _ _) ?_ | refine eR_of (r := gN _ _ _) ?_ | refine eR_of (r := dAddA _ _) ?_ | refine eR_of (r := dSub _ _) ?_ | refine eR_of (r := dLt _ _) ?_ | refine eR_of (r := dLe _ _) ?_ | refine eR_of (r := dGt _ _) ?_ | refine eR_of (r := dGe _ _) ?_ | refine eR_of (r := dIsN _ _) ?_ | refine eR_of (r := dNotN _ _) ?_ | refine eR_of (r := dIx _ _) ?_ | refine eR_of (r := dNeg _) ?_ | refine eR_of (r := dLen _) ?_ | refine eR_of (r := dList _) ?_ | refine eR_of (r := dTuple _) ?_ | refine eR_of (r := dRev _) ?_ | refine eR_of (r := dInt1 _) ?_ | refine eR_of (r := boolR _) ?_ | refine eR_of (r := intR _) ?_ | refine eR_of (r := itemsR _) ?_ | refine eR_of (r := truD _) ?_ | refine eR_of (r := dMax2 _) ?_ | refine eR_of (r := dMin2 _) ?_ | refine eR_of (r := slD _ _ _) ?_ | refine eR_of (r := mkT _) ?_ | refine eR_of (r := mkL _) ?_ | refine eR_of (r := endR _ _ _ _) ?_ | refine eR_of (r := lRg _ _) ?_ | refine eR_of (r := optB _) ?_ | refine eR_of (r := optR _) ?_); refine ⟨_, rfl, ?_⟩) | ((with_reducible first | refine eR_getCo ?_ | refine eS_frz' ?_); refine ⟨_, rfl, ?_⟩) | ((with_reducible first | refine iR_rng1 ?hh_ ?_ | refine iR_rng2 ?hh_ ?_ | refine iR_dMul ?hh_ ?_ | refine iR_dDiv ?hh_ ?_ | refine iR_dMod ?hh_ ?_ | refine iR_dPow ?hh_ ?_ | refine iR_dAddl ?hh_ ?_ | refine iR_dAdds ?hh_ ?_ | refine iR_dCat ?hh_ ?_ | refine iR_app ?hh_ ?_); (case hh_ => first | omega | decide)) | ((with_reducible first | refine iR_isi_t ?hh_ ?_ | refine if_ct ?hh_ ?_); (case hh_ => exact rfl)) | ((with_reducible first | refine iR_isi_f ?hh_ ?_ | refine if_cf ?hh_ ?_); (case hh_ => exact rfl)) | ((with_reducible refine iR_guard ?hh_ ?_); (case hh_ => first | decide | omega)) | (with_reducible refine iR_okk ?_) | ((with_reducible refine And.intro ?hh_ ?_); (case hh_ => first | decide | exact List.nodup_singleton _ | exact rfl | (simp only [List.length_cons, List.length_nil]; decide) | (intro z; cases z) | omega | (intro _; rfl)))); try dsimp only [List.set_cons_zero, List.set_cons_succ, ownIx, wipeE, restore, List.nil_append, List.cons_append])
    rw [show pad a b i j = none by unfold pad; rw [if_neg h, if_neg h3, if_neg h4, if_neg h5]]; rfl
end D51
namespace D51
open PySem PySem.Spec L2 DL
theorem rngI_mem {lo x : Int} {n : Nat} (h : x ∈ rngI lo n) : lo ≤ x ∧ x < lo + n := by
  unfold rngI at h
  obtain ⟨k, hk, rfl⟩ := List.mem_map.1 h
  rw [List.mem_range] at hk
  omega
theorem rngI_in {lo x : Int} {n : Nat} (h : lo ≤ x ∧ x < lo + n) : x ∈ rngI lo n := by
  unfold rngI
  refine List.mem_map.2 ⟨(x - lo).toNat, List.mem_range.2 (by omega), by omega⟩
theorem rngI_snoc {lo : Int} {n : Nat} : rngI lo (n + 1) = rngI lo n ++ [lo + (n : Int)] := by
  rw [rngI_add, rngI_succ, rngI_zero]
theorem lin_mid {a b i j u : Int} (h1 : i ≤ u) (h2 : u ≤ j) : min (a * i + b) (a * j + b) ≤ a * u + b ∧ a * u + b ≤ max (a * i + b) (a * j + b) := by
  by_cases h : 0 ≤ a
  · have h3 := Int.mul_le_mul_of_nonneg_left h1 h
    have h4 := Int.mul_le_mul_of_nonneg_left h2 h
    omega
  · have h3 := Int.mul_le_mul_of_nonpos_left (a := a) (by omega) h1
    have h4 := Int.mul_le_mul_of_nonpos_left (a := a) (by omega) h2
    omega
theorem min_lin {a b i : Int} {n : Nat} {x : Int} {xs : List Int} (e : (rngI i (n + 1)).map (fun u => a * u + b) = x :: xs) : xs.foldl min x = min (a * i + b) (a * (i + n) + b) ∧ xs.foldl max x = max (a * i + b) (a * (i + n) + b) := by
  have hi : a * i + b ∈ x :: xs := by rw [← e]; exact List.mem_map.2 ⟨i, rngI_in (by omega), rfl⟩
  have hj : a * (i + n) + b ∈ x :: xs := by rw [← e]; exact List.mem_map.2 ⟨i + n, rngI_in (by omega), rfl⟩
  have hm : ∀ y ∈ x :: xs, min (a * i + b) (a * (i + n) + b) ≤ y ∧ y ≤ max (a * i + b) (a * (i + n) + b) := by
    intro y hy
    rw [← e] at hy
    obtain ⟨u, hu, rfl⟩ := List.mem_map.1 hy
    have := rngI_mem hu
    exact lin_mid (by omega) (by omega)
  obtain ⟨m1, m2⟩ := foldl_min_spec xs x
  obtain ⟨M1, M2⟩ := foldl_max_spec xs x
  have a1 := hm _ m1
  have a2 := m2 _ hi
  have a3 := m2 _ hj
  have b1 := hm _ M1
  have b2 := M2 _ hi
  have b3 := M2 _ hj
  omega
theorem filt_ge {c : Int} : ∀ {n : Nat} {i : Int}, (rngI i n).filter (fun u => decide (c ≤ u)) = rngI (max i c) (i + n - max i c).toNat
  | 0, i => by rw [rngI_zero, show (i + ((0 : Nat) : Int) - max i c).toNat = 0 by omega]; rfl
  | n + 1, i => by
    rw [rngI_succ, List.filter_cons, filt_ge]
    split
    · rename_i h
      have h : c ≤ i := of_decide_eq_true h
      rw [show max (i + 1) c = i + 1 by omega, show max i c = i by omega, show (i + 1 + (n : Int) - (i + 1)).toNat = n by omega, show (i + ((n + 1 : Nat) : Int) - i).toNat = n + 1 by omega, rngI_succ]
    · rename_i h
      have h : ¬ c ≤ i := fun q => h (decide_eq_true q)
      rw [show max (i + 1) c = max i c by omega]
      congr 1; omega
theorem filt_le {c : Int} : ∀ {n : Nat} {i : Int}, (rngI i n).filter (fun u => decide (u ≤ c)) = rngI i (min (i + n - 1) c + 1 - i).toNat
  | 0, i => by rw [rngI_zero, show (min (i + ((0 : Nat) : Int) - 1) c + 1 - i).toNat = 0 by omega]; rfl
  | n + 1, i => by
    rw [rngI_succ, List.filter_cons, filt_le]
    split
    · rename_i h
      have h : i ≤ c := of_decide_eq_true h
      rw [show (min (i + ((n + 1 : Nat) : Int) - 1) c + 1 - i).toNat = (min (i + 1 + (n : Int) - 1) c + 1 - (i + 1)).toNat + 1 by omega, rngI_succ]
    · rename_i h
      have h : ¬ i ≤ c := fun q => h (decide_eq_true q)
      rw [show (min (i + 1 + (n : Int) - 1) c + 1 - (i + 1)).toNat = 0 by omega, show (min (i + ((n + 1 : Nat) : Int) - 1) c + 1 - i).toNat = 0 by omega]; rfl
/-- the interval as numbers -/
def padR (x : Option (Int × Int)) : List Int := match x with
  | none => []
  | some p => rngI p.1 (p.2 + 1 - p.1).toNat
theorem fit_pad {a b i : Int} {n : Nat} : (rngI i (n + 1)).filter (fun u => decide (0 ≤ a * u + b)) = padR (pad a b i (i + n)) ∧ ∀ p, pad a b i (i + n) = some p → p.1 ≤ p.2 := by
  unfold pad
  split
  · rename_i h
    have e : (fun u : Int => decide (0 ≤ a * u + b)) = fun u => decide (-(b.fdiv a) ≤ u) := by
      funext u
      rw [Int.fdiv_eq_ediv_of_nonneg b (by omega)]
      have := Int.le_ediv_iff_mul_le (a := -u) (b := b) (c := a) (by omega)
      rw [Int.neg_mul, Int.mul_comm] at this
      congr 1
      apply propext
      constructor
      · intro q; have := this.2 (by omega); omega
      · intro q; have := this.1 (by omega); omega
    rw [e, filt_ge]
    split
    · refine ⟨?_, fun p hp => by cases hp; assumption⟩
      show _ = rngI _ _
      congr 1; dsimp only; omega
    · refine ⟨?_, fun p hp => by cases hp⟩
      rw [show (i + ((n + 1 : Nat) : Int) - max i (-b.fdiv a)).toNat = 0 by omega]; rfl
  · split
    · rename_i h
      have e : (fun u : Int => decide (0 ≤ a * u + b)) = fun u => decide (u ≤ b.fdiv (-a)) := by
        funext u
        rw [Int.fdiv_eq_ediv_of_nonneg b (by omega)]
        have := Int.le_ediv_iff_mul_le (a := u) (b := b) (c := -a) (by omega)
        rw [Int.mul_neg, Int.mul_comm] at this
        congr 1
        apply propext
        constructor
        · intro q; exact this.2 (by omega)
        · intro q; have := this.1 q; omega
      rw [e, filt_le]
      have e2 : min (i + ((n + 1 : Nat) : Int) - 1) (b.fdiv (-a)) = min (i + n) (b.fdiv (-a)) := by omega
      rw [e2]
      split
      · exact ⟨rfl, fun p hp => by cases hp; assumption⟩
      · refine ⟨?_, fun p hp => by cases hp⟩
        rw [show (min (i + (n : Int)) (b.fdiv (-a)) + 1 - i).toNat = 0 by omega]; rfl
    · rename_i h1 h2
      have : a = 0 := by omega
      subst this
      split
      · rename_i hb
        have e : (fun u : Int => decide (0 ≤ 0 * u + b)) = fun _ => false := by
          funext u; rw [Int.zero_mul]; exact decide_eq_false (by omega)
        rw [e, show (rngI i (n + 1)).filter (fun _ => false) = [] from List.filter_eq_nil_iff.2 (fun _ _ h => by cases h)]
        exact ⟨rfl, fun p hp => by cases hp⟩
      · rename_i hb
        have e : (fun u : Int => decide (0 ≤ 0 * u + b)) = fun _ => true := by
          funext u; rw [Int.zero_mul]; exact decide_eq_true (by omega)
        rw [e, show (rngI i (n + 1)).filter (fun _ => true) = rngI i (n + 1) from List.filter_eq_self.2 (fun _ _ => rfl), if_pos (by omega)]
        refine ⟨?_, fun p hp => by cases hp; dsimp only; omega⟩
        show _ = rngI _ _
        congr 1; dsimp only; omega
end D51
namespace D51
open PySem PySem.Spec L2 DL
def Sm (qs : List (Int × Int)) : Prop := ∀ p ∈ qs, -10 ≤ p.1 ∧ p.1 ≤ 100 ∧ -10 ≤ p.2 ∧ p.2 ≤ 100
theorem covI_len : ∀ {qs : List (Int × Int)}, Sm qs → (covI qs).length ≤ 111 * qs.length
  | [], _ => Nat.le_refl _
  | p :: qs, h => by
    have := covI_len (qs := qs) fun q hq => h q (List.mem_cons_of_mem _ hq)
    have hp := h p List.mem_cons_self
    unfold covI
    rw [List.length_append, rngI_len, List.length_cons]
    omega
theorem covI_snoc : ∀ {qs : List (Int × Int)} {p : Int × Int}, covI (qs ++ [p]) = covI qs ++ rngI p.1 (p.2 + 1 - p.1).toNat
  | [], p => by show covI [p] = _; unfold covI covI; rw [List.append_nil, List.nil_append]
  | q :: qs, p => by rw [List.cons_append]; unfold covI; rw [covI_snoc, List.append_assoc]
theorem prop_snoc {qs : List (Int × Int)} {p : Int × Int} : Prop' (qs ++ [p]) ↔ Prop' qs ∧ p.1 ≤ p.2 := by
  unfold Prop'
  constructor
  · intro h
    exact ⟨fun q hq => h q (List.mem_append_left _ hq), h p (List.mem_append_right _ (List.mem_singleton.2 rfl))⟩
  · rintro ⟨h1, h2⟩ q hq
    rcases List.mem_append.1 hq with hq | hq
    · exact h1 q hq
    · rw [List.mem_singleton.1 hq]; exact h2
theorem cut_tail {xs : List D} : cutD xs (some 1) none = xs.drop 1 := by
  unfold cutD
  cases xs with
  | nil => rfl
  | cons x xs =>
    have e1 : HT.sIx (x :: xs).length 0 (some 1) = 1 := by simp [HT.sIx]
    have e2 : HT.sIx (x :: xs).length (x :: xs).length none = (x :: xs).length := rfl
    rw [e1, e2]
    exact List.take_of_length_le (by simp)
theorem cut_init {xs : List D} {v : D} {k : Int} (hk : k = xs.length) : cutD (xs ++ [v]) none (some k) = xs := by
  subst hk
  unfold cutD
  have e1 : HT.sIx (xs ++ [v]).length 0 none = 0 := rfl
  have e2 : HT.sIx (xs ++ [v]).length (xs ++ [v]).length (some (xs.length : Int)) = xs.length := by simp [HT.sIx]; try omega
  rw [e1, e2]
  simp
theorem atI_end {xs : List D} {v : D} {k : Int} (hk : k = xs.length) : atI (xs ++ [v]) k = some v := by
  subst hk; exact atI_nat (by simp)
theorem okD_prs {ps : List (Int × Int)} : okD 2 (.list (ps.map prD)) := okD_list fun d hd => by
  obtain ⟨p, _, rfl⟩ := List.mem_map.1 hd
  exact okD_tup fun d hd => by
    rcases List.mem_cons.1 hd with rfl | hd
    · exact okD_int
    · rw [List.mem_singleton.1 hd]; exact okD_int
open Classical in
theorem prt_eq {qs : List (Int × Int)} {a b : Int} : (prt a qs == some (max a (b + 1))) = (decide (Prop' qs) && (covI qs == rngI a (b + 1 - a).toNat)) := by
  have e : (max a (b + 1) - a).toNat = (b + 1 - a).toNat := by omega
  by_cases h : Prop' qs ∧ covI qs = rngI a (b + 1 - a).toNat
  · rw [prt_of h.1 (z := max a (b + 1)) (by omega) (by rw [e]; exact h.2), decide_eq_true h.1, h.2]; simp
  · have h1 : ¬ prt a qs = some (max a (b + 1)) := fun q => by
      obtain ⟨q1, _, q2⟩ := prt_some q
      rw [e] at q2
      exact h ⟨q1, q2⟩
    have h2 : (prt a qs == some (max a (b + 1))) = false := by simpa using h1
    rw [h2]
    by_cases hp : Prop' qs
    · have : ¬ covI qs = rngI a (b + 1 - a).toNat := fun q => h ⟨hp, q⟩
      simp [this]
    · simp [hp]
theorem sameOk_tup {n : Nat} {x y : Int} : SameOk (n + 2) (.tuple [.int x, .int y]) :=
  ⟨by show (2 : Nat) < 2 ^ 60; decide, fun d hd => by
    rcases List.mem_cons.1 hd with rfl | hd
    · exact trivial
    · rw [List.mem_singleton.1 hd]; exact trivial⟩
theorem sameOk_pad {n : Nat} {x : Option (Int × Int)} : SameOk (n + 2) (padL x) := by
  cases x with
  | none => exact trivial
  | some p => exact sameOk_tup
theorem same_tup {x y : Int} : RLSame 4 [.tuple [.int x, .int y], .tuple [.int x, .int y]] = .ok false (.bool true) [] := same_self (n := 2 + 2) sameOk_tup
theorem same_pad {x : Option (Int × Int)} : RLSame 4 [padL x, padL x] = .ok false (.bool true) [] := same_self (n := 2 + 2) sameOk_pad
theorem same_of {d e : D} (h : d = e) (hd : SameOk 4 d) : RLSame 4 [d, e] = .ok false (.bool true) [] := by subst h; exact same_self hd
theorem sameW {d : D} (hd : SameOk 4 d) : wD (RLSame 4 [d, d]) fun fr d os => fr = false ∧ d = .bool true ∧ os = [] := by rw [same_self hd]; exact ⟨rfl, rfl, rfl⟩
theorem sameOk4 {x y : Int} : SameOk 4 (.tuple [.int x, .int y]) := sameOk_tup (n := 2)
theorem sameOkP {x : Option (Int × Int)} : SameOk 4 (padL x) := sameOk_pad (n := 2)
end D51
namespace D51
open PySem PySem.Spec L2 DL
open Classical in
theorem rows_ok {c0 c2 c3 c4 c5 c6 c7 c8 c9 c10 : Option DCell} {dk : List D} (HD : Deck dk) : wS ((sSeq (sSet 11 (callR false [true] RLIntervals (cOwn 1 cNil)))
 (sSeq (sSet 12 (ap2 (ap2N 11 (kst (.int 0)) dIx) (kst (.int 0)) dIx))
 (sSeq (sSet 13 (ap2 (ap2N 11 (ap2 (ap1 (getC 11) dLen) (kst (.int 1)) dSub) dIx) (kst (.int 1)) dIx))
 (sSeq (sFor (asI (apA (aCons (getV 11) (aCons (ap1 (getC 11) dRev) (aCons (ap2N 11 (apA (aCons (ap2N 11 (kst (.int 0)) dIx) aNil) mkL) dAddA) (aCons (slN 11 (oSome (kst (.int 1))) oNone) (aCons (eLc [15] (asI (getV 11)) (gN 15) yesT (apA (aCons (ap2N 15 (kst (.int 1)) dIx) (aCons (ap2N 15 (kst (.int 0)) dIx) aNil)) mkT)) (aCons (apA aNil mkL) aNil)))))) mkL)) (gN 14)
 (sSeq (sSet 16 (apA aNil mkL))
 (sSeq (sSet 17 (kst (.bool true)))
 (sSeq (sFor (asI (getV 14)) (gN 15)
 (sSeq (sSet 17 (andV (getC 17) (ap2 (ap2N 15 (kst (.int 0)) dIx) (ap2N 15 (kst (.int 1)) dIx) dLe)))
 (sSet 16 (ap2N 16 (lRg (rg2 (ap2N 15 (kst (.int 0)) dIx) (ap2 (ap2N 15 (kst (.int 1)) dIx) (kst (.int 1)) dAddA))) dAddA))))
 (sIf (notT (asB (callR false [false, false] (RLSame 4) (cVal (callR false [false, false, false] RPartsRange (cVal (getV 14) (cVal (getV 12) (cVal (getV 13) cNil)))) (cVal (andV (getC 17) (ap2N 16 (lRg (rg2 (getV 12) (ap2N 13 (kst (.int 1)) dAddA))) dEq)) cNil)))))
 (sRet (kst (.bool false)))
 sNext)))))
 (sSeq (sSet 16 (apA aNil mkL))
 (sSeq (sFor (asI (getV 11)) (gN 15)
 (sSet 16 (ap2N 16 (lRg (rg2 (ap2N 15 (kst (.int 0)) dIx) (ap2 (ap2N 15 (kst (.int 1)) dIx) (kst (.int 1)) dAddA))) dAddA)))
 (sSeq (sOwn 10 (apA aNil mkL))
 (sSeq (sFor (asI (getV 16)) (gN 7)
 (sIf (andT (asB (ap2N 10 (apA aNil mkL) dNe)) (asB (ap2 (ap2 (ap2N 10 (ap2 (ap1 (getC 10) dLen) (kst (.int 1)) dSub) dIx) (kst (.int 1)) dIx) (ap2N 7 (kst (.int 1)) dSub) dEq)))
 (sOwn 10 (ap2 (slN 10 oNone (oSome (ap2 (ap1 (getC 10) dLen) (kst (.int 1)) dSub))) (apA (aCons (apA (aCons (ap2 (ap2N 10 (ap2 (ap1 (getC 10) dLen) (kst (.int 1)) dSub) dIx) (kst (.int 0)) dIx) (aCons (getV 7) aNil)) mkT) aNil) mkL) dCat))
 (sDrop (mtF 10 mAppend (aCons (apA (aCons (getV 7) (aCons (getV 7) aNil)) mkT) aNil)))))
 (sFrz 10 (sRet (callR false [false, false] RLSameList (cVal (callR false [false] RUnited (cVal (getV 11) cNil)) (cVal (getV 10) cNil))))))))))))) [c0, some (.own (.list dk)), c2, c3, c4, c5, c6, c7, c8, c9, c10, none, none, none, none, none, none, none])
    (fun e => endR [false] false .none e = .ok false (.bool true) []) (fun f x e => endR [false] f x e = .ok false (.bool true) []) := by
  repeat ((first | (with_reducible first | refine iR_yesT ?_ | refine iR_lcNil ?_ | refine iR_lcCons ?_ | refine if_t ?_ | refine if_f ?_ | refine iS_seq ?_ | refine iS_set ?_ | refine iS_own ?_ | refine iS_drop ?_ | refine iS_ret ?_ | refine iS_retF ?_ | refine iS_next ?_ | refine iS_if ?_ | refine iS_asg ?_ | refine iS_for0 ?_ | refine iR_ap1 ?_ | refine iR_ap2 ?_ | refine iR_ap2N ?_ | refine iR_apA ?_ | refine iR_kst ?_ | refine iR_aNil ?_ | refine iR_aCons ?_ | refine iR_asB ?_ | refine iR_truR ?_ | refine iR_andT ?_ | refine iR_orT ?_ | refine iR_notT ?_ | refine iR_andV ?_ | refine iR_orV ?_ | refine iR_notV ?_ | refine iR_ifE ?_ | refine iR_asI ?_ | refine iS_sub ?_ | refine iS_retO ?_ | refine iR_mtF ?_ | refine iR_cNil ?_ | refine iR_cVal ?_ | refine iR_call ?_ | refine iR_readV ?_ | refine iR_readN ?_ | refine iR_writeN ?_ | refine iR_writeC ?_ | refine iR_asR1 ?_ | refine iR_asR2 ?_ | refine iR_bind ?_ | refine iR_lc ?_ | refine iR_slN ?_ | refine iR_oSome ?_ | refine iR_oNone ?_ | refine iR_lRg2 ?_ | refine iR_eqi ?_ | refine iR_nei ?_ | refine iR_eqs ?_ | refine iR_nes ?_ | refine iR_eqb ?_ | refine iR_neb ?_) | ((with_reducible first | refine eR_getV ?_ | refine eR_getCv ?_ | refine eR_ownL ?_ | refine eR_cOwn ?_ | refine eR_readO ?_ | refine eS_frz ?_ | refine eR_cellO ?_ | refine eR_of (r := gT _ _ _ _) ?_ | refine eR_of (r := gN _ _ _) ?_ | refine eR_of (r := dAddA _ _) ?_ | refine eR_of (r := dSub _ _) ?_ | refine eR_of (r := dLt _ _) ?_ | refine eR_of (r := dLe _ _) ?_ | refine eR_of (r := dGt _ _) ?_ | refine eR_of (r := dGe _ _) ?_ | refine eR_of (r := dIsN _ _) ?_ | refine eR_of (r := dNotN _ _) ?_ | refine eR_of (r := dIx _ _) ?_ | refine eR_of (r := dNeg _) ?_ | refine eR_of (r := dLen _) ?_ | refine eR_of (r := dList _) ?_ | refine eR_of (r := dTuple _) ?_ | refine eR_of (r := dRev _) ?_ | refine eR_of (r := dInt1 _) ?_ | refine eR_of (r := boolR _) ?_ | refine eR_of (r := intR _) ?_ | refine eR_of (r := itemsR _) ?_ | refine eR_of (r := truD _) ?_ | refine eR_of (r := dMax2 _) ?_ | refine eR_of (r := dMin2 _) ?_ | refine eR_of (r := slD _ _ _) ?_ | refine eR_of (r := mkT _) ?_ | refine eR_of (r := mkL _) ?_ | refine eR_of (r := endR _ _ _ _) ?_ | refine eR_of (r := lRg _ _) ?_ | refine eR_of (r := optB _) ?_ | refine eR_of (r := optR _) ?_); refine ⟨_, rfl, ?_⟩) | ((with_reducible first | refine eR_getCo ?_ | refine eS_frz' ?_); refine ⟨_, rfl, ?_⟩) | ((with_reducible first | refine iR_rng1 ?hh_ ?_ | refine iR_rng2 ?hh_ ?_ | refine iR_dMul ?hh_ ?_ | refine iR_dDiv ?hh_ ?_ | refine iR_dMod ?hh_ ?_ | refine iR_dPow ?hh_ ?_ | refine iR_dAddl ?hh_ ?_ | refine iR_dAdds ?hh_ ?_ | refine iR_dCat ?hh_ ?_ | refine iR_app ?hh_ ?_); (case hh_ => first | omega | decide)) | ((with_reducible first | refine iR_isi_t ?hh_ ?_ | refine if_ct ?hh_ ?_); (case hh_ => exact rfl)) | ((with_reducible first | refine iR_isi_f ?hh_ ?_ | refine if_cf ?hh_ ?_); (case hh_ => exact rfl)) | ((with_reducible refine iR_guard ?hh_ ?_); (case hh_ => first | decide | omega)) | (with_reducible refine iR_okk ?_) | ((with_reducible refine And.intro ?hh_ ?_); (case hh_ => first | decide | exact List.nodup_singleton _ | exact rfl | (simp only [List.length_cons, List.length_nil]; decide) | (intro z; cases z) | omega | (intro _; rfl)))); try dsimp only [List.set_cons_zero, List.set_cons_succ, ownIx, wipeE, restore, List.nil_append, List.cons_append])
  refine DL.iD_mono (intervals_ok HD) ?_
  rintro _ _ _ ⟨ps, dk, rfl, hne, hl5, hps, rfl, HD⟩
  have hsz : (2048 : Nat) ≤ sizeLine := by decide
  have hsm : Sm ps := fun p hp => by have := hps p hp; omega
  have hpr : Prop' ps := fun p hp => (hps p hp).1
  obtain ⟨p, ps0, hp⟩ : ∃ p ps0, ps = p :: ps0 := by cases ps with | nil => exact (hne rfl).elim | cons p ps => exact ⟨_, _, rfl⟩
  obtain ⟨A, z, hA⟩ : ∃ A z, ps = A ++ [z] := by
    rcases List.eq_nil_or_concat ps with h | ⟨A, z, h⟩
    · exact (hne h).elim
    · exact ⟨A, z, by rw [h, List.concat_eq_append]⟩
  have h0 : atI (ps.map prD) 0 = some (.tuple [.int p.1, .int p.2]) := by rw [hp]; exact atI_nat (j := 0) rfl
  have hZ : atI (ps.map prD) (((ps.map prD).length : Int) - 1) = some (.tuple [.int z.1, .int z.2]) := by
    rw [hA, List.map_append]; exact atI_end (by simp; try omega)
  have hmem : p ∈ ps := by rw [hp]; exact List.mem_cons_self
  have hzm : z ∈ ps := by rw [hA]; simp
  repeat ((first | (with_reducible first | refine iR_yesT ?_ | refine iR_lcNil ?_ | refine iR_lcCons ?_ | refine if_t ?_ | refine if_f ?_ | refine iS_seq ?_ | refine iS_set ?_ | refine iS_own ?_ | refine iS_drop ?_ | refine iS_ret ?_ | refine iS_retF ?_ | refine iS_next ?_ | refine iS_if ?_ | refine iS_asg ?_ | refine iS_for0 ?_ | refine iR_ap1 ?_ | refine iR_ap2 ?_ | refine iR_ap2N ?_ | refine iR_apA ?_ | refine iR_kst ?_ | refine iR_aNil ?_ | refine iR_aCons ?_ | refine iR_asB ?_ | refine iR_truR ?_ | refine iR_andT ?_ | refine iR_orT ?_ | refine iR_notT ?_ | refine iR_andV ?_ | refine iR_orV ?_ | refine iR_notV ?_ | refine iR_ifE ?_ | refine iR_asI ?_ | refine iS_sub ?_ | refine iS_retO ?_ | refine iR_mtF ?_ | refine iR_cNil ?_ | refine iR_cVal ?_ | refine iR_call ?_ | refine iR_readV ?_ | refine iR_readN ?_ | refine iR_writeN ?_ | refine iR_writeC ?_ | refine iR_asR1 ?_ | refine iR_asR2 ?_ | refine iR_bind ?_ | refine iR_lc ?_ | refine iR_slN ?_ | refine iR_oSome ?_ | refine iR_oNone ?_ | refine iR_lRg2 ?_ | refine iR_eqi ?_ | refine iR_nei ?_ | refine iR_eqs ?_ | refine iR_nes ?_ | refine iR_eqb ?_ | refine iR_neb ?_) | ((with_reducible first | refine eR_getV ?_ | refine eR_getCv ?_ | refine eR_ownL ?_ | refine eR_cOwn ?_ | refine eR_readO ?_ | refine eS_frz ?_ | refine eR_cellO ?_ | refine eR_of (r := gT _ _ _ _) ?_ | refine eR_of (r := gN _ _ _) ?_ | refine eR_of (r := dAddA _ _) ?_ | refine eR_of (r := dSub _ _) ?_ | refine eR_of (r := dLt _ _) ?_ | refine eR_of (r := dLe _ _) ?_ | refine eR_of (r := dGt _ _) ?_ | refine eR_of (r := dGe _ _) ?_ | refine eR_of (r := dIsN _ _) ?_ | refine eR_of (r := dNotN _ _) ?_ | refine eR_of (r := dIx _ _) ?_ | refine eR_of (r := dNeg _) ?_ | refine eR_of (r := dLen _) ?_ | refine eR_of (r := dList _) ?_ | refine eR_of (r := dTuple _) ?_ | refine eR_of (r := dRev _) ?_ | refine eR_of (r := dInt1 _) ?_ | refine eR_of (r := boolR _) ?_ | refine eR_of (r := intR _) ?_ | refine eR_of (r := itemsR _) ?_ | refine eR_of (r := truD _) ?_ | refine eR_of (r := dMax2 _) ?_ | refine eR_of (r := dMin2 _) ?_ | refine eR_of (r := slD _ _ _) ?_ | refine eR_of (r := mkT _) ?_ | refine eR_of (r := mkL _) ?_ | refine eR_of (r := endR _ _ _ _) ?_ | refine eR_of (r := lRg _ _) ?_ | refine eR_of (r := optB _) ?_ | refine eR_of (r := optR _) ?_); refine ⟨_, rfl, ?_⟩) | ((with_reducible first | refine eR_getCo ?_ | refine eS_frz' ?_); refine ⟨_, rfl, ?_⟩) | ((with_reducible first | refine iR_rng1 ?hh_ ?_ | refine iR_rng2 ?hh_ ?_ | refine iR_dMul ?hh_ ?_ | refine iR_dDiv ?hh_ ?_ | refine iR_dMod ?hh_ ?_ | refine iR_dPow ?hh_ ?_ | refine iR_dAddl ?hh_ ?_ | refine iR_dAdds ?hh_ ?_ | refine iR_dCat ?hh_ ?_ | refine iR_app ?hh_ ?_); (case hh_ => first | omega | decide)) | ((with_reducible first | refine iR_isi_t ?hh_ ?_ | refine if_ct ?hh_ ?_); (case hh_ => exact rfl)) | ((with_reducible first | refine iR_isi_f ?hh_ ?_ | refine if_cf ?hh_ ?_); (case hh_ => exact rfl)) | ((with_reducible refine iR_guard ?hh_ ?_); (case hh_ => first | decide | omega)) | (with_reducible refine iR_okk ?_) | ((with_reducible refine And.intro ?hh_ ?_); (case hh_ => first | decide | exact List.nodup_singleton _ | exact rfl | (simp only [List.length_cons, List.length_nil]; decide) | (intro z; cases z) | omega | (intro _; rfl)))); try dsimp only [List.set_cons_zero, List.set_cons_succ, ownIx, wipeE, restore, List.nil_append, List.cons_append])
  refine iR_ixl h0 ?_
  repeat ((first | (with_reducible first | refine iR_yesT ?_ | refine iR_lcNil ?_ | refine iR_lcCons ?_ | refine if_t ?_ | refine if_f ?_ | refine iS_seq ?_ | refine iS_set ?_ | refine iS_own ?_ | refine iS_drop ?_ | refine iS_ret ?_ | refine iS_retF ?_ | refine iS_next ?_ | refine iS_if ?_ | refine iS_asg ?_ | refine iS_for0 ?_ | refine iR_ap1 ?_ | refine iR_ap2 ?_ | refine iR_ap2N ?_ | refine iR_apA ?_ | refine iR_kst ?_ | refine iR_aNil ?_ | refine iR_aCons ?_ | refine iR_asB ?_ | refine iR_truR ?_ | refine iR_andT ?_ | refine iR_orT ?_ | refine iR_notT ?_ | refine iR_andV ?_ | refine iR_orV ?_ | refine iR_notV ?_ | refine iR_ifE ?_ | refine iR_asI ?_ | refine iS_sub ?_ | refine iS_retO ?_ | refine iR_mtF ?_ | refine iR_cNil ?_ | refine iR_cVal ?_ | refine iR_call ?_ | refine iR_readV ?_ | refine iR_readN ?_ | refine iR_writeN ?_ | refine iR_writeC ?_ | refine iR_asR1 ?_ | refine iR_asR2 ?_ | refine iR_bind ?_ | refine iR_lc ?_ | refine iR_slN ?_ | refine iR_oSome ?_ | refine iR_oNone ?_ | refine iR_lRg2 ?_ | refine iR_eqi ?_ | refine iR_nei ?_ | refine iR_eqs ?_ | refine iR_nes ?_ | refine iR_eqb ?_ | refine iR_neb ?_) | ((with_reducible first | refine eR_getV ?_ | refine eR_getCv ?_ | refine eR_ownL ?_ | refine eR_cOwn ?_ | refine eR_readO ?_ | refine eS_frz ?_ | refine eR_cellO ?_ | refine eR_of (r := gT _ _ _ _) ?_ | refine eR_of (r := gN _ _ _) ?_ | refine eR_of (r := dAddA _ _) ?_ | refine eR_of (r := dSub _ _) ?_ | refine eR_of (r := dLt _ _) ?_ | refine eR_of (r := dLe _ _) ?_ | refine eR_of (r := dGt _ _) ?_ | refine eR_of (r := dGe _ _) ?_ | refine eR_of (r := dIsN _ _) ?_ | refine eR_of (r := dNotN _ _) ?_ | refine eR_of (r := dIx _ _) ?_ | refine eR_of (r := dNeg _) ?_ | refine eR_of (r := dLen _) ?_ | refine eR_of (r := dList _) ?_ | refine eR_of (r := dTuple _) ?_ | refine eR_of (r := dRev _) ?_ | refine eR_of (r := dInt1 _) ?_ | refine eR_of (r := boolR _) ?_ | refine eR_of (r := intR _) ?_ | refine eR_of (r := itemsR _) ?_ | refine eR_of (r := truD _) ?_ | refine eR_of (r := dMax2 _) ?_ | refine eR_of (r := dMin2 _) ?_ | refine eR_of (r := slD _ _ _) ?_ | refine eR_of (r := mkT _) ?_ | refine eR_of (r := mkL _) ?_ | refine eR_of (r := endR _ _ _ _) ?_ | refine eR_of (r := lRg _ _) ?_ | refine eR_of (r := optB _) ?_ | refine eR_of (r := optR _) ?_); refine ⟨_, rfl, ?_⟩) | ((with_reducible first | refine eR_getCo ?_ | refine eS_frz' ?_); refine ⟨_, rfl, ?_⟩) | ((with_reducible first | refine iR_rng1 ?hh_ ?_ | refine iR_rng2 ?hh_ ?_ | refine iR_dMul ?hh_ ?_ | refine iR_dDiv ?hh_ ?_ | refine iR_dMod ?hh_ ?_ | refine iR_dPow ?hh_ ?_ | refine iR_dAddl ?hh_ ?_ | refine iR_dAdds ?hh_ ?_ | refine iR_dCat ?hh_ ?_ | refine iR_app ?hh_ ?_); (case hh_ => first | omega | decide)) | ((with_reducible first | refine iR_isi_t ?hh_ ?_ | refine if_ct ?hh_ ?_); (case hh_ => exact rfl)) | ((with_reducible first | refine iR_isi_f ?hh_ ?_ | refine if_cf ?hh_ ?_); (case hh_ => exact rfl)) | ((with_reducible refine iR_guard ?hh_ ?_); (case hh_ => first | decide | omega)) | (with_reducible refine iR_okk ?_) | ((with_reducible refine And.intro ?hh_ ?_); (case hh_ => first | decide | exact List.nodup_singleton _ | exact rfl | (simp only [List.length_cons, List.length_nil]; decide) | (intro z; cases z) | omega | (intro _; rfl)))); try dsimp only [List.set_cons_zero, List.set_cons_succ, ownIx, wipeE, restore, List.nil_append, List.cons_append])
  refine iR_ixl hZ ?_
  repeat ((first | (with_reducible first | refine iR_yesT ?_ | refine iR_lcNil ?_ | refine iR_lcCons ?_ | refine if_t ?_ | refine if_f ?_ | refine iS_seq ?_ | refine iS_set ?_ | refine iS_own ?_ | refine iS_drop ?_ | refine iS_ret ?_ | refine iS_retF ?_ | refine iS_next ?_ | refine iS_if ?_ | refine iS_asg ?_ | refine iS_for0 ?_ | refine iR_ap1 ?_ | refine iR_ap2 ?_ | refine iR_ap2N ?_ | refine iR_apA ?_ | refine iR_kst ?_ | refine iR_aNil ?_ | refine iR_aCons ?_ | refine iR_asB ?_ | refine iR_truR ?_ | refine iR_andT ?_ | refine iR_orT ?_ | refine iR_notT ?_ | refine iR_andV ?_ | refine iR_orV ?_ | refine iR_notV ?_ | refine iR_ifE ?_ | refine iR_asI ?_ | refine iS_sub ?_ | refine iS_retO ?_ | refine iR_mtF ?_ | refine iR_cNil ?_ | refine iR_cVal ?_ | refine iR_call ?_ | refine iR_readV ?_ | refine iR_readN ?_ | refine iR_writeN ?_ | refine iR_writeC ?_ | refine iR_asR1 ?_ | refine iR_asR2 ?_ | refine iR_bind ?_ | refine iR_lc ?_ | refine iR_slN ?_ | refine iR_oSome ?_ | refine iR_oNone ?_ | refine iR_lRg2 ?_ | refine iR_eqi ?_ | refine iR_nei ?_ | refine iR_eqs ?_ | refine iR_nes ?_ | refine iR_eqb ?_ | refine iR_neb ?_) | ((with_reducible first | refine eR_getV ?_ | refine eR_getCv ?_ | refine eR_ownL ?_ | refine eR_cOwn ?_ | refine eR_readO ?_ | refine eS_frz ?_ | refine eR_cellO ?_ | refine eR_of (r := gT _ _ _ _) ?_ | refine eR_of (r := gN _ _ _) ?_ | refine eR_of (r := dAddA _ _) ?_ | refine eR_of (r := dSub _ _) ?_ | refine eR_of (r := dLt _ _) ?_ | refine eR_of (r := dLe _ _) ?_ | refine eR_of (r := dGt _ _) ?_ | refine eR_of (r := dGe _ _) ?_ | refine eR_of (r := dIsN _ _) ?_ | refine eR_of (r := dNotN _ _) ?_ | refine eR_of (r := dIx _ _) ?_ | refine eR_of (r := dNeg _) ?_ | refine eR_of (r := dLen _) ?_ | refine eR_of (r := dList _) ?_ | refine eR_of (r := dTuple _) ?_ | refine eR_of (r := dRev _) ?_ | refine eR_of (r := dInt1 _) ?_ | refine eR_of (r := boolR _) ?_ | refine eR_of (r := intR _) ?_ | refine eR_of (r := itemsR _) ?_ | refine eR_of (r := truD _) ?_ | refine eR_of (r := dMax2 _) ?_ | refine eR_of (r := dMin2 _) ?_ | refine eR_of (r := slD _ _ _) ?_ | refine eR_of (r := mkT _) ?_ | refine eR_of (r := mkL _) ?_ | refine eR_of (r := endR _ _ _ _) ?_ | refine eR_of (r := lRg _ _) ?_ | refine eR_of (r := optB _) ?_ | refine eR_of (r := optR _) ?_); refine ⟨_, rfl, ?_⟩) | ((with_reducible first | refine eR_getCo ?_ | refine eS_frz' ?_); refine ⟨_, rfl, ?_⟩) | ((with_reducible first | refine iR_rng1 ?hh_ ?_ | refine iR_rng2 ?hh_ ?_ | refine iR_dMul ?hh_ ?_ | refine iR_dDiv ?hh_ ?_ | refine iR_dMod ?hh_ ?_ | refine iR_dPow ?hh_ ?_ | refine iR_dAddl ?hh_ ?_ | refine iR_dAdds ?hh_ ?_ | refine iR_dCat ?hh_ ?_ | refine iR_app ?hh_ ?_); (case hh_ => first | omega | decide)) | ((with_reducible first | refine iR_isi_t ?hh_ ?_ | refine if_ct ?hh_ ?_); (case hh_ => exact rfl)) | ((with_reducible first | refine iR_isi_f ?hh_ ?_ | refine if_cf ?hh_ ?_); (case hh_ => exact rfl)) | ((with_reducible refine iR_guard ?hh_ ?_); (case hh_ => first | decide | omega)) | (with_reducible refine iR_okk ?_) | ((with_reducible refine And.intro ?hh_ ?_); (case hh_ => first | decide | exact List.nodup_singleton _ | exact rfl | (simp only [List.length_cons, List.length_nil]; decide) | (intro z; cases z) | omega | (intro _; rfl)))); try dsimp only [List.set_cons_zero, List.set_cons_succ, ownIx, wipeE, restore, List.nil_append, List.cons_append])
  refine iR_ixl h0 ?_
  repeat ((first | (with_reducible first | refine iR_yesT ?_ | refine iR_lcNil ?_ | refine iR_lcCons ?_ | refine if_t ?_ | refine if_f ?_ | refine iS_seq ?_ | refine iS_set ?_ | refine iS_own ?_ | refine iS_drop ?_ | refine iS_ret ?_ | refine iS_retF ?_ | refine iS_next ?_ | refine iS_if ?_ | refine iS_asg ?_ | refine iS_for0 ?_ | refine iR_ap1 ?_ | refine iR_ap2 ?_ | refine iR_ap2N ?_ | refine iR_apA ?_ | refine iR_kst ?_ | refine iR_aNil ?_ | refine iR_aCons ?_ | refine iR_asB ?_ | refine iR_truR ?_ | refine iR_andT ?_ | refine iR_orT ?_ | refine iR_notT ?_ | refine iR_andV ?_ | refine iR_orV ?_ | refine iR_notV ?_ | refine iR_ifE ?_ | refine iR_asI ?_ | refine iS_sub ?_ | refine iS_retO ?_ | refine iR_mtF ?_ | refine iR_cNil ?_ | refine iR_cVal ?_ | refine iR_call ?_ | refine iR_readV ?_ | refine iR_readN ?_ | refine iR_writeN ?_ | refine iR_writeC ?_ | refine iR_asR1 ?_ | refine iR_asR2 ?_ | refine iR_bind ?_ | refine iR_lc ?_ | refine iR_slN ?_ | refine iR_oSome ?_ | refine iR_oNone ?_ | refine iR_lRg2 ?_ | refine iR_eqi ?_ | refine iR_nei ?_ | refine iR_eqs ?_ | refine iR_nes ?_ | refine iR_eqb ?_ | refine iR_neb ?_) | ((with_reducible first | refine eR_getV ?_ | refine eR_getCv ?_ | refine eR_ownL ?_ | refine eR_cOwn ?_ | refine eR_readO ?_ | refine eS_frz ?_ | refine eR_cellO ?_ | refine eR_of (r := gT _ _ _ _) ?_ | refine eR_of (r := gN _ _ _) ?_ | refine eR_of (r := dAddA _ _) ?_ | refine eR_of (r := dSub _ _) ?_ | refine eR_of (r := dLt _ _) ?_ | refine eR_of (r := dLe _ _) ?_ | refine eR_of (r := dGt _ _) ?_ | refine eR_of (r := dGe _ _) ?_ | refine eR_of (r := dIsN _ _) ?_ | refine eR_of (r := dNotN _ _) ?_ | refine eR_of (r := dIx _ _) ?_ | refine eR_of (r := dNeg _) ?_ | refine eR_of (r := dLen _) ?_ | refine eR_of (r := dList _) ?_ | refine eR_of (r := dTuple _) ?_ | refine eR_of (r := dRev _) ?_ | refine eR_of (r := dInt1 _) ?_ | refine eR_of (r := boolR _) ?_ | refine eR_of (r := intR _) ?_ | refine eR_of (r := itemsR _) ?_ | refine eR_of (r := truD _) ?_ | refine eR_of (r := dMax2 _) ?_ | refine eR_of (r := dMin2 _) ?_ | refine eR_of (r := slD _ _ _) ?_ | refine eR_of (r := mkT _) ?_ | refine eR_of (r := mkL _) ?_ | refine eR_of (r := endR _ _ _ _) ?_ | refine eR_of (r := lRg _ _) ?_ | refine eR_of (r := optB _) ?_ | refine eR_of (r := optR _) ?_); refine ⟨_, rfl, ?_⟩) | ((with_reducible first | refine eR_getCo ?_ | refine eS_frz' ?_); refine ⟨_, rfl, ?_⟩) | ((with_reducible first | refine iR_rng1 ?hh_ ?_ | refine iR_rng2 ?hh_ ?_ | refine iR_dMul ?hh_ ?_ | refine iR_dDiv ?hh_ ?_ | refine iR_dMod ?hh_ ?_ | refine iR_dPow ?hh_ ?_ | refine iR_dAddl ?hh_ ?_ | refine iR_dAdds ?hh_ ?_ | refine iR_dCat ?hh_ ?_ | refine iR_app ?hh_ ?_); (case hh_ => first | omega | decide)) | ((with_reducible first | refine iR_isi_t ?hh_ ?_ | refine if_ct ?hh_ ?_); (case hh_ => exact rfl)) | ((with_reducible first | refine iR_isi_f ?hh_ ?_ | refine if_cf ?hh_ ?_); (case hh_ => exact rfl)) | ((with_reducible refine iR_guard ?hh_ ?_); (case hh_ => first | decide | omega)) | (with_reducible refine iR_okk ?_) | ((with_reducible refine And.intro ?hh_ ?_); (case hh_ => first | decide | exact List.nodup_singleton _ | exact rfl | (simp only [List.length_cons, List.length_nil]; decide) | (intro z; cases z) | omega | (intro _; rfl)))); try dsimp only [List.set_cons_zero, List.set_cons_succ, ownIx, wipeE, restore, List.nil_append, List.cons_append])
  refine iR_dAddl (by rw [List.length_map]; show _ + 1 ≤ _; omega) ?_
  repeat ((first | (with_reducible first | refine iR_yesT ?_ | refine iR_lcNil ?_ | refine iR_lcCons ?_ | refine if_t ?_ | refine if_f ?_ | refine iS_seq ?_ | refine iS_set ?_ | refine iS_own ?_ | refine iS_drop ?_ | refine iS_ret ?_ | refine iS_retF ?_ | refine iS_next ?_ | refine iS_if ?_ | refine iS_asg ?_ | refine iS_for0 ?_ | refine iR_ap1 ?_ | refine iR_ap2 ?_ | refine iR_ap2N ?_ | refine iR_apA ?_ | refine iR_kst ?_ | refine iR_aNil ?_ | refine iR_aCons ?_ | refine iR_asB ?_ | refine iR_truR ?_ | refine iR_andT ?_ | refine iR_orT ?_ | refine iR_notT ?_ | refine iR_andV ?_ | refine iR_orV ?_ | refine iR_notV ?_ | refine iR_ifE ?_ | refine iR_asI ?_ | refine iS_sub ?_ | refine iS_retO ?_ | refine iR_mtF ?_ | refine iR_cNil ?_ | refine iR_cVal ?_ | refine iR_call ?_ | refine iR_readV ?_ | refine iR_readN ?_ | refine iR_writeN ?_ | refine iR_writeC ?_ | refine iR_asR1 ?_ | refine iR_asR2 ?_ | refine iR_bind ?_ | refine iR_lc ?_ | refine iR_slN ?_ | refine iR_oSome ?_ | refine iR_oNone ?_ | refine iR_lRg2 ?_ | refine iR_eqi ?_ | refine iR_nei ?_ | refine iR_eqs ?_ | refine iR_nes ?_ | refine iR_eqb ?_ | refine iR_neb ?_) | ((with_reducible first | refine eR_getV ?_ | refine eR_getCv ?_ | refine eR_ownL ?_ | refine eR_cOwn ?_ | refine eR_readO ?_ | refine eS_frz ?_ | refine eR_cellO ?_ | refine eR_of (r := gT _ _ _ _) ?_ | refine eR_of (r := gN _ _ _) ?_ | refine eR_of (r := dAddA _ _) ?_ | refine eR_of (r := dSub _ _) ?_ | refine eR_of (r := dLt _ _) ?_ | refine eR_of (r := dLe _ _) ?_ | refine eR_of (r := dGt _ _) ?_ | refine eR_of (r := dGe _ _) ?_ | refine eR_of (r := dIsN _ _) ?_ | refine eR_of (r := dNotN _ _) ?_ | refine eR_of (r := dIx _ _) ?_ | refine eR_of (r := dNeg _) ?_ | refine eR_of (r := dLen _) ?_ | refine eR_of (r := dList _) ?_ | refine eR_of (r := dTuple _) ?_ | refine eR_of (r := dRev _) ?_ | refine eR_of (r := dInt1 _) ?_ | refine eR_of (r := boolR _) ?_ | refine eR_of (r := intR _) ?_ | refine eR_of (r := itemsR _) ?_ | refine eR_of (r := truD _) ?_ | refine eR_of (r := dMax2 _) ?_ | refine eR_of (r := dMin2 _) ?_ | refine eR_of (r := slD _ _ _) ?_ | refine eR_of (r := mkT _) ?_ | refine eR_of (r := mkL _) ?_ | refine eR_of (r := endR _ _ _ _) ?_ | refine eR_of (r := lRg _ _) ?_ | refine eR_of (r := optB _) ?_ | refine eR_of (r := optR _) ?_); refine ⟨_, rfl, ?_⟩) | ((with_reducible first | refine eR_getCo ?_ | refine eS_frz' ?_); refine ⟨_, rfl, ?_⟩) | ((with_reducible first | refine iR_rng1 ?hh_ ?_ | refine iR_rng2 ?hh_ ?_ | refine iR_dMul ?hh_ ?_ | refine iR_dDiv ?hh_ ?_ | refine iR_dMod ?hh_ ?_ | refine iR_dPow ?hh_ ?_ | refine iR_dAddl ?hh_ ?_ | refine iR_dAdds ?hh_ ?_ | refine iR_dCat ?hh_ ?_ | refine iR_app ?hh_ ?_); (case hh_ => first | omega | decide)) | ((with_reducible first | refine iR_isi_t ?hh_ ?_ | refine if_ct ?hh_ ?_); (case hh_ => exact rfl)) | ((with_reducible first | refine iR_isi_f ?hh_ ?_ | refine if_cf ?hh_ ?_); (case hh_ => exact rfl)) | ((with_reducible refine iR_guard ?hh_ ?_); (case hh_ => first | decide | omega)) | (with_reducible refine iR_okk ?_) | ((with_reducible refine And.intro ?hh_ ?_); (case hh_ => first | decide | exact List.nodup_singleton _ | exact rfl | (simp only [List.length_cons, List.length_nil]; decide) | (intro z; cases z) | omega | (intro _; rfl)))); try dsimp only [List.set_cons_zero, List.set_cons_succ, ownIx, wipeE, restore, List.nil_append, List.cons_append])
  refine iR_lcL (fun k acc e => acc = ((ps.take k).map fun p => (p.2, p.1)).map prD ∧ e = [c0, some (.own (.list dk)), c2, c3, c4, c5, c6, c7, c8, c9, c10, some (.val (.list (ps.map prD))), some (.val (.int p.1)), some (.val (.int z.2)), none, none, none, none]) ⟨rfl, rfl⟩ ?_ ?_
  · rintro j d acc e hj ⟨rfl, rfl⟩
    rw [List.getElem?_map] at hj
    cases hq : ps[j]? with
    | none => rw [hq] at hj; cases hj
    | some q =>
      rw [hq] at hj
      cases hj
      unfold prD
      repeat ((first | (with_reducible first | refine iR_yesT ?_ | refine iR_lcNil ?_ | refine iR_lcCons ?_ | refine if_t ?_ | refine if_f ?_ | refine iS_seq ?_ | refine iS_set ?_ | refine iS_own ?_ | refine iS_drop ?_ | refine iS_ret ?_ | refine iS_retF ?_ | refine iS_next ?_ | refine iS_if ?_ | refine iS_asg ?_ | refine iS_for0 ?_ | refine iR_ap1 ?_ | refine iR_ap2 ?_ | refine iR_ap2N ?_ | refine iR_apA ?_ | refine iR_kst ?_ | refine iR_aNil ?_ | refine iR_aCons ?_ | refine iR_asB ?_ | refine iR_truR ?_ | refine iR_andT ?_ | refine iR_orT ?_ | refine iR_notT ?_ | refine iR_andV ?_ | refine iR_orV ?_ | refine iR_notV ?_ | refine iR_ifE ?_ | refine iR_asI ?_ | refine iS_sub ?_ | refine iS_retO ?_ | refine iR_mtF ?_ | refine iR_cNil ?_ | refine iR_cVal ?_ | refine iR_call ?_ | refine iR_readV ?_ | refine iR_readN ?_ | refine iR_writeN ?_ | refine iR_writeC ?_ | refine iR_asR1 ?_ | refine iR_asR2 ?_ | refine iR_bind ?_ | refine iR_lc ?_ | refine iR_slN ?_ | refine iR_oSome ?_ | refine iR_oNone ?_ | refine iR_lRg2 ?_ | refine iR_eqi ?_ | refine iR_nei ?_ | refine iR_eqs ?_ | refine iR_nes ?_ | refine iR_eqb ?_ | refine iR_neb ?_) | ((with_reducible first | refine eR_getV ?_ | refine eR_getCv ?_ | refine eR_ownL ?_ | refine eR_cOwn ?_ | refine eR_readO ?_ | refine eS_frz ?_ | refine eR_cellO ?_ | refine eR_of (r := gT _ _ _ _) ?_ | refine eR_of (r := gN _ _ _) ?_ | refine eR_of (r := dAddA _ _) ?_ | refine eR_of (r := dSub _ _) ?_ | refine eR_of (r := dLt _ _) ?_ | refine eR_of (r := dLe _ _) ?_ | refine eR_of (r := dGt _ _) ?_ | refine eR_of (r := dGe _ _) ?_ | refine eR_of (r := dIsN _ _) ?_ | refine eR_of (r := dNotN _ _) ?_ | refine eR_of (r := dIx _ _) ?_ | refine eR_of (r := dNeg _) ?_ | refine eR_of (r := dLen _) ?_ | refine eR_of (r := dList _) ?_ | refine eR_of (r := dTuple _) ?_ | refine eR_of (r := dRev _) ?_ | refine eR_of (r := dInt1 _) ?_ | refine eR_of (r := boolR _) ?_ | refine eR_of (r := intR _) ?_ | refine eR_of (r := itemsR _) ?_ | refine eR_of (r := truD _) ?_ | refine eR_of (r := dMax2 _) ?_ | refine eR_of (r := dMin2 _) ?_ | refine eR_of (r := slD _ _ _) ?_ | refine eR_of (r := mkT _) ?_ | refine eR_of (r := mkL _) ?_ | refine eR_of (r := endR _ _ _ _) ?_ | refine eR_of (r := lRg _ _) ?_ | refine eR_of (r := optB _) ?_ | refine eR_of (r := optR _) ?_); refine ⟨_, rfl, ?_⟩) | ((with_reducible first | refine eR_getCo ?_ | refine eS_frz' ?_); refine ⟨_, rfl, ?_⟩) | ((with_reducible first | refine iR_rng1 ?hh_ ?_ | refine iR_rng2 ?hh_ ?_ | refine iR_dMul ?hh_ ?_ | refine iR_dDiv ?hh_ ?_ | refine iR_dMod ?hh_ ?_ | refine iR_dPow ?hh_ ?_ | refine iR_dAddl ?hh_ ?_ | refine iR_dAdds ?hh_ ?_ | refine iR_dCat ?hh_ ?_ | refine iR_app ?hh_ ?_); (case hh_ => first | omega | decide)) | ((with_reducible first | refine iR_isi_t ?hh_ ?_ | refine if_ct ?hh_ ?_); (case hh_ => exact rfl)) | ((with_reducible first | refine iR_isi_f ?hh_ ?_ | refine if_cf ?hh_ ?_); (case hh_ => exact rfl)) | ((with_reducible refine iR_guard ?hh_ ?_); (case hh_ => first | decide | omega)) | (with_reducible refine iR_okk ?_) | ((with_reducible refine And.intro ?hh_ ?_); (case hh_ => first | decide | exact List.nodup_singleton _ | exact rfl | (simp only [List.length_cons, List.length_nil]; decide) | (intro z; cases z) | omega | (intro _; rfl)))); try dsimp only [List.set_cons_zero, List.set_cons_succ, ownIx, wipeE, restore, List.nil_append, List.cons_append])
      refine ⟨?_, ?_, rfl⟩
      · rw [List.length_map, List.length_map, List.length_take]; omega
      · rw [List.take_add_one, hq, List.map_append, List.map_append]; rfl
  rintro acc e ⟨rfl, rfl⟩
  rw [List.length_map, List.take_length]
  repeat ((first | (with_reducible first | refine iR_yesT ?_ | refine iR_lcNil ?_ | refine iR_lcCons ?_ | refine if_t ?_ | refine if_f ?_ | refine iS_seq ?_ | refine iS_set ?_ | refine iS_own ?_ | refine iS_drop ?_ | refine iS_ret ?_ | refine iS_retF ?_ | refine iS_next ?_ | refine iS_if ?_ | refine iS_asg ?_ | refine iS_for0 ?_ | refine iR_ap1 ?_ | refine iR_ap2 ?_ | refine iR_ap2N ?_ | refine iR_apA ?_ | refine iR_kst ?_ | refine iR_aNil ?_ | refine iR_aCons ?_ | refine iR_asB ?_ | refine iR_truR ?_ | refine iR_andT ?_ | refine iR_orT ?_ | refine iR_notT ?_ | refine iR_andV ?_ | refine iR_orV ?_ | refine iR_notV ?_ | refine iR_ifE ?_ | refine iR_asI ?_ | refine iS_sub ?_ | refine iS_retO ?_ | refine iR_mtF ?_ | refine iR_cNil ?_ | refine iR_cVal ?_ | refine iR_call ?_ | refine iR_readV ?_ | refine iR_readN ?_ | refine iR_writeN ?_ | refine iR_writeC ?_ | refine iR_asR1 ?_ | refine iR_asR2 ?_ | refine iR_bind ?_ | refine iR_lc ?_ | refine iR_slN ?_ | refine iR_oSome ?_ | refine iR_oNone ?_ | refine iR_lRg2 ?_ | refine iR_eqi ?_ | refine iR_nei ?_ | refine iR_eqs ?_ | refine iR_nes ?_ | refine iR_eqb ?_ | refine iR_neb ?_) | ((with_reducible first | refine eR_getV ?_ | refine eR_getCv ?_ | refine eR_ownL ?_ | refine eR_cOwn ?_ | refine eR_readO ?_ | refine eS_frz ?_ | refine eR_cellO ?_ | refine eR_of (r := gT _ _ _ _) ?_ | refine eR_of (r := gN _ _ _) ?_ | refine eR_of (r := dAddA _ _) ?_ | refine eR_of (r := dSub _ _) ?_ | refine eR_of (r := dLt _ _) ?_ | refine eR_of (r := dLe _ _) ?_ | refine eR_of (r := dGt _ _) ?_ | refine eR_of (r := dGe _ _) ?_ | refine eR_of (r := dIsN _ _) ?_ | refine eR_of (r := dNotN _ _) ?_ | refine eR_of (r := dIx _ _) ?_ | refine eR_of (r := dNeg _) ?_ | refine eR_of (r := dLen _) ?_ | refine eR_of (r := dList _) ?_ | refine eR_of (r := dTuple _) ?_ | refine eR_of (r := dRev _) ?_ | refine eR_of (r := dInt1 _) ?_ | refine eR_of (r := boolR _) ?_ | refine eR_of (r := intR _) ?_ | refine eR_of (r := itemsR _) ?_ | refine eR_of (r := truD _) ?_ | refine eR_of (r := dMax2 _) ?_ | refine eR_of (r := dMin2 _) ?_ | refine eR_of (r := slD _ _ _) ?_ | refine eR_of (r := mkT _) ?_ | refine eR_of (r := mkL _) ?_ | refine eR_of (r := endR _ _ _ _) ?_ | refine eR_of (r := lRg _ _) ?_ | refine eR_of (r := optB _) ?_ | refine eR_of (r := optR _) ?_); refine ⟨_, rfl, ?_⟩) | ((with_reducible first | refine eR_getCo ?_ | refine eS_frz' ?_); refine ⟨_, rfl, ?_⟩) | ((with_reducible first | refine iR_rng1 ?hh_ ?_ | refine iR_rng2 ?hh_ ?_ | refine iR_dMul ?hh_ ?_ | refine iR_dDiv ?hh_ ?_ | refine iR_dMod ?hh_ ?_ | refine iR_dPow ?hh_ ?_ | refine iR_dAddl ?hh_ ?_ | refine iR_dAdds ?hh_ ?_ | refine iR_dCat ?hh_ ?_ | refine iR_app ?hh_ ?_); (case hh_ => first | omega | decide)) | ((with_reducible first | refine iR_isi_t ?hh_ ?_ | refine if_ct ?hh_ ?_); (case hh_ => exact rfl)) | ((with_reducible first | refine iR_isi_f ?hh_ ?_ | refine if_cf ?hh_ ?_); (case hh_ => exact rfl)) | ((with_reducible refine iR_guard ?hh_ ?_); (case hh_ => first | decide | omega)) | (with_reducible refine iR_okk ?_) | ((with_reducible refine And.intro ?hh_ ?_); (case hh_ => first | decide | exact List.nodup_singleton _ | exact rfl | (simp only [List.length_cons, List.length_nil]; decide) | (intro z; cases z) | omega | (intro _; rfl)))); try dsimp only [List.set_cons_zero, List.set_cons_succ, ownIx, wipeE, restore, List.nil_append, List.cons_append])
  rw [cut_tail]
  have hrows : ∀ d ∈ [PyData.list (ps.map prD), PyData.list (ps.map prD).reverse, PyData.list (ps.map prD ++ [PyData.tuple [PyData.int p.1, PyData.int p.2]]), PyData.list ((ps.map prD).drop 1), PyData.list ((ps.map fun p => (p.2, p.1)).map prD), PyData.list []], ∃ qs : List (Int × Int), d = .list (qs.map prD) ∧ qs.length ≤ 6 ∧ Sm qs := by
    intro d hd
    simp only [List.mem_cons, List.not_mem_nil, or_false] at hd
    rcases hd with rfl | rfl | rfl | rfl | rfl | rfl
    · exact ⟨ps, rfl, by omega, hsm⟩
    · exact ⟨ps.reverse, by rw [List.map_reverse], by rw [List.length_reverse]; omega, fun q hq => hsm q (List.mem_reverse.1 hq)⟩
    · refine ⟨ps ++ [p], by rw [List.map_append]; rfl, by rw [List.length_append]; show _ + 1 ≤ _; omega, fun q hq => ?_⟩
      rcases List.mem_append.1 hq with hq | hq
      · exact hsm q hq
      · rw [List.mem_singleton.1 hq]; exact hsm p hmem
    · exact ⟨ps.drop 1, by rw [List.map_drop], by rw [List.length_drop]; omega, fun q hq => hsm q (List.mem_of_mem_drop hq)⟩
    · refine ⟨ps.map fun p => (p.2, p.1), rfl, by rw [List.length_map]; omega, fun q hq => ?_⟩
      obtain ⟨r, hr, rfl⟩ := List.mem_map.1 hq
      have := hsm r hr
      dsimp only
      omega
    · exact ⟨[], rfl, by decide, fun q hq => (nomatch hq)⟩
  have hp1 := hsm p hmem
  have hz1 := hsm z hzm
  refine iS_for (fun rest e => (∀ d ∈ rest, ∃ qs : List (Int × Int), d = .list (qs.map prD) ∧ qs.length ≤ 6 ∧ Sm qs) ∧ ∃ x14 x15 x16 x17, e = [c0, some (.own (.list dk)), c2, c3, c4, c5, c6, c7, c8, c9, c10, some (.val (.list (ps.map prD))), some (.val (.int p.1)), some (.val (.int z.2)), x14, x15, x16, x17]) ⟨hrows, none, none, none, none, rfl⟩ ?_ ?_
  · clear hrows
    rintro d rest e ⟨hr, x14, x15, x16, x17, rfl⟩
    obtain ⟨qs, rfl, hq6, hqs⟩ := hr d List.mem_cons_self
    have hr2 := fun d hd => hr d (List.mem_cons_of_mem _ hd)
    clear hr
    repeat ((first | (with_reducible first | refine iR_yesT ?_ | refine iR_lcNil ?_ | refine iR_lcCons ?_ | refine if_t ?_ | refine if_f ?_ | refine iS_seq ?_ | refine iS_set ?_ | refine iS_own ?_ | refine iS_drop ?_ | refine iS_ret ?_ | refine iS_retF ?_ | refine iS_next ?_ | refine iS_if ?_ | refine iS_asg ?_ | refine iS_for0 ?_ | refine iR_ap1 ?_ | refine iR_ap2 ?_ | refine iR_ap2N ?_ | refine iR_apA ?_ | refine iR_kst ?_ | refine iR_aNil ?_ | refine iR_aCons ?_ | refine iR_asB ?_ | refine iR_truR ?_ | refine iR_andT ?_ | refine iR_orT ?_ | refine iR_notT ?_ | refine iR_andV ?_ | refine iR_orV ?_ | refine iR_notV ?_ | refine iR_ifE ?_ | refine iR_asI ?_ | refine iS_sub ?_ | refine iS_retO ?_ | refine iR_mtF ?_ | refine iR_cNil ?_ | refine iR_cVal ?_ | refine iR_call ?_ | refine iR_readV ?_ | refine iR_readN ?_ | refine iR_writeN ?_ | refine iR_writeC ?_ | refine iR_asR1 ?_ | refine iR_asR2 ?_ | refine iR_bind ?_ | refine iR_lc ?_ | refine iR_slN ?_ | refine iR_oSome ?_ | refine iR_oNone ?_ | refine iR_lRg2 ?_ | refine iR_eqi ?_ | refine iR_nei ?_ | refine iR_eqs ?_ | refine iR_nes ?_ | refine iR_eqb ?_ | refine iR_neb ?_) | ((with_reducible first | refine eR_getV ?_ | refine eR_getCv ?_ | refine eR_ownL ?_ | refine eR_cOwn ?_ | refine eR_readO ?_ | refine eS_frz ?_ | refine eR_cellO ?_ | refine eR_of (r := gT _ _ _ _) ?_ | refine eR_of (r := gN _ _ _) ?_ | refine eR_of (r := dAddA _ _) ?_ | refine eR_of (r := dSub _ _) ?_ | refine eR_of (r := dLt _ _) ?_ | refine eR_of (r := dLe _ _) ?_ | refine eR_of (r := dGt _ _) ?_ | refine eR_of (r := dGe _ _) ?_ | refine eR_of (r := dIsN _ _) ?_ | refine eR_of (r := dNotN _ _) ?_ | refine eR_of (r := dIx _ _) ?_ | refine eR_of (r := dNeg _) ?_ | refine eR_of (r := dLen _) ?_ | refine eR_of (r := dList _) ?_ | refine eR_of (r := dTuple _) ?_ | refine eR_of (r := dRev _) ?_ | refine eR_of (r := dInt1 _) ?_ | refine eR_of (r := boolR _) ?_ | refine eR_of (r := intR _) ?_ | refine eR_of (r := itemsR _) ?_ | refine eR_of (r := truD _) ?_ | refine eR_of (r := dMax2 _) ?_ | refine eR_of (r := dMin2 _) ?_ | refine eR_of (r := slD _ _ _) ?_ | refine eR_of (r := mkT _) ?_ | refine eR_of (r := mkL _) ?_ | refine eR_of (r := endR _ _ _ _) ?_ | refine eR_of (r := lRg _ _) ?_ | refine eR_of (r := optB _) ?_ | refine eR_of (r := optR _) ?_); refine ⟨_, rfl, ?_⟩) | ((with_reducible first | refine eR_getCo ?_ | refine eS_frz' ?_); refine ⟨_, rfl, ?_⟩) | ((with_reducible first | refine iR_rng1 ?hh_ ?_ | refine iR_rng2 ?hh_ ?_ | refine iR_dMul ?hh_ ?_ | refine iR_dDiv ?hh_ ?_ | refine iR_dMod ?hh_ ?_ | refine iR_dPow ?hh_ ?_ | refine iR_dAddl ?hh_ ?_ | refine iR_dAdds ?hh_ ?_ | refine iR_dCat ?hh_ ?_ | refine iR_app ?hh_ ?_); (case hh_ => first | omega | decide)) | ((with_reducible first | refine iR_isi_t ?hh_ ?_ | refine if_ct ?hh_ ?_); (case hh_ => exact rfl)) | ((with_reducible first | refine iR_isi_f ?hh_ ?_ | refine if_cf ?hh_ ?_); (case hh_ => exact rfl)) | ((with_reducible refine iR_guard ?hh_ ?_); (case hh_ => first | decide | omega)) | (with_reducible refine iR_okk ?_) | ((with_reducible refine And.intro ?hh_ ?_); (case hh_ => first | decide | exact List.nodup_singleton _ | exact rfl | (simp only [List.length_cons, List.length_nil]; decide) | (intro z; cases z) | omega | (intro _; rfl)))); try dsimp only [List.set_cons_zero, List.set_cons_succ, ownIx, wipeE, restore, List.nil_append, List.cons_append])
    refine iS_for (fun rs e => ∃ (don rem : List (Int × Int)) (y15 : Option DCell), rs = rem.map prD ∧ qs = don ++ rem ∧ e = [c0, some (.own (.list dk)), c2, c3, c4, c5, c6, c7, c8, c9, c10, some (.val (.list (ps.map prD))), some (.val (.int p.1)), some (.val (.int z.2)), some (.val (.list (qs.map prD))), y15, some (.val (.list ((covI don).map PyData.int))), some (.val (.bool (decide (Prop' don))))]) ⟨[], qs, x15, rfl, rfl, by rw [decide_eq_true (show Prop' [] from fun _ h => nomatch h)]; rfl⟩ ?_ ?_
    · rintro d rs e ⟨don, rem, y15, hrs, hdon, rfl⟩
      cases rem with
      | nil => cases hrs
      | cons q rem =>
        cases hrs
        have hq := hqs q (by rw [hdon]; simp)
        have hdl : (covI don).length ≤ 666 := Nat.le_trans (covI_len fun r hr => hqs r (by rw [hdon]; exact List.mem_append_left _ hr)) (by rw [hdon, List.length_append] at hq6; omega)
        have heq : ∀ b : Bool, b = decide (Prop' (don ++ [q])) → ∃ (don2 rem2 : List (Int × Int)) (y15 : Option DCell), rem.map prD = rem2.map prD ∧ qs = don2 ++ rem2 ∧ [c0, some (.own (.list dk)), c2, c3, c4, c5, c6, c7, c8, c9, c10, some (.val (.list (ps.map prD))), some (.val (.int p.1)), some (.val (.int z.2)), some (.val (.list (qs.map prD))), some (.val (.tuple [.int q.1, .int q.2])), some (.val (.list ((covI don).map PyData.int ++ rngD q.1 (q.2 + 1 - q.1).toNat))), some (.val (.bool b))] = [c0, some (.own (.list dk)), c2, c3, c4, c5, c6, c7, c8, c9, c10, some (.val (.list (ps.map prD))), some (.val (.int p.1)), some (.val (.int z.2)), some (.val (.list (qs.map prD))), y15, some (.val (.list ((covI don2).map PyData.int))), some (.val (.bool (decide (Prop' don2))))] := by
          intro b hb
          refine ⟨don ++ [q], rem, some (.val (.tuple [.int q.1, .int q.2])), rfl, by rw [hdon, List.append_assoc]; rfl, ?_⟩
          rw [covI_snoc, List.map_append, rngD_I, hb]
        rw [show prD q = .tuple [.int q.1, .int q.2] from rfl]
        repeat ((first | (with_reducible first | refine iR_yesT ?_ | refine iR_lcNil ?_ | refine iR_lcCons ?_ | refine if_t ?_ | refine if_f ?_ | refine iS_seq ?_ | refine iS_set ?_ | refine iS_own ?_ | refine iS_drop ?_ | refine iS_ret ?_ | refine iS_retF ?_ | refine iS_next ?_ | refine iS_if ?_ | refine iS_asg ?_ | refine iS_for0 ?_ | refine iR_ap1 ?_ | refine iR_ap2 ?_ | refine iR_ap2N ?_ | refine iR_apA ?_ | refine iR_kst ?_ | refine iR_aNil ?_ | refine iR_aCons ?_ | refine iR_asB ?_ | refine iR_truR ?_ | refine iR_andT ?_ | refine iR_orT ?_ | refine iR_notT ?_ | refine iR_andV ?_ | refine iR_orV ?_ | refine iR_notV ?_ | refine iR_ifE ?_ | refine iR_asI ?_ | refine iS_sub ?_ | refine iS_retO ?_ | refine iR_mtF ?_ | refine iR_cNil ?_ | refine iR_cVal ?_ | refine iR_call ?_ | refine iR_readV ?_ | refine iR_readN ?_ | refine iR_writeN ?_ | refine iR_writeC ?_ | refine iR_asR1 ?_ | refine iR_asR2 ?_ | refine iR_bind ?_ | refine iR_lc ?_ | refine iR_slN ?_ | refine iR_oSome ?_ | refine iR_oNone ?_ | refine iR_lRg2 ?_ | refine iR_eqi ?_ | refine iR_nei ?_ | refine iR_eqs ?_ | refine iR_nes ?_ | refine iR_eqb ?_ | refine iR_neb ?_) | ((with_reducible first | refine eR_getV ?_ | refine eR_getCv ?_ | refine eR_ownL ?_ | refine eR_cOwn ?_ | refine eR_readO ?_ | refine eS_frz ?_ | refine eR_cellO ?_ | refine eR_of (r := gT _ _ _ _) ?_ | refine eR_of (r := gN _ _ _) ?_ | refine eR_of (r := dAddA _ _) ?_ | refine eR_of (r := dSub _ _) ?_ | refine eR_of (r := dLt _ _) ?_ | refine eR_of (r := dLe _ _) ?_ | refine eR_of (r := dGt _ _) ?_ | refine eR_of (r := dGe _ _) ?_ | refine eR_of (r := dIsN _ _) ?_ | refine eR_of (r := dNotN _ _) ?_ | refine eR_of (r := dIx _ _) ?_ | refine eR_of (r := dNeg _) ?_ | refine eR_of (r := dLen _) ?_ | refine eR_of (r := dList _) ?_ | refine eR_of (r := dTuple _) ?_ | refine eR_of (r := dRev _) ?_ | refine eR_of (r := dInt1 _) ?_ | refine eR_of (r := boolR _) ?_ | refine eR_of (r := intR _) ?_ | refine eR_of (r := itemsR _) ?_ | refine eR_of (r := truD _) ?_ | refine eR_of (r := dMax2 _) ?_ | refine eR_of (r := dMin2 _) ?_ | refine eR_of (r := slD _ _ _) ?_ | refine eR_of (r := mkT _) ?_ | refine eR_of (r := mkL _) ?_ | refine eR_of (r := endR _ _ _ _) ?_ | refine eR_of (r := lRg _ _) ?_ | refine eR_of (r := optB _) ?_ | refine eR_of (r := optR _) ?_); refine ⟨_, rfl, ?_⟩) | ((with_reducible first | refine eR_getCo ?_ | refine eS_frz' ?_); refine ⟨_, rfl, ?_⟩) | ((with_reducible first | refine iR_rng1 ?hh_ ?_ | refine iR_rng2 ?hh_ ?_ | refine iR_dMul ?hh_ ?_ | refine iR_dDiv ?hh_ ?_ | refine iR_dMod ?hh_ ?_ | refine iR_dPow ?hh_ ?_ | refine iR_dAddl ?hh_ ?_ | refine iR_dAdds ?hh_ ?_ | refine iR_dCat ?hh_ ?_ | refine iR_app ?hh_ ?_); (case hh_ => first | omega | decide)) | ((with_reducible first | refine iR_isi_t ?hh_ ?_ | refine if_ct ?hh_ ?_); (case hh_ => exact rfl)) | ((with_reducible first | refine iR_isi_f ?hh_ ?_ | refine if_cf ?hh_ ?_); (case hh_ => exact rfl)) | ((with_reducible refine iR_guard ?hh_ ?_); (case hh_ => first | decide | omega)) | (with_reducible refine iR_okk ?_) | ((with_reducible refine And.intro ?hh_ ?_); (case hh_ => first | decide | exact List.nodup_singleton _ | exact rfl | (simp only [List.length_cons, List.length_nil]; decide) | (intro z; cases z) | omega | (intro _; rfl)))); try dsimp only [List.set_cons_zero, List.set_cons_succ, ownIx, wipeE, restore, List.nil_append, List.cons_append])
        refine ifb (fun h => ?_) fun h => ?_
        · repeat ((first | (with_reducible first | refine iR_yesT ?_ | refine iR_lcNil ?_ | refine iR_lcCons ?_ | refine if_t ?_ | refine if_f ?_ | refine iS_seq ?_ | refine iS_set ?_ | refine iS_own ?_ | refine iS_drop ?_ | refine iS_ret ?_ | refine iS_retF ?_ | refine iS_next ?_ | refine iS_if ?_ | refine iS_asg ?_ | refine iS_for0 ?_ | refine iR_ap1 ?_ | refine iR_ap2 ?_ | refine iR_ap2N ?_ | refine iR_apA ?_ | refine iR_kst ?_ | refine iR_aNil ?_ | refine iR_aCons ?_ | refine iR_asB ?_ | refine iR_truR ?_ | refine iR_andT ?_ | refine iR_orT ?_ | refine iR_notT ?_ | refine iR_andV ?_ | refine iR_orV ?_ | refine iR_notV ?_ | refine iR_ifE ?_ | refine iR_asI ?_ | refine iS_sub ?_ | refine iS_retO ?_ | refine iR_mtF ?_ | refine iR_cNil ?_ | refine iR_cVal ?_ | refine iR_call ?_ | refine iR_readV ?_ | refine iR_readN ?_ | refine iR_writeN ?_ | refine iR_writeC ?_ | refine iR_asR1 ?_ | refine iR_asR2 ?_ | refine iR_bind ?_ | refine iR_lc ?_ | refine iR_slN ?_ | refine iR_oSome ?_ | refine iR_oNone ?_ | refine iR_lRg2 ?_ | refine iR_eqi ?_ | refine iR_nei ?_ | refine iR_eqs ?_ | refine iR_nes ?_ | refine iR_eqb ?_ | refine iR_neb ?_) | ((with_reducible first | refine eR_getV ?_ | refine eR_getCv ?_ | refine eR_ownL ?_ | refine eR_cOwn ?_ | refine eR_readO ?_ | refine eS_frz ?_ | refine eR_cellO ?_ | refine eR_of (r := gT _ _ _ _) ?_ | refine eR_of (r := gN _ _ _) ?_ | refine eR_of (r := dAddA _ _) ?_ | refine eR_of (r := dSub _ _) ?_ | refine eR_of (r := dLt _ _) ?_ | refine eR_of (r := dLe _ _) ?_ | refine eR_of (r := dGt _ _) ?_ | refine eR_of (r := dGe _ _) ?_ | refine eR_of (r := dIsN _ _) ?_ | refine eR_of (r := dNotN _ _) ?_ | refine eR_of (r := dIx _ _) ?_ | refine eR_of (r := dNeg _) ?_ | refine eR_of (r := dLen _) ?_ | refine eR_of (r := dList _) ?_ | refine eR_of (r := dTuple _) ?_ | refine eR_of (r := dRev _) ?_ | refine eR_of (r := dInt1 _) ?_ | refine eR_of (r := boolR _) ?_ | refine eR_of (r := intR _) ?_ | refine eR_of (r := itemsR _) ?_ | refine eR_of (r := truD _) ?_ | refine eR_of (r := dMax2 _) ?_ | refine eR_of (r := dMin2 _) ?_ | refine eR_of (r := slD _ _ _) ?_ | refine eR_of (r := mkT _) ?_ | refine eR_of (r := mkL _) ?_ | refine eR_of (r := endR _ _ _ _) ?_ | refine eR_of (r := lRg _ _) ?_ | refine eR_of (r := optB _) ?_ | refine eR_of (r := optR _) ?_); refine ⟨_, rfl, ?_⟩) | ((with_reducible first | refine eR_getCo ?_ | refine eS_frz' ?_); refine ⟨_, rfl, ?_⟩) | ((with_reducible first | refine iR_rng1 ?hh_ ?_ | refine iR_rng2 ?hh_ ?_ | refine iR_dMul ?hh_ ?_ | refine iR_dDiv ?hh_ ?_ | refine iR_dMod ?hh_ ?_ | refine iR_dPow ?hh_ ?_ | refine iR_dAddl ?hh_ ?_ | refine iR_dAdds ?hh_ ?_ | refine iR_dCat ?hh_ ?_ | refine iR_app ?hh_ ?_); (case hh_ => first | omega | decide)) | ((with_reducible first | refine iR_isi_t ?hh_ ?_ | refine if_ct ?hh_ ?_); (case hh_ => exact rfl)) | ((with_reducible first | refine iR_isi_f ?hh_ ?_ | refine if_cf ?hh_ ?_); (case hh_ => exact rfl)) | ((with_reducible refine iR_guard ?hh_ ?_); (case hh_ => first | decide | omega)) | (with_reducible refine iR_okk ?_) | ((with_reducible refine And.intro ?hh_ ?_); (case hh_ => first | decide | exact List.nodup_singleton _ | exact rfl | (simp only [List.length_cons, List.length_nil]; decide) | (intro z; cases z) | omega | (intro _; rfl)))); try dsimp only [List.set_cons_zero, List.set_cons_succ, ownIx, wipeE, restore, List.nil_append, List.cons_append])
          refine iR_dAddl (by rw [List.length_map, rngD_len]; omega) ?_
          repeat ((first | (with_reducible first | refine iR_yesT ?_ | refine iR_lcNil ?_ | refine iR_lcCons ?_ | refine if_t ?_ | refine if_f ?_ | refine iS_seq ?_ | refine iS_set ?_ | refine iS_own ?_ | refine iS_drop ?_ | refine iS_ret ?_ | refine iS_retF ?_ | refine iS_next ?_ | refine iS_if ?_ | refine iS_asg ?_ | refine iS_for0 ?_ | refine iR_ap1 ?_ | refine iR_ap2 ?_ | refine iR_ap2N ?_ | refine iR_apA ?_ | refine iR_kst ?_ | refine iR_aNil ?_ | refine iR_aCons ?_ | refine iR_asB ?_ | refine iR_truR ?_ | refine iR_andT ?_ | refine iR_orT ?_ | refine iR_notT ?_ | refine iR_andV ?_ | refine iR_orV ?_ | refine iR_notV ?_ | refine iR_ifE ?_ | refine iR_asI ?_ | refine iS_sub ?_ | refine iS_retO ?_ | refine iR_mtF ?_ | refine iR_cNil ?_ | refine iR_cVal ?_ | refine iR_call ?_ | refine iR_readV ?_ | refine iR_readN ?_ | refine iR_writeN ?_ | refine iR_writeC ?_ | refine iR_asR1 ?_ | refine iR_asR2 ?_ | refine iR_bind ?_ | refine iR_lc ?_ | refine iR_slN ?_ | refine iR_oSome ?_ | refine iR_oNone ?_ | refine iR_lRg2 ?_ | refine iR_eqi ?_ | refine iR_nei ?_ | refine iR_eqs ?_ | refine iR_nes ?_ | refine iR_eqb ?_ | refine iR_neb ?_) | ((with_reducible first | refine eR_getV ?_ | refine eR_getCv ?_ | refine eR_ownL ?_ | refine eR_cOwn ?_ | refine eR_readO ?_ | refine eS_frz ?_ | refine eR_cellO ?_ | refine eR_of (r := gT _ _ _ _) ?_ | refine eR_of (r := gN _ _ _) ?_ | refine eR_of (r := dAddA _ _) ?_ | refine eR_of (r := dSub _ _) ?_ | refine eR_of (r := dLt _ _) ?_ | refine eR_of (r := dLe _ _) ?_ | refine eR_of (r := dGt _ _) ?_ | refine eR_of (r := dGe _ _) ?_ | refine eR_of (r := dIsN _ _) ?_ | refine eR_of (r := dNotN _ _) ?_ | refine eR_of (r := dIx _ _) ?_ | refine eR_of (r := dNeg _) ?_ | refine eR_of (r := dLen _) ?_ | refine eR_of (r := dList _) ?_ | refine eR_of (r := dTuple _) ?_ | refine eR_of (r := dRev _) ?_ | refine eR_of (r := dInt1 _) ?_ | refine eR_of (r := boolR _) ?_ | refine eR_of (r := intR _) ?_ | refine eR_of (r := itemsR _) ?_ | refine eR_of (r := truD _) ?_ | refine eR_of (r := dMax2 _) ?_ | refine eR_of (r := dMin2 _) ?_ | refine eR_of (r := slD _ _ _) ?_ | refine eR_of (r := mkT _) ?_ | refine eR_of (r := mkL _) ?_ | refine eR_of (r := endR _ _ _ _) ?_ | refine eR_of (r := lRg _ _) ?_ | refine eR_of (r := optB _) ?_ | refine eR_of (r := optR _) ?_); refine ⟨_, rfl, ?_⟩) | ((with_reducible first | refine eR_getCo ?_ | refine eS_frz' ?_); refine ⟨_, rfl, ?_⟩) | ((with_reducible first | refine iR_rng1 ?hh_ ?_ | refine iR_rng2 ?hh_ ?_ | refine iR_dMul ?hh_ ?_ | refine iR_dDiv ?hh_ ?_ | refine iR_dMod ?hh_ ?_ | refine iR_dPow ?hh_ ?_ | refine iR_dAddl ?hh_ ?_ | refine iR_dAdds ?hh_ ?_ | refine iR_dCat ?hh_ ?_ | refine iR_app ?hh_ ?_); (case hh_ => first | omega | decide)) | ((with_reducible first | refine iR_isi_t ?hh_ ?_ | refine if_ct ?hh_ ?_); (case hh_ => exact rfl)) | ((with_reducible first | refine iR_isi_f ?hh_ ?_ | refine if_cf ?hh_ ?_); (case hh_ => exact rfl)) | ((with_reducible refine iR_guard ?hh_ ?_); (case hh_ => first | decide | omega)) | (with_reducible refine iR_okk ?_) | ((with_reducible refine And.intro ?hh_ ?_); (case hh_ => first | decide | exact List.nodup_singleton _ | exact rfl | (simp only [List.length_cons, List.length_nil]; decide) | (intro z; cases z) | omega | (intro _; rfl)))); try dsimp only [List.set_cons_zero, List.set_cons_succ, ownIx, wipeE, restore, List.nil_append, List.cons_append])
          refine heq _ ?_
          have h := of_decide_eq_true h
          by_cases c : q.1 ≤ q.2
          · rw [decide_eq_true c, decide_eq_true (prop_snoc.2 ⟨h, c⟩)]
          · rw [decide_eq_false c, decide_eq_false (fun z => c (prop_snoc.1 z).2)]
        · repeat ((first | (with_reducible first | refine iR_yesT ?_ | refine iR_lcNil ?_ | refine iR_lcCons ?_ | refine if_t ?_ | refine if_f ?_ | refine iS_seq ?_ | refine iS_set ?_ | refine iS_own ?_ | refine iS_drop ?_ | refine iS_ret ?_ | refine iS_retF ?_ | refine iS_next ?_ | refine iS_if ?_ | refine iS_asg ?_ | refine iS_for0 ?_ | refine iR_ap1 ?_ | refine iR_ap2 ?_ | refine iR_ap2N ?_ | refine iR_apA ?_ | refine iR_kst ?_ | refine iR_aNil ?_ | refine iR_aCons ?_ | refine iR_asB ?_ | refine iR_truR ?_ | refine iR_andT ?_ | refine iR_orT ?_ | refine iR_notT ?_ | refine iR_andV ?_ | refine iR_orV ?_ | refine iR_notV ?_ | refine iR_ifE ?_ | refine iR_asI ?_ | refine iS_sub ?_ | refine iS_retO ?_ | refine iR_mtF ?_ | refine iR_cNil ?_ | refine iR_cVal ?_ | refine iR_call ?_ | refine iR_readV ?_ | refine iR_readN ?_ | refine iR_writeN ?_ | refine iR_writeC ?_ | refine iR_asR1 ?_ | refine iR_asR2 ?_ | refine iR_bind ?_ | refine iR_lc ?_ | refine iR_slN ?_ | refine iR_oSome ?_ | refine iR_oNone ?_ | refine iR_lRg2 ?_ | refine iR_eqi ?_ | refine iR_nei ?_ | refine iR_eqs ?_ | refine iR_nes ?_ | refine iR_eqb ?_ | refine iR_neb ?_) | ((with_reducible first | refine eR_getV ?_ | refine eR_getCv ?_ | refine eR_ownL ?_ | refine eR_cOwn ?_ | refine eR_readO ?_ | refine eS_frz ?_ | refine eR_cellO ?_ | refine eR_of (r := gT _ _ _ _) ?_ | refine eR_of (r := gN _ _ _) ?_ | refine eR_of (r := dAddA _ _) ?_ | refine eR_of (r := dSub _ _) ?_ | refine eR_of (r := dLt _ _) ?_ | refine eR_of (r := dLe _ _) ?_ | refine eR_of (r := dGt _ _) ?_ | refine eR_of (r := dGe _ _) ?_ | refine eR_of (r := dIsN _ _) ?_ | refine eR_of (r := dNotN _ _) ?_ | refine eR_of (r := dIx _ _) ?_ | refine eR_of (r := dNeg _) ?_ | refine eR_of (r := dLen _) ?_ | refine eR_of (r := dList _) ?_ | refine eR_of (r := dTuple _) ?_ | refine eR_of (r := dRev _) ?_ | refine eR_of (r := dInt1 _) ?_ | refine eR_of (r := boolR _) ?_ | refine eR_of (r := intR _) ?_ | refine eR_of (r := itemsR _) ?_ | refine eR_of (r := truD _) ?_ | refine eR_of (r := dMax2 _) ?_ | refine eR_of (r := dMin2 _) ?_ | refine eR_of (r := slD _ _ _) ?_ | refine eR_of (r := mkT _) ?_ | refine eR_of (r := mkL _) ?_ | refine eR_of (r := endR _ _ _ _) ?_ | refine eR_of (r := lRg _ _) ?_ | refine eR_of (r := optB _) ?_ | refine eR_of (r := optR _) ?_); refine ⟨_, rfl, ?_⟩) | ((with_reducible first | refine eR_getCo ?_ | refine eS_frz' ?_); refine ⟨_, rfl, ?_⟩) | ((with_reducible first | refine iR_rng1 ?hh_ ?_ | refine iR_rng2 ?hh_ ?_ | refine iR_dMul ?hh_ ?_ | refine iR_dDiv ?hh_ ?_ | refine iR_dMod ?hh_ ?_ | refine iR_dPow ?hh_ ?_ | refine iR_dAddl ?hh_ ?_ | refine iR_dAdds ?hh_ ?_ | refine iR_dCat ?hh_ ?_ | refine iR_app ?hh_ ?_); (case hh_ => first | omega | decide)) | ((with_reducible first | refine iR_isi_t ?hh_ ?_ | refine if_ct ?hh_ ?_); (case hh_ => exact rfl)) | ((with_reducible first | refine iR_isi_f ?hh_ ?_ | refine if_cf ?hh_ ?_); (case hh_ => exact rfl)) | ((with_reducible refine iR_guard ?hh_ ?_); (case hh_ => first | decide | omega)) | (with_reducible refine iR_okk ?_) | ((with_reducible refine And.intro ?hh_ ?_); (case hh_ => first | decide | exact List.nodup_singleton _ | exact rfl | (simp only [List.length_cons, List.length_nil]; decide) | (intro z; cases z) | omega | (intro _; rfl)))); try dsimp only [List.set_cons_zero, List.set_cons_succ, ownIx, wipeE, restore, List.nil_append, List.cons_append])
          refine iR_dAddl (by rw [List.length_map, rngD_len]; omega) ?_
          repeat ((first | (with_reducible first | refine iR_yesT ?_ | refine iR_lcNil ?_ | refine iR_lcCons ?_ | refine if_t ?_ | refine if_f ?_ | refine iS_seq ?_ | refine iS_set ?_ | refine iS_own ?_ | refine iS_drop ?_ | refine iS_ret ?_ | refine iS_retF ?_ | refine iS_next ?_ | refine iS_if ?_ | refine iS_asg ?_ | refine iS_for0 ?_ | refine iR_ap1 ?_ | refine iR_ap2 ?_ | refine iR_ap2N ?_ | refine iR_apA ?_ | refine iR_kst ?_ | refine iR_aNil ?_ | refine iR_aCons ?_ | refine iR_asB ?_ | refine iR_truR ?_ | refine iR_andT ?_ | refine iR_orT ?_ | refine iR_notT ?_ | refine iR_andV ?_ | refine iR_orV ?_ | refine iR_notV ?_ | refine iR_ifE ?_ | refine iR_asI ?_ | refine iS_sub ?_ | refine iS_retO ?_ | refine iR_mtF ?_ | refine iR_cNil ?_ | refine iR_cVal ?_ | refine iR_call ?_ | refine iR_readV ?_ | refine iR_readN ?_ | refine iR_writeN ?_ | refine iR_writeC ?_ | refine iR_asR1 ?_ | refine iR_asR2 ?_ | refine iR_bind ?_ | refine iR_lc ?_ | refine iR_slN ?_ | refine iR_oSome ?_ | refine iR_oNone ?_ | refine iR_lRg2 ?_ | refine iR_eqi ?_ | refine iR_nei ?_ | refine iR_eqs ?_ | refine iR_nes ?_ | refine iR_eqb ?_ | refine iR_neb ?_) | ((with_reducible first | refine eR_getV ?_ | refine eR_getCv ?_ | refine eR_ownL ?_ | refine eR_cOwn ?_ | refine eR_readO ?_ | refine eS_frz ?_ | refine eR_cellO ?_ | refine eR_of (r := gT _ _ _ _) ?_ | refine eR_of (r := gN _ _ _) ?_ | refine eR_of (r := dAddA _ _) ?_ | refine eR_of (r := dSub _ _) ?_ | refine eR_of (r := dLt _ _) ?_ | refine eR_of (r := dLe _ _) ?_ | refine eR_of (r := dGt _ _) ?_ | refine eR_of (r := dGe _ _) ?_ | refine eR_of (r := dIsN _ _) ?_ | refine eR_of (r := dNotN _ _) ?_ | refine eR_of (r := dIx _ _) ?_ | refine eR_of (r := dNeg _) ?_ | refine eR_of (r := dLen _) ?_ | refine eR_of (r := dList _) ?_ | refine eR_of (r := dTuple _) ?_ | refine eR_of (r := dRev _) ?_ | refine eR_of (r := dInt1 _) ?_ | refine eR_of (r := boolR _) ?_ | refine eR_of (r := intR _) ?_ | refine eR_of (r := itemsR _) ?_ | refine eR_of (r := truD _) ?_ | refine eR_of (r := dMax2 _) ?_ | refine eR_of (r := dMin2 _) ?_ | refine eR_of (r := slD _ _ _) ?_ | refine eR_of (r := mkT _) ?_ | refine eR_of (r := mkL _) ?_ | refine eR_of (r := endR _ _ _ _) ?_ | refine eR_of (r := lRg _ _) ?_ | refine eR_of (r := optB _) ?_ | refine eR_of (r := optR _) ?_); refine ⟨_, rfl, ?_⟩) | ((with_reducible first | refine eR_getCo ?_ | refine eS_frz' ?_); refine ⟨_, rfl, ?_⟩) | ((with_reducible first | refine iR_rng1 ?hh_ ?_ | refine iR_rng2 ?hh_ ?_ | refine iR_dMul ?hh_ ?_ | refine iR_dDiv ?hh_ ?_ | refine iR_dMod ?hh_ ?_ | refine iR_dPow ?hh_ ?_ | refine iR_dAddl ?hh_ ?_ | refine iR_dAdds ?hh_ ?_ | refine iR_dCat ?hh_ ?_ | refine iR_app ?hh_ ?_); (case hh_ => first | omega | decide)) | ((with_reducible first | refine iR_isi_t ?hh_ ?_ | refine if_ct ?hh_ ?_); (case hh_ => exact rfl)) | ((with_reducible first | refine iR_isi_f ?hh_ ?_ | refine if_cf ?hh_ ?_); (case hh_ => exact rfl)) | ((with_reducible refine iR_guard ?hh_ ?_); (case hh_ => first | decide | omega)) | (with_reducible refine iR_okk ?_) | ((with_reducible refine And.intro ?hh_ ?_); (case hh_ => first | decide | exact List.nodup_singleton _ | exact rfl | (simp only [List.length_cons, List.length_nil]; decide) | (intro z; cases z) | omega | (intro _; rfl)))); try dsimp only [List.set_cons_zero, List.set_cons_succ, ownIx, wipeE, restore, List.nil_append, List.cons_append])
          refine heq _ ?_
          have h := of_decide_eq_false h
          rw [decide_eq_false (fun z => h (prop_snoc.1 z).1)]
    · rintro e ⟨don, rem, y15, hrs, hdon, rfl⟩
      cases rem with
      | cons q rem => cases hrs
      | nil =>
        rw [List.append_nil] at hdon
        subst hdon
        have hdl : (covI qs).length ≤ 666 := Nat.le_trans (covI_len hqs) (by omega)
        repeat ((first | (with_reducible first | refine iR_yesT ?_ | refine iR_lcNil ?_ | refine iR_lcCons ?_ | refine if_t ?_ | refine if_f ?_ | refine iS_seq ?_ | refine iS_set ?_ | refine iS_own ?_ | refine iS_drop ?_ | refine iS_ret ?_ | refine iS_retF ?_ | refine iS_next ?_ | refine iS_if ?_ | refine iS_asg ?_ | refine iS_for0 ?_ | refine iR_ap1 ?_ | refine iR_ap2 ?_ | refine iR_ap2N ?_ | refine iR_apA ?_ | refine iR_kst ?_ | refine iR_aNil ?_ | refine iR_aCons ?_ | refine iR_asB ?_ | refine iR_truR ?_ | refine iR_andT ?_ | refine iR_orT ?_ | refine iR_notT ?_ | refine iR_andV ?_ | refine iR_orV ?_ | refine iR_notV ?_ | refine iR_ifE ?_ | refine iR_asI ?_ | refine iS_sub ?_ | refine iS_retO ?_ | refine iR_mtF ?_ | refine iR_cNil ?_ | refine iR_cVal ?_ | refine iR_call ?_ | refine iR_readV ?_ | refine iR_readN ?_ | refine iR_writeN ?_ | refine iR_writeC ?_ | refine iR_asR1 ?_ | refine iR_asR2 ?_ | refine iR_bind ?_ | refine iR_lc ?_ | refine iR_slN ?_ | refine iR_oSome ?_ | refine iR_oNone ?_ | refine iR_lRg2 ?_ | refine iR_eqi ?_ | refine iR_nei ?_ | refine iR_eqs ?_ | refine iR_nes ?_ | refine iR_eqb ?_ | refine iR_neb ?_) | ((with_reducible first | refine eR_getV ?_ | refine eR_getCv ?_ | refine eR_ownL ?_ | refine eR_cOwn ?_ | refine eR_readO ?_ | refine eS_frz ?_ | refine eR_cellO ?_ | refine eR_of (r := gT _ _ _ _) ?_ | refine eR_of (r := gN _ _ _) ?_ | refine eR_of (r := dAddA _ _) ?_ | refine eR_of (r := dSub _ _) ?_ | refine eR_of (r := dLt _ _) ?_ | refine eR_of (r := dLe _ _) ?_ | refine eR_of (r := dGt _ _) ?_ | refine eR_of (r := dGe _ _) ?_ | refine eR_of (r := dIsN _ _) ?_ | refine eR_of (r := dNotN _ _) ?_ | refine eR_of (r := dIx _ _) ?_ | refine eR_of (r := dNeg _) ?_ | refine eR_of (r := dLen _) ?_ | refine eR_of (r := dList _) ?_ | refine eR_of (r := dTuple _) ?_ | refine eR_of (r := dRev _) ?_ | refine eR_of (r := dInt1 _) ?_ | refine eR_of (r := boolR _) ?_ | refine eR_of (r := intR _) ?_ | refine eR_of (r := itemsR _) ?_ | refine eR_of (r := truD _) ?_ | refine eR_of (r := dMax2 _) ?_ | refine eR_of (r := dMin2 _) ?_ | refine eR_of (r := slD _ _ _) ?_ | refine eR_of (r := mkT _) ?_ | refine eR_of (r := mkL _) ?_ | refine eR_of (r := endR _ _ _ _) ?_ | refine eR_of (r := lRg _ _) ?_ | refine eR_of (r := optB _) ?_ | refine eR_of (r := optR _) ?_); refine ⟨_, rfl, ?_⟩) | ((with_reducible first | refine eR_getCo ?_ | refine eS_frz' ?_); refine ⟨_, rfl, ?_⟩) | ((with_reducible first | refine iR_rng1 ?hh_ ?_ | refine iR_rng2 ?hh_ ?_ | refine iR_dMul ?hh_ ?_ | refine iR_dDiv ?hh_ ?_ | refine iR_dMod ?hh_ ?_ | refine iR_dPow ?hh_ ?_ | refine iR_dAddl ?hh_ ?_ | refine iR_dAdds ?hh_ ?_ | refine iR_dCat ?hh_ ?_ | refine iR_app ?hh_ ?_); (case hh_ => first | omega | decide)) | ((with_reducible first | refine iR_isi_t ?hh_ ?_ | refine if_ct ?hh_ ?_); (case hh_ => exact rfl)) | ((with_reducible first | refine iR_isi_f ?hh_ ?_ | refine if_cf ?hh_ ?_); (case hh_ => exact rfl)) | ((with_reducible refine iR_guard ?hh_ ?_); (case hh_ => first | decide | omega)) | (with_reducible refine iR_okk ?_) | ((with_reducible refine And.intro ?hh_ ?_); (case hh_ => first | decide | exact List.nodup_singleton _ | exact rfl | (simp only [List.length_cons, List.length_nil]; decide) | (intro z; cases z) | omega | (intro _; rfl)))); try dsimp only [List.set_cons_zero, List.set_cons_succ, ownIx, wipeE, restore, List.nil_append, List.cons_append])
        refine iD_of parts_ok ?_
        rw [prt_eq]
        repeat ((first | (with_reducible first | refine iR_yesT ?_ | refine iR_lcNil ?_ | refine iR_lcCons ?_ | refine if_t ?_ | refine if_f ?_ | refine iS_seq ?_ | refine iS_set ?_ | refine iS_own ?_ | refine iS_drop ?_ | refine iS_ret ?_ | refine iS_retF ?_ | refine iS_next ?_ | refine iS_if ?_ | refine iS_asg ?_ | refine iS_for0 ?_ | refine iR_ap1 ?_ | refine iR_ap2 ?_ | refine iR_ap2N ?_ | refine iR_apA ?_ | refine iR_kst ?_ | refine iR_aNil ?_ | refine iR_aCons ?_ | refine iR_asB ?_ | refine iR_truR ?_ | refine iR_andT ?_ | refine iR_orT ?_ | refine iR_notT ?_ | refine iR_andV ?_ | refine iR_orV ?_ | refine iR_notV ?_ | refine iR_ifE ?_ | refine iR_asI ?_ | refine iS_sub ?_ | refine iS_retO ?_ | refine iR_mtF ?_ | refine iR_cNil ?_ | refine iR_cVal ?_ | refine iR_call ?_ | refine iR_readV ?_ | refine iR_readN ?_ | refine iR_writeN ?_ | refine iR_writeC ?_ | refine iR_asR1 ?_ | refine iR_asR2 ?_ | refine iR_bind ?_ | refine iR_lc ?_ | refine iR_slN ?_ | refine iR_oSome ?_ | refine iR_oNone ?_ | refine iR_lRg2 ?_ | refine iR_eqi ?_ | refine iR_nei ?_ | refine iR_eqs ?_ | refine iR_nes ?_ | refine iR_eqb ?_ | refine iR_neb ?_) | ((with_reducible first | refine eR_getV ?_ | refine eR_getCv ?_ | refine eR_ownL ?_ | refine eR_cOwn ?_ | refine eR_readO ?_ | refine eS_frz ?_ | refine eR_cellO ?_ | refine eR_of (r := gT _ _ _ _) ?_ | refine eR_of (r := gN _ _ _) ?_ | refine eR_of (r := dAddA _ _) ?_ | refine eR_of (r := dSub _ _) ?_ | refine eR_of (r := dLt _ _) ?_ | refine eR_of (r := dLe _ _) ?_ | refine eR_of (r := dGt _ _) ?_ | refine eR_of (r := dGe _ _) ?_ | refine eR_of (r := dIsN _ _) ?_ | refine eR_of (r := dNotN _ _) ?_ | refine eR_of (r := dIx _ _) ?_ | refine eR_of (r := dNeg _) ?_ | refine eR_of (r := dLen _) ?_ | refine eR_of (r := dList _) ?_ | refine eR_of (r := dTuple _) ?_ | refine eR_of (r := dRev _) ?_ | refine eR_of (r := dInt1 _) ?_ | refine eR_of (r := boolR _) ?_ | refine eR_of (r := intR _) ?_ | refine eR_of (r := itemsR _) ?_ | refine eR_of (r := truD _) ?_ | refine eR_of (r := dMax2 _) ?_ | refine eR_of (r := dMin2 _) ?_ | refine eR_of (r := slD _ _ _) ?_ | refine eR_of (r := mkT _) ?_ | refine eR_of (r := mkL _) ?_ | refine eR_of (r := endR _ _ _ _) ?_ | refine eR_of (r := lRg _ _) ?_ | refine eR_of (r := optB _) ?_ | refine eR_of (r := optR _) ?_); refine ⟨_, rfl, ?_⟩) | ((with_reducible first | refine eR_getCo ?_ | refine eS_frz' ?_); refine ⟨_, rfl, ?_⟩) | ((with_reducible first | refine iR_rng1 ?hh_ ?_ | refine iR_rng2 ?hh_ ?_ | refine iR_dMul ?hh_ ?_ | refine iR_dDiv ?hh_ ?_ | refine iR_dMod ?hh_ ?_ | refine iR_dPow ?hh_ ?_ | refine iR_dAddl ?hh_ ?_ | refine iR_dAdds ?hh_ ?_ | refine iR_dCat ?hh_ ?_ | refine iR_app ?hh_ ?_); (case hh_ => first | omega | decide)) | ((with_reducible first | refine iR_isi_t ?hh_ ?_ | refine if_ct ?hh_ ?_); (case hh_ => exact rfl)) | ((with_reducible first | refine iR_isi_f ?hh_ ?_ | refine if_cf ?hh_ ?_); (case hh_ => exact rfl)) | ((with_reducible refine iR_guard ?hh_ ?_); (case hh_ => first | decide | omega)) | (with_reducible refine iR_okk ?_) | ((with_reducible refine And.intro ?hh_ ?_); (case hh_ => first | decide | exact List.nodup_singleton _ | exact rfl | (simp only [List.length_cons, List.length_nil]; decide) | (intro z; cases z) | omega | (intro _; rfl)))); try dsimp only [List.set_cons_zero, List.set_cons_succ, ownIx, wipeE, restore, List.nil_append, List.cons_append])
        refine ifb (fun h => ?_) fun h => ?_
        · repeat ((first | (with_reducible first | refine iR_yesT ?_ | refine iR_lcNil ?_ | refine iR_lcCons ?_ | refine if_t ?_ | refine if_f ?_ | refine iS_seq ?_ | refine iS_set ?_ | refine iS_own ?_ | refine iS_drop ?_ | refine iS_ret ?_ | refine iS_retF ?_ | refine iS_next ?_ | refine iS_if ?_ | refine iS_asg ?_ | refine iS_for0 ?_ | refine iR_ap1 ?_ | refine iR_ap2 ?_ | refine iR_ap2N ?_ | refine iR_apA ?_ | refine iR_kst ?_ | refine iR_aNil ?_ | refine iR_aCons ?_ | refine iR_asB ?_ | refine iR_truR ?_ | refine iR_andT ?_ | refine iR_orT ?_ | refine iR_notT ?_ | refine iR_andV ?_ | refine iR_orV ?_ | refine iR_notV ?_ | refine iR_ifE ?_ | refine iR_asI ?_ | refine iS_sub ?_ | refine iS_retO ?_ | refine iR_mtF ?_ | refine iR_cNil ?_ | refine iR_cVal ?_ | refine iR_call ?_ | refine iR_readV ?_ | refine iR_readN ?_ | refine iR_writeN ?_ | refine iR_writeC ?_ | refine iR_asR1 ?_ | refine iR_asR2 ?_ | refine iR_bind ?_ | refine iR_lc ?_ | refine iR_slN ?_ | refine iR_oSome ?_ | refine iR_oNone ?_ | refine iR_lRg2 ?_ | refine iR_eqi ?_ | refine iR_nei ?_ | refine iR_eqs ?_ | refine iR_nes ?_ | refine iR_eqb ?_ | refine iR_neb ?_) | ((with_reducible first | refine eR_getV ?_ | refine eR_getCv ?_ | refine eR_ownL ?_ | refine eR_cOwn ?_ | refine eR_readO ?_ | refine eS_frz ?_ | refine eR_cellO ?_ | refine eR_of (r := gT _ _ _ _) ?_ | refine eR_of (r := gN _ _ _) ?_ | refine eR_of (r := dAddA _ _) ?_ | refine eR_of (r := dSub _ _) ?_ | refine eR_of (r := dLt _ _) ?_ | refine eR_of (r := dLe _ _) ?_ | refine eR_of (r := dGt _ _) ?_ | refine eR_of (r := dGe _ _) ?_ | refine eR_of (r := dIsN _ _) ?_ | refine eR_of (r := dNotN _ _) ?_ | refine eR_of (r := dIx _ _) ?_ | refine eR_of (r := dNeg _) ?_ | refine eR_of (r := dLen _) ?_ | refine eR_of (r := dList _) ?_ | refine eR_of (r := dTuple _) ?_ | refine eR_of (r := dRev _) ?_ | refine eR_of (r := dInt1 _) ?_ | refine eR_of (r := boolR _) ?_ | refine eR_of (r := intR _) ?_ | refine eR_of (r := itemsR _) ?_ | refine eR_of (r := truD _) ?_ | refine eR_of (r := dMax2 _) ?_ | refine eR_of (r := dMin2 _) ?_ | refine eR_of (r := slD _ _ _) ?_ | refine eR_of (r := mkT _) ?_ | refine eR_of (r := mkL _) ?_ | refine eR_of (r := endR _ _ _ _) ?_ | refine eR_of (r := lRg _ _) ?_ | refine eR_of (r := optB _) ?_ | refine eR_of (r := optR _) ?_); refine ⟨_, rfl, ?_⟩) | ((with_reducible first | refine eR_getCo ?_ | refine eS_frz' ?_); refine ⟨_, rfl, ?_⟩) | ((with_reducible first | refine iR_rng1 ?hh_ ?_ | refine iR_rng2 ?hh_ ?_ | refine iR_dMul ?hh_ ?_ | refine iR_dDiv ?hh_ ?_ | refine iR_dMod ?hh_ ?_ | refine iR_dPow ?hh_ ?_ | refine iR_dAddl ?hh_ ?_ | refine iR_dAdds ?hh_ ?_ | refine iR_dCat ?hh_ ?_ | refine iR_app ?hh_ ?_); (case hh_ => first | omega | decide)) | ((with_reducible first | refine iR_isi_t ?hh_ ?_ | refine if_ct ?hh_ ?_); (case hh_ => exact rfl)) | ((with_reducible first | refine iR_isi_f ?hh_ ?_ | refine if_cf ?hh_ ?_); (case hh_ => exact rfl)) | ((with_reducible refine iR_guard ?hh_ ?_); (case hh_ => first | decide | omega)) | (with_reducible refine iR_okk ?_) | ((with_reducible refine And.intro ?hh_ ?_); (case hh_ => first | decide | exact List.nodup_singleton _ | exact rfl | (simp only [List.length_cons, List.length_nil]; decide) | (intro z; cases z) | omega | (intro _; rfl)))); try dsimp only [List.set_cons_zero, List.set_cons_succ, ownIx, wipeE, restore, List.nil_append, List.cons_append])
          rw [h, rngD_I]
          refine iR_eqA (okEq_of okD_ints (by decide)) (okEq_of okD_ints (by decide)) ?_
          rw [eqvl_ints]
          repeat ((first | (with_reducible first | refine iR_yesT ?_ | refine iR_lcNil ?_ | refine iR_lcCons ?_ | refine if_t ?_ | refine if_f ?_ | refine iS_seq ?_ | refine iS_set ?_ | refine iS_own ?_ | refine iS_drop ?_ | refine iS_ret ?_ | refine iS_retF ?_ | refine iS_next ?_ | refine iS_if ?_ | refine iS_asg ?_ | refine iS_for0 ?_ | refine iR_ap1 ?_ | refine iR_ap2 ?_ | refine iR_ap2N ?_ | refine iR_apA ?_ | refine iR_kst ?_ | refine iR_aNil ?_ | refine iR_aCons ?_ | refine iR_asB ?_ | refine iR_truR ?_ | refine iR_andT ?_ | refine iR_orT ?_ | refine iR_notT ?_ | refine iR_andV ?_ | refine iR_orV ?_ | refine iR_notV ?_ | refine iR_ifE ?_ | refine iR_asI ?_ | refine iS_sub ?_ | refine iS_retO ?_ | refine iR_mtF ?_ | refine iR_cNil ?_ | refine iR_cVal ?_ | refine iR_call ?_ | refine iR_readV ?_ | refine iR_readN ?_ | refine iR_writeN ?_ | refine iR_writeC ?_ | refine iR_asR1 ?_ | refine iR_asR2 ?_ | refine iR_bind ?_ | refine iR_lc ?_ | refine iR_slN ?_ | refine iR_oSome ?_ | refine iR_oNone ?_ | refine iR_lRg2 ?_ | refine iR_eqi ?_ | refine iR_nei ?_ | refine iR_eqs ?_ | refine iR_nes ?_ | refine iR_eqb ?_ | refine iR_neb ?_) | ((with_reducible first | refine eR_getV ?_ | refine eR_getCv ?_ | refine eR_ownL ?_ | refine eR_cOwn ?_ | refine eR_readO ?_ | refine eS_frz ?_ | refine eR_cellO ?_ | refine eR_of (r := gT _ _ _ _) ?_ | refine eR_of (r := gN _ _ _) ?_ | refine eR_of (r := dAddA _ _) ?_ | refine eR_of (r := dSub _ _) ?_ | refine eR_of (r := dLt _ _) ?_ | refine eR_of (r := dLe _ _) ?_ | refine eR_of (r := dGt _ _) ?_ | refine eR_of (r := dGe _ _) ?_ | refine eR_of (r := dIsN _ _) ?_ | refine eR_of (r := dNotN _ _) ?_ | refine eR_of (r := dIx _ _) ?_ | refine eR_of (r := dNeg _) ?_ | refine eR_of (r := dLen _) ?_ | refine eR_of (r := dList _) ?_ | refine eR_of (r := dTuple _) ?_ | refine eR_of (r := dRev _) ?_ | refine eR_of (r := dInt1 _) ?_ | refine eR_of (r := boolR _) ?_ | refine eR_of (r := intR _) ?_ | refine eR_of (r := itemsR _) ?_ | refine eR_of (r := truD _) ?_ | refine eR_of (r := dMax2 _) ?_ | refine eR_of (r := dMin2 _) ?_ | refine eR_of (r := slD _ _ _) ?_ | refine eR_of (r := mkT _) ?_ | refine eR_of (r := mkL _) ?_ | refine eR_of (r := endR _ _ _ _) ?_ | refine eR_of (r := lRg _ _) ?_ | refine eR_of (r := optB _) ?_ | refine eR_of (r := optR _) ?_); refine ⟨_, rfl, ?_⟩) | ((with_reducible first | refine eR_getCo ?_ | refine eS_frz' ?_); refine ⟨_, rfl, ?_⟩) | ((with_reducible first | refine iR_rng1 ?hh_ ?_ | refine iR_rng2 ?hh_ ?_ | refine iR_dMul ?hh_ ?_ | refine iR_dDiv ?hh_ ?_ | refine iR_dMod ?hh_ ?_ | refine iR_dPow ?hh_ ?_ | refine iR_dAddl ?hh_ ?_ | refine iR_dAdds ?hh_ ?_ | refine iR_dCat ?hh_ ?_ | refine iR_app ?hh_ ?_); (case hh_ => first | omega | decide)) | ((with_reducible first | refine iR_isi_t ?hh_ ?_ | refine if_ct ?hh_ ?_); (case hh_ => exact rfl)) | ((with_reducible first | refine iR_isi_f ?hh_ ?_ | refine if_cf ?hh_ ?_); (case hh_ => exact rfl)) | ((with_reducible refine iR_guard ?hh_ ?_); (case hh_ => first | decide | omega)) | (with_reducible refine iR_okk ?_) | ((with_reducible refine And.intro ?hh_ ?_); (case hh_ => first | decide | exact List.nodup_singleton _ | exact rfl | (simp only [List.length_cons, List.length_nil]; decide) | (intro z; cases z) | omega | (intro _; rfl)))); try dsimp only [List.set_cons_zero, List.set_cons_succ, ownIx, wipeE, restore, List.nil_append, List.cons_append])
          refine iD_of same_bool ?_
          rw [Bool.true_and, beq_self_eq_true]
          repeat ((first | (with_reducible first | refine iR_yesT ?_ | refine iR_lcNil ?_ | refine iR_lcCons ?_ | refine if_t ?_ | refine if_f ?_ | refine iS_seq ?_ | refine iS_set ?_ | refine iS_own ?_ | refine iS_drop ?_ | refine iS_ret ?_ | refine iS_retF ?_ | refine iS_next ?_ | refine iS_if ?_ | refine iS_asg ?_ | refine iS_for0 ?_ | refine iR_ap1 ?_ | refine iR_ap2 ?_ | refine iR_ap2N ?_ | refine iR_apA ?_ | refine iR_kst ?_ | refine iR_aNil ?_ | refine iR_aCons ?_ | refine iR_asB ?_ | refine iR_truR ?_ | refine iR_andT ?_ | refine iR_orT ?_ | refine iR_notT ?_ | refine iR_andV ?_ | refine iR_orV ?_ | refine iR_notV ?_ | refine iR_ifE ?_ | refine iR_asI ?_ | refine iS_sub ?_ | refine iS_retO ?_ | refine iR_mtF ?_ | refine iR_cNil ?_ | refine iR_cVal ?_ | refine iR_call ?_ | refine iR_readV ?_ | refine iR_readN ?_ | refine iR_writeN ?_ | refine iR_writeC ?_ | refine iR_asR1 ?_ | refine iR_asR2 ?_ | refine iR_bind ?_ | refine iR_lc ?_ | refine iR_slN ?_ | refine iR_oSome ?_ | refine iR_oNone ?_ | refine iR_lRg2 ?_ | refine iR_eqi ?_ | refine iR_nei ?_ | refine iR_eqs ?_ | refine iR_nes ?_ | refine iR_eqb ?_ | refine iR_neb ?_) | ((with_reducible first | refine eR_getV ?_ | refine eR_getCv ?_ | refine eR_ownL ?_ | refine eR_cOwn ?_ | refine eR_readO ?_ | refine eS_frz ?_ | refine eR_cellO ?_ | refine eR_of (r := gT _ _ _ _) ?_ | refine eR_of (r := gN _ _ _) ?_ | refine eR_of (r := dAddA _ _) ?_ | refine eR_of (r := dSub _ _) ?_ | refine eR_of (r := dLt _ _) ?_ | refine eR_of (r := dLe _ _) ?_ | refine eR_of (r := dGt _ _) ?_ | refine eR_of (r := dGe _ _) ?_ | refine eR_of (r := dIsN _ _) ?_ | refine eR_of (r := dNotN _ _) ?_ | refine eR_of (r := dIx _ _) ?_ | refine eR_of (r := dNeg _) ?_ | refine eR_of (r := dLen _) ?_ | refine eR_of (r := dList _) ?_ | refine eR_of (r := dTuple _) ?_ | refine eR_of (r := dRev _) ?_ | refine eR_of (r := dInt1 _) ?_ | refine eR_of (r := boolR _) ?_ | refine eR_of (r := intR _) ?_ | refine eR_of (r := itemsR _) ?_ | refine eR_of (r := truD _) ?_ | refine eR_of (r := dMax2 _) ?_ | refine eR_of (r := dMin2 _) ?_ | refine eR_of (r := slD _ _ _) ?_ | refine eR_of (r := mkT _) ?_ | refine eR_of (r := mkL _) ?_ | refine eR_of (r := endR _ _ _ _) ?_ | refine eR_of (r := lRg _ _) ?_ | refine eR_of (r := optB _) ?_ | refine eR_of (r := optR _) ?_); refine ⟨_, rfl, ?_⟩) | ((with_reducible first | refine eR_getCo ?_ | refine eS_frz' ?_); refine ⟨_, rfl, ?_⟩) | ((with_reducible first | refine iR_rng1 ?hh_ ?_ | refine iR_rng2 ?hh_ ?_ | refine iR_dMul ?hh_ ?_ | refine iR_dDiv ?hh_ ?_ | refine iR_dMod ?hh_ ?_ | refine iR_dPow ?hh_ ?_ | refine iR_dAddl ?hh_ ?_ | refine iR_dAdds ?hh_ ?_ | refine iR_dCat ?hh_ ?_ | refine iR_app ?hh_ ?_); (case hh_ => first | omega | decide)) | ((with_reducible first | refine iR_isi_t ?hh_ ?_ | refine if_ct ?hh_ ?_); (case hh_ => exact rfl)) | ((with_reducible first | refine iR_isi_f ?hh_ ?_ | refine if_cf ?hh_ ?_); (case hh_ => exact rfl)) | ((with_reducible refine iR_guard ?hh_ ?_); (case hh_ => first | decide | omega)) | (with_reducible refine iR_okk ?_) | ((with_reducible refine And.intro ?hh_ ?_); (case hh_ => first | decide | exact List.nodup_singleton _ | exact rfl | (simp only [List.length_cons, List.length_nil]; decide) | (intro z; cases z) | omega | (intro _; rfl)))); try dsimp only [List.set_cons_zero, List.set_cons_succ, ownIx, wipeE, restore, List.nil_append, List.cons_append])
          exact ⟨hr2, _, _, _, _, rfl⟩
        · rw [h]
          repeat ((first | (with_reducible first | refine iR_yesT ?_ | refine iR_lcNil ?_ | refine iR_lcCons ?_ | refine if_t ?_ | refine if_f ?_ | refine iS_seq ?_ | refine iS_set ?_ | refine iS_own ?_ | refine iS_drop ?_ | refine iS_ret ?_ | refine iS_retF ?_ | refine iS_next ?_ | refine iS_if ?_ | refine iS_asg ?_ | refine iS_for0 ?_ | refine iR_ap1 ?_ | refine iR_ap2 ?_ | refine iR_ap2N ?_ | refine iR_apA ?_ | refine iR_kst ?_ | refine iR_aNil ?_ | refine iR_aCons ?_ | refine iR_asB ?_ | refine iR_truR ?_ | refine iR_andT ?_ | refine iR_orT ?_ | refine iR_notT ?_ | refine iR_andV ?_ | refine iR_orV ?_ | refine iR_notV ?_ | refine iR_ifE ?_ | refine iR_asI ?_ | refine iS_sub ?_ | refine iS_retO ?_ | refine iR_mtF ?_ | refine iR_cNil ?_ | refine iR_cVal ?_ | refine iR_call ?_ | refine iR_readV ?_ | refine iR_readN ?_ | refine iR_writeN ?_ | refine iR_writeC ?_ | refine iR_asR1 ?_ | refine iR_asR2 ?_ | refine iR_bind ?_ | refine iR_lc ?_ | refine iR_slN ?_ | refine iR_oSome ?_ | refine iR_oNone ?_ | refine iR_lRg2 ?_ | refine iR_eqi ?_ | refine iR_nei ?_ | refine iR_eqs ?_ | refine iR_nes ?_ | refine iR_eqb ?_ | refine iR_neb ?_) | ((with_reducible first | refine eR_getV ?_ | refine eR_getCv ?_ | refine eR_ownL ?_ | refine eR_cOwn ?_ | refine eR_readO ?_ | refine eS_frz ?_ | refine eR_cellO ?_ | refine eR_of (r := gT _ _ _ _) ?_ | refine eR_of (r := gN _ _ _) ?_ | refine eR_of (r := dAddA _ _) ?_ | refine eR_of (r := dSub _ _) ?_ | refine eR_of (r := dLt _ _) ?_ | refine eR_of (r := dLe _ _) ?_ | refine eR_of (r := dGt _ _) ?_ | refine eR_of (r := dGe _ _) ?_ | refine eR_of (r := dIsN _ _) ?_ | refine eR_of (r := dNotN _ _) ?_ | refine eR_of (r := dIx _ _) ?_ | refine eR_of (r := dNeg _) ?_ | refine eR_of (r := dLen _) ?_ | refine eR_of (r := dList _) ?_ | refine eR_of (r := dTuple _) ?_ | refine eR_of (r := dRev _) ?_ | refine eR_of (r := dInt1 _) ?_ | refine eR_of (r := boolR _) ?_ | refine eR_of (r := intR _) ?_ | refine eR_of (r := itemsR _) ?_ | refine eR_of (r := truD _) ?_ | refine eR_of (r := dMax2 _) ?_ | refine eR_of (r := dMin2 _) ?_ | refine eR_of (r := slD _ _ _) ?_ | refine eR_of (r := mkT _) ?_ | refine eR_of (r := mkL _) ?_ | refine eR_of (r := endR _ _ _ _) ?_ | refine eR_of (r := lRg _ _) ?_ | refine eR_of (r := optB _) ?_ | refine eR_of (r := optR _) ?_); refine ⟨_, rfl, ?_⟩) | ((with_reducible first | refine eR_getCo ?_ | refine eS_frz' ?_); refine ⟨_, rfl, ?_⟩) | ((with_reducible first | refine iR_rng1 ?hh_ ?_ | refine iR_rng2 ?hh_ ?_ | refine iR_dMul ?hh_ ?_ | refine iR_dDiv ?hh_ ?_ | refine iR_dMod ?hh_ ?_ | refine iR_dPow ?hh_ ?_ | refine iR_dAddl ?hh_ ?_ | refine iR_dAdds ?hh_ ?_ | refine iR_dCat ?hh_ ?_ | refine iR_app ?hh_ ?_); (case hh_ => first | omega | decide)) | ((with_reducible first | refine iR_isi_t ?hh_ ?_ | refine if_ct ?hh_ ?_); (case hh_ => exact rfl)) | ((with_reducible first | refine iR_isi_f ?hh_ ?_ | refine if_cf ?hh_ ?_); (case hh_ => exact rfl)) | ((with_reducible refine iR_guard ?hh_ ?_); (case hh_ => first | decide | omega)) | (with_reducible refine iR_okk ?_) | ((with_reducible refine And.intro ?hh_ ?_); (case hh_ => first | decide | exact List.nodup_singleton _ | exact rfl | (simp only [List.length_cons, List.length_nil]; decide) | (intro z; cases z) | omega | (intro _; rfl)))); try dsimp only [List.set_cons_zero, List.set_cons_succ, ownIx, wipeE, restore, List.nil_append, List.cons_append])
          refine iD_of same_bool ?_
          repeat ((first | (with_reducible first | refine iR_yesT ?_ | refine iR_lcNil ?_ | refine iR_lcCons ?_ | refine if_t ?_ | refine if_f ?_ | refine iS_seq ?_ | refine iS_set ?_ | refine iS_own ?_ | refine iS_drop ?_ | refine iS_ret ?_ | refine iS_retF ?_ | refine iS_next ?_ | refine iS_if ?_ | refine iS_asg ?_ | refine iS_for0 ?_ | refine iR_ap1 ?_ | refine iR_ap2 ?_ | refine iR_ap2N ?_ | refine iR_apA ?_ | refine iR_kst ?_ | refine iR_aNil ?_ | refine iR_aCons ?_ | refine iR_asB ?_ | refine iR_truR ?_ | refine iR_andT ?_ | refine iR_orT ?_ | refine iR_notT ?_ | refine iR_andV ?_ | refine iR_orV ?_ | refine iR_notV ?_ | refine iR_ifE ?_ | refine iR_asI ?_ | refine iS_sub ?_ | refine iS_retO ?_ | refine iR_mtF ?_ | refine iR_cNil ?_ | refine iR_cVal ?_ | refine iR_call ?_ | refine iR_readV ?_ | refine iR_readN ?_ | refine iR_writeN ?_ | refine iR_writeC ?_ | refine iR_asR1 ?_ | refine iR_asR2 ?_ | refine iR_bind ?_ | refine iR_lc ?_ | refine iR_slN ?_ | refine iR_oSome ?_ | refine iR_oNone ?_ | refine iR_lRg2 ?_ | refine iR_eqi ?_ | refine iR_nei ?_ | refine iR_eqs ?_ | refine iR_nes ?_ | refine iR_eqb ?_ | refine iR_neb ?_) | ((with_reducible first | refine eR_getV ?_ | refine eR_getCv ?_ | refine eR_ownL ?_ | refine eR_cOwn ?_ | refine eR_readO ?_ | refine eS_frz ?_ | refine eR_cellO ?_ | refine eR_of (r := gT _ _ _ _) ?_ | refine eR_of (r := gN _ _ _) ?_ | refine eR_of (r := dAddA _ _) ?_ | refine eR_of (r := dSub _ _) ?_ | refine eR_of (r := dLt _ _) ?_ | refine eR_of (r := dLe _ _) ?_ | refine eR_of (r := dGt _ _) ?_ | refine eR_of (r := dGe _ _) ?_ | refine eR_of (r := dIsN _ _) ?_ | refine eR_of (r := dNotN _ _) ?_ | refine eR_of (r := dIx _ _) ?_ | refine eR_of (r := dNeg _) ?_ | refine eR_of (r := dLen _) ?_ | refine eR_of (r := dList _) ?_ | refine eR_of (r := dTuple _) ?_ | refine eR_of (r := dRev _) ?_ | refine eR_of (r := dInt1 _) ?_ | refine eR_of (r := boolR _) ?_ | refine eR_of (r := intR _) ?_ | refine eR_of (r := itemsR _) ?_ | refine eR_of (r := truD _) ?_ | refine eR_of (r := dMax2 _) ?_ | refine eR_of (r := dMin2 _) ?_ | refine eR_of (r := slD _ _ _) ?_ | refine eR_of (r := mkT _) ?_ | refine eR_of (r := mkL _) ?_ | refine eR_of (r := endR _ _ _ _) ?_ | refine eR_of (r := lRg _ _) ?_ | refine eR_of (r := optB _) ?_ | refine eR_of (r := optR _) ?_); refine ⟨_, rfl, ?_⟩) | ((with_reducible first | refine eR_getCo ?_ | refine eS_frz' ?_); refine ⟨_, rfl, ?_⟩) | ((with_reducible first | refine iR_rng1 ?hh_ ?_ | refine iR_rng2 ?hh_ ?_ | refine iR_dMul ?hh_ ?_ | refine iR_dDiv ?hh_ ?_ | refine iR_dMod ?hh_ ?_ | refine iR_dPow ?hh_ ?_ | refine iR_dAddl ?hh_ ?_ | refine iR_dAdds ?hh_ ?_ | refine iR_dCat ?hh_ ?_ | refine iR_app ?hh_ ?_); (case hh_ => first | omega | decide)) | ((with_reducible first | refine iR_isi_t ?hh_ ?_ | refine if_ct ?hh_ ?_); (case hh_ => exact rfl)) | ((with_reducible first | refine iR_isi_f ?hh_ ?_ | refine if_cf ?hh_ ?_); (case hh_ => exact rfl)) | ((with_reducible refine iR_guard ?hh_ ?_); (case hh_ => first | decide | omega)) | (with_reducible refine iR_okk ?_) | ((with_reducible refine And.intro ?hh_ ?_); (case hh_ => first | decide | exact List.nodup_singleton _ | exact rfl | (simp only [List.length_cons, List.length_nil]; decide) | (intro z; cases z) | omega | (intro _; rfl)))); try dsimp only [List.set_cons_zero, List.set_cons_succ, ownIx, wipeE, restore, List.nil_append, List.cons_append])
          exact ⟨hr2, _, _, _, _, rfl⟩
  clear hrows
  rintro e ⟨_, x14, x15, x16, x17, rfl⟩
  repeat ((first | (with_reducible first | refine iR_yesT ?_ | refine iR_lcNil ?_ | refine iR_lcCons ?_ | refine if_t ?_ | refine if_f ?_ | refine iS_seq ?_ | refine iS_set ?_ | refine iS_own ?_ | refine iS_drop ?_ | refine iS_ret ?_ | refine iS_retF ?_ | refine iS_next ?_ | refine iS_if ?_ | refine iS_asg ?_ | refine iS_for0 ?_ | refine iR_ap1 ?_ | refine iR_ap2 ?_ | refine iR_ap2N ?_ | refine iR_apA ?_ | refine iR_kst ?_ | refine iR_aNil ?_ | refine iR_aCons ?_ | refine iR_asB ?_ | refine iR_truR ?_ | refine iR_andT ?_ | refine iR_orT ?_ | refine iR_notT ?_ | refine iR_andV ?_ | refine iR_orV ?_ | refine iR_notV ?_ | refine iR_ifE ?_ | refine iR_asI ?_ | refine iS_sub ?_ | refine iS_retO ?_ | refine iR_mtF ?_ | refine iR_cNil ?_ | refine iR_cVal ?_ | refine iR_call ?_ | refine iR_readV ?_ | refine iR_readN ?_ | refine iR_writeN ?_ | refine iR_writeC ?_ | refine iR_asR1 ?_ | refine iR_asR2 ?_ | refine iR_bind ?_ | refine iR_lc ?_ | refine iR_slN ?_ | refine iR_oSome ?_ | refine iR_oNone ?_ | refine iR_lRg2 ?_ | refine iR_eqi ?_ | refine iR_nei ?_ | refine iR_eqs ?_ | refine iR_nes ?_ | refine iR_eqb ?_ | refine iR_neb ?_) | ((with_reducible first | refine eR_getV ?_ | refine eR_getCv ?_ | refine eR_ownL ?_ | refine eR_cOwn ?_ | refine eR_readO ?_ | refine eS_frz ?_ | refine eR_cellO ?_ | refine eR_of (r := gT _ _ _ _) ?_ | refine eR_of (r := gN _ _ _) ?_ | refine eR_of (r := dAddA _ _) ?_ | refine eR_of (r := dSub _ _) ?_ | refine eR_of (r := dLt _ _) ?_ | refine eR_of (r := dLe _ _) ?_ | refine eR_of (r := dGt _ _) ?_ | refine eR_of (r := dGe _ _) ?_ | refine eR_of (r := dIsN _ _) ?_ | refine eR_of (r := dNotN _ _) ?_ | refine eR_of (r := dIx _ _) ?_ | refine eR_of (r := dNeg _) ?_ | refine eR_of (r := dLen _) ?_ | refine eR_of (r := dList _) ?_ | refine eR_of (r := dTuple _) ?_ | refine eR_of (r := dRev _) ?_ | refine eR_of (r := dInt1 _) ?_ | refine eR_of (r := boolR _) ?_ | refine eR_of (r := intR _) ?_ | refine eR_of (r := itemsR _) ?_ | refine eR_of (r := truD _) ?_ | refine eR_of (r := dMax2 _) ?_ | refine eR_of (r := dMin2 _) ?_ | refine eR_of (r := slD _ _ _) ?_ | refine eR_of (r := mkT _) ?_ | refine eR_of (r := mkL _) ?_ | refine eR_of (r := endR _ _ _ _) ?_ | refine eR_of (r := lRg _ _) ?_ | refine eR_of (r := optB _) ?_ | refine eR_of (r := optR _) ?_); refine ⟨_, rfl, ?_⟩) | ((with_reducible first | refine eR_getCo ?_ | refine eS_frz' ?_); refine ⟨_, rfl, ?_⟩) | ((with_reducible first | refine iR_rng1 ?hh_ ?_ | refine iR_rng2 ?hh_ ?_ | refine iR_dMul ?hh_ ?_ | refine iR_dDiv ?hh_ ?_ | refine iR_dMod ?hh_ ?_ | refine iR_dPow ?hh_ ?_ | refine iR_dAddl ?hh_ ?_ | refine iR_dAdds ?hh_ ?_ | refine iR_dCat ?hh_ ?_ | refine iR_app ?hh_ ?_); (case hh_ => first | omega | decide)) | ((with_reducible first | refine iR_isi_t ?hh_ ?_ | refine if_ct ?hh_ ?_); (case hh_ => exact rfl)) | ((with_reducible first | refine iR_isi_f ?hh_ ?_ | refine if_cf ?hh_ ?_); (case hh_ => exact rfl)) | ((with_reducible refine iR_guard ?hh_ ?_); (case hh_ => first | decide | omega)) | (with_reducible refine iR_okk ?_) | ((with_reducible refine And.intro ?hh_ ?_); (case hh_ => first | decide | exact List.nodup_singleton _ | exact rfl | (simp only [List.length_cons, List.length_nil]; decide) | (intro z; cases z) | omega | (intro _; rfl)))); try dsimp only [List.set_cons_zero, List.set_cons_succ, ownIx, wipeE, restore, List.nil_append, List.cons_append])
  refine iS_for (fun rs e => ∃ (don rem : List (Int × Int)) (y15 : Option DCell), rs = rem.map prD ∧ ps = don ++ rem ∧ e = [c0, some (.own (.list dk)), c2, c3, c4, c5, c6, c7, c8, c9, c10, some (.val (.list (ps.map prD))), some (.val (.int p.1)), some (.val (.int z.2)), x14, y15, some (.val (.list ((covI don).map PyData.int))), x17]) ⟨[], ps, x15, rfl, rfl, rfl⟩ ?_ ?_
  · rintro d rs e ⟨don, rem, y15, hrs, hdon, rfl⟩
    cases rem with
    | nil => cases hrs
    | cons q rem =>
      cases hrs
      have hq := hsm q (by rw [hdon]; simp)
      have hdl : (covI don).length ≤ 666 := Nat.le_trans (covI_len fun r hr => hsm r (by rw [hdon]; exact List.mem_append_left _ hr)) (by rw [hdon, List.length_append] at hl5; omega)
      rw [show prD q = .tuple [.int q.1, .int q.2] from rfl]
      repeat ((first | (with_reducible first | refine iR_yesT ?_ | refine iR_lcNil ?_ | refine iR_lcCons ?_ | refine if_t ?_ | refine if_f ?_ | refine iS_seq ?_ | refine iS_set ?_ | refine iS_own ?_ | refine iS_drop ?_ | refine iS_ret ?_ | refine iS_retF ?_ | refine iS_next ?_ | refine iS_if ?_ | refine iS_asg ?_ | refine iS_for0 ?_ | refine iR_ap1 ?_ | refine iR_ap2 ?_ | refine iR_ap2N ?_ | refine iR_apA ?_ | refine iR_kst ?_ | refine iR_aNil ?_ | refine iR_aCons ?_ | refine iR_asB ?_ | refine iR_truR ?_ | refine iR_andT ?_ | refine iR_orT ?_ | refine iR_notT ?_ | refine iR_andV ?_ | refine iR_orV ?_ | refine iR_notV ?_ | refine iR_ifE ?_ | refine iR_asI ?_ | refine iS_sub ?_ | refine iS_retO ?_ | refine iR_mtF ?_ | refine iR_cNil ?_ | refine iR_cVal ?_ | refine iR_call ?_ | refine iR_readV ?_ | refine iR_readN ?_ | refine iR_writeN ?_ | refine iR_writeC ?_ | refine iR_asR1 ?_ | refine iR_asR2 ?_ | refine iR_bind ?_ | refine iR_lc ?_ | refine iR_slN ?_ | refine iR_oSome ?_ | refine iR_oNone ?_ | refine iR_lRg2 ?_ | refine iR_eqi ?_ | refine iR_nei ?_ | refine iR_eqs ?_ | refine iR_nes ?_ | refine iR_eqb ?_ | refine iR_neb ?_) | ((with_reducible first | refine eR_getV ?_ | refine eR_getCv ?_ | refine eR_ownL ?_ | refine eR_cOwn ?_ | refine eR_readO ?_ | refine eS_frz ?_ | refine eR_cellO ?_ | refine eR_of (r := gT _ _ _ _) ?_ | refine eR_of (r := gN _ _ _) ?_ | refine eR_of (r := dAddA _ _) ?_ | refine eR_of (r := dSub _ _) ?_ | refine eR_of (r := dLt _ _) ?_ | refine eR_of (r := dLe _ _) ?_ | refine eR_of (r := dGt _ _) ?_ | refine eR_of (r := dGe _ _) ?_ | refine eR_of (r := dIsN _ _) ?_ | refine eR_of (r := dNotN _ _) ?_ | refine eR_of (r := dIx _ _) ?_ | refine eR_of (r := dNeg _) ?_ | refine eR_of (r := dLen _) ?_ | refine eR_of (r := dList _) ?_ | refine eR_of (r := dTuple _) ?_ | refine eR_of (r := dRev _) ?_ | refine eR_of (r := dInt1 _) ?_ | refine eR_of (r := boolR _) ?_ | refine eR_of (r := intR _) ?_ | refine eR_of (r := itemsR _) ?_ | refine eR_of (r := truD _) ?_ | refine eR_of (r := dMax2 _) ?_ | refine eR_of (r := dMin2 _) ?_ | refine eR_of (r := slD _ _ _) ?_ | refine eR_of (r := mkT _) ?_ | refine eR_of (r := mkL _) ?_ | refine eR_of (r := endR _ _ _ _) ?_ | refine eR_of (r := lRg _ _) ?_ | refine eR_of (r := optB _) ?_ | refine eR_of (r := optR _) ?_); refine ⟨_, rfl, ?_⟩) | ((with_reducible first | refine eR_getCo ?_ | refine eS_frz' ?_); refine ⟨_, rfl, ?_⟩) | ((with_reducible first | refine iR_rng1 ?hh_ ?_ | refine iR_rng2 ?hh_ ?_ | refine iR_dMul ?hh_ ?_ | refine iR_dDiv ?hh_ ?_ | refine iR_dMod ?hh_ ?_ | refine iR_dPow ?hh_ ?_ | refine iR_dAddl ?hh_ ?_ | refine iR_dAdds ?hh_ ?_ | refine iR_dCat ?hh_ ?_ | refine iR_app ?hh_ ?_); (case hh_ => first | omega | decide)) | ((with_reducible first | refine iR_isi_t ?hh_ ?_ | refine if_ct ?hh_ ?_); (case hh_ => exact rfl)) | ((with_reducible first | refine iR_isi_f ?hh_ ?_ | refine if_cf ?hh_ ?_); (case hh_ => exact rfl)) | ((with_reducible refine iR_guard ?hh_ ?_); (case hh_ => first | decide | omega)) | (with_reducible refine iR_okk ?_) | ((with_reducible refine And.intro ?hh_ ?_); (case hh_ => first | decide | exact List.nodup_singleton _ | exact rfl | (simp only [List.length_cons, List.length_nil]; decide) | (intro z; cases z) | omega | (intro _; rfl)))); try dsimp only [List.set_cons_zero, List.set_cons_succ, ownIx, wipeE, restore, List.nil_append, List.cons_append])
      refine iR_dAddl (by rw [List.length_map, rngD_len]; omega) ?_
      repeat ((first | (with_reducible first | refine iR_yesT ?_ | refine iR_lcNil ?_ | refine iR_lcCons ?_ | refine if_t ?_ | refine if_f ?_ | refine iS_seq ?_ | refine iS_set ?_ | refine iS_own ?_ | refine iS_drop ?_ | refine iS_ret ?_ | refine iS_retF ?_ | refine iS_next ?_ | refine iS_if ?_ | refine iS_asg ?_ | refine iS_for0 ?_ | refine iR_ap1 ?_ | refine iR_ap2 ?_ | refine iR_ap2N ?_ | refine iR_apA ?_ | refine iR_kst ?_ | refine iR_aNil ?_ | refine iR_aCons ?_ | refine iR_asB ?_ | refine iR_truR ?_ | refine iR_andT ?_ | refine iR_orT ?_ | refine iR_notT ?_ | refine iR_andV ?_ | refine iR_orV ?_ | refine iR_notV ?_ | refine iR_ifE ?_ | refine iR_asI ?_ | refine iS_sub ?_ | refine iS_retO ?_ | refine iR_mtF ?_ | refine iR_cNil ?_ | refine iR_cVal ?_ | refine iR_call ?_ | refine iR_readV ?_ | refine iR_readN ?_ | refine iR_writeN ?_ | refine iR_writeC ?_ | refine iR_asR1 ?_ | refine iR_asR2 ?_ | refine iR_bind ?_ | refine iR_lc ?_ | refine iR_slN ?_ | refine iR_oSome ?_ | refine iR_oNone ?_ | refine iR_lRg2 ?_ | refine iR_eqi ?_ | refine iR_nei ?_ | refine iR_eqs ?_ | refine iR_nes ?_ | refine iR_eqb ?_ | refine iR_neb ?_) | ((with_reducible first | refine eR_getV ?_ | refine eR_getCv ?_ | refine eR_ownL ?_ | refine eR_cOwn ?_ | refine eR_readO ?_ | refine eS_frz ?_ | refine eR_cellO ?_ | refine eR_of (r := gT _ _ _ _) ?_ | refine eR_of (r := gN _ _ _) ?_ | refine eR_of (r := dAddA _ _) ?_ | refine eR_of (r := dSub _ _) ?_ | refine eR_of (r := dLt _ _) ?_ | refine eR_of (r := dLe _ _) ?_ | refine eR_of (r := dGt _ _) ?_ | refine eR_of (r := dGe _ _) ?_ | refine eR_of (r := dIsN _ _) ?_ | refine eR_of (r := dNotN _ _) ?_ | refine eR_of (r := dIx _ _) ?_ | refine eR_of (r := dNeg _) ?_ | refine eR_of (r := dLen _) ?_ | refine eR_of (r := dList _) ?_ | refine eR_of (r := dTuple _) ?_ | refine eR_of (r := dRev _) ?_ | refine eR_of (r := dInt1 _) ?_ | refine eR_of (r := boolR _) ?_ | refine eR_of (r := intR _) ?_ | refine eR_of (r := itemsR _) ?_ | refine eR_of (r := truD _) ?_ | refine eR_of (r := dMax2 _) ?_ | refine eR_of (r := dMin2 _) ?_ | refine eR_of (r := slD _ _ _) ?_ | refine eR_of (r := mkT _) ?_ | refine eR_of (r := mkL _) ?_ | refine eR_of (r := endR _ _ _ _) ?_ | refine eR_of (r := lRg _ _) ?_ | refine eR_of (r := optB _) ?_ | refine eR_of (r := optR _) ?_); refine ⟨_, rfl, ?_⟩) | ((with_reducible first | refine eR_getCo ?_ | refine eS_frz' ?_); refine ⟨_, rfl, ?_⟩) | ((with_reducible first | refine iR_rng1 ?hh_ ?_ | refine iR_rng2 ?hh_ ?_ | refine iR_dMul ?hh_ ?_ | refine iR_dDiv ?hh_ ?_ | refine iR_dMod ?hh_ ?_ | refine iR_dPow ?hh_ ?_ | refine iR_dAddl ?hh_ ?_ | refine iR_dAdds ?hh_ ?_ | refine iR_dCat ?hh_ ?_ | refine iR_app ?hh_ ?_); (case hh_ => first | omega | decide)) | ((with_reducible first | refine iR_isi_t ?hh_ ?_ | refine if_ct ?hh_ ?_); (case hh_ => exact rfl)) | ((with_reducible first | refine iR_isi_f ?hh_ ?_ | refine if_cf ?hh_ ?_); (case hh_ => exact rfl)) | ((with_reducible refine iR_guard ?hh_ ?_); (case hh_ => first | decide | omega)) | (with_reducible refine iR_okk ?_) | ((with_reducible refine And.intro ?hh_ ?_); (case hh_ => first | decide | exact List.nodup_singleton _ | exact rfl | (simp only [List.length_cons, List.length_nil]; decide) | (intro z; cases z) | omega | (intro _; rfl)))); try dsimp only [List.set_cons_zero, List.set_cons_succ, ownIx, wipeE, restore, List.nil_append, List.cons_append])
      refine ⟨don ++ [q], rem, some (.val (.tuple [.int q.1, .int q.2])), rfl, by rw [hdon, List.append_assoc]; rfl, ?_⟩
      rw [covI_snoc, List.map_append, rngD_I]
  rintro e ⟨don, rem, y15, hrs, hdon, rfl⟩
  cases rem with
  | cons q rem => cases hrs
  | nil =>
    rw [List.append_nil] at hdon
    rw [← hdon]
    have hdl : (covI ps).length ≤ 666 := Nat.le_trans (covI_len hsm) (by omega)
    repeat ((first | (with_reducible first | refine iR_yesT ?_ | refine iR_lcNil ?_ | refine iR_lcCons ?_ | refine if_t ?_ | refine if_f ?_ | refine iS_seq ?_ | refine iS_set ?_ | refine iS_own ?_ | refine iS_drop ?_ | refine iS_ret ?_ | refine iS_retF ?_ | refine iS_next ?_ | refine iS_if ?_ | refine iS_asg ?_ | refine iS_for0 ?_ | refine iR_ap1 ?_ | refine iR_ap2 ?_ | refine iR_ap2N ?_ | refine iR_apA ?_ | refine iR_kst ?_ | refine iR_aNil ?_ | refine iR_aCons ?_ | refine iR_asB ?_ | refine iR_truR ?_ | refine iR_andT ?_ | refine iR_orT ?_ | refine iR_notT ?_ | refine iR_andV ?_ | refine iR_orV ?_ | refine iR_notV ?_ | refine iR_ifE ?_ | refine iR_asI ?_ | refine iS_sub ?_ | refine iS_retO ?_ | refine iR_mtF ?_ | refine iR_cNil ?_ | refine iR_cVal ?_ | refine iR_call ?_ | refine iR_readV ?_ | refine iR_readN ?_ | refine iR_writeN ?_ | refine iR_writeC ?_ | refine iR_asR1 ?_ | refine iR_asR2 ?_ | refine iR_bind ?_ | refine iR_lc ?_ | refine iR_slN ?_ | refine iR_oSome ?_ | refine iR_oNone ?_ | refine iR_lRg2 ?_ | refine iR_eqi ?_ | refine iR_nei ?_ | refine iR_eqs ?_ | refine iR_nes ?_ | refine iR_eqb ?_ | refine iR_neb ?_) | ((with_reducible first | refine eR_getV ?_ | refine eR_getCv ?_ | refine eR_ownL ?_ | refine eR_cOwn ?_ | refine eR_readO ?_ | refine eS_frz ?_ | refine eR_cellO ?_ | refine eR_of (r := gT _ _ _ _) ?_ | refine eR_of (r := gN _ _ _) ?_ | refine eR_of (r := dAddA _ _) ?_ | refine eR_of (r := dSub _ _) ?_ | refine eR_of (r := dLt _ _) ?_ | refine eR_of (r := dLe _ _) ?_ | refine eR_of (r := dGt _ _) ?_ | refine eR_of (r := dGe _ _) ?_ | refine eR_of (r := dIsN _ _) ?_ | refine eR_of (r := dNotN _ _) ?_ | refine eR_of (r := dIx _ _) ?_ | refine eR_of (r := dNeg _) ?_ | refine eR_of (r := dLen _) ?_ | refine eR_of (r := dList _) ?_ | refine eR_of (r := dTuple _) ?_ | refine eR_of (r := dRev _) ?_ | refine eR_of (r := dInt1 _) ?_ | refine eR_of (r := boolR _) ?_ | refine eR_of (r := intR _) ?_ | refine eR_of (r := itemsR _) ?_ | refine eR_of (r := truD _) ?_ | refine eR_of (r := dMax2 _) ?_ | refine eR_of (r := dMin2 _) ?_ | refine eR_of (r := slD _ _ _) ?_ | refine eR_of (r := mkT _) ?_ | refine eR_of (r := mkL _) ?_ | refine eR_of (r := endR _ _ _ _) ?_ | refine eR_of (r := lRg _ _) ?_ | refine eR_of (r := optB _) ?_ | refine eR_of (r := optR _) ?_); refine ⟨_, rfl, ?_⟩) | ((with_reducible first | refine eR_getCo ?_ | refine eS_frz' ?_); refine ⟨_, rfl, ?_⟩) | ((with_reducible first | refine iR_rng1 ?hh_ ?_ | refine iR_rng2 ?hh_ ?_ | refine iR_dMul ?hh_ ?_ | refine iR_dDiv ?hh_ ?_ | refine iR_dMod ?hh_ ?_ | refine iR_dPow ?hh_ ?_ | refine iR_dAddl ?hh_ ?_ | refine iR_dAdds ?hh_ ?_ | refine iR_dCat ?hh_ ?_ | refine iR_app ?hh_ ?_); (case hh_ => first | omega | decide)) | ((with_reducible first | refine iR_isi_t ?hh_ ?_ | refine if_ct ?hh_ ?_); (case hh_ => exact rfl)) | ((with_reducible first | refine iR_isi_f ?hh_ ?_ | refine if_cf ?hh_ ?_); (case hh_ => exact rfl)) | ((with_reducible refine iR_guard ?hh_ ?_); (case hh_ => first | decide | omega)) | (with_reducible refine iR_okk ?_) | ((with_reducible refine And.intro ?hh_ ?_); (case hh_ => first | decide | exact List.nodup_singleton _ | exact rfl | (simp only [List.length_cons, List.length_nil]; decide) | (intro z; cases z) | omega | (intro _; rfl)))); try dsimp only [List.set_cons_zero, List.set_cons_succ, ownIx, wipeE, restore, List.nil_append, List.cons_append])
    refine iS_for (fun rs e => ∃ (don rem : List Int) (y7 : Option DCell), rs = rem.map PyData.int ∧ covI ps = don ++ rem ∧ e = [c0, some (.own (.list dk)), c2, c3, c4, c5, c6, y7, c8, c9, some (.own (.list ((don.foldl (fun acc u => mst acc (u, u)) []).map prD))), some (.val (.list (ps.map prD))), some (.val (.int p.1)), some (.val (.int z.2)), x14, y15, some (.val (.list ((covI ps).map PyData.int))), x17]) ⟨[], covI ps, c7, rfl, rfl, rfl⟩ ?_ ?_
    · rintro d rs e ⟨done, rem, y7, hrs, hdone, rfl⟩
      cases rem with
      | nil => cases hrs
      | cons u rem =>
        cases hrs
        have hfl : ∀ (us : List Int) (acc : List (Int × Int)), (us.foldl (fun acc u => mst acc (u, u)) acc).length ≤ acc.length + us.length := by
          intro us
          induction us with
          | nil => intro acc; exact Nat.le_refl _
          | cons v us ih =>
            intro acc
            rw [List.foldl_cons, List.length_cons]
            have h1 := ih (mst acc (v, v))
            have h2 := mst_len (acc := acc) (p := (v, v))
            omega
        have hac := hfl done []
        have hdn : done.length ≤ 666 := by rw [hdone, List.length_append] at hdl; omega
        have hst : (done ++ [u]).foldl (fun acc u => mst acc (u, u)) [] = mst (done.foldl (fun acc u => mst acc (u, u)) []) (u, u) := by rw [List.foldl_append]; rfl
        generalize hacc : done.foldl (fun acc u => mst acc (u, u)) [] = acc at hac hst ⊢
        simp only [List.length_nil, Nat.zero_add] at hac
        repeat ((first | (with_reducible first | refine iR_yesT ?_ | refine iR_lcNil ?_ | refine iR_lcCons ?_ | refine if_t ?_ | refine if_f ?_ | refine iS_seq ?_ | refine iS_set ?_ | refine iS_own ?_ | refine iS_drop ?_ | refine iS_ret ?_ | refine iS_retF ?_ | refine iS_next ?_ | refine iS_if ?_ | refine iS_asg ?_ | refine iS_for0 ?_ | refine iR_ap1 ?_ | refine iR_ap2 ?_ | refine iR_ap2N ?_ | refine iR_apA ?_ | refine iR_kst ?_ | refine iR_aNil ?_ | refine iR_aCons ?_ | refine iR_asB ?_ | refine iR_truR ?_ | refine iR_andT ?_ | refine iR_orT ?_ | refine iR_notT ?_ | refine iR_andV ?_ | refine iR_orV ?_ | refine iR_notV ?_ | refine iR_ifE ?_ | refine iR_asI ?_ | refine iS_sub ?_ | refine iS_retO ?_ | refine iR_mtF ?_ | refine iR_cNil ?_ | refine iR_cVal ?_ | refine iR_call ?_ | refine iR_readV ?_ | refine iR_readN ?_ | refine iR_writeN ?_ | refine iR_writeC ?_ | refine iR_asR1 ?_ | refine iR_asR2 ?_ | refine iR_bind ?_ | refine iR_lc ?_ | refine iR_slN ?_ | refine iR_oSome ?_ | refine iR_oNone ?_ | refine iR_lRg2 ?_ | refine iR_eqi ?_ | refine iR_nei ?_ | refine iR_eqs ?_ | refine iR_nes ?_ | refine iR_eqb ?_ | refine iR_neb ?_) | ((with_reducible first | refine eR_getV ?_ | refine eR_getCv ?_ | refine eR_ownL ?_ | refine eR_cOwn ?_ | refine eR_readO ?_ | refine eS_frz ?_ | refine eR_cellO ?_ | refine eR_of (r := gT _ _ _ _) ?_ | refine eR_of (r := gN _ _ _) ?_ | refine eR_of (r := dAddA _ _) ?_ | refine eR_of (r := dSub _ _) ?_ | refine eR_of (r := dLt _ _) ?_ | refine eR_of (r := dLe _ _) ?_ | refine eR_of (r := dGt _ _) ?_ | refine eR_of (r := dGe _ _) ?_ | refine eR_of (r := dIsN _ _) ?_ | refine eR_of (r := dNotN _ _) ?_ | refine eR_of (r := dIx _ _) ?_ | refine eR_of (r := dNeg _) ?_ | refine eR_of (r := dLen _) ?_ | refine eR_of (r := dList _) ?_ | refine eR_of (r := dTuple _) ?_ | refine eR_of (r := dRev _) ?_ | refine eR_of (r := dInt1 _) ?_ | refine eR_of (r := boolR _) ?_ | refine eR_of (r := intR _) ?_ | refine eR_of (r := itemsR _) ?_ | refine eR_of (r := truD _) ?_ | refine eR_of (r := dMax2 _) ?_ | refine eR_of (r := dMin2 _) ?_ | refine eR_of (r := slD _ _ _) ?_ | refine eR_of (r := mkT _) ?_ | refine eR_of (r := mkL _) ?_ | refine eR_of (r := endR _ _ _ _) ?_ | refine eR_of (r := lRg _ _) ?_ | refine eR_of (r := optB _) ?_ | refine eR_of (r := optR _) ?_); refine ⟨_, rfl, ?_⟩) | ((with_reducible first | refine eR_getCo ?_ | refine eS_frz' ?_); refine ⟨_, rfl, ?_⟩) | ((with_reducible first | refine iR_rng1 ?hh_ ?_ | refine iR_rng2 ?hh_ ?_ | refine iR_dMul ?hh_ ?_ | refine iR_dDiv ?hh_ ?_ | refine iR_dMod ?hh_ ?_ | refine iR_dPow ?hh_ ?_ | refine iR_dAddl ?hh_ ?_ | refine iR_dAdds ?hh_ ?_ | refine iR_dCat ?hh_ ?_ | refine iR_app ?hh_ ?_); (case hh_ => first | omega | decide)) | ((with_reducible first | refine iR_isi_t ?hh_ ?_ | refine if_ct ?hh_ ?_); (case hh_ => exact rfl)) | ((with_reducible first | refine iR_isi_f ?hh_ ?_ | refine if_cf ?hh_ ?_); (case hh_ => exact rfl)) | ((with_reducible refine iR_guard ?hh_ ?_); (case hh_ => first | decide | omega)) | (with_reducible refine iR_okk ?_) | ((with_reducible refine And.intro ?hh_ ?_); (case hh_ => first | decide | exact List.nodup_singleton _ | exact rfl | (simp only [List.length_cons, List.length_nil]; decide) | (intro z; cases z) | omega | (intro _; rfl)))); try dsimp only [List.set_cons_zero, List.set_cons_succ, ownIx, wipeE, restore, List.nil_append, List.cons_append])
        refine iR_neA (okEq_of okD_prs (by decide)) (okEq_of (okD_list (k := 0) fun _ h => nomatch h) (by decide)) ?_
        rw [eqv_nil]
        rcases List.eq_nil_or_concat acc with rfl | ⟨B, v, rfl⟩
        · rw [mst_nil] at hst
          repeat ((first | (with_reducible first | refine iR_yesT ?_ | refine iR_lcNil ?_ | refine iR_lcCons ?_ | refine if_t ?_ | refine if_f ?_ | refine iS_seq ?_ | refine iS_set ?_ | refine iS_own ?_ | refine iS_drop ?_ | refine iS_ret ?_ | refine iS_retF ?_ | refine iS_next ?_ | refine iS_if ?_ | refine iS_asg ?_ | refine iS_for0 ?_ | refine iR_ap1 ?_ | refine iR_ap2 ?_ | refine iR_ap2N ?_ | refine iR_apA ?_ | refine iR_kst ?_ | refine iR_aNil ?_ | refine iR_aCons ?_ | refine iR_asB ?_ | refine iR_truR ?_ | refine iR_andT ?_ | refine iR_orT ?_ | refine iR_notT ?_ | refine iR_andV ?_ | refine iR_orV ?_ | refine iR_notV ?_ | refine iR_ifE ?_ | refine iR_asI ?_ | refine iS_sub ?_ | refine iS_retO ?_ | refine iR_mtF ?_ | refine iR_cNil ?_ | refine iR_cVal ?_ | refine iR_call ?_ | refine iR_readV ?_ | refine iR_readN ?_ | refine iR_writeN ?_ | refine iR_writeC ?_ | refine iR_asR1 ?_ | refine iR_asR2 ?_ | refine iR_bind ?_ | refine iR_lc ?_ | refine iR_slN ?_ | refine iR_oSome ?_ | refine iR_oNone ?_ | refine iR_lRg2 ?_ | refine iR_eqi ?_ | refine iR_nei ?_ | refine iR_eqs ?_ | refine iR_nes ?_ | refine iR_eqb ?_ | refine iR_neb ?_) | ((with_reducible first | refine eR_getV ?_ | refine eR_getCv ?_ | refine eR_ownL ?_ | refine eR_cOwn ?_ | refine eR_readO ?_ | refine eS_frz ?_ | refine eR_cellO ?_ | refine eR_of (r := gT _ _ _ _) ?_ | refine eR_of (r := gN _ _ _) ?_ | refine eR_of (r := dAddA _ _) ?_ | refine eR_of (r := dSub _ _) ?_ | refine eR_of (r := dLt _ _) ?_ | refine eR_of (r := dLe _ _) ?_ | refine eR_of (r := dGt _ _) ?_ | refine eR_of (r := dGe _ _) ?_ | refine eR_of (r := dIsN _ _) ?_ | refine eR_of (r := dNotN _ _) ?_ | refine eR_of (r := dIx _ _) ?_ | refine eR_of (r := dNeg _) ?_ | refine eR_of (r := dLen _) ?_ | refine eR_of (r := dList _) ?_ | refine eR_of (r := dTuple _) ?_ | refine eR_of (r := dRev _) ?_ | refine eR_of (r := dInt1 _) ?_ | refine eR_of (r := boolR _) ?_ | refine eR_of (r := intR _) ?_ | refine eR_of (r := itemsR _) ?_ | refine eR_of (r := truD _) ?_ | refine eR_of (r := dMax2 _) ?_ | refine eR_of (r := dMin2 _) ?_ | refine eR_of (r := slD _ _ _) ?_ | refine eR_of (r := mkT _) ?_ | refine eR_of (r := mkL _) ?_ | refine eR_of (r := endR _ _ _ _) ?_ | refine eR_of (r := lRg _ _) ?_ | refine eR_of (r := optB _) ?_ | refine eR_of (r := optR _) ?_); refine ⟨_, rfl, ?_⟩) | ((with_reducible first | refine eR_getCo ?_ | refine eS_frz' ?_); refine ⟨_, rfl, ?_⟩) | ((with_reducible first | refine iR_rng1 ?hh_ ?_ | refine iR_rng2 ?hh_ ?_ | refine iR_dMul ?hh_ ?_ | refine iR_dDiv ?hh_ ?_ | refine iR_dMod ?hh_ ?_ | refine iR_dPow ?hh_ ?_ | refine iR_dAddl ?hh_ ?_ | refine iR_dAdds ?hh_ ?_ | refine iR_dCat ?hh_ ?_ | refine iR_app ?hh_ ?_); (case hh_ => first | omega | decide)) | ((with_reducible first | refine iR_isi_t ?hh_ ?_ | refine if_ct ?hh_ ?_); (case hh_ => exact rfl)) | ((with_reducible first | refine iR_isi_f ?hh_ ?_ | refine if_cf ?hh_ ?_); (case hh_ => exact rfl)) | ((with_reducible refine iR_guard ?hh_ ?_); (case hh_ => first | decide | omega)) | (with_reducible refine iR_okk ?_) | ((with_reducible refine And.intro ?hh_ ?_); (case hh_ => first | decide | exact List.nodup_singleton _ | exact rfl | (simp only [List.length_cons, List.length_nil]; decide) | (intro z; cases z) | omega | (intro _; rfl)))); try dsimp only [List.set_cons_zero, List.set_cons_succ, ownIx, wipeE, restore, List.nil_append, List.cons_append])
          refine ⟨done ++ [u], rem, some (.val (.int u)), rfl, by rw [hdone, List.append_assoc]; rfl, ?_⟩
          rw [hst]; rfl
        · rw [List.concat_eq_append] at hac hst ⊢
          rw [mst_snoc] at hst
          rw [List.length_append] at hac
          rw [List.map_append]
          rw [show [v].map prD = [PyData.tuple [.int v.1, .int v.2]] from rfl]
          have hk : (((B.map prD ++ [PyData.tuple [.int v.1, .int v.2]]).length : Int) - 1) = (B.map prD).length := by simp; try omega
          repeat ((first | (with_reducible first | refine iR_yesT ?_ | refine iR_lcNil ?_ | refine iR_lcCons ?_ | refine if_t ?_ | refine if_f ?_ | refine iS_seq ?_ | refine iS_set ?_ | refine iS_own ?_ | refine iS_drop ?_ | refine iS_ret ?_ | refine iS_retF ?_ | refine iS_next ?_ | refine iS_if ?_ | refine iS_asg ?_ | refine iS_for0 ?_ | refine iR_ap1 ?_ | refine iR_ap2 ?_ | refine iR_ap2N ?_ | refine iR_apA ?_ | refine iR_kst ?_ | refine iR_aNil ?_ | refine iR_aCons ?_ | refine iR_asB ?_ | refine iR_truR ?_ | refine iR_andT ?_ | refine iR_orT ?_ | refine iR_notT ?_ | refine iR_andV ?_ | refine iR_orV ?_ | refine iR_notV ?_ | refine iR_ifE ?_ | refine iR_asI ?_ | refine iS_sub ?_ | refine iS_retO ?_ | refine iR_mtF ?_ | refine iR_cNil ?_ | refine iR_cVal ?_ | refine iR_call ?_ | refine iR_readV ?_ | refine iR_readN ?_ | refine iR_writeN ?_ | refine iR_writeC ?_ | refine iR_asR1 ?_ | refine iR_asR2 ?_ | refine iR_bind ?_ | refine iR_lc ?_ | refine iR_slN ?_ | refine iR_oSome ?_ | refine iR_oNone ?_ | refine iR_lRg2 ?_ | refine iR_eqi ?_ | refine iR_nei ?_ | refine iR_eqs ?_ | refine iR_nes ?_ | refine iR_eqb ?_ | refine iR_neb ?_) | ((with_reducible first | refine eR_getV ?_ | refine eR_getCv ?_ | refine eR_ownL ?_ | refine eR_cOwn ?_ | refine eR_readO ?_ | refine eS_frz ?_ | refine eR_cellO ?_ | refine eR_of (r := gT _ _ _ _) ?_ | refine eR_of (r := gN _ _ _) ?_ | refine eR_of (r := dAddA _ _) ?_ | refine eR_of (r := dSub _ _) ?_ | refine eR_of (r := dLt _ _) ?_ | refine eR_of (r := dLe _ _) ?_ | refine eR_of (r := dGt _ _) ?_ | refine eR_of (r := dGe _ _) ?_ | refine eR_of (r := dIsN _ _) ?_ | refine eR_of (r := dNotN _ _) ?_ | refine eR_of (r := dIx _ _) ?_ | refine eR_of (r := dNeg _) ?_ | refine eR_of (r := dLen _) ?_ | refine eR_of (r := dList _) ?_ | refine eR_of (r := dTuple _) ?_ | refine eR_of (r := dRev _) ?_ | refine eR_of (r := dInt1 _) ?_ | refine eR_of (r := boolR _) ?_ | refine eR_of (r := intR _) ?_ | refine eR_of (r := itemsR _) ?_ | refine eR_of (r := truD _) ?_ | refine eR_of (r := dMax2 _) ?_ | refine eR_of (r := dMin2 _) ?_ | refine eR_of (r := slD _ _ _) ?_ | refine eR_of (r := mkT _) ?_ | refine eR_of (r := mkL _) ?_ | refine eR_of (r := endR _ _ _ _) ?_ | refine eR_of (r := lRg _ _) ?_ | refine eR_of (r := optB _) ?_ | refine eR_of (r := optR _) ?_); refine ⟨_, rfl, ?_⟩) | ((with_reducible first | refine eR_getCo ?_ | refine eS_frz' ?_); refine ⟨_, rfl, ?_⟩) | ((with_reducible first | refine iR_rng1 ?hh_ ?_ | refine iR_rng2 ?hh_ ?_ | refine iR_dMul ?hh_ ?_ | refine iR_dDiv ?hh_ ?_ | refine iR_dMod ?hh_ ?_ | refine iR_dPow ?hh_ ?_ | refine iR_dAddl ?hh_ ?_ | refine iR_dAdds ?hh_ ?_ | refine iR_dCat ?hh_ ?_ | refine iR_app ?hh_ ?_); (case hh_ => first | omega | decide)) | ((with_reducible first | refine iR_isi_t ?hh_ ?_ | refine if_ct ?hh_ ?_); (case hh_ => exact rfl)) | ((with_reducible first | refine iR_isi_f ?hh_ ?_ | refine if_cf ?hh_ ?_); (case hh_ => exact rfl)) | ((with_reducible refine iR_guard ?hh_ ?_); (case hh_ => first | decide | omega)) | (with_reducible refine iR_okk ?_) | ((with_reducible refine And.intro ?hh_ ?_); (case hh_ => first | decide | exact List.nodup_singleton _ | exact rfl | (simp only [List.length_cons, List.length_nil]; decide) | (intro z; cases z) | omega | (intro _; rfl)))); try dsimp only [List.set_cons_zero, List.set_cons_succ, ownIx, wipeE, restore, List.nil_append, List.cons_append])
          refine if_ct ne_snoc ?_
          repeat ((first | (with_reducible first | refine iR_yesT ?_ | refine iR_lcNil ?_ | refine iR_lcCons ?_ | refine if_t ?_ | refine if_f ?_ | refine iS_seq ?_ | refine iS_set ?_ | refine iS_own ?_ | refine iS_drop ?_ | refine iS_ret ?_ | refine iS_retF ?_ | refine iS_next ?_ | refine iS_if ?_ | refine iS_asg ?_ | refine iS_for0 ?_ | refine iR_ap1 ?_ | refine iR_ap2 ?_ | refine iR_ap2N ?_ | refine iR_apA ?_ | refine iR_kst ?_ | refine iR_aNil ?_ | refine iR_aCons ?_ | refine iR_asB ?_ | refine iR_truR ?_ | refine iR_andT ?_ | refine iR_orT ?_ | refine iR_notT ?_ | refine iR_andV ?_ | refine iR_orV ?_ | refine iR_notV ?_ | refine iR_ifE ?_ | refine iR_asI ?_ | refine iS_sub ?_ | refine iS_retO ?_ | refine iR_mtF ?_ | refine iR_cNil ?_ | refine iR_cVal ?_ | refine iR_call ?_ | refine iR_readV ?_ | refine iR_readN ?_ | refine iR_writeN ?_ | refine iR_writeC ?_ | refine iR_asR1 ?_ | refine iR_asR2 ?_ | refine iR_bind ?_ | refine iR_lc ?_ | refine iR_slN ?_ | refine iR_oSome ?_ | refine iR_oNone ?_ | refine iR_lRg2 ?_ | refine iR_eqi ?_ | refine iR_nei ?_ | refine iR_eqs ?_ | refine iR_nes ?_ | refine iR_eqb ?_ | refine iR_neb ?_) | ((with_reducible first | refine eR_getV ?_ | refine eR_getCv ?_ | refine eR_ownL ?_ | refine eR_cOwn ?_ | refine eR_readO ?_ | refine eS_frz ?_ | refine eR_cellO ?_ | refine eR_of (r := gT _ _ _ _) ?_ | refine eR_of (r := gN _ _ _) ?_ | refine eR_of (r := dAddA _ _) ?_ | refine eR_of (r := dSub _ _) ?_ | refine eR_of (r := dLt _ _) ?_ | refine eR_of (r := dLe _ _) ?_ | refine eR_of (r := dGt _ _) ?_ | refine eR_of (r := dGe _ _) ?_ | refine eR_of (r := dIsN _ _) ?_ | refine eR_of (r := dNotN _ _) ?_ | refine eR_of (r := dIx _ _) ?_ | refine eR_of (r := dNeg _) ?_ | refine eR_of (r := dLen _) ?_ | refine eR_of (r := dList _) ?_ | refine eR_of (r := dTuple _) ?_ | refine eR_of (r := dRev _) ?_ | refine eR_of (r := dInt1 _) ?_ | refine eR_of (r := boolR _) ?_ | refine eR_of (r := intR _) ?_ | refine eR_of (r := itemsR _) ?_ | refine eR_of (r := truD _) ?_ | refine eR_of (r := dMax2 _) ?_ | refine eR_of (r := dMin2 _) ?_ | refine eR_of (r := slD _ _ _) ?_ | refine eR_of (r := mkT _) ?_ | refine eR_of (r := mkL _) ?_ | refine eR_of (r := endR _ _ _ _) ?_ | refine eR_of (r := lRg _ _) ?_ | refine eR_of (r := optB _) ?_ | refine eR_of (r := optR _) ?_); refine ⟨_, rfl, ?_⟩) | ((with_reducible first | refine eR_getCo ?_ | refine eS_frz' ?_); refine ⟨_, rfl, ?_⟩) | ((with_reducible first | refine iR_rng1 ?hh_ ?_ | refine iR_rng2 ?hh_ ?_ | refine iR_dMul ?hh_ ?_ | refine iR_dDiv ?hh_ ?_ | refine iR_dMod ?hh_ ?_ | refine iR_dPow ?hh_ ?_ | refine iR_dAddl ?hh_ ?_ | refine iR_dAdds ?hh_ ?_ | refine iR_dCat ?hh_ ?_ | refine iR_app ?hh_ ?_); (case hh_ => first | omega | decide)) | ((with_reducible first | refine iR_isi_t ?hh_ ?_ | refine if_ct ?hh_ ?_); (case hh_ => exact rfl)) | ((with_reducible first | refine iR_isi_f ?hh_ ?_ | refine if_cf ?hh_ ?_); (case hh_ => exact rfl)) | ((with_reducible refine iR_guard ?hh_ ?_); (case hh_ => first | decide | omega)) | (with_reducible refine iR_okk ?_) | ((with_reducible refine And.intro ?hh_ ?_); (case hh_ => first | decide | exact List.nodup_singleton _ | exact rfl | (simp only [List.length_cons, List.length_nil]; decide) | (intro z; cases z) | omega | (intro _; rfl)))); try dsimp only [List.set_cons_zero, List.set_cons_succ, ownIx, wipeE, restore, List.nil_append, List.cons_append])
          refine iR_ixl (atI_end hk) ?_
          repeat ((first | (with_reducible first | refine iR_yesT ?_ | refine iR_lcNil ?_ | refine iR_lcCons ?_ | refine if_t ?_ | refine if_f ?_ | refine iS_seq ?_ | refine iS_set ?_ | refine iS_own ?_ | refine iS_drop ?_ | refine iS_ret ?_ | refine iS_retF ?_ | refine iS_next ?_ | refine iS_if ?_ | refine iS_asg ?_ | refine iS_for0 ?_ | refine iR_ap1 ?_ | refine iR_ap2 ?_ | refine iR_ap2N ?_ | refine iR_apA ?_ | refine iR_kst ?_ | refine iR_aNil ?_ | refine iR_aCons ?_ | refine iR_asB ?_ | refine iR_truR ?_ | refine iR_andT ?_ | refine iR_orT ?_ | refine iR_notT ?_ | refine iR_andV ?_ | refine iR_orV ?_ | refine iR_notV ?_ | refine iR_ifE ?_ | refine iR_asI ?_ | refine iS_sub ?_ | refine iS_retO ?_ | refine iR_mtF ?_ | refine iR_cNil ?_ | refine iR_cVal ?_ | refine iR_call ?_ | refine iR_readV ?_ | refine iR_readN ?_ | refine iR_writeN ?_ | refine iR_writeC ?_ | refine iR_asR1 ?_ | refine iR_asR2 ?_ | refine iR_bind ?_ | refine iR_lc ?_ | refine iR_slN ?_ | refine iR_oSome ?_ | refine iR_oNone ?_ | refine iR_lRg2 ?_ | refine iR_eqi ?_ | refine iR_nei ?_ | refine iR_eqs ?_ | refine iR_nes ?_ | refine iR_eqb ?_ | refine iR_neb ?_) | ((with_reducible first | refine eR_getV ?_ | refine eR_getCv ?_ | refine eR_ownL ?_ | refine eR_cOwn ?_ | refine eR_readO ?_ | refine eS_frz ?_ | refine eR_cellO ?_ | refine eR_of (r := gT _ _ _ _) ?_ | refine eR_of (r := gN _ _ _) ?_ | refine eR_of (r := dAddA _ _) ?_ | refine eR_of (r := dSub _ _) ?_ | refine eR_of (r := dLt _ _) ?_ | refine eR_of (r := dLe _ _) ?_ | refine eR_of (r := dGt _ _) ?_ | refine eR_of (r := dGe _ _) ?_ | refine eR_of (r := dIsN _ _) ?_ | refine eR_of (r := dNotN _ _) ?_ | refine eR_of (r := dIx _ _) ?_ | refine eR_of (r := dNeg _) ?_ | refine eR_of (r := dLen _) ?_ | refine eR_of (r := dList _) ?_ | refine eR_of (r := dTuple _) ?_ | refine eR_of (r := dRev _) ?_ | refine eR_of (r := dInt1 _) ?_ | refine eR_of (r := boolR _) ?_ | refine eR_of (r := intR _) ?_ | refine eR_of (r := itemsR _) ?_ | refine eR_of (r := truD _) ?_ | refine eR_of (r := dMax2 _) ?_ | refine eR_of (r := dMin2 _) ?_ | refine eR_of (r := slD _ _ _) ?_ | refine eR_of (r := mkT _) ?_ | refine eR_of (r := mkL _) ?_ | refine eR_of (r := endR _ _ _ _) ?_ | refine eR_of (r := lRg _ _) ?_ | refine eR_of (r := optB _) ?_ | refine eR_of (r := optR _) ?_); refine ⟨_, rfl, ?_⟩) | ((with_reducible first | refine eR_getCo ?_ | refine eS_frz' ?_); refine ⟨_, rfl, ?_⟩) | ((with_reducible first | refine iR_rng1 ?hh_ ?_ | refine iR_rng2 ?hh_ ?_ | refine iR_dMul ?hh_ ?_ | refine iR_dDiv ?hh_ ?_ | refine iR_dMod ?hh_ ?_ | refine iR_dPow ?hh_ ?_ | refine iR_dAddl ?hh_ ?_ | refine iR_dAdds ?hh_ ?_ | refine iR_dCat ?hh_ ?_ | refine iR_app ?hh_ ?_); (case hh_ => first | omega | decide)) | ((with_reducible first | refine iR_isi_t ?hh_ ?_ | refine if_ct ?hh_ ?_); (case hh_ => exact rfl)) | ((with_reducible first | refine iR_isi_f ?hh_ ?_ | refine if_cf ?hh_ ?_); (case hh_ => exact rfl)) | ((with_reducible refine iR_guard ?hh_ ?_); (case hh_ => first | decide | omega)) | (with_reducible refine iR_okk ?_) | ((with_reducible refine And.intro ?hh_ ?_); (case hh_ => first | decide | exact List.nodup_singleton _ | exact rfl | (simp only [List.length_cons, List.length_nil]; decide) | (intro z; cases z) | omega | (intro _; rfl)))); try dsimp only [List.set_cons_zero, List.set_cons_succ, ownIx, wipeE, restore, List.nil_append, List.cons_append])
          refine ifb (fun h => ?_) fun h => ?_
          · have h : v.2 = u - 1 := by simpa using h
            rw [if_pos (by omega)] at hst
            repeat ((first | (with_reducible first | refine iR_yesT ?_ | refine iR_lcNil ?_ | refine iR_lcCons ?_ | refine if_t ?_ | refine if_f ?_ | refine iS_seq ?_ | refine iS_set ?_ | refine iS_own ?_ | refine iS_drop ?_ | refine iS_ret ?_ | refine iS_retF ?_ | refine iS_next ?_ | refine iS_if ?_ | refine iS_asg ?_ | refine iS_for0 ?_ | refine iR_ap1 ?_ | refine iR_ap2 ?_ | refine iR_ap2N ?_ | refine iR_apA ?_ | refine iR_kst ?_ | refine iR_aNil ?_ | refine iR_aCons ?_ | refine iR_asB ?_ | refine iR_truR ?_ | refine iR_andT ?_ | refine iR_orT ?_ | refine iR_notT ?_ | refine iR_andV ?_ | refine iR_orV ?_ | refine iR_notV ?_ | refine iR_ifE ?_ | refine iR_asI ?_ | refine iS_sub ?_ | refine iS_retO ?_ | refine iR_mtF ?_ | refine iR_cNil ?_ | refine iR_cVal ?_ | refine iR_call ?_ | refine iR_readV ?_ | refine iR_readN ?_ | refine iR_writeN ?_ | refine iR_writeC ?_ | refine iR_asR1 ?_ | refine iR_asR2 ?_ | refine iR_bind ?_ | refine iR_lc ?_ | refine iR_slN ?_ | refine iR_oSome ?_ | refine iR_oNone ?_ | refine iR_lRg2 ?_ | refine iR_eqi ?_ | refine iR_nei ?_ | refine iR_eqs ?_ | refine iR_nes ?_ | refine iR_eqb ?_ | refine iR_neb ?_) | ((with_reducible first | refine eR_getV ?_ | refine eR_getCv ?_ | refine eR_ownL ?_ | refine eR_cOwn ?_ | refine eR_readO ?_ | refine eS_frz ?_ | refine eR_cellO ?_ | refine eR_of (r := gT _ _ _ _) ?_ | refine eR_of (r := gN _ _ _) ?_ | refine eR_of (r := dAddA _ _) ?_ | refine eR_of (r := dSub _ _) ?_ | refine eR_of (r := dLt _ _) ?_ | refine eR_of (r := dLe _ _) ?_ | refine eR_of (r := dGt _ _) ?_ | refine eR_of (r := dGe _ _) ?_ | refine eR_of (r := dIsN _ _) ?_ | refine eR_of (r := dNotN _ _) ?_ | refine eR_of (r := dIx _ _) ?_ | refine eR_of (r := dNeg _) ?_ | refine eR_of (r := dLen _) ?_ | refine eR_of (r := dList _) ?_ | refine eR_of (r := dTuple _) ?_ | refine eR_of (r := dRev _) ?_ | refine eR_of (r := dInt1 _) ?_ | refine eR_of (r := boolR _) ?_ | refine eR_of (r := intR _) ?_ | refine eR_of (r := itemsR _) ?_ | refine eR_of (r := truD _) ?_ | refine eR_of (r := dMax2 _) ?_ | refine eR_of (r := dMin2 _) ?_ | refine eR_of (r := slD _ _ _) ?_ | refine eR_of (r := mkT _) ?_ | refine eR_of (r := mkL _) ?_ | refine eR_of (r := endR _ _ _ _) ?_ | refine eR_of (r := lRg _ _) ?_ | refine eR_of (r := optB _) ?_ | refine eR_of (r := optR _) ?_); refine ⟨_, rfl, ?_⟩) | ((with_reducible first | refine eR_getCo ?_ | refine eS_frz' ?_); refine ⟨_, rfl, ?_⟩) | ((with_reducible first | refine iR_rng1 ?hh_ ?_ | refine iR_rng2 ?hh_ ?_ | refine iR_dMul ?hh_ ?_ | refine iR_dDiv ?hh_ ?_ | refine iR_dMod ?hh_ ?_ | refine iR_dPow ?hh_ ?_ | refine iR_dAddl ?hh_ ?_ | refine iR_dAdds ?hh_ ?_ | refine iR_dCat ?hh_ ?_ | refine iR_app ?hh_ ?_); (case hh_ => first | omega | decide)) | ((with_reducible first | refine iR_isi_t ?hh_ ?_ | refine if_ct ?hh_ ?_); (case hh_ => exact rfl)) | ((with_reducible first | refine iR_isi_f ?hh_ ?_ | refine if_cf ?hh_ ?_); (case hh_ => exact rfl)) | ((with_reducible refine iR_guard ?hh_ ?_); (case hh_ => first | decide | omega)) | (with_reducible refine iR_okk ?_) | ((with_reducible refine And.intro ?hh_ ?_); (case hh_ => first | decide | exact List.nodup_singleton _ | exact rfl | (simp only [List.length_cons, List.length_nil]; decide) | (intro z; cases z) | omega | (intro _; rfl)))); try dsimp only [List.set_cons_zero, List.set_cons_succ, ownIx, wipeE, restore, List.nil_append, List.cons_append])
            rw [cut_init hk]
            refine iR_ixl (atI_end hk) ?_
            repeat ((first | (with_reducible first | refine iR_yesT ?_ | refine iR_lcNil ?_ | refine iR_lcCons ?_ | refine if_t ?_ | refine if_f ?_ | refine iS_seq ?_ | refine iS_set ?_ | refine iS_own ?_ | refine iS_drop ?_ | refine iS_ret ?_ | refine iS_retF ?_ | refine iS_next ?_ | refine iS_if ?_ | refine iS_asg ?_ | refine iS_for0 ?_ | refine iR_ap1 ?_ | refine iR_ap2 ?_ | refine iR_ap2N ?_ | refine iR_apA ?_ | refine iR_kst ?_ | refine iR_aNil ?_ | refine iR_aCons ?_ | refine iR_asB ?_ | refine iR_truR ?_ | refine iR_andT ?_ | refine iR_orT ?_ | refine iR_notT ?_ | refine iR_andV ?_ | refine iR_orV ?_ | refine iR_notV ?_ | refine iR_ifE ?_ | refine iR_asI ?_ | refine iS_sub ?_ | refine iS_retO ?_ | refine iR_mtF ?_ | refine iR_cNil ?_ | refine iR_cVal ?_ | refine iR_call ?_ | refine iR_readV ?_ | refine iR_readN ?_ | refine iR_writeN ?_ | refine iR_writeC ?_ | refine iR_asR1 ?_ | refine iR_asR2 ?_ | refine iR_bind ?_ | refine iR_lc ?_ | refine iR_slN ?_ | refine iR_oSome ?_ | refine iR_oNone ?_ | refine iR_lRg2 ?_ | refine iR_eqi ?_ | refine iR_nei ?_ | refine iR_eqs ?_ | refine iR_nes ?_ | refine iR_eqb ?_ | refine iR_neb ?_) | ((with_reducible first | refine eR_getV ?_ | refine eR_getCv ?_ | refine eR_ownL ?_ | refine eR_cOwn ?_ | refine eR_readO ?_ | refine eS_frz ?_ | refine eR_cellO ?_ | refine eR_of (r := gT _ _ _ _) ?_ | refine eR_of (r := gN _ _ _) ?_ | refine eR_of (r := dAddA _ _) ?_ | refine eR_of (r := dSub _ _) ?_ | refine eR_of (r := dLt _ _) ?_ | refine eR_of (r := dLe _ _) ?_ | refine eR_of (r := dGt _ _) ?_ | refine eR_of (r := dGe _ _) ?_ | refine eR_of (r := dIsN _ _) ?_ | refine eR_of (r := dNotN _ _) ?_ | refine eR_of (r := dIx _ _) ?_ | refine eR_of (r := dNeg _) ?_ | refine eR_of (r := dLen _) ?_ | refine eR_of (r := dList _) ?_ | refine eR_of (r := dTuple _) ?_ | refine eR_of (r := dRev _) ?_ | refine eR_of (r := dInt1 _) ?_ | refine eR_of (r := boolR _) ?_ | refine eR_of (r := intR _) ?_ | refine eR_of (r := itemsR _) ?_ | refine eR_of (r := truD _) ?_ | refine eR_of (r := dMax2 _) ?_ | refine eR_of (r := dMin2 _) ?_ | refine eR_of (r := slD _ _ _) ?_ | refine eR_of (r := mkT _) ?_ | refine eR_of (r := mkL _) ?_ | refine eR_of (r := endR _ _ _ _) ?_ | refine eR_of (r := lRg _ _) ?_ | refine eR_of (r := optB _) ?_ | refine eR_of (r := optR _) ?_); refine ⟨_, rfl, ?_⟩) | ((with_reducible first | refine eR_getCo ?_ | refine eS_frz' ?_); refine ⟨_, rfl, ?_⟩) | ((with_reducible first | refine iR_rng1 ?hh_ ?_ | refine iR_rng2 ?hh_ ?_ | refine iR_dMul ?hh_ ?_ | refine iR_dDiv ?hh_ ?_ | refine iR_dMod ?hh_ ?_ | refine iR_dPow ?hh_ ?_ | refine iR_dAddl ?hh_ ?_ | refine iR_dAdds ?hh_ ?_ | refine iR_dCat ?hh_ ?_ | refine iR_app ?hh_ ?_); (case hh_ => first | omega | decide)) | ((with_reducible first | refine iR_isi_t ?hh_ ?_ | refine if_ct ?hh_ ?_); (case hh_ => exact rfl)) | ((with_reducible first | refine iR_isi_f ?hh_ ?_ | refine if_cf ?hh_ ?_); (case hh_ => exact rfl)) | ((with_reducible refine iR_guard ?hh_ ?_); (case hh_ => first | decide | omega)) | (with_reducible refine iR_okk ?_) | ((with_reducible refine And.intro ?hh_ ?_); (case hh_ => first | decide | exact List.nodup_singleton _ | exact rfl | (simp only [List.length_cons, List.length_nil]; decide) | (intro z; cases z) | omega | (intro _; rfl)))); try dsimp only [List.set_cons_zero, List.set_cons_succ, ownIx, wipeE, restore, List.nil_append, List.cons_append])
            refine iR_dCat (by rw [List.length_map]; show _ + 1 ≤ _; simp at hac; omega) ?_
            repeat ((first | (with_reducible first | refine iR_yesT ?_ | refine iR_lcNil ?_ | refine iR_lcCons ?_ | refine if_t ?_ | refine if_f ?_ | refine iS_seq ?_ | refine iS_set ?_ | refine iS_own ?_ | refine iS_drop ?_ | refine iS_ret ?_ | refine iS_retF ?_ | refine iS_next ?_ | refine iS_if ?_ | refine iS_asg ?_ | refine iS_for0 ?_ | refine iR_ap1 ?_ | refine iR_ap2 ?_ | refine iR_ap2N ?_ | refine iR_apA ?_ | refine iR_kst ?_ | refine iR_aNil ?_ | refine iR_aCons ?_ | refine iR_asB ?_ | refine iR_truR ?_ | refine iR_andT ?_ | refine iR_orT ?_ | refine iR_notT ?_ | refine iR_andV ?_ | refine iR_orV ?_ | refine iR_notV ?_ | refine iR_ifE ?_ | refine iR_asI ?_ | refine iS_sub ?_ | refine iS_retO ?_ | refine iR_mtF ?_ | refine iR_cNil ?_ | refine iR_cVal ?_ | refine iR_call ?_ | refine iR_readV ?_ | refine iR_readN ?_ | refine iR_writeN ?_ | refine iR_writeC ?_ | refine iR_asR1 ?_ | refine iR_asR2 ?_ | refine iR_bind ?_ | refine iR_lc ?_ | refine iR_slN ?_ | refine iR_oSome ?_ | refine iR_oNone ?_ | refine iR_lRg2 ?_ | refine iR_eqi ?_ | refine iR_nei ?_ | refine iR_eqs ?_ | refine iR_nes ?_ | refine iR_eqb ?_ | refine iR_neb ?_) | ((with_reducible first | refine eR_getV ?_ | refine eR_getCv ?_ | refine eR_ownL ?_ | refine eR_cOwn ?_ | refine eR_readO ?_ | refine eS_frz ?_ | refine eR_cellO ?_ | refine eR_of (r := gT _ _ _ _) ?_ | refine eR_of (r := gN _ _ _) ?_ | refine eR_of (r := dAddA _ _) ?_ | refine eR_of (r := dSub _ _) ?_ | refine eR_of (r := dLt _ _) ?_ | refine eR_of (r := dLe _ _) ?_ | refine eR_of (r := dGt _ _) ?_ | refine eR_of (r := dGe _ _) ?_ | refine eR_of (r := dIsN _ _) ?_ | refine eR_of (r := dNotN _ _) ?_ | refine eR_of (r := dIx _ _) ?_ | refine eR_of (r := dNeg _) ?_ | refine eR_of (r := dLen _) ?_ | refine eR_of (r := dList _) ?_ | refine eR_of (r := dTuple _) ?_ | refine eR_of (r := dRev _) ?_ | refine eR_of (r := dInt1 _) ?_ | refine eR_of (r := boolR _) ?_ | refine eR_of (r := intR _) ?_ | refine eR_of (r := itemsR _) ?_ | refine eR_of (r := truD _) ?_ | refine eR_of (r := dMax2 _) ?_ | refine eR_of (r := dMin2 _) ?_ | refine eR_of (r := slD _ _ _) ?_ | refine eR_of (r := mkT _) ?_ | refine eR_of (r := mkL _) ?_ | refine eR_of (r := endR _ _ _ _) ?_ | refine eR_of (r := lRg _ _) ?_ | refine eR_of (r := optB _) ?_ | refine eR_of (r := optR _) ?_); refine ⟨_, rfl, ?_⟩) | ((with_reducible first | refine eR_getCo ?_ | refine eS_frz' ?_); refine ⟨_, rfl, ?_⟩) | ((with_reducible first | refine iR_rng1 ?hh_ ?_ | refine iR_rng2 ?hh_ ?_ | refine iR_dMul ?hh_ ?_ | refine iR_dDiv ?hh_ ?_ | refine iR_dMod ?hh_ ?_ | refine iR_dPow ?hh_ ?_ | refine iR_dAddl ?hh_ ?_ | refine iR_dAdds ?hh_ ?_ | refine iR_dCat ?hh_ ?_ | refine iR_app ?hh_ ?_); (case hh_ => first | omega | decide)) | ((with_reducible first | refine iR_isi_t ?hh_ ?_ | refine if_ct ?hh_ ?_); (case hh_ => exact rfl)) | ((with_reducible first | refine iR_isi_f ?hh_ ?_ | refine if_cf ?hh_ ?_); (case hh_ => exact rfl)) | ((with_reducible refine iR_guard ?hh_ ?_); (case hh_ => first | decide | omega)) | (with_reducible refine iR_okk ?_) | ((with_reducible refine And.intro ?hh_ ?_); (case hh_ => first | decide | exact List.nodup_singleton _ | exact rfl | (simp only [List.length_cons, List.length_nil]; decide) | (intro z; cases z) | omega | (intro _; rfl)))); try dsimp only [List.set_cons_zero, List.set_cons_succ, ownIx, wipeE, restore, List.nil_append, List.cons_append])
            refine ⟨done ++ [u], rem, some (.val (.int u)), rfl, by rw [hdone, List.append_assoc]; rfl, ?_⟩
            rw [hst, List.map_append]; rfl
          · have h : ¬ v.2 = u - 1 := by simpa using h
            rw [if_neg (by omega)] at hst
            repeat ((first | (with_reducible first | refine iR_yesT ?_ | refine iR_lcNil ?_ | refine iR_lcCons ?_ | refine if_t ?_ | refine if_f ?_ | refine iS_seq ?_ | refine iS_set ?_ | refine iS_own ?_ | refine iS_drop ?_ | refine iS_ret ?_ | refine iS_retF ?_ | refine iS_next ?_ | refine iS_if ?_ | refine iS_asg ?_ | refine iS_for0 ?_ | refine iR_ap1 ?_ | refine iR_ap2 ?_ | refine iR_ap2N ?_ | refine iR_apA ?_ | refine iR_kst ?_ | refine iR_aNil ?_ | refine iR_aCons ?_ | refine iR_asB ?_ | refine iR_truR ?_ | refine iR_andT ?_ | refine iR_orT ?_ | refine iR_notT ?_ | refine iR_andV ?_ | refine iR_orV ?_ | refine iR_notV ?_ | refine iR_ifE ?_ | refine iR_asI ?_ | refine iS_sub ?_ | refine iS_retO ?_ | refine iR_mtF ?_ | refine iR_cNil ?_ | refine iR_cVal ?_ | refine iR_call ?_ | refine iR_readV ?_ | refine iR_readN ?_ | refine iR_writeN ?_ | refine iR_writeC ?_ | refine iR_asR1 ?_ | refine iR_asR2 ?_ | refine iR_bind ?_ | refine iR_lc ?_ | refine iR_slN ?_ | refine iR_oSome ?_ | refine iR_oNone ?_ | refine iR_lRg2 ?_ | refine iR_eqi ?_ | refine iR_nei ?_ | refine iR_eqs ?_ | refine iR_nes ?_ | refine iR_eqb ?_ | refine iR_neb ?_) | ((with_reducible first | refine eR_getV ?_ | refine eR_getCv ?_ | refine eR_ownL ?_ | refine eR_cOwn ?_ | refine eR_readO ?_ | refine eS_frz ?_ | refine eR_cellO ?_ | refine eR_of (r := gT _ _ _ _) ?_ | refine eR_of (r := gN _ _ _) ?_ | refine eR_of (r := dAddA _ _) ?_ | refine eR_of (r := dSub _ _) ?_ | refine eR_of (r := dLt _ _) ?_ | refine eR_of (r := dLe _ _) ?_ | refine eR_of (r := dGt _ _) ?_ | refine eR_of (r := dGe _ _) ?_ | refine eR_of (r := dIsN _ _) ?_ | refine eR_of (r := dNotN _ _) ?_ | refine eR_of (r := dIx _ _) ?_ | refine eR_of (r := dNeg _) ?_ | refine eR_of (r := dLen _) ?_ | refine eR_of (r := dList _) ?_ | refine eR_of (r := dTuple _) ?_ | refine eR_of (r := dRev _) ?_ | refine eR_of (r := dInt1 _) ?_ | refine eR_of (r := boolR _) ?_ | refine eR_of (r := intR _) ?_ | refine eR_of (r := itemsR _) ?_ | refine eR_of (r := truD _) ?_ | refine eR_of (r := dMax2 _) ?_ | refine eR_of (r := dMin2 _) ?_ | refine eR_of (r := slD _ _ _) ?_ | refine eR_of (r := mkT _) ?_ | refine eR_of (r := mkL _) ?_ | refine eR_of (r := endR _ _ _ _) ?_ | refine eR_of (r := lRg _ _) ?_ | refine eR_of (r := optB _) ?_ | refine eR_of (r := optR _) ?_); refine ⟨_, rfl, ?_⟩) | ((with_reducible first | refine eR_getCo ?_ | refine eS_frz' ?_); refine ⟨_, rfl, ?_⟩) | ((with_reducible first | refine iR_rng1 ?hh_ ?_ | refine iR_rng2 ?hh_ ?_ | refine iR_dMul ?hh_ ?_ | refine iR_dDiv ?hh_ ?_ | refine iR_dMod ?hh_ ?_ | refine iR_dPow ?hh_ ?_ | refine iR_dAddl ?hh_ ?_ | refine iR_dAdds ?hh_ ?_ | refine iR_dCat ?hh_ ?_ | refine iR_app ?hh_ ?_); (case hh_ => first | omega | decide)) | ((with_reducible first | refine iR_isi_t ?hh_ ?_ | refine if_ct ?hh_ ?_); (case hh_ => exact rfl)) | ((with_reducible first | refine iR_isi_f ?hh_ ?_ | refine if_cf ?hh_ ?_); (case hh_ => exact rfl)) | ((with_reducible refine iR_guard ?hh_ ?_); (case hh_ => first | decide | omega)) | (with_reducible refine iR_okk ?_) | ((with_reducible refine And.intro ?hh_ ?_); (case hh_ => first | decide | exact List.nodup_singleton _ | exact rfl | (simp only [List.length_cons, List.length_nil]; decide) | (intro z; cases z) | omega | (intro _; rfl)))); try dsimp only [List.set_cons_zero, List.set_cons_succ, ownIx, wipeE, restore, List.nil_append, List.cons_append])
            refine iR_app (by simp at hac ⊢; omega) ?_
            repeat ((first | (with_reducible first | refine iR_yesT ?_ | refine iR_lcNil ?_ | refine iR_lcCons ?_ | refine if_t ?_ | refine if_f ?_ | refine iS_seq ?_ | refine iS_set ?_ | refine iS_own ?_ | refine iS_drop ?_ | refine iS_ret ?_ | refine iS_retF ?_ | refine iS_next ?_ | refine iS_if ?_ | refine iS_asg ?_ | refine iS_for0 ?_ | refine iR_ap1 ?_ | refine iR_ap2 ?_ | refine iR_ap2N ?_ | refine iR_apA ?_ | refine iR_kst ?_ | refine iR_aNil ?_ | refine iR_aCons ?_ | refine iR_asB ?_ | refine iR_truR ?_ | refine iR_andT ?_ | refine iR_orT ?_ | refine iR_notT ?_ | refine iR_andV ?_ | refine iR_orV ?_ | refine iR_notV ?_ | refine iR_ifE ?_ | refine iR_asI ?_ | refine iS_sub ?_ | refine iS_retO ?_ | refine iR_mtF ?_ | refine iR_cNil ?_ | refine iR_cVal ?_ | refine iR_call ?_ | refine iR_readV ?_ | refine iR_readN ?_ | refine iR_writeN ?_ | refine iR_writeC ?_ | refine iR_asR1 ?_ | refine iR_asR2 ?_ | refine iR_bind ?_ | refine iR_lc ?_ | refine iR_slN ?_ | refine iR_oSome ?_ | refine iR_oNone ?_ | refine iR_lRg2 ?_ | refine iR_eqi ?_ | refine iR_nei ?_ | refine iR_eqs ?_ | refine iR_nes ?_ | refine iR_eqb ?_ | refine iR_neb ?_) | ((with_reducible first | refine eR_getV ?_ | refine eR_getCv ?_ | refine eR_ownL ?_ | refine eR_cOwn ?_ | refine eR_readO ?_ | refine eS_frz ?_ | refine eR_cellO ?_ | refine eR_of (r := gT _ _ _ _) ?_ | refine eR_of (r := gN _ _ _) ?_ | refine eR_of (r := dAddA _ _) ?_ | refine eR_of (r := dSub _ _) ?_ | refine eR_of (r := dLt _ _) ?_ | refine eR_of (r := dLe _ _) ?_ | refine eR_of (r := dGt _ _) ?_ | refine eR_of (r := dGe _ _) ?_ | refine eR_of (r := dIsN _ _) ?_ | refine eR_of (r := dNotN _ _) ?_ | refine eR_of (r := dIx _ _) ?_ | refine eR_of (r := dNeg _) ?_ | refine eR_of (r := dLen _) ?_ | refine eR_of (r := dList _) ?_ | refine eR_of (r := dTuple _) ?_ | refine eR_of (r := dRev _) ?_ | refine eR_of (r := dInt1 _) ?_ | refine eR_of (r := boolR _) ?_ | refine eR_of (r := intR _) ?_ | refine eR_of (r := itemsR _) ?_ | refine eR_of (r := truD _) ?_ | refine eR_of (r := dMax2 _) ?_ | refine eR_of (r := dMin2 _) ?_ | refine eR_of (r := slD _ _ _) ?_ | refine eR_of (r := mkT _) ?_ | refine eR_of (r := mkL _) ?_ | refine eR_of (r := endR _ _ _ _) ?_ | refine eR_of (r := lRg _ _) ?_ | refine eR_of (r := optB _) ?_ | refine eR_of (r := optR _) ?_); refine ⟨_, rfl, ?_⟩) | ((with_reducible first | refine eR_getCo ?_ | refine eS_frz' ?_); refine ⟨_, rfl, ?_⟩) | ((with_reducible first | refine iR_rng1 ?hh_ ?_ | refine iR_rng2 ?hh_ ?_ | refine iR_dMul ?hh_ ?_ | refine iR_dDiv ?hh_ ?_ | refine iR_dMod ?hh_ ?_ | refine iR_dPow ?hh_ ?_ | refine iR_dAddl ?hh_ ?_ | refine iR_dAdds ?hh_ ?_ | refine iR_dCat ?hh_ ?_ | refine iR_app ?hh_ ?_); (case hh_ => first | omega | decide)) | ((with_reducible first | refine iR_isi_t ?hh_ ?_ | refine if_ct ?hh_ ?_); (case hh_ => exact rfl)) | ((with_reducible first | refine iR_isi_f ?hh_ ?_ | refine if_cf ?hh_ ?_); (case hh_ => exact rfl)) | ((with_reducible refine iR_guard ?hh_ ?_); (case hh_ => first | decide | omega)) | (with_reducible refine iR_okk ?_) | ((with_reducible refine And.intro ?hh_ ?_); (case hh_ => first | decide | exact List.nodup_singleton _ | exact rfl | (simp only [List.length_cons, List.length_nil]; decide) | (intro z; cases z) | omega | (intro _; rfl)))); try dsimp only [List.set_cons_zero, List.set_cons_succ, ownIx, wipeE, restore, List.nil_append, List.cons_append])
            refine ⟨done ++ [u], rem, some (.val (.int u)), rfl, by rw [hdone, List.append_assoc]; rfl, ?_⟩
            rw [hst, List.map_append, List.map_append]; rfl
    · rintro e ⟨done, rem, y7, hrs, hdone, rfl⟩
      cases rem with
      | cons u rem => cases hrs
      | nil =>
        rw [List.append_nil] at hdone
        rw [← hdone, mst_cov hpr]
        repeat ((first | (with_reducible first | refine iR_yesT ?_ | refine iR_lcNil ?_ | refine iR_lcCons ?_ | refine if_t ?_ | refine if_f ?_ | refine iS_seq ?_ | refine iS_set ?_ | refine iS_own ?_ | refine iS_drop ?_ | refine iS_ret ?_ | refine iS_retF ?_ | refine iS_next ?_ | refine iS_if ?_ | refine iS_asg ?_ | refine iS_for0 ?_ | refine iR_ap1 ?_ | refine iR_ap2 ?_ | refine iR_ap2N ?_ | refine iR_apA ?_ | refine iR_kst ?_ | refine iR_aNil ?_ | refine iR_aCons ?_ | refine iR_asB ?_ | refine iR_truR ?_ | refine iR_andT ?_ | refine iR_orT ?_ | refine iR_notT ?_ | refine iR_andV ?_ | refine iR_orV ?_ | refine iR_notV ?_ | refine iR_ifE ?_ | refine iR_asI ?_ | refine iS_sub ?_ | refine iS_retO ?_ | refine iR_mtF ?_ | refine iR_cNil ?_ | refine iR_cVal ?_ | refine iR_call ?_ | refine iR_readV ?_ | refine iR_readN ?_ | refine iR_writeN ?_ | refine iR_writeC ?_ | refine iR_asR1 ?_ | refine iR_asR2 ?_ | refine iR_bind ?_ | refine iR_lc ?_ | refine iR_slN ?_ | refine iR_oSome ?_ | refine iR_oNone ?_ | refine iR_lRg2 ?_ | refine iR_eqi ?_ | refine iR_nei ?_ | refine iR_eqs ?_ | refine iR_nes ?_ | refine iR_eqb ?_ | refine iR_neb ?_) | ((with_reducible first | refine eR_getV ?_ | refine eR_getCv ?_ | refine eR_ownL ?_ | refine eR_cOwn ?_ | refine eR_readO ?_ | refine eS_frz ?_ | refine eR_cellO ?_ | refine eR_of (r := gT _ _ _ _) ?_ | refine eR_of (r := gN _ _ _) ?_ | refine eR_of (r := dAddA _ _) ?_ | refine eR_of (r := dSub _ _) ?_ | refine eR_of (r := dLt _ _) ?_ | refine eR_of (r := dLe _ _) ?_ | refine eR_of (r := dGt _ _) ?_ | refine eR_of (r := dGe _ _) ?_ | refine eR_of (r := dIsN _ _) ?_ | refine eR_of (r := dNotN _ _) ?_ | refine eR_of (r := dIx _ _) ?_ | refine eR_of (r := dNeg _) ?_ | refine eR_of (r := dLen _) ?_ | refine eR_of (r := dList _) ?_ | refine eR_of (r := dTuple _) ?_ | refine eR_of (r := dRev _) ?_ | refine eR_of (r := dInt1 _) ?_ | refine eR_of (r := boolR _) ?_ | refine eR_of (r := intR _) ?_ | refine eR_of (r := itemsR _) ?_ | refine eR_of (r := truD _) ?_ | refine eR_of (r := dMax2 _) ?_ | refine eR_of (r := dMin2 _) ?_ | refine eR_of (r := slD _ _ _) ?_ | refine eR_of (r := mkT _) ?_ | refine eR_of (r := mkL _) ?_ | refine eR_of (r := endR _ _ _ _) ?_ | refine eR_of (r := lRg _ _) ?_ | refine eR_of (r := optB _) ?_ | refine eR_of (r := optR _) ?_); refine ⟨_, rfl, ?_⟩) | ((with_reducible first | refine eR_getCo ?_ | refine eS_frz' ?_); refine ⟨_, rfl, ?_⟩) | ((with_reducible first | refine iR_rng1 ?hh_ ?_ | refine iR_rng2 ?hh_ ?_ | refine iR_dMul ?hh_ ?_ | refine iR_dDiv ?hh_ ?_ | refine iR_dMod ?hh_ ?_ | refine iR_dPow ?hh_ ?_ | refine iR_dAddl ?hh_ ?_ | refine iR_dAdds ?hh_ ?_ | refine iR_dCat ?hh_ ?_ | refine iR_app ?hh_ ?_); (case hh_ => first | omega | decide)) | ((with_reducible first | refine iR_isi_t ?hh_ ?_ | refine if_ct ?hh_ ?_); (case hh_ => exact rfl)) | ((with_reducible first | refine iR_isi_f ?hh_ ?_ | refine if_cf ?hh_ ?_); (case hh_ => exact rfl)) | ((with_reducible refine iR_guard ?hh_ ?_); (case hh_ => first | decide | omega)) | (with_reducible refine iR_okk ?_) | ((with_reducible refine And.intro ?hh_ ?_); (case hh_ => first | decide | exact List.nodup_singleton _ | exact rfl | (simp only [List.length_cons, List.length_nil]; decide) | (intro z; cases z) | omega | (intro _; rfl)))); try dsimp only [List.set_cons_zero, List.set_cons_succ, ownIx, wipeE, restore, List.nil_append, List.cons_append])
        refine iD_of (united_ok (by omega)) ?_
        repeat ((first | (with_reducible first | refine iR_yesT ?_ | refine iR_lcNil ?_ | refine iR_lcCons ?_ | refine if_t ?_ | refine if_f ?_ | refine iS_seq ?_ | refine iS_set ?_ | refine iS_own ?_ | refine iS_drop ?_ | refine iS_ret ?_ | refine iS_retF ?_ | refine iS_next ?_ | refine iS_if ?_ | refine iS_asg ?_ | refine iS_for0 ?_ | refine iR_ap1 ?_ | refine iR_ap2 ?_ | refine iR_ap2N ?_ | refine iR_apA ?_ | refine iR_kst ?_ | refine iR_aNil ?_ | refine iR_aCons ?_ | refine iR_asB ?_ | refine iR_truR ?_ | refine iR_andT ?_ | refine iR_orT ?_ | refine iR_notT ?_ | refine iR_andV ?_ | refine iR_orV ?_ | refine iR_notV ?_ | refine iR_ifE ?_ | refine iR_asI ?_ | refine iS_sub ?_ | refine iS_retO ?_ | refine iR_mtF ?_ | refine iR_cNil ?_ | refine iR_cVal ?_ | refine iR_call ?_ | refine iR_readV ?_ | refine iR_readN ?_ | refine iR_writeN ?_ | refine iR_writeC ?_ | refine iR_asR1 ?_ | refine iR_asR2 ?_ | refine iR_bind ?_ | refine iR_lc ?_ | refine iR_slN ?_ | refine iR_oSome ?_ | refine iR_oNone ?_ | refine iR_lRg2 ?_ | refine iR_eqi ?_ | refine iR_nei ?_ | refine iR_eqs ?_ | refine iR_nes ?_ | refine iR_eqb ?_ | refine iR_neb ?_) | ((with_reducible first | refine eR_getV ?_ | refine eR_getCv ?_ | refine eR_ownL ?_ | refine eR_cOwn ?_ | refine eR_readO ?_ | refine eS_frz ?_ | refine eR_cellO ?_ | refine eR_of (r := gT _ _ _ _) ?_ | refine eR_of (r := gN _ _ _) ?_ | refine eR_of (r := dAddA _ _) ?_ | refine eR_of (r := dSub _ _) ?_ | refine eR_of (r := dLt _ _) ?_ | refine eR_of (r := dLe _ _) ?_ | refine eR_of (r := dGt _ _) ?_ | refine eR_of (r := dGe _ _) ?_ | refine eR_of (r := dIsN _ _) ?_ | refine eR_of (r := dNotN _ _) ?_ | refine eR_of (r := dIx _ _) ?_ | refine eR_of (r := dNeg _) ?_ | refine eR_of (r := dLen _) ?_ | refine eR_of (r := dList _) ?_ | refine eR_of (r := dTuple _) ?_ | refine eR_of (r := dRev _) ?_ | refine eR_of (r := dInt1 _) ?_ | refine eR_of (r := boolR _) ?_ | refine eR_of (r := intR _) ?_ | refine eR_of (r := itemsR _) ?_ | refine eR_of (r := truD _) ?_ | refine eR_of (r := dMax2 _) ?_ | refine eR_of (r := dMin2 _) ?_ | refine eR_of (r := slD _ _ _) ?_ | refine eR_of (r := mkT _) ?_ | refine eR_of (r := mkL _) ?_ | refine eR_of (r := endR _ _ _ _) ?_ | refine eR_of (r := lRg _ _) ?_ | refine eR_of (r := optB _) ?_ | refine eR_of (r := optR _) ?_); refine ⟨_, rfl, ?_⟩) | ((with_reducible first | refine eR_getCo ?_ | refine eS_frz' ?_); refine ⟨_, rfl, ?_⟩) | ((with_reducible first | refine iR_rng1 ?hh_ ?_ | refine iR_rng2 ?hh_ ?_ | refine iR_dMul ?hh_ ?_ | refine iR_dDiv ?hh_ ?_ | refine iR_dMod ?hh_ ?_ | refine iR_dPow ?hh_ ?_ | refine iR_dAddl ?hh_ ?_ | refine iR_dAdds ?hh_ ?_ | refine iR_dCat ?hh_ ?_ | refine iR_app ?hh_ ?_); (case hh_ => first | omega | decide)) | ((with_reducible first | refine iR_isi_t ?hh_ ?_ | refine if_ct ?hh_ ?_); (case hh_ => exact rfl)) | ((with_reducible first | refine iR_isi_f ?hh_ ?_ | refine if_cf ?hh_ ?_); (case hh_ => exact rfl)) | ((with_reducible refine iR_guard ?hh_ ?_); (case hh_ => first | decide | omega)) | (with_reducible refine iR_okk ?_) | ((with_reducible refine And.intro ?hh_ ?_); (case hh_ => first | decide | exact List.nodup_singleton _ | exact rfl | (simp only [List.length_cons, List.length_nil]; decide) | (intro z; cases z) | omega | (intro _; rfl)))); try dsimp only [List.set_cons_zero, List.set_cons_succ, ownIx, wipeE, restore, List.nil_append, List.cons_append])
        refine iD_of (same_list ?_ ?_) ?_
        · rw [List.length_map]
          have : ∀ (us : List (Int × Int)) (acc : List (Int × Int)), (us.foldl mst acc).length ≤ acc.length + us.length := by
            intro us
            induction us with
            | nil => intro acc; exact Nat.le_refl _
            | cons v us ih =>
              intro acc
              rw [List.foldl_cons, List.length_cons]
              have h1 := ih (mst acc v)
              have h2 := mst_len (acc := acc) (p := v)
              omega
          have := this ps []
          simp only [List.length_nil, Nat.zero_add] at this
          exact Nat.lt_of_le_of_lt (m := 5) (by omega) (by decide)
        · intro d hd
          obtain ⟨q, _, rfl⟩ := List.mem_map.1 hd
          exact sameOk4
        repeat ((first | (with_reducible first | refine iR_yesT ?_ | refine iR_lcNil ?_ | refine iR_lcCons ?_ | refine if_t ?_ | refine if_f ?_ | refine iS_seq ?_ | refine iS_set ?_ | refine iS_own ?_ | refine iS_drop ?_ | refine iS_ret ?_ | refine iS_retF ?_ | refine iS_next ?_ | refine iS_if ?_ | refine iS_asg ?_ | refine iS_for0 ?_ | refine iR_ap1 ?_ | refine iR_ap2 ?_ | refine iR_ap2N ?_ | refine iR_apA ?_ | refine iR_kst ?_ | refine iR_aNil ?_ | refine iR_aCons ?_ | refine iR_asB ?_ | refine iR_truR ?_ | refine iR_andT ?_ | refine iR_orT ?_ | refine iR_notT ?_ | refine iR_andV ?_ | refine iR_orV ?_ | refine iR_notV ?_ | refine iR_ifE ?_ | refine iR_asI ?_ | refine iS_sub ?_ | refine iS_retO ?_ | refine iR_mtF ?_ | refine iR_cNil ?_ | refine iR_cVal ?_ | refine iR_call ?_ | refine iR_readV ?_ | refine iR_readN ?_ | refine iR_writeN ?_ | refine iR_writeC ?_ | refine iR_asR1 ?_ | refine iR_asR2 ?_ | refine iR_bind ?_ | refine iR_lc ?_ | refine iR_slN ?_ | refine iR_oSome ?_ | refine iR_oNone ?_ | refine iR_lRg2 ?_ | refine iR_eqi ?_ | refine iR_nei ?_ | refine iR_eqs ?_ | refine iR_nes ?_ | refine iR_eqb ?_ | refine iR_neb ?_) | ((with_reducible first | refine eR_getV ?_ | refine eR_getCv ?_ | refine eR_ownL ?_ | refine eR_cOwn ?_ | refine eR_readO ?_ | refine eS_frz ?_ | refine eR_cellO ?_ | refine eR_of (r := gT _ _ _ _) ?_ | refine eR_of (r := gN _ _ _) ?_ | refine eR_of (r := dAddA _ _) ?_ | refine eR_of (r := dSub _ _) ?_ | refine eR_of (r := dLt _ _) ?_ | refine eR_of (r := dLe _ _) ?_ | refine eR_of (r := dGt _ _) ?_ | refine eR_of (r := dGe _ _) ?_ | refine eR_of (r := dIsN _ _) ?_ | refine eR_of (r := dNotN _ _) ?_ | refine eR_of (r := dIx _ _) ?_ | refine eR_of (r := dNeg _) ?_ | refine eR_of (r := dLen _) ?_ | refine eR_of (r := dList _) ?_ | refine eR_of (r := dTuple _) ?_ | refine eR_of (r := dRev _) ?_ | refine eR_of (r := dInt1 _) ?_ | refine eR_of (r := boolR _) ?_ | refine eR_of (r := intR _) ?_ | refine eR_of (r := itemsR _) ?_ | refine eR_of (r := truD _) ?_ | refine eR_of (r := dMax2 _) ?_ | refine eR_of (r := dMin2 _) ?_ | refine eR_of (r := slD _ _ _) ?_ | refine eR_of (r := mkT _) ?_ | refine eR_of (r := mkL _) ?_ | refine eR_of (r := endR _ _ _ _) ?_ | refine eR_of (r := lRg _ _) ?_ | refine eR_of (r := optB _) ?_ | refine eR_of (r := optR _) ?_); refine ⟨_, rfl, ?_⟩) | ((with_reducible first | refine eR_getCo ?_ | refine eS_frz' ?_); refine ⟨_, rfl, ?_⟩) | ((with_reducible first | refine iR_rng1 ?hh_ ?_ | refine iR_rng2 ?hh_ ?_ | refine iR_dMul ?hh_ ?_ | refine iR_dDiv ?hh_ ?_ | refine iR_dMod ?hh_ ?_ | refine iR_dPow ?hh_ ?_ | refine iR_dAddl ?hh_ ?_ | refine iR_dAdds ?hh_ ?_ | refine iR_dCat ?hh_ ?_ | refine iR_app ?hh_ ?_); (case hh_ => first | omega | decide)) | ((with_reducible first | refine iR_isi_t ?hh_ ?_ | refine if_ct ?hh_ ?_); (case hh_ => exact rfl)) | ((with_reducible first | refine iR_isi_f ?hh_ ?_ | refine if_cf ?hh_ ?_); (case hh_ => exact rfl)) | ((with_reducible refine iR_guard ?hh_ ?_); (case hh_ => first | decide | omega)) | (with_reducible refine iR_okk ?_) | ((with_reducible refine And.intro ?hh_ ?_); (case hh_ => first | decide | exact List.nodup_singleton _ | exact rfl | (simp only [List.length_cons, List.length_nil]; decide) | (intro z; cases z) | omega | (intro _; rfl)))); try dsimp only [List.set_cons_zero, List.set_cons_succ, ownIx, wipeE, restore, List.nil_append, List.cons_append])
        rfl
end D51
namespace D51
open PySem PySem.Spec L2 DL
theorem law_true {ns : List Int} : wS (GLaw ((List.replicate 18 none).set 1 (some (.own (.list (deckD ns)))))) (fun e => endR [false] false .none e = .ok false (.bool true) []) (fun f x e => endR [false] f x e = .ok false (.bool true) []) := by
  unfold GLaw deckD
  dsimp only [List.replicate, List.set_cons_succ, List.set_cons_zero]
  have HD : Deck [.list (ns.map PyData.int), .int 0, .int 0, .int 7] := ⟨ns, 0, 0, 7, rfl, Int.le_refl _⟩
  generalize [PyData.list (ns.map PyData.int), .int 0, .int 0, .int 7] = dk at HD ⊢
  repeat ((first | (with_reducible first | refine iR_yesT ?_ | refine iR_lcNil ?_ | refine iR_lcCons ?_ | refine if_t ?_ | refine if_f ?_ | refine iS_seq ?_ | refine iS_set ?_ | refine iS_own ?_ | refine iS_drop ?_ | refine iS_ret ?_ | refine iS_retF ?_ | refine iS_next ?_ | refine iS_if ?_ | refine iS_asg ?_ | refine iS_for0 ?_ | refine iR_ap1 ?_ | refine iR_ap2 ?_ | refine iR_ap2N ?_ | refine iR_apA ?_ | refine iR_kst ?_ | refine iR_aNil ?_ | refine iR_aCons ?_ | refine iR_asB ?_ | refine iR_truR ?_ | refine iR_andT ?_ | refine iR_orT ?_ | refine iR_notT ?_ | refine iR_andV ?_ | refine iR_orV ?_ | refine iR_notV ?_ | refine iR_ifE ?_ | refine iR_asI ?_ | refine iS_sub ?_ | refine iS_retO ?_ | refine iR_mtF ?_ | refine iR_cNil ?_ | refine iR_cVal ?_ | refine iR_call ?_ | refine iR_readV ?_ | refine iR_readN ?_ | refine iR_writeN ?_ | refine iR_writeC ?_ | refine iR_asR1 ?_ | refine iR_asR2 ?_ | refine iR_bind ?_ | refine iR_lc ?_ | refine iR_slN ?_ | refine iR_oSome ?_ | refine iR_oNone ?_ | refine iR_lRg2 ?_ | refine iR_eqi ?_ | refine iR_nei ?_ | refine iR_eqs ?_ | refine iR_nes ?_ | refine iR_eqb ?_ | refine iR_neb ?_) | ((with_reducible first | refine eR_getV ?_ | refine eR_getCv ?_ | refine eR_ownL ?_ | refine eR_cOwn ?_ | refine eR_readO ?_ | refine eS_frz ?_ | refine eR_cellO ?_ | refine eR_of (r := gT _ _ _ _) ?_ | refine eR_of (r := gN _ _ _) ?_ | refine eR_of (r := dAddA _ _) ?_ | refine eR_of (r := dSub _ _) ?_ | refine eR_of (r := dLt _ _) ?_ | refine eR_of (r := dLe _ _) ?_ | refine eR_of (r := dGt _ _) ?_ | refine eR_of (r := dGe _ _) ?_ | refine eR_of (r := dIsN _ _) ?_ | refine eR_of (r := dNotN _ _) ?_ | refine eR_of (r := dIx _ _) ?_ | refine eR_of (r := dNeg _) ?_ | refine eR_of (r := dLen _) ?_ | refine eR_of (r := dList _) ?_ | refine eR_of (r := dTuple _) ?_ | refine eR_of (r := dRev _) ?_ | refine eR_of (r := dInt1 _) ?_ | refine eR_of (r := boolR _) ?_ | refine eR_of (r := intR _) ?_ | refine eR_of (r := itemsR _) ?_ | refine eR_of (r := truD _) ?_ | refine eR_of (r := dMax2 _) ?_ | refine eR_of (r := dMin2 _) ?_ | refine eR_of (r := slD _ _ _) ?_ | refine eR_of (r := mkT _) ?_ | refine eR_of (r := mkL _) ?_ | refine eR_of (r := endR _ _ _ _) ?_ | refine eR_of (r := lRg _ _) ?_ | refine eR_of (r := optB _) ?_ | refine eR_of (r := optR _) ?_); refine ⟨_, rfl, ?_⟩) | ((with_reducible first | refine eR_getCo ?_ | refine eS_frz' ?_); refine ⟨_, rfl, ?_⟩) | ((with_reducible first | refine iR_rng1 ?hh_ ?_ | refine iR_rng2 ?hh_ ?_ | refine iR_dMul ?hh_ ?_ | refine iR_dDiv ?hh_ ?_ | refine iR_dMod ?hh_ ?_ | refine iR_dPow ?hh_ ?_ | refine iR_dAddl ?hh_ ?_ | refine iR_dAdds ?hh_ ?_ | refine iR_dCat ?hh_ ?_ | refine iR_app ?hh_ ?_); (case hh_ => first | omega | decide)) | ((with_reducible first | refine iR_isi_t ?hh_ ?_ | refine if_ct ?hh_ ?_); (case hh_ => exact rfl)) | ((with_reducible first | refine iR_isi_f ?hh_ ?_ | refine if_cf ?hh_ ?_); (case hh_ => exact rfl)) | ((with_reducible refine iR_guard ?hh_ ?_); (case hh_ => first | decide | omega)) | (with_reducible refine iR_okk ?_) | ((with_reducible refine And.intro ?hh_ ?_); (case hh_ => first | decide | exact List.nodup_singleton _ | exact rfl | (simp only [List.length_cons, List.length_nil]; decide) | (intro z; cases z) | omega | (intro _; rfl)))); try dsimp only [List.set_cons_zero, List.set_cons_succ, ownIx, wipeE, restore, List.nil_append, List.cons_append])
  (refine DL.iD_mono (draw_ok HD (by omega) (by omega)) ?_; rintro _ _ _ ⟨v, dk, rfl, v0, v1, rfl, HD⟩)
  repeat ((first | (with_reducible first | refine iR_yesT ?_ | refine iR_lcNil ?_ | refine iR_lcCons ?_ | refine if_t ?_ | refine if_f ?_ | refine iS_seq ?_ | refine iS_set ?_ | refine iS_own ?_ | refine iS_drop ?_ | refine iS_ret ?_ | refine iS_retF ?_ | refine iS_next ?_ | refine iS_if ?_ | refine iS_asg ?_ | refine iS_for0 ?_ | refine iR_ap1 ?_ | refine iR_ap2 ?_ | refine iR_ap2N ?_ | refine iR_apA ?_ | refine iR_kst ?_ | refine iR_aNil ?_ | refine iR_aCons ?_ | refine iR_asB ?_ | refine iR_truR ?_ | refine iR_andT ?_ | refine iR_orT ?_ | refine iR_notT ?_ | refine iR_andV ?_ | refine iR_orV ?_ | refine iR_notV ?_ | refine iR_ifE ?_ | refine iR_asI ?_ | refine iS_sub ?_ | refine iS_retO ?_ | refine iR_mtF ?_ | refine iR_cNil ?_ | refine iR_cVal ?_ | refine iR_call ?_ | refine iR_readV ?_ | refine iR_readN ?_ | refine iR_writeN ?_ | refine iR_writeC ?_ | refine iR_asR1 ?_ | refine iR_asR2 ?_ | refine iR_bind ?_ | refine iR_lc ?_ | refine iR_slN ?_ | refine iR_oSome ?_ | refine iR_oNone ?_ | refine iR_lRg2 ?_ | refine iR_eqi ?_ | refine iR_nei ?_ | refine iR_eqs ?_ | refine iR_nes ?_ | refine iR_eqb ?_ | refine iR_neb ?_) | ((with_reducible first | refine eR_getV ?_ | refine eR_getCv ?_ | refine eR_ownL ?_ | refine eR_cOwn ?_ | refine eR_readO ?_ | refine eS_frz ?_ | refine eR_cellO ?_ | refine eR_of (r := gT _ _ _ _) ?_ | refine eR_of (r := gN _ _ _) ?_ | refine eR_of (r := dAddA _ _) ?_ | refine eR_of (r := dSub _ _) ?_ | refine eR_of (r := dLt _ _) ?_ | refine eR_of (r := dLe _ _) ?_ | refine eR_of (r := dGt _ _) ?_ | refine eR_of (r := dGe _ _) ?_ | refine eR_of (r := dIsN _ _) ?_ | refine eR_of (r := dNotN _ _) ?_ | refine eR_of (r := dIx _ _) ?_ | refine eR_of (r := dNeg _) ?_ | refine eR_of (r := dLen _) ?_ | refine eR_of (r := dList _) ?_ | refine eR_of (r := dTuple _) ?_ | refine eR_of (r := dRev _) ?_ | refine eR_of (r := dInt1 _) ?_ | refine eR_of (r := boolR _) ?_ | refine eR_of (r := intR _) ?_ | refine eR_of (r := itemsR _) ?_ | refine eR_of (r := truD _) ?_ | refine eR_of (r := dMax2 _) ?_ | refine eR_of (r := dMin2 _) ?_ | refine eR_of (r := slD _ _ _) ?_ | refine eR_of (r := mkT _) ?_ | refine eR_of (r := mkL _) ?_ | refine eR_of (r := endR _ _ _ _) ?_ | refine eR_of (r := lRg _ _) ?_ | refine eR_of (r := optB _) ?_ | refine eR_of (r := optR _) ?_); refine ⟨_, rfl, ?_⟩) | ((with_reducible first | refine eR_getCo ?_ | refine eS_frz' ?_); refine ⟨_, rfl, ?_⟩) | ((with_reducible first | refine iR_rng1 ?hh_ ?_ | refine iR_rng2 ?hh_ ?_ | refine iR_dMul ?hh_ ?_ | refine iR_dDiv ?hh_ ?_ | refine iR_dMod ?hh_ ?_ | refine iR_dPow ?hh_ ?_ | refine iR_dAddl ?hh_ ?_ | refine iR_dAdds ?hh_ ?_ | refine iR_dCat ?hh_ ?_ | refine iR_app ?hh_ ?_); (case hh_ => first | omega | decide)) | ((with_reducible first | refine iR_isi_t ?hh_ ?_ | refine if_ct ?hh_ ?_); (case hh_ => exact rfl)) | ((with_reducible first | refine iR_isi_f ?hh_ ?_ | refine if_cf ?hh_ ?_); (case hh_ => exact rfl)) | ((with_reducible refine iR_guard ?hh_ ?_); (case hh_ => first | decide | omega)) | (with_reducible refine iR_okk ?_) | ((with_reducible refine And.intro ?hh_ ?_); (case hh_ => first | decide | exact List.nodup_singleton _ | exact rfl | (simp only [List.length_cons, List.length_nil]; decide) | (intro z; cases z) | omega | (intro _; rfl)))); try dsimp only [List.set_cons_zero, List.set_cons_succ, ownIx, wipeE, restore, List.nil_append, List.cons_append])
  obtain ⟨size, hz, hs⟩ := pick3 (a := 4) (b := 50) (c := 10 ^ 9) v0 v1
  have hs : 4 ≤ size ∧ size ≤ 10 ^ 9 := by omega
  refine iR_ixl hz ?_
  clear hz
  repeat ((first | (with_reducible first | refine iR_yesT ?_ | refine iR_lcNil ?_ | refine iR_lcCons ?_ | refine if_t ?_ | refine if_f ?_ | refine iS_seq ?_ | refine iS_set ?_ | refine iS_own ?_ | refine iS_drop ?_ | refine iS_ret ?_ | refine iS_retF ?_ | refine iS_next ?_ | refine iS_if ?_ | refine iS_asg ?_ | refine iS_for0 ?_ | refine iR_ap1 ?_ | refine iR_ap2 ?_ | refine iR_ap2N ?_ | refine iR_apA ?_ | refine iR_kst ?_ | refine iR_aNil ?_ | refine iR_aCons ?_ | refine iR_asB ?_ | refine iR_truR ?_ | refine iR_andT ?_ | refine iR_orT ?_ | refine iR_notT ?_ | refine iR_andV ?_ | refine iR_orV ?_ | refine iR_notV ?_ | refine iR_ifE ?_ | refine iR_asI ?_ | refine iS_sub ?_ | refine iS_retO ?_ | refine iR_mtF ?_ | refine iR_cNil ?_ | refine iR_cVal ?_ | refine iR_call ?_ | refine iR_readV ?_ | refine iR_readN ?_ | refine iR_writeN ?_ | refine iR_writeC ?_ | refine iR_asR1 ?_ | refine iR_asR2 ?_ | refine iR_bind ?_ | refine iR_lc ?_ | refine iR_slN ?_ | refine iR_oSome ?_ | refine iR_oNone ?_ | refine iR_lRg2 ?_ | refine iR_eqi ?_ | refine iR_nei ?_ | refine iR_eqs ?_ | refine iR_nes ?_ | refine iR_eqb ?_ | refine iR_neb ?_) | ((with_reducible first | refine eR_getV ?_ | refine eR_getCv ?_ | refine eR_ownL ?_ | refine eR_cOwn ?_ | refine eR_readO ?_ | refine eS_frz ?_ | refine eR_cellO ?_ | refine eR_of (r := gT _ _ _ _) ?_ | refine eR_of (r := gN _ _ _) ?_ | refine eR_of (r := dAddA _ _) ?_ | refine eR_of (r := dSub _ _) ?_ | refine eR_of (r := dLt _ _) ?_ | refine eR_of (r := dLe _ _) ?_ | refine eR_of (r := dGt _ _) ?_ | refine eR_of (r := dGe _ _) ?_ | refine eR_of (r := dIsN _ _) ?_ | refine eR_of (r := dNotN _ _) ?_ | refine eR_of (r := dIx _ _) ?_ | refine eR_of (r := dNeg _) ?_ | refine eR_of (r := dLen _) ?_ | refine eR_of (r := dList _) ?_ | refine eR_of (r := dTuple _) ?_ | refine eR_of (r := dRev _) ?_ | refine eR_of (r := dInt1 _) ?_ | refine eR_of (r := boolR _) ?_ | refine eR_of (r := intR _) ?_ | refine eR_of (r := itemsR _) ?_ | refine eR_of (r := truD _) ?_ | refine eR_of (r := dMax2 _) ?_ | refine eR_of (r := dMin2 _) ?_ | refine eR_of (r := slD _ _ _) ?_ | refine eR_of (r := mkT _) ?_ | refine eR_of (r := mkL _) ?_ | refine eR_of (r := endR _ _ _ _) ?_ | refine eR_of (r := lRg _ _) ?_ | refine eR_of (r := optB _) ?_ | refine eR_of (r := optR _) ?_); refine ⟨_, rfl, ?_⟩) | ((with_reducible first | refine eR_getCo ?_ | refine eS_frz' ?_); refine ⟨_, rfl, ?_⟩) | ((with_reducible first | refine iR_rng1 ?hh_ ?_ | refine iR_rng2 ?hh_ ?_ | refine iR_dMul ?hh_ ?_ | refine iR_dDiv ?hh_ ?_ | refine iR_dMod ?hh_ ?_ | refine iR_dPow ?hh_ ?_ | refine iR_dAddl ?hh_ ?_ | refine iR_dAdds ?hh_ ?_ | refine iR_dCat ?hh_ ?_ | refine iR_app ?hh_ ?_); (case hh_ => first | omega | decide)) | ((with_reducible first | refine iR_isi_t ?hh_ ?_ | refine if_ct ?hh_ ?_); (case hh_ => exact rfl)) | ((with_reducible first | refine iR_isi_f ?hh_ ?_ | refine if_cf ?hh_ ?_); (case hh_ => exact rfl)) | ((with_reducible refine iR_guard ?hh_ ?_); (case hh_ => first | decide | omega)) | (with_reducible refine iR_okk ?_) | ((with_reducible refine And.intro ?hh_ ?_); (case hh_ => first | decide | exact List.nodup_singleton _ | exact rfl | (simp only [List.length_cons, List.length_nil]; decide) | (intro z; cases z) | omega | (intro _; rfl)))); try dsimp only [List.set_cons_zero, List.set_cons_succ, ownIx, wipeE, restore, List.nil_append, List.cons_append])
  (refine DL.iD_mono (draw_ok HD (by omega) (by omega)) ?_; rintro _ _ _ ⟨a, dk, rfl, a0, a1, rfl, HD⟩)
  repeat ((first | (with_reducible first | refine iR_yesT ?_ | refine iR_lcNil ?_ | refine iR_lcCons ?_ | refine if_t ?_ | refine if_f ?_ | refine iS_seq ?_ | refine iS_set ?_ | refine iS_own ?_ | refine iS_drop ?_ | refine iS_ret ?_ | refine iS_retF ?_ | refine iS_next ?_ | refine iS_if ?_ | refine iS_asg ?_ | refine iS_for0 ?_ | refine iR_ap1 ?_ | refine iR_ap2 ?_ | refine iR_ap2N ?_ | refine iR_apA ?_ | refine iR_kst ?_ | refine iR_aNil ?_ | refine iR_aCons ?_ | refine iR_asB ?_ | refine iR_truR ?_ | refine iR_andT ?_ | refine iR_orT ?_ | refine iR_notT ?_ | refine iR_andV ?_ | refine iR_orV ?_ | refine iR_notV ?_ | refine iR_ifE ?_ | refine iR_asI ?_ | refine iS_sub ?_ | refine iS_retO ?_ | refine iR_mtF ?_ | refine iR_cNil ?_ | refine iR_cVal ?_ | refine iR_call ?_ | refine iR_readV ?_ | refine iR_readN ?_ | refine iR_writeN ?_ | refine iR_writeC ?_ | refine iR_asR1 ?_ | refine iR_asR2 ?_ | refine iR_bind ?_ | refine iR_lc ?_ | refine iR_slN ?_ | refine iR_oSome ?_ | refine iR_oNone ?_ | refine iR_lRg2 ?_ | refine iR_eqi ?_ | refine iR_nei ?_ | refine iR_eqs ?_ | refine iR_nes ?_ | refine iR_eqb ?_ | refine iR_neb ?_) | ((with_reducible first | refine eR_getV ?_ | refine eR_getCv ?_ | refine eR_ownL ?_ | refine eR_cOwn ?_ | refine eR_readO ?_ | refine eS_frz ?_ | refine eR_cellO ?_ | refine eR_of (r := gT _ _ _ _) ?_ | refine eR_of (r := gN _ _ _) ?_ | refine eR_of (r := dAddA _ _) ?_ | refine eR_of (r := dSub _ _) ?_ | refine eR_of (r := dLt _ _) ?_ | refine eR_of (r := dLe _ _) ?_ | refine eR_of (r := dGt _ _) ?_ | refine eR_of (r := dGe _ _) ?_ | refine eR_of (r := dIsN _ _) ?_ | refine eR_of (r := dNotN _ _) ?_ | refine eR_of (r := dIx _ _) ?_ | refine eR_of (r := dNeg _) ?_ | refine eR_of (r := dLen _) ?_ | refine eR_of (r := dList _) ?_ | refine eR_of (r := dTuple _) ?_ | refine eR_of (r := dRev _) ?_ | refine eR_of (r := dInt1 _) ?_ | refine eR_of (r := boolR _) ?_ | refine eR_of (r := intR _) ?_ | refine eR_of (r := itemsR _) ?_ | refine eR_of (r := truD _) ?_ | refine eR_of (r := dMax2 _) ?_ | refine eR_of (r := dMin2 _) ?_ | refine eR_of (r := slD _ _ _) ?_ | refine eR_of (r := mkT _) ?_ | refine eR_of (r := mkL _) ?_ | refine eR_of (r := endR _ _ _ _) ?_ | refine eR_of (r := lRg _ _) ?_ | refine eR_of (r := optB _) ?_ | refine eR_of (r := optR _) ?_); refine ⟨_, rfl, ?_⟩) | ((with_reducible first | refine eR_getCo ?_ | refine eS_frz' ?_); refine ⟨_, rfl, ?_⟩) | ((with_reducible first | refine iR_rng1 ?hh_ ?_ | refine iR_rng2 ?hh_ ?_ | refine iR_dMul ?hh_ ?_ | refine iR_dDiv ?hh_ ?_ | refine iR_dMod ?hh_ ?_ | refine iR_dPow ?hh_ ?_ | refine iR_dAddl ?hh_ ?_ | refine iR_dAdds ?hh_ ?_ | refine iR_dCat ?hh_ ?_ | refine iR_app ?hh_ ?_); (case hh_ => first | omega | decide)) | ((with_reducible first | refine iR_isi_t ?hh_ ?_ | refine if_ct ?hh_ ?_); (case hh_ => exact rfl)) | ((with_reducible first | refine iR_isi_f ?hh_ ?_ | refine if_cf ?hh_ ?_); (case hh_ => exact rfl)) | ((with_reducible refine iR_guard ?hh_ ?_); (case hh_ => first | decide | omega)) | (with_reducible refine iR_okk ?_) | ((with_reducible refine And.intro ?hh_ ?_); (case hh_ => first | decide | exact List.nodup_singleton _ | exact rfl | (simp only [List.length_cons, List.length_nil]; decide) | (intro z; cases z) | omega | (intro _; rfl)))); try dsimp only [List.set_cons_zero, List.set_cons_succ, ownIx, wipeE, restore, List.nil_append, List.cons_append])
  (refine DL.iD_mono (draw_ok HD (by omega) (by omega)) ?_; rintro _ _ _ ⟨b, dk, rfl, b0, b1, rfl, HD⟩)
  repeat ((first | (with_reducible first | refine iR_yesT ?_ | refine iR_lcNil ?_ | refine iR_lcCons ?_ | refine if_t ?_ | refine if_f ?_ | refine iS_seq ?_ | refine iS_set ?_ | refine iS_own ?_ | refine iS_drop ?_ | refine iS_ret ?_ | refine iS_retF ?_ | refine iS_next ?_ | refine iS_if ?_ | refine iS_asg ?_ | refine iS_for0 ?_ | refine iR_ap1 ?_ | refine iR_ap2 ?_ | refine iR_ap2N ?_ | refine iR_apA ?_ | refine iR_kst ?_ | refine iR_aNil ?_ | refine iR_aCons ?_ | refine iR_asB ?_ | refine iR_truR ?_ | refine iR_andT ?_ | refine iR_orT ?_ | refine iR_notT ?_ | refine iR_andV ?_ | refine iR_orV ?_ | refine iR_notV ?_ | refine iR_ifE ?_ | refine iR_asI ?_ | refine iS_sub ?_ | refine iS_retO ?_ | refine iR_mtF ?_ | refine iR_cNil ?_ | refine iR_cVal ?_ | refine iR_call ?_ | refine iR_readV ?_ | refine iR_readN ?_ | refine iR_writeN ?_ | refine iR_writeC ?_ | refine iR_asR1 ?_ | refine iR_asR2 ?_ | refine iR_bind ?_ | refine iR_lc ?_ | refine iR_slN ?_ | refine iR_oSome ?_ | refine iR_oNone ?_ | refine iR_lRg2 ?_ | refine iR_eqi ?_ | refine iR_nei ?_ | refine iR_eqs ?_ | refine iR_nes ?_ | refine iR_eqb ?_ | refine iR_neb ?_) | ((with_reducible first | refine eR_getV ?_ | refine eR_getCv ?_ | refine eR_ownL ?_ | refine eR_cOwn ?_ | refine eR_readO ?_ | refine eS_frz ?_ | refine eR_cellO ?_ | refine eR_of (r := gT _ _ _ _) ?_ | refine eR_of (r := gN _ _ _) ?_ | refine eR_of (r := dAddA _ _) ?_ | refine eR_of (r := dSub _ _) ?_ | refine eR_of (r := dLt _ _) ?_ | refine eR_of (r := dLe _ _) ?_ | refine eR_of (r := dGt _ _) ?_ | refine eR_of (r := dGe _ _) ?_ | refine eR_of (r := dIsN _ _) ?_ | refine eR_of (r := dNotN _ _) ?_ | refine eR_of (r := dIx _ _) ?_ | refine eR_of (r := dNeg _) ?_ | refine eR_of (r := dLen _) ?_ | refine eR_of (r := dList _) ?_ | refine eR_of (r := dTuple _) ?_ | refine eR_of (r := dRev _) ?_ | refine eR_of (r := dInt1 _) ?_ | refine eR_of (r := boolR _) ?_ | refine eR_of (r := intR _) ?_ | refine eR_of (r := itemsR _) ?_ | refine eR_of (r := truD _) ?_ | refine eR_of (r := dMax2 _) ?_ | refine eR_of (r := dMin2 _) ?_ | refine eR_of (r := slD _ _ _) ?_ | refine eR_of (r := mkT _) ?_ | refine eR_of (r := mkL _) ?_ | refine eR_of (r := endR _ _ _ _) ?_ | refine eR_of (r := lRg _ _) ?_ | refine eR_of (r := optB _) ?_ | refine eR_of (r := optR _) ?_); refine ⟨_, rfl, ?_⟩) | ((with_reducible first | refine eR_getCo ?_ | refine eS_frz' ?_); refine ⟨_, rfl, ?_⟩) | ((with_reducible first | refine iR_rng1 ?hh_ ?_ | refine iR_rng2 ?hh_ ?_ | refine iR_dMul ?hh_ ?_ | refine iR_dDiv ?hh_ ?_ | refine iR_dMod ?hh_ ?_ | refine iR_dPow ?hh_ ?_ | refine iR_dAddl ?hh_ ?_ | refine iR_dAdds ?hh_ ?_ | refine iR_dCat ?hh_ ?_ | refine iR_app ?hh_ ?_); (case hh_ => first | omega | decide)) | ((with_reducible first | refine iR_isi_t ?hh_ ?_ | refine if_ct ?hh_ ?_); (case hh_ => exact rfl)) | ((with_reducible first | refine iR_isi_f ?hh_ ?_ | refine if_cf ?hh_ ?_); (case hh_ => exact rfl)) | ((with_reducible refine iR_guard ?hh_ ?_); (case hh_ => first | decide | omega)) | (with_reducible refine iR_okk ?_) | ((with_reducible refine And.intro ?hh_ ?_); (case hh_ => first | decide | exact List.nodup_singleton _ | exact rfl | (simp only [List.length_cons, List.length_nil]; decide) | (intro z; cases z) | omega | (intro _; rfl)))); try dsimp only [List.set_cons_zero, List.set_cons_succ, ownIx, wipeE, restore, List.nil_append, List.cons_append])
  (refine DL.iD_mono (draw_ok HD (by omega) (by omega)) ?_; rintro _ _ _ ⟨w, dk, rfl, w0, w1, rfl, HD⟩)
  repeat ((first | (with_reducible first | refine iR_yesT ?_ | refine iR_lcNil ?_ | refine iR_lcCons ?_ | refine if_t ?_ | refine if_f ?_ | refine iS_seq ?_ | refine iS_set ?_ | refine iS_own ?_ | refine iS_drop ?_ | refine iS_ret ?_ | refine iS_retF ?_ | refine iS_next ?_ | refine iS_if ?_ | refine iS_asg ?_ | refine iS_for0 ?_ | refine iR_ap1 ?_ | refine iR_ap2 ?_ | refine iR_ap2N ?_ | refine iR_apA ?_ | refine iR_kst ?_ | refine iR_aNil ?_ | refine iR_aCons ?_ | refine iR_asB ?_ | refine iR_truR ?_ | refine iR_andT ?_ | refine iR_orT ?_ | refine iR_notT ?_ | refine iR_andV ?_ | refine iR_orV ?_ | refine iR_notV ?_ | refine iR_ifE ?_ | refine iR_asI ?_ | refine iS_sub ?_ | refine iS_retO ?_ | refine iR_mtF ?_ | refine iR_cNil ?_ | refine iR_cVal ?_ | refine iR_call ?_ | refine iR_readV ?_ | refine iR_readN ?_ | refine iR_writeN ?_ | refine iR_writeC ?_ | refine iR_asR1 ?_ | refine iR_asR2 ?_ | refine iR_bind ?_ | refine iR_lc ?_ | refine iR_slN ?_ | refine iR_oSome ?_ | refine iR_oNone ?_ | refine iR_lRg2 ?_ | refine iR_eqi ?_ | refine iR_nei ?_ | refine iR_eqs ?_ | refine iR_nes ?_ | refine iR_eqb ?_ | refine iR_neb ?_) | ((with_reducible first | refine eR_getV ?_ | refine eR_getCv ?_ | refine eR_ownL ?_ | refine eR_cOwn ?_ | refine eR_readO ?_ | refine eS_frz ?_ | refine eR_cellO ?_ | refine eR_of (r := gT _ _ _ _) ?_ | refine eR_of (r := gN _ _ _) ?_ | refine eR_of (r := dAddA _ _) ?_ | refine eR_of (r := dSub _ _) ?_ | refine eR_of (r := dLt _ _) ?_ | refine eR_of (r := dLe _ _) ?_ | refine eR_of (r := dGt _ _) ?_ | refine eR_of (r := dGe _ _) ?_ | refine eR_of (r := dIsN _ _) ?_ | refine eR_of (r := dNotN _ _) ?_ | refine eR_of (r := dIx _ _) ?_ | refine eR_of (r := dNeg _) ?_ | refine eR_of (r := dLen _) ?_ | refine eR_of (r := dList _) ?_ | refine eR_of (r := dTuple _) ?_ | refine eR_of (r := dRev _) ?_ | refine eR_of (r := dInt1 _) ?_ | refine eR_of (r := boolR _) ?_ | refine eR_of (r := intR _) ?_ | refine eR_of (r := itemsR _) ?_ | refine eR_of (r := truD _) ?_ | refine eR_of (r := dMax2 _) ?_ | refine eR_of (r := dMin2 _) ?_ | refine eR_of (r := slD _ _ _) ?_ | refine eR_of (r := mkT _) ?_ | refine eR_of (r := mkL _) ?_ | refine eR_of (r := endR _ _ _ _) ?_ | refine eR_of (r := lRg _ _) ?_ | refine eR_of (r := optB _) ?_ | refine eR_of (r := optR _) ?_); refine ⟨_, rfl, ?_⟩) | ((with_reducible first | refine eR_getCo ?_ | refine eS_frz' ?_); refine ⟨_, rfl, ?_⟩) | ((with_reducible first | refine iR_rng1 ?hh_ ?_ | refine iR_rng2 ?hh_ ?_ | refine iR_dMul ?hh_ ?_ | refine iR_dDiv ?hh_ ?_ | refine iR_dMod ?hh_ ?_ | refine iR_dPow ?hh_ ?_ | refine iR_dAddl ?hh_ ?_ | refine iR_dAdds ?hh_ ?_ | refine iR_dCat ?hh_ ?_ | refine iR_app ?hh_ ?_); (case hh_ => first | omega | decide)) | ((with_reducible first | refine iR_isi_t ?hh_ ?_ | refine if_ct ?hh_ ?_); (case hh_ => exact rfl)) | ((with_reducible first | refine iR_isi_f ?hh_ ?_ | refine if_cf ?hh_ ?_); (case hh_ => exact rfl)) | ((with_reducible refine iR_guard ?hh_ ?_); (case hh_ => first | decide | omega)) | (with_reducible refine iR_okk ?_) | ((with_reducible refine And.intro ?hh_ ?_); (case hh_ => first | decide | exact List.nodup_singleton _ | exact rfl | (simp only [List.length_cons, List.length_nil]; decide) | (intro z; cases z) | omega | (intro _; rfl)))); try dsimp only [List.set_cons_zero, List.set_cons_succ, ownIx, wipeE, restore, List.nil_append, List.cons_append])
  refine ifcut (fun e => ∃ (dk : List D) (a b : Int), e = [none, some (.own (.list dk)), some (.val (.int size)), some (.val (.tuple [.int a, .int b])), none, none, none, none, none, none, none, none, none, none, none, none, none, none] ∧ Deck dk ∧ -(10 ^ 9) ≤ a ∧ a ≤ 10 ^ 9 ∧ -(10 ^ 9) ≤ b ∧ b ≤ 10 ^ 9) (fun _ => ?_) (fun _ => ?_) ?_
  · repeat ((first | (with_reducible first | refine iR_yesT ?_ | refine iR_lcNil ?_ | refine iR_lcCons ?_ | refine if_t ?_ | refine if_f ?_ | refine iS_seq ?_ | refine iS_set ?_ | refine iS_own ?_ | refine iS_drop ?_ | refine iS_ret ?_ | refine iS_retF ?_ | refine iS_next ?_ | refine iS_if ?_ | refine iS_asg ?_ | refine iS_for0 ?_ | refine iR_ap1 ?_ | refine iR_ap2 ?_ | refine iR_ap2N ?_ | refine iR_apA ?_ | refine iR_kst ?_ | refine iR_aNil ?_ | refine iR_aCons ?_ | refine iR_asB ?_ | refine iR_truR ?_ | refine iR_andT ?_ | refine iR_orT ?_ | refine iR_notT ?_ | refine iR_andV ?_ | refine iR_orV ?_ | refine iR_notV ?_ | refine iR_ifE ?_ | refine iR_asI ?_ | refine iS_sub ?_ | refine iS_retO ?_ | refine iR_mtF ?_ | refine iR_cNil ?_ | refine iR_cVal ?_ | refine iR_call ?_ | refine iR_readV ?_ | refine iR_readN ?_ | refine iR_writeN ?_ | refine iR_writeC ?_ | refine iR_asR1 ?_ | refine iR_asR2 ?_ | refine iR_bind ?_ | refine iR_lc ?_ | refine iR_slN ?_ | refine iR_oSome ?_ | refine iR_oNone ?_ | refine iR_lRg2 ?_ | refine iR_eqi ?_ | refine iR_nei ?_ | refine iR_eqs ?_ | refine iR_nes ?_ | refine iR_eqb ?_ | refine iR_neb ?_) | ((with_reducible first | refine eR_getV ?_ | refine eR_getCv ?_ | refine eR_ownL ?_ | refine eR_cOwn ?_ | refine eR_readO ?_ | refine eS_frz ?_ | refine eR_cellO ?_ | refine eR_of (r := gT _ _ _ _) ?_ | refine eR_of (r := gN _ _ _) ?_ | refine eR_of (r := dAddA _ _) ?_ | refine eR_of (r := dSub _ _) ?_ | refine eR_of (r := dLt _ _) ?_ | refine eR_of (r := dLe _ _) ?_ | refine eR_of (r := dGt _ _) ?_ | refine eR_of (r := dGe _ _) ?_ | refine eR_of (r := dIsN _ _) ?_ | refine eR_of (r := dNotN _ _) ?_ | refine eR_of (r := dIx _ _) ?_ | refine eR_of (r := dNeg _) ?_ | refine eR_of (r := dLen _) ?_ | refine eR_of (r := dList _) ?_ | refine eR_of (r := dTuple _) ?_ | refine eR_of (r := dRev _) ?_ | refine eR_of (r := dInt1 _) ?_ | refine eR_of (r := boolR _) ?_ | refine eR_of (r := intR _) ?_ | refine eR_of (r := itemsR _) ?_ | refine eR_of (r := truD _) ?_ | refine eR_of (r := dMax2 _) ?_ | refine eR_of (r := dMin2 _) ?_ | refine eR_of (r := slD _ _ _) ?_ | refine eR_of (r := mkT _) ?_ | refine eR_of (r := mkL _) ?_ | refine eR_of (r := endR _ _ _ _) ?_ | refine eR_of (r := lRg _ _) ?_ | refine eR_of (r := optB _) ?_ | refine eR_of (r := optR _) ?_); refine ⟨_, rfl, ?_⟩) | ((with_reducible first | refine eR_getCo ?_ | refine eS_frz' ?_); refine ⟨_, rfl, ?_⟩) | ((with_reducible first | refine iR_rng1 ?hh_ ?_ | refine iR_rng2 ?hh_ ?_ | refine iR_dMul ?hh_ ?_ | refine iR_dDiv ?hh_ ?_ | refine iR_dMod ?hh_ ?_ | refine iR_dPow ?hh_ ?_ | refine iR_dAddl ?hh_ ?_ | refine iR_dAdds ?hh_ ?_ | refine iR_dCat ?hh_ ?_ | refine iR_app ?hh_ ?_); (case hh_ => first | omega | decide)) | ((with_reducible first | refine iR_isi_t ?hh_ ?_ | refine if_ct ?hh_ ?_); (case hh_ => exact rfl)) | ((with_reducible first | refine iR_isi_f ?hh_ ?_ | refine if_cf ?hh_ ?_); (case hh_ => exact rfl)) | ((with_reducible refine iR_guard ?hh_ ?_); (case hh_ => first | decide | omega)) | (with_reducible refine iR_okk ?_) | ((with_reducible refine And.intro ?hh_ ?_); (case hh_ => first | decide | exact List.nodup_singleton _ | exact rfl | (simp only [List.length_cons, List.length_nil]; decide) | (intro z; cases z) | omega | (intro _; rfl)))); try dsimp only [List.set_cons_zero, List.set_cons_succ, ownIx, wipeE, restore, List.nil_append, List.cons_append])
    exact ⟨_, 0, b - size, rfl, HD, by omega, by omega, by omega, by omega⟩
  · repeat ((first | (with_reducible first | refine iR_yesT ?_ | refine iR_lcNil ?_ | refine iR_lcCons ?_ | refine if_t ?_ | refine if_f ?_ | refine iS_seq ?_ | refine iS_set ?_ | refine iS_own ?_ | refine iS_drop ?_ | refine iS_ret ?_ | refine iS_retF ?_ | refine iS_next ?_ | refine iS_if ?_ | refine iS_asg ?_ | refine iS_for0 ?_ | refine iR_ap1 ?_ | refine iR_ap2 ?_ | refine iR_ap2N ?_ | refine iR_apA ?_ | refine iR_kst ?_ | refine iR_aNil ?_ | refine iR_aCons ?_ | refine iR_asB ?_ | refine iR_truR ?_ | refine iR_andT ?_ | refine iR_orT ?_ | refine iR_notT ?_ | refine iR_andV ?_ | refine iR_orV ?_ | refine iR_notV ?_ | refine iR_ifE ?_ | refine iR_asI ?_ | refine iS_sub ?_ | refine iS_retO ?_ | refine iR_mtF ?_ | refine iR_cNil ?_ | refine iR_cVal ?_ | refine iR_call ?_ | refine iR_readV ?_ | refine iR_readN ?_ | refine iR_writeN ?_ | refine iR_writeC ?_ | refine iR_asR1 ?_ | refine iR_asR2 ?_ | refine iR_bind ?_ | refine iR_lc ?_ | refine iR_slN ?_ | refine iR_oSome ?_ | refine iR_oNone ?_ | refine iR_lRg2 ?_ | refine iR_eqi ?_ | refine iR_nei ?_ | refine iR_eqs ?_ | refine iR_nes ?_ | refine iR_eqb ?_ | refine iR_neb ?_) | ((with_reducible first | refine eR_getV ?_ | refine eR_getCv ?_ | refine eR_ownL ?_ | refine eR_cOwn ?_ | refine eR_readO ?_ | refine eS_frz ?_ | refine eR_cellO ?_ | refine eR_of (r := gT _ _ _ _) ?_ | refine eR_of (r := gN _ _ _) ?_ | refine eR_of (r := dAddA _ _) ?_ | refine eR_of (r := dSub _ _) ?_ | refine eR_of (r := dLt _ _) ?_ | refine eR_of (r := dLe _ _) ?_ | refine eR_of (r := dGt _ _) ?_ | refine eR_of (r := dGe _ _) ?_ | refine eR_of (r := dIsN _ _) ?_ | refine eR_of (r := dNotN _ _) ?_ | refine eR_of (r := dIx _ _) ?_ | refine eR_of (r := dNeg _) ?_ | refine eR_of (r := dLen _) ?_ | refine eR_of (r := dList _) ?_ | refine eR_of (r := dTuple _) ?_ | refine eR_of (r := dRev _) ?_ | refine eR_of (r := dInt1 _) ?_ | refine eR_of (r := boolR _) ?_ | refine eR_of (r := intR _) ?_ | refine eR_of (r := itemsR _) ?_ | refine eR_of (r := truD _) ?_ | refine eR_of (r := dMax2 _) ?_ | refine eR_of (r := dMin2 _) ?_ | refine eR_of (r := slD _ _ _) ?_ | refine eR_of (r := mkT _) ?_ | refine eR_of (r := mkL _) ?_ | refine eR_of (r := endR _ _ _ _) ?_ | refine eR_of (r := lRg _ _) ?_ | refine eR_of (r := optB _) ?_ | refine eR_of (r := optR _) ?_); refine ⟨_, rfl, ?_⟩) | ((with_reducible first | refine eR_getCo ?_ | refine eS_frz' ?_); refine ⟨_, rfl, ?_⟩) | ((with_reducible first | refine iR_rng1 ?hh_ ?_ | refine iR_rng2 ?hh_ ?_ | refine iR_dMul ?hh_ ?_ | refine iR_dDiv ?hh_ ?_ | refine iR_dMod ?hh_ ?_ | refine iR_dPow ?hh_ ?_ | refine iR_dAddl ?hh_ ?_ | refine iR_dAdds ?hh_ ?_ | refine iR_dCat ?hh_ ?_ | refine iR_app ?hh_ ?_); (case hh_ => first | omega | decide)) | ((with_reducible first | refine iR_isi_t ?hh_ ?_ | refine if_ct ?hh_ ?_); (case hh_ => exact rfl)) | ((with_reducible first | refine iR_isi_f ?hh_ ?_ | refine if_cf ?hh_ ?_); (case hh_ => exact rfl)) | ((with_reducible refine iR_guard ?hh_ ?_); (case hh_ => first | decide | omega)) | (with_reducible refine iR_okk ?_) | ((with_reducible refine And.intro ?hh_ ?_); (case hh_ => first | decide | exact List.nodup_singleton _ | exact rfl | (simp only [List.length_cons, List.length_nil]; decide) | (intro z; cases z) | omega | (intro _; rfl)))); try dsimp only [List.set_cons_zero, List.set_cons_succ, ownIx, wipeE, restore, List.nil_append, List.cons_append])
    exact ⟨_, a - size, b - size, rfl, HD, by omega, by omega, by omega, by omega⟩
  clear HD a0 a1 b0 b1 v0 v1 w0 w1
  rintro e ⟨dk, a, b, rfl, HD, a0, a1, b0, b1⟩
  repeat ((first | (with_reducible first | refine iR_yesT ?_ | refine iR_lcNil ?_ | refine iR_lcCons ?_ | refine if_t ?_ | refine if_f ?_ | refine iS_seq ?_ | refine iS_set ?_ | refine iS_own ?_ | refine iS_drop ?_ | refine iS_ret ?_ | refine iS_retF ?_ | refine iS_next ?_ | refine iS_if ?_ | refine iS_asg ?_ | refine iS_for0 ?_ | refine iR_ap1 ?_ | refine iR_ap2 ?_ | refine iR_ap2N ?_ | refine iR_apA ?_ | refine iR_kst ?_ | refine iR_aNil ?_ | refine iR_aCons ?_ | refine iR_asB ?_ | refine iR_truR ?_ | refine iR_andT ?_ | refine iR_orT ?_ | refine iR_notT ?_ | refine iR_andV ?_ | refine iR_orV ?_ | refine iR_notV ?_ | refine iR_ifE ?_ | refine iR_asI ?_ | refine iS_sub ?_ | refine iS_retO ?_ | refine iR_mtF ?_ | refine iR_cNil ?_ | refine iR_cVal ?_ | refine iR_call ?_ | refine iR_readV ?_ | refine iR_readN ?_ | refine iR_writeN ?_ | refine iR_writeC ?_ | refine iR_asR1 ?_ | refine iR_asR2 ?_ | refine iR_bind ?_ | refine iR_lc ?_ | refine iR_slN ?_ | refine iR_oSome ?_ | refine iR_oNone ?_ | refine iR_lRg2 ?_ | refine iR_eqi ?_ | refine iR_nei ?_ | refine iR_eqs ?_ | refine iR_nes ?_ | refine iR_eqb ?_ | refine iR_neb ?_) | ((with_reducible first | refine eR_getV ?_ | refine eR_getCv ?_ | refine eR_ownL ?_ | refine eR_cOwn ?_ | refine eR_readO ?_ | refine eS_frz ?_ | refine eR_cellO ?_ | refine eR_of (r := gT _ _ _ _) ?_ | refine eR_of (r := gN _ _ _) ?_ | refine eR_of (r := dAddA _ _) ?_ | refine eR_of (r := dSub _ _) ?_ | refine eR_of (r := dLt _ _) ?_ | refine eR_of (r := dLe _ _) ?_ | refine eR_of (r := dGt _ _) ?_ | refine eR_of (r := dGe _ _) ?_ | refine eR_of (r := dIsN _ _) ?_ | refine eR_of (r := dNotN _ _) ?_ | refine eR_of (r := dIx _ _) ?_ | refine eR_of (r := dNeg _) ?_ | refine eR_of (r := dLen _) ?_ | refine eR_of (r := dList _) ?_ | refine eR_of (r := dTuple _) ?_ | refine eR_of (r := dRev _) ?_ | refine eR_of (r := dInt1 _) ?_ | refine eR_of (r := boolR _) ?_ | refine eR_of (r := intR _) ?_ | refine eR_of (r := itemsR _) ?_ | refine eR_of (r := truD _) ?_ | refine eR_of (r := dMax2 _) ?_ | refine eR_of (r := dMin2 _) ?_ | refine eR_of (r := slD _ _ _) ?_ | refine eR_of (r := mkT _) ?_ | refine eR_of (r := mkL _) ?_ | refine eR_of (r := endR _ _ _ _) ?_ | refine eR_of (r := lRg _ _) ?_ | refine eR_of (r := optB _) ?_ | refine eR_of (r := optR _) ?_); refine ⟨_, rfl, ?_⟩) | ((with_reducible first | refine eR_getCo ?_ | refine eS_frz' ?_); refine ⟨_, rfl, ?_⟩) | ((with_reducible first | refine iR_rng1 ?hh_ ?_ | refine iR_rng2 ?hh_ ?_ | refine iR_dMul ?hh_ ?_ | refine iR_dDiv ?hh_ ?_ | refine iR_dMod ?hh_ ?_ | refine iR_dPow ?hh_ ?_ | refine iR_dAddl ?hh_ ?_ | refine iR_dAdds ?hh_ ?_ | refine iR_dCat ?hh_ ?_ | refine iR_app ?hh_ ?_); (case hh_ => first | omega | decide)) | ((with_reducible first | refine iR_isi_t ?hh_ ?_ | refine if_ct ?hh_ ?_); (case hh_ => exact rfl)) | ((with_reducible first | refine iR_isi_f ?hh_ ?_ | refine if_cf ?hh_ ?_); (case hh_ => exact rfl)) | ((with_reducible refine iR_guard ?hh_ ?_); (case hh_ => first | decide | omega)) | (with_reducible refine iR_okk ?_) | ((with_reducible refine And.intro ?hh_ ?_); (case hh_ => first | decide | exact List.nodup_singleton _ | exact rfl | (simp only [List.length_cons, List.length_nil]; decide) | (intro z; cases z) | omega | (intro _; rfl)))); try dsimp only [List.set_cons_zero, List.set_cons_succ, ownIx, wipeE, restore, List.nil_append, List.cons_append])
  (refine DL.iD_mono (draw_ok HD (by omega) (by omega)) ?_; rintro _ _ _ ⟨x, dk, rfl, x0, x1, rfl, HD⟩)
  repeat ((first | (with_reducible first | refine iR_yesT ?_ | refine iR_lcNil ?_ | refine iR_lcCons ?_ | refine if_t ?_ | refine if_f ?_ | refine iS_seq ?_ | refine iS_set ?_ | refine iS_own ?_ | refine iS_drop ?_ | refine iS_ret ?_ | refine iS_retF ?_ | refine iS_next ?_ | refine iS_if ?_ | refine iS_asg ?_ | refine iS_for0 ?_ | refine iR_ap1 ?_ | refine iR_ap2 ?_ | refine iR_ap2N ?_ | refine iR_apA ?_ | refine iR_kst ?_ | refine iR_aNil ?_ | refine iR_aCons ?_ | refine iR_asB ?_ | refine iR_truR ?_ | refine iR_andT ?_ | refine iR_orT ?_ | refine iR_notT ?_ | refine iR_andV ?_ | refine iR_orV ?_ | refine iR_notV ?_ | refine iR_ifE ?_ | refine iR_asI ?_ | refine iS_sub ?_ | refine iS_retO ?_ | refine iR_mtF ?_ | refine iR_cNil ?_ | refine iR_cVal ?_ | refine iR_call ?_ | refine iR_readV ?_ | refine iR_readN ?_ | refine iR_writeN ?_ | refine iR_writeC ?_ | refine iR_asR1 ?_ | refine iR_asR2 ?_ | refine iR_bind ?_ | refine iR_lc ?_ | refine iR_slN ?_ | refine iR_oSome ?_ | refine iR_oNone ?_ | refine iR_lRg2 ?_ | refine iR_eqi ?_ | refine iR_nei ?_ | refine iR_eqs ?_ | refine iR_nes ?_ | refine iR_eqb ?_ | refine iR_neb ?_) | ((with_reducible first | refine eR_getV ?_ | refine eR_getCv ?_ | refine eR_ownL ?_ | refine eR_cOwn ?_ | refine eR_readO ?_ | refine eS_frz ?_ | refine eR_cellO ?_ | refine eR_of (r := gT _ _ _ _) ?_ | refine eR_of (r := gN _ _ _) ?_ | refine eR_of (r := dAddA _ _) ?_ | refine eR_of (r := dSub _ _) ?_ | refine eR_of (r := dLt _ _) ?_ | refine eR_of (r := dLe _ _) ?_ | refine eR_of (r := dGt _ _) ?_ | refine eR_of (r := dGe _ _) ?_ | refine eR_of (r := dIsN _ _) ?_ | refine eR_of (r := dNotN _ _) ?_ | refine eR_of (r := dIx _ _) ?_ | refine eR_of (r := dNeg _) ?_ | refine eR_of (r := dLen _) ?_ | refine eR_of (r := dList _) ?_ | refine eR_of (r := dTuple _) ?_ | refine eR_of (r := dRev _) ?_ | refine eR_of (r := dInt1 _) ?_ | refine eR_of (r := boolR _) ?_ | refine eR_of (r := intR _) ?_ | refine eR_of (r := itemsR _) ?_ | refine eR_of (r := truD _) ?_ | refine eR_of (r := dMax2 _) ?_ | refine eR_of (r := dMin2 _) ?_ | refine eR_of (r := slD _ _ _) ?_ | refine eR_of (r := mkT _) ?_ | refine eR_of (r := mkL _) ?_ | refine eR_of (r := endR _ _ _ _) ?_ | refine eR_of (r := lRg _ _) ?_ | refine eR_of (r := optB _) ?_ | refine eR_of (r := optR _) ?_); refine ⟨_, rfl, ?_⟩) | ((with_reducible first | refine eR_getCo ?_ | refine eS_frz' ?_); refine ⟨_, rfl, ?_⟩) | ((with_reducible first | refine iR_rng1 ?hh_ ?_ | refine iR_rng2 ?hh_ ?_ | refine iR_dMul ?hh_ ?_ | refine iR_dDiv ?hh_ ?_ | refine iR_dMod ?hh_ ?_ | refine iR_dPow ?hh_ ?_ | refine iR_dAddl ?hh_ ?_ | refine iR_dAdds ?hh_ ?_ | refine iR_dCat ?hh_ ?_ | refine iR_app ?hh_ ?_); (case hh_ => first | omega | decide)) | ((with_reducible first | refine iR_isi_t ?hh_ ?_ | refine if_ct ?hh_ ?_); (case hh_ => exact rfl)) | ((with_reducible first | refine iR_isi_f ?hh_ ?_ | refine if_cf ?hh_ ?_); (case hh_ => exact rfl)) | ((with_reducible refine iR_guard ?hh_ ?_); (case hh_ => first | decide | omega)) | (with_reducible refine iR_okk ?_) | ((with_reducible refine And.intro ?hh_ ?_); (case hh_ => first | decide | exact List.nodup_singleton _ | exact rfl | (simp only [List.length_cons, List.length_nil]; decide) | (intro z; cases z) | omega | (intro _; rfl)))); try dsimp only [List.set_cons_zero, List.set_cons_succ, ownIx, wipeE, restore, List.nil_append, List.cons_append])
  (refine DL.iD_mono (draw_ok HD (by omega) (by omega)) ?_; rintro _ _ _ ⟨q, dk, rfl, q0, q1, rfl, HD⟩)
  repeat ((first | (with_reducible first | refine iR_yesT ?_ | refine iR_lcNil ?_ | refine iR_lcCons ?_ | refine if_t ?_ | refine if_f ?_ | refine iS_seq ?_ | refine iS_set ?_ | refine iS_own ?_ | refine iS_drop ?_ | refine iS_ret ?_ | refine iS_retF ?_ | refine iS_next ?_ | refine iS_if ?_ | refine iS_asg ?_ | refine iS_for0 ?_ | refine iR_ap1 ?_ | refine iR_ap2 ?_ | refine iR_ap2N ?_ | refine iR_apA ?_ | refine iR_kst ?_ | refine iR_aNil ?_ | refine iR_aCons ?_ | refine iR_asB ?_ | refine iR_truR ?_ | refine iR_andT ?_ | refine iR_orT ?_ | refine iR_notT ?_ | refine iR_andV ?_ | refine iR_orV ?_ | refine iR_notV ?_ | refine iR_ifE ?_ | refine iR_asI ?_ | refine iS_sub ?_ | refine iS_retO ?_ | refine iR_mtF ?_ | refine iR_cNil ?_ | refine iR_cVal ?_ | refine iR_call ?_ | refine iR_readV ?_ | refine iR_readN ?_ | refine iR_writeN ?_ | refine iR_writeC ?_ | refine iR_asR1 ?_ | refine iR_asR2 ?_ | refine iR_bind ?_ | refine iR_lc ?_ | refine iR_slN ?_ | refine iR_oSome ?_ | refine iR_oNone ?_ | refine iR_lRg2 ?_ | refine iR_eqi ?_ | refine iR_nei ?_ | refine iR_eqs ?_ | refine iR_nes ?_ | refine iR_eqb ?_ | refine iR_neb ?_) | ((with_reducible first | refine eR_getV ?_ | refine eR_getCv ?_ | refine eR_ownL ?_ | refine eR_cOwn ?_ | refine eR_readO ?_ | refine eS_frz ?_ | refine eR_cellO ?_ | refine eR_of (r := gT _ _ _ _) ?_ | refine eR_of (r := gN _ _ _) ?_ | refine eR_of (r := dAddA _ _) ?_ | refine eR_of (r := dSub _ _) ?_ | refine eR_of (r := dLt _ _) ?_ | refine eR_of (r := dLe _ _) ?_ | refine eR_of (r := dGt _ _) ?_ | refine eR_of (r := dGe _ _) ?_ | refine eR_of (r := dIsN _ _) ?_ | refine eR_of (r := dNotN _ _) ?_ | refine eR_of (r := dIx _ _) ?_ | refine eR_of (r := dNeg _) ?_ | refine eR_of (r := dLen _) ?_ | refine eR_of (r := dList _) ?_ | refine eR_of (r := dTuple _) ?_ | refine eR_of (r := dRev _) ?_ | refine eR_of (r := dInt1 _) ?_ | refine eR_of (r := boolR _) ?_ | refine eR_of (r := intR _) ?_ | refine eR_of (r := itemsR _) ?_ | refine eR_of (r := truD _) ?_ | refine eR_of (r := dMax2 _) ?_ | refine eR_of (r := dMin2 _) ?_ | refine eR_of (r := slD _ _ _) ?_ | refine eR_of (r := mkT _) ?_ | refine eR_of (r := mkL _) ?_ | refine eR_of (r := endR _ _ _ _) ?_ | refine eR_of (r := lRg _ _) ?_ | refine eR_of (r := optB _) ?_ | refine eR_of (r := optR _) ?_); refine ⟨_, rfl, ?_⟩) | ((with_reducible first | refine eR_getCo ?_ | refine eS_frz' ?_); refine ⟨_, rfl, ?_⟩) | ((with_reducible first | refine iR_rng1 ?hh_ ?_ | refine iR_rng2 ?hh_ ?_ | refine iR_dMul ?hh_ ?_ | refine iR_dDiv ?hh_ ?_ | refine iR_dMod ?hh_ ?_ | refine iR_dPow ?hh_ ?_ | refine iR_dAddl ?hh_ ?_ | refine iR_dAdds ?hh_ ?_ | refine iR_dCat ?hh_ ?_ | refine iR_app ?hh_ ?_); (case hh_ => first | omega | decide)) | ((with_reducible first | refine iR_isi_t ?hh_ ?_ | refine if_ct ?hh_ ?_); (case hh_ => exact rfl)) | ((with_reducible first | refine iR_isi_f ?hh_ ?_ | refine if_cf ?hh_ ?_); (case hh_ => exact rfl)) | ((with_reducible refine iR_guard ?hh_ ?_); (case hh_ => first | decide | omega)) | (with_reducible refine iR_okk ?_) | ((with_reducible refine And.intro ?hh_ ?_); (case hh_ => first | decide | exact List.nodup_singleton _ | exact rfl | (simp only [List.length_cons, List.length_nil]; decide) | (intro z; cases z) | omega | (intro _; rfl)))); try dsimp only [List.set_cons_zero, List.set_cons_succ, ownIx, wipeE, restore, List.nil_append, List.cons_append])
  (refine DL.iD_mono (draw_ok HD (by omega) (by omega)) ?_; rintro _ _ _ ⟨r, dk, rfl, r0, r1, rfl, HD⟩)
  repeat ((first | (with_reducible first | refine iR_yesT ?_ | refine iR_lcNil ?_ | refine iR_lcCons ?_ | refine if_t ?_ | refine if_f ?_ | refine iS_seq ?_ | refine iS_set ?_ | refine iS_own ?_ | refine iS_drop ?_ | refine iS_ret ?_ | refine iS_retF ?_ | refine iS_next ?_ | refine iS_if ?_ | refine iS_asg ?_ | refine iS_for0 ?_ | refine iR_ap1 ?_ | refine iR_ap2 ?_ | refine iR_ap2N ?_ | refine iR_apA ?_ | refine iR_kst ?_ | refine iR_aNil ?_ | refine iR_aCons ?_ | refine iR_asB ?_ | refine iR_truR ?_ | refine iR_andT ?_ | refine iR_orT ?_ | refine iR_notT ?_ | refine iR_andV ?_ | refine iR_orV ?_ | refine iR_notV ?_ | refine iR_ifE ?_ | refine iR_asI ?_ | refine iS_sub ?_ | refine iS_retO ?_ | refine iR_mtF ?_ | refine iR_cNil ?_ | refine iR_cVal ?_ | refine iR_call ?_ | refine iR_readV ?_ | refine iR_readN ?_ | refine iR_writeN ?_ | refine iR_writeC ?_ | refine iR_asR1 ?_ | refine iR_asR2 ?_ | refine iR_bind ?_ | refine iR_lc ?_ | refine iR_slN ?_ | refine iR_oSome ?_ | refine iR_oNone ?_ | refine iR_lRg2 ?_ | refine iR_eqi ?_ | refine iR_nei ?_ | refine iR_eqs ?_ | refine iR_nes ?_ | refine iR_eqb ?_ | refine iR_neb ?_) | ((with_reducible first | refine eR_getV ?_ | refine eR_getCv ?_ | refine eR_ownL ?_ | refine eR_cOwn ?_ | refine eR_readO ?_ | refine eS_frz ?_ | refine eR_cellO ?_ | refine eR_of (r := gT _ _ _ _) ?_ | refine eR_of (r := gN _ _ _) ?_ | refine eR_of (r := dAddA _ _) ?_ | refine eR_of (r := dSub _ _) ?_ | refine eR_of (r := dLt _ _) ?_ | refine eR_of (r := dLe _ _) ?_ | refine eR_of (r := dGt _ _) ?_ | refine eR_of (r := dGe _ _) ?_ | refine eR_of (r := dIsN _ _) ?_ | refine eR_of (r := dNotN _ _) ?_ | refine eR_of (r := dIx _ _) ?_ | refine eR_of (r := dNeg _) ?_ | refine eR_of (r := dLen _) ?_ | refine eR_of (r := dList _) ?_ | refine eR_of (r := dTuple _) ?_ | refine eR_of (r := dRev _) ?_ | refine eR_of (r := dInt1 _) ?_ | refine eR_of (r := boolR _) ?_ | refine eR_of (r := intR _) ?_ | refine eR_of (r := itemsR _) ?_ | refine eR_of (r := truD _) ?_ | refine eR_of (r := dMax2 _) ?_ | refine eR_of (r := dMin2 _) ?_ | refine eR_of (r := slD _ _ _) ?_ | refine eR_of (r := mkT _) ?_ | refine eR_of (r := mkL _) ?_ | refine eR_of (r := endR _ _ _ _) ?_ | refine eR_of (r := lRg _ _) ?_ | refine eR_of (r := optB _) ?_ | refine eR_of (r := optR _) ?_); refine ⟨_, rfl, ?_⟩) | ((with_reducible first | refine eR_getCo ?_ | refine eS_frz' ?_); refine ⟨_, rfl, ?_⟩) | ((with_reducible first | refine iR_rng1 ?hh_ ?_ | refine iR_rng2 ?hh_ ?_ | refine iR_dMul ?hh_ ?_ | refine iR_dDiv ?hh_ ?_ | refine iR_dMod ?hh_ ?_ | refine iR_dPow ?hh_ ?_ | refine iR_dAddl ?hh_ ?_ | refine iR_dAdds ?hh_ ?_ | refine iR_dCat ?hh_ ?_ | refine iR_app ?hh_ ?_); (case hh_ => first | omega | decide)) | ((with_reducible first | refine iR_isi_t ?hh_ ?_ | refine if_ct ?hh_ ?_); (case hh_ => exact rfl)) | ((with_reducible first | refine iR_isi_f ?hh_ ?_ | refine if_cf ?hh_ ?_); (case hh_ => exact rfl)) | ((with_reducible refine iR_guard ?hh_ ?_); (case hh_ => first | decide | omega)) | (with_reducible refine iR_okk ?_) | ((with_reducible refine And.intro ?hh_ ?_); (case hh_ => first | decide | exact List.nodup_singleton _ | exact rfl | (simp only [List.length_cons, List.length_nil]; decide) | (intro z; cases z) | omega | (intro _; rfl)))); try dsimp only [List.set_cons_zero, List.set_cons_succ, ownIx, wipeE, restore, List.nil_append, List.cons_append])
  obtain ⟨z, hz, z1⟩ := pick3 (a := 0) (b := q) (c := 40) r0 r1
  have z1 : 0 ≤ z ∧ z ≤ 40 := by omega
  refine iR_ixl hz ?_
  clear hz
  repeat ((first | (with_reducible first | refine iR_yesT ?_ | refine iR_lcNil ?_ | refine iR_lcCons ?_ | refine if_t ?_ | refine if_f ?_ | refine iS_seq ?_ | refine iS_set ?_ | refine iS_own ?_ | refine iS_drop ?_ | refine iS_ret ?_ | refine iS_retF ?_ | refine iS_next ?_ | refine iS_if ?_ | refine iS_asg ?_ | refine iS_for0 ?_ | refine iR_ap1 ?_ | refine iR_ap2 ?_ | refine iR_ap2N ?_ | refine iR_apA ?_ | refine iR_kst ?_ | refine iR_aNil ?_ | refine iR_aCons ?_ | refine iR_asB ?_ | refine iR_truR ?_ | refine iR_andT ?_ | refine iR_orT ?_ | refine iR_notT ?_ | refine iR_andV ?_ | refine iR_orV ?_ | refine iR_notV ?_ | refine iR_ifE ?_ | refine iR_asI ?_ | refine iS_sub ?_ | refine iS_retO ?_ | refine iR_mtF ?_ | refine iR_cNil ?_ | refine iR_cVal ?_ | refine iR_call ?_ | refine iR_readV ?_ | refine iR_readN ?_ | refine iR_writeN ?_ | refine iR_writeC ?_ | refine iR_asR1 ?_ | refine iR_asR2 ?_ | refine iR_bind ?_ | refine iR_lc ?_ | refine iR_slN ?_ | refine iR_oSome ?_ | refine iR_oNone ?_ | refine iR_lRg2 ?_ | refine iR_eqi ?_ | refine iR_nei ?_ | refine iR_eqs ?_ | refine iR_nes ?_ | refine iR_eqb ?_ | refine iR_neb ?_) | ((with_reducible first | refine eR_getV ?_ | refine eR_getCv ?_ | refine eR_ownL ?_ | refine eR_cOwn ?_ | refine eR_readO ?_ | refine eS_frz ?_ | refine eR_cellO ?_ | refine eR_of (r := gT _ _ _ _) ?_ | refine eR_of (r := gN _ _ _) ?_ | refine eR_of (r := dAddA _ _) ?_ | refine eR_of (r := dSub _ _) ?_ | refine eR_of (r := dLt _ _) ?_ | refine eR_of (r := dLe _ _) ?_ | refine eR_of (r := dGt _ _) ?_ | refine eR_of (r := dGe _ _) ?_ | refine eR_of (r := dIsN _ _) ?_ | refine eR_of (r := dNotN _ _) ?_ | refine eR_of (r := dIx _ _) ?_ | refine eR_of (r := dNeg _) ?_ | refine eR_of (r := dLen _) ?_ | refine eR_of (r := dList _) ?_ | refine eR_of (r := dTuple _) ?_ | refine eR_of (r := dRev _) ?_ | refine eR_of (r := dInt1 _) ?_ | refine eR_of (r := boolR _) ?_ | refine eR_of (r := intR _) ?_ | refine eR_of (r := itemsR _) ?_ | refine eR_of (r := truD _) ?_ | refine eR_of (r := dMax2 _) ?_ | refine eR_of (r := dMin2 _) ?_ | refine eR_of (r := slD _ _ _) ?_ | refine eR_of (r := mkT _) ?_ | refine eR_of (r := mkL _) ?_ | refine eR_of (r := endR _ _ _ _) ?_ | refine eR_of (r := lRg _ _) ?_ | refine eR_of (r := optB _) ?_ | refine eR_of (r := optR _) ?_); refine ⟨_, rfl, ?_⟩) | ((with_reducible first | refine eR_getCo ?_ | refine eS_frz' ?_); refine ⟨_, rfl, ?_⟩) | ((with_reducible first | refine iR_rng1 ?hh_ ?_ | refine iR_rng2 ?hh_ ?_ | refine iR_dMul ?hh_ ?_ | refine iR_dDiv ?hh_ ?_ | refine iR_dMod ?hh_ ?_ | refine iR_dPow ?hh_ ?_ | refine iR_dAddl ?hh_ ?_ | refine iR_dAdds ?hh_ ?_ | refine iR_dCat ?hh_ ?_ | refine iR_app ?hh_ ?_); (case hh_ => first | omega | decide)) | ((with_reducible first | refine iR_isi_t ?hh_ ?_ | refine if_ct ?hh_ ?_); (case hh_ => exact rfl)) | ((with_reducible first | refine iR_isi_f ?hh_ ?_ | refine if_cf ?hh_ ?_); (case hh_ => exact rfl)) | ((with_reducible refine iR_guard ?hh_ ?_); (case hh_ => first | decide | omega)) | (with_reducible refine iR_okk ?_) | ((with_reducible refine And.intro ?hh_ ?_); (case hh_ => first | decide | exact List.nodup_singleton _ | exact rfl | (simp only [List.length_cons, List.length_nil]; decide) | (intro z; cases z) | omega | (intro _; rfl)))); try dsimp only [List.set_cons_zero, List.set_cons_succ, ownIx, wipeE, restore, List.nil_append, List.cons_append])
  obtain ⟨i, hi⟩ : ∃ i, i = x - 30 := ⟨_, rfl⟩
  rw [← hi]
  obtain ⟨n, hn⟩ : ∃ n : Nat, z = n := ⟨z.toNat, by omega⟩
  subst hn
  rw [show (i + (n : Int) + 1 - i).toNat = n + 1 by omega]
  refine iR_lcN (fun k acc e => acc = ((rngI i k).map (fun u => a * u + b)).map PyData.int ∧ e = [none, some (.own (.list dk)), some (.val (.int size)), some (.val (.tuple [.int a, .int b])), some (.val (.int i)), some (.val (.tuple [.int i, .int (i + (n : Int))])), none, none, none, none, none, none, none, none, none, none, none, none]) ⟨rfl, rfl⟩ ?_ ?_
  · rintro k acc e hk ⟨rfl, rfl⟩
    repeat ((first | (with_reducible first | refine iR_yesT ?_ | refine iR_lcNil ?_ | refine iR_lcCons ?_ | refine if_t ?_ | refine if_f ?_ | refine iS_seq ?_ | refine iS_set ?_ | refine iS_own ?_ | refine iS_drop ?_ | refine iS_ret ?_ | refine iS_retF ?_ | refine iS_next ?_ | refine iS_if ?_ | refine iS_asg ?_ | refine iS_for0 ?_ | refine iR_ap1 ?_ | refine iR_ap2 ?_ | refine iR_ap2N ?_ | refine iR_apA ?_ | refine iR_kst ?_ | refine iR_aNil ?_ | refine iR_aCons ?_ | refine iR_asB ?_ | refine iR_truR ?_ | refine iR_andT ?_ | refine iR_orT ?_ | refine iR_notT ?_ | refine iR_andV ?_ | refine iR_orV ?_ | refine iR_notV ?_ | refine iR_ifE ?_ | refine iR_asI ?_ | refine iS_sub ?_ | refine iS_retO ?_ | refine iR_mtF ?_ | refine iR_cNil ?_ | refine iR_cVal ?_ | refine iR_call ?_ | refine iR_readV ?_ | refine iR_readN ?_ | refine iR_writeN ?_ | refine iR_writeC ?_ | refine iR_asR1 ?_ | refine iR_asR2 ?_ | refine iR_bind ?_ | refine iR_lc ?_ | refine iR_slN ?_ | refine iR_oSome ?_ | refine iR_oNone ?_ | refine iR_lRg2 ?_ | refine iR_eqi ?_ | refine iR_nei ?_ | refine iR_eqs ?_ | refine iR_nes ?_ | refine iR_eqb ?_ | refine iR_neb ?_) | ((with_reducible first | refine eR_getV ?_ | refine eR_getCv ?_ | refine eR_ownL ?_ | refine eR_cOwn ?_ | refine eR_readO ?_ | refine eS_frz ?_ | refine eR_cellO ?_ | refine eR_of (r := gT _ _ _ _) ?_ | refine eR_of (r := gN _ _ _) ?_ | refine eR_of (r := dAddA _ _) ?_ | refine eR_of (r := dSub _ _) ?_ | refine eR_of (r := dLt _ _) ?_ | refine eR_of (r := dLe _ _) ?_ | refine eR_of (r := dGt _ _) ?_ | refine eR_of (r := dGe _ _) ?_ | refine eR_of (r := dIsN _ _) ?_ | refine eR_of (r := dNotN _ _) ?_ | refine eR_of (r := dIx _ _) ?_ | refine eR_of (r := dNeg _) ?_ | refine eR_of (r := dLen _) ?_ | refine eR_of (r := dList _) ?_ | refine eR_of (r := dTuple _) ?_ | refine eR_of (r := dRev _) ?_ | refine eR_of (r := dInt1 _) ?_ | refine eR_of (r := boolR _) ?_ | refine eR_of (r := intR _) ?_ | refine eR_of (r := itemsR _) ?_ | refine eR_of (r := truD _) ?_ | refine eR_of (r := dMax2 _) ?_ | refine eR_of (r := dMin2 _) ?_ | refine eR_of (r := slD _ _ _) ?_ | refine eR_of (r := mkT _) ?_ | refine eR_of (r := mkL _) ?_ | refine eR_of (r := endR _ _ _ _) ?_ | refine eR_of (r := lRg _ _) ?_ | refine eR_of (r := optB _) ?_ | refine eR_of (r := optR _) ?_); refine ⟨_, rfl, ?_⟩) | ((with_reducible first | refine eR_getCo ?_ | refine eS_frz' ?_); refine ⟨_, rfl, ?_⟩) | ((with_reducible first | refine iR_rng1 ?hh_ ?_ | refine iR_rng2 ?hh_ ?_ | refine iR_dMul ?hh_ ?_ | refine iR_dDiv ?hh_ ?_ | refine iR_dMod ?hh_ ?_ | refine iR_dPow ?hh_ ?_ | refine iR_dAddl ?hh_ ?_ | refine iR_dAdds ?hh_ ?_ | refine iR_dCat ?hh_ ?_ | refine iR_app ?hh_ ?_); (case hh_ => first | omega | decide)) | ((with_reducible first | refine iR_isi_t ?hh_ ?_ | refine if_ct ?hh_ ?_); (case hh_ => exact rfl)) | ((with_reducible first | refine iR_isi_f ?hh_ ?_ | refine if_cf ?hh_ ?_); (case hh_ => exact rfl)) | ((with_reducible refine iR_guard ?hh_ ?_); (case hh_ => first | decide | omega)) | (with_reducible refine iR_okk ?_) | ((with_reducible refine And.intro ?hh_ ?_); (case hh_ => first | decide | exact List.nodup_singleton _ | exact rfl | (simp only [List.length_cons, List.length_nil]; decide) | (intro z; cases z) | omega | (intro _; rfl)))); try dsimp only [List.set_cons_zero, List.set_cons_succ, ownIx, wipeE, restore, List.nil_append, List.cons_append])
    refine ⟨by rw [List.length_map, List.length_map, rngI_len]; exact Nat.lt_of_lt_of_le (m := 64) (by omega) (by decide), ?_, rfl⟩
    rw [rngI_snoc, List.map_append, List.map_append]; rfl
  rintro acc e ⟨rfl, rfl⟩
  have hat : ∀ k : Nat, k < n + 1 → atI (((rngI i (n + 1)).map (fun u => a * u + b)).map PyData.int) (0 + (k : Int)) = some (.int (a * (i + k) + b)) := by
    intro k hk
    rw [Int.zero_add]
    refine atI_nat ?_
    rw [List.getElem?_map, List.getElem?_map]
    unfold rngI
    rw [List.getElem?_map, List.getElem?_range hk]; rfl
  repeat ((first | (with_reducible first | refine iR_yesT ?_ | refine iR_lcNil ?_ | refine iR_lcCons ?_ | refine if_t ?_ | refine if_f ?_ | refine iS_seq ?_ | refine iS_set ?_ | refine iS_own ?_ | refine iS_drop ?_ | refine iS_ret ?_ | refine iS_retF ?_ | refine iS_next ?_ | refine iS_if ?_ | refine iS_asg ?_ | refine iS_for0 ?_ | refine iR_ap1 ?_ | refine iR_ap2 ?_ | refine iR_ap2N ?_ | refine iR_apA ?_ | refine iR_kst ?_ | refine iR_aNil ?_ | refine iR_aCons ?_ | refine iR_asB ?_ | refine iR_truR ?_ | refine iR_andT ?_ | refine iR_orT ?_ | refine iR_notT ?_ | refine iR_andV ?_ | refine iR_orV ?_ | refine iR_notV ?_ | refine iR_ifE ?_ | refine iR_asI ?_ | refine iS_sub ?_ | refine iS_retO ?_ | refine iR_mtF ?_ | refine iR_cNil ?_ | refine iR_cVal ?_ | refine iR_call ?_ | refine iR_readV ?_ | refine iR_readN ?_ | refine iR_writeN ?_ | refine iR_writeC ?_ | refine iR_asR1 ?_ | refine iR_asR2 ?_ | refine iR_bind ?_ | refine iR_lc ?_ | refine iR_slN ?_ | refine iR_oSome ?_ | refine iR_oNone ?_ | refine iR_lRg2 ?_ | refine iR_eqi ?_ | refine iR_nei ?_ | refine iR_eqs ?_ | refine iR_nes ?_ | refine iR_eqb ?_ | refine iR_neb ?_) | ((with_reducible first | refine eR_getV ?_ | refine eR_getCv ?_ | refine eR_ownL ?_ | refine eR_cOwn ?_ | refine eR_readO ?_ | refine eS_frz ?_ | refine eR_cellO ?_ | refine eR_of (r := gT _ _ _ _) ?_ | refine eR_of (r := gN _ _ _) ?_ | refine eR_of (r := dAddA _ _) ?_ | refine eR_of (r := dSub _ _) ?_ | refine eR_of (r := dLt _ _) ?_ | refine eR_of (r := dLe _ _) ?_ | refine eR_of (r := dGt _ _) ?_ | refine eR_of (r := dGe _ _) ?_ | refine eR_of (r := dIsN _ _) ?_ | refine eR_of (r := dNotN _ _) ?_ | refine eR_of (r := dIx _ _) ?_ | refine eR_of (r := dNeg _) ?_ | refine eR_of (r := dLen _) ?_ | refine eR_of (r := dList _) ?_ | refine eR_of (r := dTuple _) ?_ | refine eR_of (r := dRev _) ?_ | refine eR_of (r := dInt1 _) ?_ | refine eR_of (r := boolR _) ?_ | refine eR_of (r := intR _) ?_ | refine eR_of (r := itemsR _) ?_ | refine eR_of (r := truD _) ?_ | refine eR_of (r := dMax2 _) ?_ | refine eR_of (r := dMin2 _) ?_ | refine eR_of (r := slD _ _ _) ?_ | refine eR_of (r := mkT _) ?_ | refine eR_of (r := mkL _) ?_ | refine eR_of (r := endR _ _ _ _) ?_ | refine eR_of (r := lRg _ _) ?_ | refine eR_of (r := optB _) ?_ | refine eR_of (r := optR _) ?_); refine ⟨_, rfl, ?_⟩) | ((with_reducible first | refine eR_getCo ?_ | refine eS_frz' ?_); refine ⟨_, rfl, ?_⟩) | ((with_reducible first | refine iR_rng1 ?hh_ ?_ | refine iR_rng2 ?hh_ ?_ | refine iR_dMul ?hh_ ?_ | refine iR_dDiv ?hh_ ?_ | refine iR_dMod ?hh_ ?_ | refine iR_dPow ?hh_ ?_ | refine iR_dAddl ?hh_ ?_ | refine iR_dAdds ?hh_ ?_ | refine iR_dCat ?hh_ ?_ | refine iR_app ?hh_ ?_); (case hh_ => first | omega | decide)) | ((with_reducible first | refine iR_isi_t ?hh_ ?_ | refine if_ct ?hh_ ?_); (case hh_ => exact rfl)) | ((with_reducible first | refine iR_isi_f ?hh_ ?_ | refine if_cf ?hh_ ?_); (case hh_ => exact rfl)) | ((with_reducible refine iR_guard ?hh_ ?_); (case hh_ => first | decide | omega)) | (with_reducible refine iR_okk ?_) | ((with_reducible refine And.intro ?hh_ ?_); (case hh_ => first | decide | exact List.nodup_singleton _ | exact rfl | (simp only [List.length_cons, List.length_nil]; decide) | (intro z; cases z) | omega | (intro _; rfl)))); try dsimp only [List.set_cons_zero, List.set_cons_succ, ownIx, wipeE, restore, List.nil_append, List.cons_append])
  refine iD_of (valueAt_ok (Or.inl (by omega))) ?_
  repeat ((first | (with_reducible first | refine iR_yesT ?_ | refine iR_lcNil ?_ | refine iR_lcCons ?_ | refine if_t ?_ | refine if_f ?_ | refine iS_seq ?_ | refine iS_set ?_ | refine iS_own ?_ | refine iS_drop ?_ | refine iS_ret ?_ | refine iS_retF ?_ | refine iS_next ?_ | refine iS_if ?_ | refine iS_asg ?_ | refine iS_for0 ?_ | refine iR_ap1 ?_ | refine iR_ap2 ?_ | refine iR_ap2N ?_ | refine iR_apA ?_ | refine iR_kst ?_ | refine iR_aNil ?_ | refine iR_aCons ?_ | refine iR_asB ?_ | refine iR_truR ?_ | refine iR_andT ?_ | refine iR_orT ?_ | refine iR_notT ?_ | refine iR_andV ?_ | refine iR_orV ?_ | refine iR_notV ?_ | refine iR_ifE ?_ | refine iR_asI ?_ | refine iS_sub ?_ | refine iS_retO ?_ | refine iR_mtF ?_ | refine iR_cNil ?_ | refine iR_cVal ?_ | refine iR_call ?_ | refine iR_readV ?_ | refine iR_readN ?_ | refine iR_writeN ?_ | refine iR_writeC ?_ | refine iR_asR1 ?_ | refine iR_asR2 ?_ | refine iR_bind ?_ | refine iR_lc ?_ | refine iR_slN ?_ | refine iR_oSome ?_ | refine iR_oNone ?_ | refine iR_lRg2 ?_ | refine iR_eqi ?_ | refine iR_nei ?_ | refine iR_eqs ?_ | refine iR_nes ?_ | refine iR_eqb ?_ | refine iR_neb ?_) | ((with_reducible first | refine eR_getV ?_ | refine eR_getCv ?_ | refine eR_ownL ?_ | refine eR_cOwn ?_ | refine eR_readO ?_ | refine eS_frz ?_ | refine eR_cellO ?_ | refine eR_of (r := gT _ _ _ _) ?_ | refine eR_of (r := gN _ _ _) ?_ | refine eR_of (r := dAddA _ _) ?_ | refine eR_of (r := dSub _ _) ?_ | refine eR_of (r := dLt _ _) ?_ | refine eR_of (r := dLe _ _) ?_ | refine eR_of (r := dGt _ _) ?_ | refine eR_of (r := dGe _ _) ?_ | refine eR_of (r := dIsN _ _) ?_ | refine eR_of (r := dNotN _ _) ?_ | refine eR_of (r := dIx _ _) ?_ | refine eR_of (r := dNeg _) ?_ | refine eR_of (r := dLen _) ?_ | refine eR_of (r := dList _) ?_ | refine eR_of (r := dTuple _) ?_ | refine eR_of (r := dRev _) ?_ | refine eR_of (r := dInt1 _) ?_ | refine eR_of (r := boolR _) ?_ | refine eR_of (r := intR _) ?_ | refine eR_of (r := itemsR _) ?_ | refine eR_of (r := truD _) ?_ | refine eR_of (r := dMax2 _) ?_ | refine eR_of (r := dMin2 _) ?_ | refine eR_of (r := slD _ _ _) ?_ | refine eR_of (r := mkT _) ?_ | refine eR_of (r := mkL _) ?_ | refine eR_of (r := endR _ _ _ _) ?_ | refine eR_of (r := lRg _ _) ?_ | refine eR_of (r := optB _) ?_ | refine eR_of (r := optR _) ?_); refine ⟨_, rfl, ?_⟩) | ((with_reducible first | refine eR_getCo ?_ | refine eS_frz' ?_); refine ⟨_, rfl, ?_⟩) | ((with_reducible first | refine iR_rng1 ?hh_ ?_ | refine iR_rng2 ?hh_ ?_ | refine iR_dMul ?hh_ ?_ | refine iR_dDiv ?hh_ ?_ | refine iR_dMod ?hh_ ?_ | refine iR_dPow ?hh_ ?_ | refine iR_dAddl ?hh_ ?_ | refine iR_dAdds ?hh_ ?_ | refine iR_dCat ?hh_ ?_ | refine iR_app ?hh_ ?_); (case hh_ => first | omega | decide)) | ((with_reducible first | refine iR_isi_t ?hh_ ?_ | refine if_ct ?hh_ ?_); (case hh_ => exact rfl)) | ((with_reducible first | refine iR_isi_f ?hh_ ?_ | refine if_cf ?hh_ ?_); (case hh_ => exact rfl)) | ((with_reducible refine iR_guard ?hh_ ?_); (case hh_ => first | decide | omega)) | (with_reducible refine iR_okk ?_) | ((with_reducible refine And.intro ?hh_ ?_); (case hh_ => first | decide | exact List.nodup_singleton _ | exact rfl | (simp only [List.length_cons, List.length_nil]; decide) | (intro z; cases z) | omega | (intro _; rfl)))); try dsimp only [List.set_cons_zero, List.set_cons_succ, ownIx, wipeE, restore, List.nil_append, List.cons_append])
  refine iR_ixl (hat 0 (by omega)) ?_
  repeat ((first | (with_reducible first | refine iR_yesT ?_ | refine iR_lcNil ?_ | refine iR_lcCons ?_ | refine if_t ?_ | refine if_f ?_ | refine iS_seq ?_ | refine iS_set ?_ | refine iS_own ?_ | refine iS_drop ?_ | refine iS_ret ?_ | refine iS_retF ?_ | refine iS_next ?_ | refine iS_if ?_ | refine iS_asg ?_ | refine iS_for0 ?_ | refine iR_ap1 ?_ | refine iR_ap2 ?_ | refine iR_ap2N ?_ | refine iR_apA ?_ | refine iR_kst ?_ | refine iR_aNil ?_ | refine iR_aCons ?_ | refine iR_asB ?_ | refine iR_truR ?_ | refine iR_andT ?_ | refine iR_orT ?_ | refine iR_notT ?_ | refine iR_andV ?_ | refine iR_orV ?_ | refine iR_notV ?_ | refine iR_ifE ?_ | refine iR_asI ?_ | refine iS_sub ?_ | refine iS_retO ?_ | refine iR_mtF ?_ | refine iR_cNil ?_ | refine iR_cVal ?_ | refine iR_call ?_ | refine iR_readV ?_ | refine iR_readN ?_ | refine iR_writeN ?_ | refine iR_writeC ?_ | refine iR_asR1 ?_ | refine iR_asR2 ?_ | refine iR_bind ?_ | refine iR_lc ?_ | refine iR_slN ?_ | refine iR_oSome ?_ | refine iR_oNone ?_ | refine iR_lRg2 ?_ | refine iR_eqi ?_ | refine iR_nei ?_ | refine iR_eqs ?_ | refine iR_nes ?_ | refine iR_eqb ?_ | refine iR_neb ?_) | ((with_reducible first | refine eR_getV ?_ | refine eR_getCv ?_ | refine eR_ownL ?_ | refine eR_cOwn ?_ | refine eR_readO ?_ | refine eS_frz ?_ | refine eR_cellO ?_ | refine eR_of (r := gT _ _ _ _) ?_ | refine eR_of (r := gN _ _ _) ?_ | refine eR_of (r := dAddA _ _) ?_ | refine eR_of (r := dSub _ _) ?_ | refine eR_of (r := dLt _ _) ?_ | refine eR_of (r := dLe _ _) ?_ | refine eR_of (r := dGt _ _) ?_ | refine eR_of (r := dGe _ _) ?_ | refine eR_of (r := dIsN _ _) ?_ | refine eR_of (r := dNotN _ _) ?_ | refine eR_of (r := dIx _ _) ?_ | refine eR_of (r := dNeg _) ?_ | refine eR_of (r := dLen _) ?_ | refine eR_of (r := dList _) ?_ | refine eR_of (r := dTuple _) ?_ | refine eR_of (r := dRev _) ?_ | refine eR_of (r := dInt1 _) ?_ | refine eR_of (r := boolR _) ?_ | refine eR_of (r := intR _) ?_ | refine eR_of (r := itemsR _) ?_ | refine eR_of (r := truD _) ?_ | refine eR_of (r := dMax2 _) ?_ | refine eR_of (r := dMin2 _) ?_ | refine eR_of (r := slD _ _ _) ?_ | refine eR_of (r := mkT _) ?_ | refine eR_of (r := mkL _) ?_ | refine eR_of (r := endR _ _ _ _) ?_ | refine eR_of (r := lRg _ _) ?_ | refine eR_of (r := optB _) ?_ | refine eR_of (r := optR _) ?_); refine ⟨_, rfl, ?_⟩) | ((with_reducible first | refine eR_getCo ?_ | refine eS_frz' ?_); refine ⟨_, rfl, ?_⟩) | ((with_reducible first | refine iR_rng1 ?hh_ ?_ | refine iR_rng2 ?hh_ ?_ | refine iR_dMul ?hh_ ?_ | refine iR_dDiv ?hh_ ?_ | refine iR_dMod ?hh_ ?_ | refine iR_dPow ?hh_ ?_ | refine iR_dAddl ?hh_ ?_ | refine iR_dAdds ?hh_ ?_ | refine iR_dCat ?hh_ ?_ | refine iR_app ?hh_ ?_); (case hh_ => first | omega | decide)) | ((with_reducible first | refine iR_isi_t ?hh_ ?_ | refine if_ct ?hh_ ?_); (case hh_ => exact rfl)) | ((with_reducible first | refine iR_isi_f ?hh_ ?_ | refine if_cf ?hh_ ?_); (case hh_ => exact rfl)) | ((with_reducible refine iR_guard ?hh_ ?_); (case hh_ => first | decide | omega)) | (with_reducible refine iR_okk ?_) | ((with_reducible refine And.intro ?hh_ ?_); (case hh_ => first | decide | exact List.nodup_singleton _ | exact rfl | (simp only [List.length_cons, List.length_nil]; decide) | (intro z; cases z) | omega | (intro _; rfl)))); try dsimp only [List.set_cons_zero, List.set_cons_succ, ownIx, wipeE, restore, List.nil_append, List.cons_append])
  rw [show i + ((0 : Nat) : Int) = i by omega]
  refine iD_of (same_self (n := 3 + 1) (d := .int _) trivial) ?_
  repeat ((first | (with_reducible first | refine iR_yesT ?_ | refine iR_lcNil ?_ | refine iR_lcCons ?_ | refine if_t ?_ | refine if_f ?_ | refine iS_seq ?_ | refine iS_set ?_ | refine iS_own ?_ | refine iS_drop ?_ | refine iS_ret ?_ | refine iS_retF ?_ | refine iS_next ?_ | refine iS_if ?_ | refine iS_asg ?_ | refine iS_for0 ?_ | refine iR_ap1 ?_ | refine iR_ap2 ?_ | refine iR_ap2N ?_ | refine iR_apA ?_ | refine iR_kst ?_ | refine iR_aNil ?_ | refine iR_aCons ?_ | refine iR_asB ?_ | refine iR_truR ?_ | refine iR_andT ?_ | refine iR_orT ?_ | refine iR_notT ?_ | refine iR_andV ?_ | refine iR_orV ?_ | refine iR_notV ?_ | refine iR_ifE ?_ | refine iR_asI ?_ | refine iS_sub ?_ | refine iS_retO ?_ | refine iR_mtF ?_ | refine iR_cNil ?_ | refine iR_cVal ?_ | refine iR_call ?_ | refine iR_readV ?_ | refine iR_readN ?_ | refine iR_writeN ?_ | refine iR_writeC ?_ | refine iR_asR1 ?_ | refine iR_asR2 ?_ | refine iR_bind ?_ | refine iR_lc ?_ | refine iR_slN ?_ | refine iR_oSome ?_ | refine iR_oNone ?_ | refine iR_lRg2 ?_ | refine iR_eqi ?_ | refine iR_nei ?_ | refine iR_eqs ?_ | refine iR_nes ?_ | refine iR_eqb ?_ | refine iR_neb ?_) | ((with_reducible first | refine eR_getV ?_ | refine eR_getCv ?_ | refine eR_ownL ?_ | refine eR_cOwn ?_ | refine eR_readO ?_ | refine eS_frz ?_ | refine eR_cellO ?_ | refine eR_of (r := gT _ _ _ _) ?_ | refine eR_of (r := gN _ _ _) ?_ | refine eR_of (r := dAddA _ _) ?_ | refine eR_of (r := dSub _ _) ?_ | refine eR_of (r := dLt _ _) ?_ | refine eR_of (r := dLe _ _) ?_ | refine eR_of (r := dGt _ _) ?_ | refine eR_of (r := dGe _ _) ?_ | refine eR_of (r := dIsN _ _) ?_ | refine eR_of (r := dNotN _ _) ?_ | refine eR_of (r := dIx _ _) ?_ | refine eR_of (r := dNeg _) ?_ | refine eR_of (r := dLen _) ?_ | refine eR_of (r := dList _) ?_ | refine eR_of (r := dTuple _) ?_ | refine eR_of (r := dRev _) ?_ | refine eR_of (r := dInt1 _) ?_ | refine eR_of (r := boolR _) ?_ | refine eR_of (r := intR _) ?_ | refine eR_of (r := itemsR _) ?_ | refine eR_of (r := truD _) ?_ | refine eR_of (r := dMax2 _) ?_ | refine eR_of (r := dMin2 _) ?_ | refine eR_of (r := slD _ _ _) ?_ | refine eR_of (r := mkT _) ?_ | refine eR_of (r := mkL _) ?_ | refine eR_of (r := endR _ _ _ _) ?_ | refine eR_of (r := lRg _ _) ?_ | refine eR_of (r := optB _) ?_ | refine eR_of (r := optR _) ?_); refine ⟨_, rfl, ?_⟩) | ((with_reducible first | refine eR_getCo ?_ | refine eS_frz' ?_); refine ⟨_, rfl, ?_⟩) | ((with_reducible first | refine iR_rng1 ?hh_ ?_ | refine iR_rng2 ?hh_ ?_ | refine iR_dMul ?hh_ ?_ | refine iR_dDiv ?hh_ ?_ | refine iR_dMod ?hh_ ?_ | refine iR_dPow ?hh_ ?_ | refine iR_dAddl ?hh_ ?_ | refine iR_dAdds ?hh_ ?_ | refine iR_dCat ?hh_ ?_ | refine iR_app ?hh_ ?_); (case hh_ => first | omega | decide)) | ((with_reducible first | refine iR_isi_t ?hh_ ?_ | refine if_ct ?hh_ ?_); (case hh_ => exact rfl)) | ((with_reducible first | refine iR_isi_f ?hh_ ?_ | refine if_cf ?hh_ ?_); (case hh_ => exact rfl)) | ((with_reducible refine iR_guard ?hh_ ?_); (case hh_ => first | decide | omega)) | (with_reducible refine iR_okk ?_) | ((with_reducible refine And.intro ?hh_ ?_); (case hh_ => first | decide | exact List.nodup_singleton _ | exact rfl | (simp only [List.length_cons, List.length_nil]; decide) | (intro z; cases z) | omega | (intro _; rfl)))); try dsimp only [List.set_cons_zero, List.set_cons_succ, ownIx, wipeE, restore, List.nil_append, List.cons_append])
  refine iD_of (bounds_ok (by omega) (by omega)) ?_
  obtain ⟨y, ys, hy⟩ : ∃ y ys, (rngI i (n + 1)).map (fun u => a * u + b) = y :: ys := by rw [rngI_succ]; exact ⟨_, _, rfl⟩
  obtain ⟨hmin, hmax⟩ := min_lin hy
  repeat ((first | (with_reducible first | refine iR_yesT ?_ | refine iR_lcNil ?_ | refine iR_lcCons ?_ | refine if_t ?_ | refine if_f ?_ | refine iS_seq ?_ | refine iS_set ?_ | refine iS_own ?_ | refine iS_drop ?_ | refine iS_ret ?_ | refine iS_retF ?_ | refine iS_next ?_ | refine iS_if ?_ | refine iS_asg ?_ | refine iS_for0 ?_ | refine iR_ap1 ?_ | refine iR_ap2 ?_ | refine iR_ap2N ?_ | refine iR_apA ?_ | refine iR_kst ?_ | refine iR_aNil ?_ | refine iR_aCons ?_ | refine iR_asB ?_ | refine iR_truR ?_ | refine iR_andT ?_ | refine iR_orT ?_ | refine iR_notT ?_ | refine iR_andV ?_ | refine iR_orV ?_ | refine iR_notV ?_ | refine iR_ifE ?_ | refine iR_asI ?_ | refine iS_sub ?_ | refine iS_retO ?_ | refine iR_mtF ?_ | refine iR_cNil ?_ | refine iR_cVal ?_ | refine iR_call ?_ | refine iR_readV ?_ | refine iR_readN ?_ | refine iR_writeN ?_ | refine iR_writeC ?_ | refine iR_asR1 ?_ | refine iR_asR2 ?_ | refine iR_bind ?_ | refine iR_lc ?_ | refine iR_slN ?_ | refine iR_oSome ?_ | refine iR_oNone ?_ | refine iR_lRg2 ?_ | refine iR_eqi ?_ | refine iR_nei ?_ | refine iR_eqs ?_ | refine iR_nes ?_ | refine iR_eqb ?_ | refine iR_neb ?_) | ((with_reducible first | refine eR_getV ?_ | refine eR_getCv ?_ | refine eR_ownL ?_ | refine eR_cOwn ?_ | refine eR_readO ?_ | refine eS_frz ?_ | refine eR_cellO ?_ | refine eR_of (r := gT _ _ _ _) ?_ | refine eR_of (r := gN _ _ _) ?_ | refine eR_of (r := dAddA _ _) ?_ | refine eR_of (r := dSub _ _) ?_ | refine eR_of (r := dLt _ _) ?_ | refine eR_of (r := dLe _ _) ?_ | refine eR_of (r := dGt _ _) ?_ | refine eR_of (r := dGe _ _) ?_ | refine eR_of (r := dIsN _ _) ?_ | refine eR_of (r := dNotN _ _) ?_ | refine eR_of (r := dIx _ _) ?_ | refine eR_of (r := dNeg _) ?_ | refine eR_of (r := dLen _) ?_ | refine eR_of (r := dList _) ?_ | refine eR_of (r := dTuple _) ?_ | refine eR_of (r := dRev _) ?_ | refine eR_of (r := dInt1 _) ?_ | refine eR_of (r := boolR _) ?_ | refine eR_of (r := intR _) ?_ | refine eR_of (r := itemsR _) ?_ | refine eR_of (r := truD _) ?_ | refine eR_of (r := dMax2 _) ?_ | refine eR_of (r := dMin2 _) ?_ | refine eR_of (r := slD _ _ _) ?_ | refine eR_of (r := mkT _) ?_ | refine eR_of (r := mkL _) ?_ | refine eR_of (r := endR _ _ _ _) ?_ | refine eR_of (r := lRg _ _) ?_ | refine eR_of (r := optB _) ?_ | refine eR_of (r := optR _) ?_); refine ⟨_, rfl, ?_⟩) | ((with_reducible first | refine eR_getCo ?_ | refine eS_frz' ?_); refine ⟨_, rfl, ?_⟩) | ((with_reducible first | refine iR_rng1 ?hh_ ?_ | refine iR_rng2 ?hh_ ?_ | refine iR_dMul ?hh_ ?_ | refine iR_dDiv ?hh_ ?_ | refine iR_dMod ?hh_ ?_ | refine iR_dPow ?hh_ ?_ | refine iR_dAddl ?hh_ ?_ | refine iR_dAdds ?hh_ ?_ | refine iR_dCat ?hh_ ?_ | refine iR_app ?hh_ ?_); (case hh_ => first | omega | decide)) | ((with_reducible first | refine iR_isi_t ?hh_ ?_ | refine if_ct ?hh_ ?_); (case hh_ => exact rfl)) | ((with_reducible first | refine iR_isi_f ?hh_ ?_ | refine if_cf ?hh_ ?_); (case hh_ => exact rfl)) | ((with_reducible refine iR_guard ?hh_ ?_); (case hh_ => first | decide | omega)) | (with_reducible refine iR_okk ?_) | ((with_reducible refine And.intro ?hh_ ?_); (case hh_ => first | decide | exact List.nodup_singleton _ | exact rfl | (simp only [List.length_cons, List.length_nil]; decide) | (intro z; cases z) | omega | (intro _; rfl)))); try dsimp only [List.set_cons_zero, List.set_cons_succ, ownIx, wipeE, restore, List.nil_append, List.cons_append])
  refine iR_minL (n := y) (ns := ys) (by rw [hy]) ?_
  repeat ((first | (with_reducible first | refine iR_yesT ?_ | refine iR_lcNil ?_ | refine iR_lcCons ?_ | refine if_t ?_ | refine if_f ?_ | refine iS_seq ?_ | refine iS_set ?_ | refine iS_own ?_ | refine iS_drop ?_ | refine iS_ret ?_ | refine iS_retF ?_ | refine iS_next ?_ | refine iS_if ?_ | refine iS_asg ?_ | refine iS_for0 ?_ | refine iR_ap1 ?_ | refine iR_ap2 ?_ | refine iR_ap2N ?_ | refine iR_apA ?_ | refine iR_kst ?_ | refine iR_aNil ?_ | refine iR_aCons ?_ | refine iR_asB ?_ | refine iR_truR ?_ | refine iR_andT ?_ | refine iR_orT ?_ | refine iR_notT ?_ | refine iR_andV ?_ | refine iR_orV ?_ | refine iR_notV ?_ | refine iR_ifE ?_ | refine iR_asI ?_ | refine iS_sub ?_ | refine iS_retO ?_ | refine iR_mtF ?_ | refine iR_cNil ?_ | refine iR_cVal ?_ | refine iR_call ?_ | refine iR_readV ?_ | refine iR_readN ?_ | refine iR_writeN ?_ | refine iR_writeC ?_ | refine iR_asR1 ?_ | refine iR_asR2 ?_ | refine iR_bind ?_ | refine iR_lc ?_ | refine iR_slN ?_ | refine iR_oSome ?_ | refine iR_oNone ?_ | refine iR_lRg2 ?_ | refine iR_eqi ?_ | refine iR_nei ?_ | refine iR_eqs ?_ | refine iR_nes ?_ | refine iR_eqb ?_ | refine iR_neb ?_) | ((with_reducible first | refine eR_getV ?_ | refine eR_getCv ?_ | refine eR_ownL ?_ | refine eR_cOwn ?_ | refine eR_readO ?_ | refine eS_frz ?_ | refine eR_cellO ?_ | refine eR_of (r := gT _ _ _ _) ?_ | refine eR_of (r := gN _ _ _) ?_ | refine eR_of (r := dAddA _ _) ?_ | refine eR_of (r := dSub _ _) ?_ | refine eR_of (r := dLt _ _) ?_ | refine eR_of (r := dLe _ _) ?_ | refine eR_of (r := dGt _ _) ?_ | refine eR_of (r := dGe _ _) ?_ | refine eR_of (r := dIsN _ _) ?_ | refine eR_of (r := dNotN _ _) ?_ | refine eR_of (r := dIx _ _) ?_ | refine eR_of (r := dNeg _) ?_ | refine eR_of (r := dLen _) ?_ | refine eR_of (r := dList _) ?_ | refine eR_of (r := dTuple _) ?_ | refine eR_of (r := dRev _) ?_ | refine eR_of (r := dInt1 _) ?_ | refine eR_of (r := boolR _) ?_ | refine eR_of (r := intR _) ?_ | refine eR_of (r := itemsR _) ?_ | refine eR_of (r := truD _) ?_ | refine eR_of (r := dMax2 _) ?_ | refine eR_of (r := dMin2 _) ?_ | refine eR_of (r := slD _ _ _) ?_ | refine eR_of (r := mkT _) ?_ | refine eR_of (r := mkL _) ?_ | refine eR_of (r := endR _ _ _ _) ?_ | refine eR_of (r := lRg _ _) ?_ | refine eR_of (r := optB _) ?_ | refine eR_of (r := optR _) ?_); refine ⟨_, rfl, ?_⟩) | ((with_reducible first | refine eR_getCo ?_ | refine eS_frz' ?_); refine ⟨_, rfl, ?_⟩) | ((with_reducible first | refine iR_rng1 ?hh_ ?_ | refine iR_rng2 ?hh_ ?_ | refine iR_dMul ?hh_ ?_ | refine iR_dDiv ?hh_ ?_ | refine iR_dMod ?hh_ ?_ | refine iR_dPow ?hh_ ?_ | refine iR_dAddl ?hh_ ?_ | refine iR_dAdds ?hh_ ?_ | refine iR_dCat ?hh_ ?_ | refine iR_app ?hh_ ?_); (case hh_ => first | omega | decide)) | ((with_reducible first | refine iR_isi_t ?hh_ ?_ | refine if_ct ?hh_ ?_); (case hh_ => exact rfl)) | ((with_reducible first | refine iR_isi_f ?hh_ ?_ | refine if_cf ?hh_ ?_); (case hh_ => exact rfl)) | ((with_reducible refine iR_guard ?hh_ ?_); (case hh_ => first | decide | omega)) | (with_reducible refine iR_okk ?_) | ((with_reducible refine And.intro ?hh_ ?_); (case hh_ => first | decide | exact List.nodup_singleton _ | exact rfl | (simp only [List.length_cons, List.length_nil]; decide) | (intro z; cases z) | omega | (intro _; rfl)))); try dsimp only [List.set_cons_zero, List.set_cons_succ, ownIx, wipeE, restore, List.nil_append, List.cons_append])
  refine iR_maxL (n := y) (ns := ys) (by rw [hy]) ?_
  repeat ((first | (with_reducible first | refine iR_yesT ?_ | refine iR_lcNil ?_ | refine iR_lcCons ?_ | refine if_t ?_ | refine if_f ?_ | refine iS_seq ?_ | refine iS_set ?_ | refine iS_own ?_ | refine iS_drop ?_ | refine iS_ret ?_ | refine iS_retF ?_ | refine iS_next ?_ | refine iS_if ?_ | refine iS_asg ?_ | refine iS_for0 ?_ | refine iR_ap1 ?_ | refine iR_ap2 ?_ | refine iR_ap2N ?_ | refine iR_apA ?_ | refine iR_kst ?_ | refine iR_aNil ?_ | refine iR_aCons ?_ | refine iR_asB ?_ | refine iR_truR ?_ | refine iR_andT ?_ | refine iR_orT ?_ | refine iR_notT ?_ | refine iR_andV ?_ | refine iR_orV ?_ | refine iR_notV ?_ | refine iR_ifE ?_ | refine iR_asI ?_ | refine iS_sub ?_ | refine iS_retO ?_ | refine iR_mtF ?_ | refine iR_cNil ?_ | refine iR_cVal ?_ | refine iR_call ?_ | refine iR_readV ?_ | refine iR_readN ?_ | refine iR_writeN ?_ | refine iR_writeC ?_ | refine iR_asR1 ?_ | refine iR_asR2 ?_ | refine iR_bind ?_ | refine iR_lc ?_ | refine iR_slN ?_ | refine iR_oSome ?_ | refine iR_oNone ?_ | refine iR_lRg2 ?_ | refine iR_eqi ?_ | refine iR_nei ?_ | refine iR_eqs ?_ | refine iR_nes ?_ | refine iR_eqb ?_ | refine iR_neb ?_) | ((with_reducible first | refine eR_getV ?_ | refine eR_getCv ?_ | refine eR_ownL ?_ | refine eR_cOwn ?_ | refine eR_readO ?_ | refine eS_frz ?_ | refine eR_cellO ?_ | refine eR_of (r := gT _ _ _ _) ?_ | refine eR_of (r := gN _ _ _) ?_ | refine eR_of (r := dAddA _ _) ?_ | refine eR_of (r := dSub _ _) ?_ | refine eR_of (r := dLt _ _) ?_ | refine eR_of (r := dLe _ _) ?_ | refine eR_of (r := dGt _ _) ?_ | refine eR_of (r := dGe _ _) ?_ | refine eR_of (r := dIsN _ _) ?_ | refine eR_of (r := dNotN _ _) ?_ | refine eR_of (r := dIx _ _) ?_ | refine eR_of (r := dNeg _) ?_ | refine eR_of (r := dLen _) ?_ | refine eR_of (r := dList _) ?_ | refine eR_of (r := dTuple _) ?_ | refine eR_of (r := dRev _) ?_ | refine eR_of (r := dInt1 _) ?_ | refine eR_of (r := boolR _) ?_ | refine eR_of (r := intR _) ?_ | refine eR_of (r := itemsR _) ?_ | refine eR_of (r := truD _) ?_ | refine eR_of (r := dMax2 _) ?_ | refine eR_of (r := dMin2 _) ?_ | refine eR_of (r := slD _ _ _) ?_ | refine eR_of (r := mkT _) ?_ | refine eR_of (r := mkL _) ?_ | refine eR_of (r := endR _ _ _ _) ?_ | refine eR_of (r := lRg _ _) ?_ | refine eR_of (r := optB _) ?_ | refine eR_of (r := optR _) ?_); refine ⟨_, rfl, ?_⟩) | ((with_reducible first | refine eR_getCo ?_ | refine eS_frz' ?_); refine ⟨_, rfl, ?_⟩) | ((with_reducible first | refine iR_rng1 ?hh_ ?_ | refine iR_rng2 ?hh_ ?_ | refine iR_dMul ?hh_ ?_ | refine iR_dDiv ?hh_ ?_ | refine iR_dMod ?hh_ ?_ | refine iR_dPow ?hh_ ?_ | refine iR_dAddl ?hh_ ?_ | refine iR_dAdds ?hh_ ?_ | refine iR_dCat ?hh_ ?_ | refine iR_app ?hh_ ?_); (case hh_ => first | omega | decide)) | ((with_reducible first | refine iR_isi_t ?hh_ ?_ | refine if_ct ?hh_ ?_); (case hh_ => exact rfl)) | ((with_reducible first | refine iR_isi_f ?hh_ ?_ | refine if_cf ?hh_ ?_); (case hh_ => exact rfl)) | ((with_reducible refine iR_guard ?hh_ ?_); (case hh_ => first | decide | omega)) | (with_reducible refine iR_okk ?_) | ((with_reducible refine And.intro ?hh_ ?_); (case hh_ => first | decide | exact List.nodup_singleton _ | exact rfl | (simp only [List.length_cons, List.length_nil]; decide) | (intro z; cases z) | omega | (intro _; rfl)))); try dsimp only [List.set_cons_zero, List.set_cons_succ, ownIx, wipeE, restore, List.nil_append, List.cons_append])
  rw [hmin, hmax]
  generalize min (a * i + b) (a * (i + (n : Int)) + b) = m1
  generalize max (a * i + b) (a * (i + (n : Int)) + b) = m2
  rw [show RLSame 4 [PyData.tuple [PyData.int m1, PyData.int m2], PyData.tuple [PyData.int m1, PyData.int m2]] = _ from same_self sameOk4]
  refine DL.iD_of rfl ?_
  clear hmin hmax hy
  repeat ((first | (with_reducible first | refine iR_yesT ?_ | refine iR_lcNil ?_ | refine iR_lcCons ?_ | refine if_t ?_ | refine if_f ?_ | refine iS_seq ?_ | refine iS_set ?_ | refine iS_own ?_ | refine iS_drop ?_ | refine iS_ret ?_ | refine iS_retF ?_ | refine iS_next ?_ | refine iS_if ?_ | refine iS_asg ?_ | refine iS_for0 ?_ | refine iR_ap1 ?_ | refine iR_ap2 ?_ | refine iR_ap2N ?_ | refine iR_apA ?_ | refine iR_kst ?_ | refine iR_aNil ?_ | refine iR_aCons ?_ | refine iR_asB ?_ | refine iR_truR ?_ | refine iR_andT ?_ | refine iR_orT ?_ | refine iR_notT ?_ | refine iR_andV ?_ | refine iR_orV ?_ | refine iR_notV ?_ | refine iR_ifE ?_ | refine iR_asI ?_ | refine iS_sub ?_ | refine iS_retO ?_ | refine iR_mtF ?_ | refine iR_cNil ?_ | refine iR_cVal ?_ | refine iR_call ?_ | refine iR_readV ?_ | refine iR_readN ?_ | refine iR_writeN ?_ | refine iR_writeC ?_ | refine iR_asR1 ?_ | refine iR_asR2 ?_ | refine iR_bind ?_ | refine iR_lc ?_ | refine iR_slN ?_ | refine iR_oSome ?_ | refine iR_oNone ?_ | refine iR_lRg2 ?_ | refine iR_eqi ?_ | refine iR_nei ?_ | refine iR_eqs ?_ | refine iR_nes ?_ | refine iR_eqb ?_ | refine iR_neb ?_) | ((with_reducible first | refine eR_getV ?_ | refine eR_getCv ?_ | refine eR_ownL ?_ | refine eR_cOwn ?_ | refine eR_readO ?_ | refine eS_frz ?_ | refine eR_cellO ?_ | refine eR_of (r := gT _ _ _ _) ?_ | refine eR_of (r := gN _ _ _) ?_ | refine eR_of (r := dAddA _ _) ?_ | refine eR_of (r := dSub _ _) ?_ | refine eR_of (r := dLt _ _) ?_ | refine eR_of (r := dLe _ _) ?_ | refine eR_of (r := dGt _ _) ?_ | refine eR_of (r := dGe _ _) ?_ | refine eR_of (r := dIsN _ _) ?_ | refine eR_of (r := dNotN _ _) ?_ | refine eR_of (r := dIx _ _) ?_ | refine eR_of (r := dNeg _) ?_ | refine eR_of (r := dLen _) ?_ | refine eR_of (r := dList _) ?_ | refine eR_of (r := dTuple _) ?_ | refine eR_of (r := dRev _) ?_ | refine eR_of (r := dInt1 _) ?_ | refine eR_of (r := boolR _) ?_ | refine eR_of (r := intR _) ?_ | refine eR_of (r := itemsR _) ?_ | refine eR_of (r := truD _) ?_ | refine eR_of (r := dMax2 _) ?_ | refine eR_of (r := dMin2 _) ?_ | refine eR_of (r := slD _ _ _) ?_ | refine eR_of (r := mkT _) ?_ | refine eR_of (r := mkL _) ?_ | refine eR_of (r := endR _ _ _ _) ?_ | refine eR_of (r := lRg _ _) ?_ | refine eR_of (r := optB _) ?_ | refine eR_of (r := optR _) ?_); refine ⟨_, rfl, ?_⟩) | ((with_reducible first | refine eR_getCo ?_ | refine eS_frz' ?_); refine ⟨_, rfl, ?_⟩) | ((with_reducible first | refine iR_rng1 ?hh_ ?_ | refine iR_rng2 ?hh_ ?_ | refine iR_dMul ?hh_ ?_ | refine iR_dDiv ?hh_ ?_ | refine iR_dMod ?hh_ ?_ | refine iR_dPow ?hh_ ?_ | refine iR_dAddl ?hh_ ?_ | refine iR_dAdds ?hh_ ?_ | refine iR_dCat ?hh_ ?_ | refine iR_app ?hh_ ?_); (case hh_ => first | omega | decide)) | ((with_reducible first | refine iR_isi_t ?hh_ ?_ | refine if_ct ?hh_ ?_); (case hh_ => exact rfl)) | ((with_reducible first | refine iR_isi_f ?hh_ ?_ | refine if_cf ?hh_ ?_); (case hh_ => exact rfl)) | ((with_reducible refine iR_guard ?hh_ ?_); (case hh_ => first | decide | omega)) | (with_reducible refine iR_okk ?_) | ((with_reducible refine And.intro ?hh_ ?_); (case hh_ => first | decide | exact List.nodup_singleton _ | exact rfl | (simp only [List.length_cons, List.length_nil]; decide) | (intro z; cases z) | omega | (intro _; rfl)))); try dsimp only [List.set_cons_zero, List.set_cons_succ, ownIx, wipeE, restore, List.nil_append, List.cons_append])
  have hlen : (((rngI i (n + 1)).map (fun u => a * u + b)).map PyData.int).length = n + 1 := by rw [List.length_map, List.length_map, rngI_len]
  rw [hlen]
  repeat ((first | (with_reducible first | refine iR_yesT ?_ | refine iR_lcNil ?_ | refine iR_lcCons ?_ | refine if_t ?_ | refine if_f ?_ | refine iS_seq ?_ | refine iS_set ?_ | refine iS_own ?_ | refine iS_drop ?_ | refine iS_ret ?_ | refine iS_retF ?_ | refine iS_next ?_ | refine iS_if ?_ | refine iS_asg ?_ | refine iS_for0 ?_ | refine iR_ap1 ?_ | refine iR_ap2 ?_ | refine iR_ap2N ?_ | refine iR_apA ?_ | refine iR_kst ?_ | refine iR_aNil ?_ | refine iR_aCons ?_ | refine iR_asB ?_ | refine iR_truR ?_ | refine iR_andT ?_ | refine iR_orT ?_ | refine iR_notT ?_ | refine iR_andV ?_ | refine iR_orV ?_ | refine iR_notV ?_ | refine iR_ifE ?_ | refine iR_asI ?_ | refine iS_sub ?_ | refine iS_retO ?_ | refine iR_mtF ?_ | refine iR_cNil ?_ | refine iR_cVal ?_ | refine iR_call ?_ | refine iR_readV ?_ | refine iR_readN ?_ | refine iR_writeN ?_ | refine iR_writeC ?_ | refine iR_asR1 ?_ | refine iR_asR2 ?_ | refine iR_bind ?_ | refine iR_lc ?_ | refine iR_slN ?_ | refine iR_oSome ?_ | refine iR_oNone ?_ | refine iR_lRg2 ?_ | refine iR_eqi ?_ | refine iR_nei ?_ | refine iR_eqs ?_ | refine iR_nes ?_ | refine iR_eqb ?_ | refine iR_neb ?_) | ((with_reducible first | refine eR_getV ?_ | refine eR_getCv ?_ | refine eR_ownL ?_ | refine eR_cOwn ?_ | refine eR_readO ?_ | refine eS_frz ?_ | refine eR_cellO ?_ | refine eR_of (r := gT _ _ _ _) ?_ | refine eR_of (r := gN _ _ _) ?_ | refine eR_of (r := dAddA _ _) ?_ | refine eR_of (r := dSub _ _) ?_ | refine eR_of (r := dLt _ _) ?_ | refine eR_of (r := dLe _ _) ?_ | refine eR_of (r := dGt _ _) ?_ | refine eR_of (r := dGe _ _) ?_ | refine eR_of (r := dIsN _ _) ?_ | refine eR_of (r := dNotN _ _) ?_ | refine eR_of (r := dIx _ _) ?_ | refine eR_of (r := dNeg _) ?_ | refine eR_of (r := dLen _) ?_ | refine eR_of (r := dList _) ?_ | refine eR_of (r := dTuple _) ?_ | refine eR_of (r := dRev _) ?_ | refine eR_of (r := dInt1 _) ?_ | refine eR_of (r := boolR _) ?_ | refine eR_of (r := intR _) ?_ | refine eR_of (r := itemsR _) ?_ | refine eR_of (r := truD _) ?_ | refine eR_of (r := dMax2 _) ?_ | refine eR_of (r := dMin2 _) ?_ | refine eR_of (r := slD _ _ _) ?_ | refine eR_of (r := mkT _) ?_ | refine eR_of (r := mkL _) ?_ | refine eR_of (r := endR _ _ _ _) ?_ | refine eR_of (r := lRg _ _) ?_ | refine eR_of (r := optB _) ?_ | refine eR_of (r := optR _) ?_); refine ⟨_, rfl, ?_⟩) | ((with_reducible first | refine eR_getCo ?_ | refine eS_frz' ?_); refine ⟨_, rfl, ?_⟩) | ((with_reducible first | refine iR_rng1 ?hh_ ?_ | refine iR_rng2 ?hh_ ?_ | refine iR_dMul ?hh_ ?_ | refine iR_dDiv ?hh_ ?_ | refine iR_dMod ?hh_ ?_ | refine iR_dPow ?hh_ ?_ | refine iR_dAddl ?hh_ ?_ | refine iR_dAdds ?hh_ ?_ | refine iR_dCat ?hh_ ?_ | refine iR_app ?hh_ ?_); (case hh_ => first | omega | decide)) | ((with_reducible first | refine iR_isi_t ?hh_ ?_ | refine if_ct ?hh_ ?_); (case hh_ => exact rfl)) | ((with_reducible first | refine iR_isi_f ?hh_ ?_ | refine if_cf ?hh_ ?_); (case hh_ => exact rfl)) | ((with_reducible refine iR_guard ?hh_ ?_); (case hh_ => first | decide | omega)) | (with_reducible refine iR_okk ?_) | ((with_reducible refine And.intro ?hh_ ?_); (case hh_ => first | decide | exact List.nodup_singleton _ | exact rfl | (simp only [List.length_cons, List.length_nil]; decide) | (intro z; cases z) | omega | (intro _; rfl)))); try dsimp only [List.set_cons_zero, List.set_cons_succ, ownIx, wipeE, restore, List.nil_append, List.cons_append])
  rw [show (((n + 1 : Nat) : Int)).toNat = n + 1 by omega]
  refine iR_lcN (fun k acc e => acc = ((rngI i k).filter (fun u => decide (0 ≤ a * u + b))).map PyData.int ∧ e = [none, some (.own (.list dk)), some (.val (.int size)), some (.val (.tuple [.int a, .int b])), some (.val (.int i)), some (.val (.tuple [.int i, .int (i + (n : Int))])), some (.val (.list (((rngI i (n + 1)).map (fun u => a * u + b)).map PyData.int))), none, none, none, none, none, none, none, none, none, none, none]) ⟨rfl, rfl⟩ ?_ ?_
  · rintro k acc e hk ⟨rfl, rfl⟩
    repeat ((first | (with_reducible first | refine iR_yesT ?_ | refine iR_lcNil ?_ | refine iR_lcCons ?_ | refine if_t ?_ | refine if_f ?_ | refine iS_seq ?_ | refine iS_set ?_ | refine iS_own ?_ | refine iS_drop ?_ | refine iS_ret ?_ | refine iS_retF ?_ | refine iS_next ?_ | refine iS_if ?_ | refine iS_asg ?_ | refine iS_for0 ?_ | refine iR_ap1 ?_ | refine iR_ap2 ?_ | refine iR_ap2N ?_ | refine iR_apA ?_ | refine iR_kst ?_ | refine iR_aNil ?_ | refine iR_aCons ?_ | refine iR_asB ?_ | refine iR_truR ?_ | refine iR_andT ?_ | refine iR_orT ?_ | refine iR_notT ?_ | refine iR_andV ?_ | refine iR_orV ?_ | refine iR_notV ?_ | refine iR_ifE ?_ | refine iR_asI ?_ | refine iS_sub ?_ | refine iS_retO ?_ | refine iR_mtF ?_ | refine iR_cNil ?_ | refine iR_cVal ?_ | refine iR_call ?_ | refine iR_readV ?_ | refine iR_readN ?_ | refine iR_writeN ?_ | refine iR_writeC ?_ | refine iR_asR1 ?_ | refine iR_asR2 ?_ | refine iR_bind ?_ | refine iR_lc ?_ | refine iR_slN ?_ | refine iR_oSome ?_ | refine iR_oNone ?_ | refine iR_lRg2 ?_ | refine iR_eqi ?_ | refine iR_nei ?_ | refine iR_eqs ?_ | refine iR_nes ?_ | refine iR_eqb ?_ | refine iR_neb ?_) | ((with_reducible first | refine eR_getV ?_ | refine eR_getCv ?_ | refine eR_ownL ?_ | refine eR_cOwn ?_ | refine eR_readO ?_ | refine eS_frz ?_ | refine eR_cellO ?_ | refine eR_of (r := gT _ _ _ _) ?_ | refine eR_of (r := gN _ _ _) ?_ | refine eR_of (r := dAddA _ _) ?_ | refine eR_of (r := dSub _ _) ?_ | refine eR_of (r := dLt _ _) ?_ | refine eR_of (r := dLe _ _) ?_ | refine eR_of (r := dGt _ _) ?_ | refine eR_of (r := dGe _ _) ?_ | refine eR_of (r := dIsN _ _) ?_ | refine eR_of (r := dNotN _ _) ?_ | refine eR_of (r := dIx _ _) ?_ | refine eR_of (r := dNeg _) ?_ | refine eR_of (r := dLen _) ?_ | refine eR_of (r := dList _) ?_ | refine eR_of (r := dTuple _) ?_ | refine eR_of (r := dRev _) ?_ | refine eR_of (r := dInt1 _) ?_ | refine eR_of (r := boolR _) ?_ | refine eR_of (r := intR _) ?_ | refine eR_of (r := itemsR _) ?_ | refine eR_of (r := truD _) ?_ | refine eR_of (r := dMax2 _) ?_ | refine eR_of (r := dMin2 _) ?_ | refine eR_of (r := slD _ _ _) ?_ | refine eR_of (r := mkT _) ?_ | refine eR_of (r := mkL _) ?_ | refine eR_of (r := endR _ _ _ _) ?_ | refine eR_of (r := lRg _ _) ?_ | refine eR_of (r := optB _) ?_ | refine eR_of (r := optR _) ?_); refine ⟨_, rfl, ?_⟩) | ((with_reducible first | refine eR_getCo ?_ | refine eS_frz' ?_); refine ⟨_, rfl, ?_⟩) | ((with_reducible first | refine iR_rng1 ?hh_ ?_ | refine iR_rng2 ?hh_ ?_ | refine iR_dMul ?hh_ ?_ | refine iR_dDiv ?hh_ ?_ | refine iR_dMod ?hh_ ?_ | refine iR_dPow ?hh_ ?_ | refine iR_dAddl ?hh_ ?_ | refine iR_dAdds ?hh_ ?_ | refine iR_dCat ?hh_ ?_ | refine iR_app ?hh_ ?_); (case hh_ => first | omega | decide)) | ((with_reducible first | refine iR_isi_t ?hh_ ?_ | refine if_ct ?hh_ ?_); (case hh_ => exact rfl)) | ((with_reducible first | refine iR_isi_f ?hh_ ?_ | refine if_cf ?hh_ ?_); (case hh_ => exact rfl)) | ((with_reducible refine iR_guard ?hh_ ?_); (case hh_ => first | decide | omega)) | (with_reducible refine iR_okk ?_) | ((with_reducible refine And.intro ?hh_ ?_); (case hh_ => first | decide | exact List.nodup_singleton _ | exact rfl | (simp only [List.length_cons, List.length_nil]; decide) | (intro z; cases z) | omega | (intro _; rfl)))); try dsimp only [List.set_cons_zero, List.set_cons_succ, ownIx, wipeE, restore, List.nil_append, List.cons_append])
    refine iR_ixl (hat k hk) ?_
    repeat ((first | (with_reducible first | refine iR_yesT ?_ | refine iR_lcNil ?_ | refine iR_lcCons ?_ | refine if_t ?_ | refine if_f ?_ | refine iS_seq ?_ | refine iS_set ?_ | refine iS_own ?_ | refine iS_drop ?_ | refine iS_ret ?_ | refine iS_retF ?_ | refine iS_next ?_ | refine iS_if ?_ | refine iS_asg ?_ | refine iS_for0 ?_ | refine iR_ap1 ?_ | refine iR_ap2 ?_ | refine iR_ap2N ?_ | refine iR_apA ?_ | refine iR_kst ?_ | refine iR_aNil ?_ | refine iR_aCons ?_ | refine iR_asB ?_ | refine iR_truR ?_ | refine iR_andT ?_ | refine iR_orT ?_ | refine iR_notT ?_ | refine iR_andV ?_ | refine iR_orV ?_ | refine iR_notV ?_ | refine iR_ifE ?_ | refine iR_asI ?_ | refine iS_sub ?_ | refine iS_retO ?_ | refine iR_mtF ?_ | refine iR_cNil ?_ | refine iR_cVal ?_ | refine iR_call ?_ | refine iR_readV ?_ | refine iR_readN ?_ | refine iR_writeN ?_ | refine iR_writeC ?_ | refine iR_asR1 ?_ | refine iR_asR2 ?_ | refine iR_bind ?_ | refine iR_lc ?_ | refine iR_slN ?_ | refine iR_oSome ?_ | refine iR_oNone ?_ | refine iR_lRg2 ?_ | refine iR_eqi ?_ | refine iR_nei ?_ | refine iR_eqs ?_ | refine iR_nes ?_ | refine iR_eqb ?_ | refine iR_neb ?_) | ((with_reducible first | refine eR_getV ?_ | refine eR_getCv ?_ | refine eR_ownL ?_ | refine eR_cOwn ?_ | refine eR_readO ?_ | refine eS_frz ?_ | refine eR_cellO ?_ | refine eR_of (r := gT _ _ _ _) ?_ | refine eR_of (r := gN _ _ _) ?_ | refine eR_of (r := dAddA _ _) ?_ | refine eR_of (r := dSub _ _) ?_ | refine eR_of (r := dLt _ _) ?_ | refine eR_of (r := dLe _ _) ?_ | refine eR_of (r := dGt _ _) ?_ | refine eR_of (r := dGe _ _) ?_ | refine eR_of (r := dIsN _ _) ?_ | refine eR_of (r := dNotN _ _) ?_ | refine eR_of (r := dIx _ _) ?_ | refine eR_of (r := dNeg _) ?_ | refine eR_of (r := dLen _) ?_ | refine eR_of (r := dList _) ?_ | refine eR_of (r := dTuple _) ?_ | refine eR_of (r := dRev _) ?_ | refine eR_of (r := dInt1 _) ?_ | refine eR_of (r := boolR _) ?_ | refine eR_of (r := intR _) ?_ | refine eR_of (r := itemsR _) ?_ | refine eR_of (r := truD _) ?_ | refine eR_of (r := dMax2 _) ?_ | refine eR_of (r := dMin2 _) ?_ | refine eR_of (r := slD _ _ _) ?_ | refine eR_of (r := mkT _) ?_ | refine eR_of (r := mkL _) ?_ | refine eR_of (r := endR _ _ _ _) ?_ | refine eR_of (r := lRg _ _) ?_ | refine eR_of (r := optB _) ?_ | refine eR_of (r := optR _) ?_); refine ⟨_, rfl, ?_⟩) | ((with_reducible first | refine eR_getCo ?_ | refine eS_frz' ?_); refine ⟨_, rfl, ?_⟩) | ((with_reducible first | refine iR_rng1 ?hh_ ?_ | refine iR_rng2 ?hh_ ?_ | refine iR_dMul ?hh_ ?_ | refine iR_dDiv ?hh_ ?_ | refine iR_dMod ?hh_ ?_ | refine iR_dPow ?hh_ ?_ | refine iR_dAddl ?hh_ ?_ | refine iR_dAdds ?hh_ ?_ | refine iR_dCat ?hh_ ?_ | refine iR_app ?hh_ ?_); (case hh_ => first | omega | decide)) | ((with_reducible first | refine iR_isi_t ?hh_ ?_ | refine if_ct ?hh_ ?_); (case hh_ => exact rfl)) | ((with_reducible first | refine iR_isi_f ?hh_ ?_ | refine if_cf ?hh_ ?_); (case hh_ => exact rfl)) | ((with_reducible refine iR_guard ?hh_ ?_); (case hh_ => first | decide | omega)) | (with_reducible refine iR_okk ?_) | ((with_reducible refine And.intro ?hh_ ?_); (case hh_ => first | decide | exact List.nodup_singleton _ | exact rfl | (simp only [List.length_cons, List.length_nil]; decide) | (intro z; cases z) | omega | (intro _; rfl)))); try dsimp only [List.set_cons_zero, List.set_cons_succ, ownIx, wipeE, restore, List.nil_append, List.cons_append])
    have hfl : ((rngI i k).filter (fun u => decide (0 ≤ a * u + b))).length ≤ k := Nat.le_trans (List.length_filter_le _ _) (Nat.le_of_eq rngI_len)
    refine DL.ifd (fun h => ?_) (fun h => ?_)
    · repeat ((first | (with_reducible first | refine iR_yesT ?_ | refine iR_lcNil ?_ | refine iR_lcCons ?_ | refine if_t ?_ | refine if_f ?_ | refine iS_seq ?_ | refine iS_set ?_ | refine iS_own ?_ | refine iS_drop ?_ | refine iS_ret ?_ | refine iS_retF ?_ | refine iS_next ?_ | refine iS_if ?_ | refine iS_asg ?_ | refine iS_for0 ?_ | refine iR_ap1 ?_ | refine iR_ap2 ?_ | refine iR_ap2N ?_ | refine iR_apA ?_ | refine iR_kst ?_ | refine iR_aNil ?_ | refine iR_aCons ?_ | refine iR_asB ?_ | refine iR_truR ?_ | refine iR_andT ?_ | refine iR_orT ?_ | refine iR_notT ?_ | refine iR_andV ?_ | refine iR_orV ?_ | refine iR_notV ?_ | refine iR_ifE ?_ | refine iR_asI ?_ | refine iS_sub ?_ | refine iS_retO ?_ | refine iR_mtF ?_ | refine iR_cNil ?_ | refine iR_cVal ?_ | refine iR_call ?_ | refine iR_readV ?_ | refine iR_readN ?_ | refine iR_writeN ?_ | refine iR_writeC ?_ | refine iR_asR1 ?_ | refine iR_asR2 ?_ | refine iR_bind ?_ | refine iR_lc ?_ | refine iR_slN ?_ | refine iR_oSome ?_ | refine iR_oNone ?_ | refine iR_lRg2 ?_ | refine iR_eqi ?_ | refine iR_nei ?_ | refine iR_eqs ?_ | refine iR_nes ?_ | refine iR_eqb ?_ | refine iR_neb ?_) | ((with_reducible first | refine eR_getV ?_ | refine eR_getCv ?_ | refine eR_ownL ?_ | refine eR_cOwn ?_ | refine eR_readO ?_ | refine eS_frz ?_ | refine eR_cellO ?_ | refine eR_of (r := gT _ _ _ _) ?_ | refine eR_of (r := gN _ _ _) ?_ | refine eR_of (r := dAddA _ _) ?_ | refine eR_of (r := dSub _ _) ?_ | refine eR_of (r := dLt _ _) ?_ | refine eR_of (r := dLe _ _) ?_ | refine eR_of (r := dGt _ _) ?_ | refine eR_of (r := dGe _ _) ?_ | refine eR_of (r := dIsN _ _) ?_ | refine eR_of (r := dNotN _ _) ?_ | refine eR_of (r := dIx _ _) ?_ | refine eR_of (r := dNeg _) ?_ | refine eR_of (r := dLen _) ?_ | refine eR_of (r := dList _) ?_ | refine eR_of (r := dTuple _) ?_ | refine eR_of (r := dRev _) ?_ | refine eR_of (r := dInt1 _) ?_ | refine eR_of (r := boolR _) ?_ | refine eR_of (r := intR _) ?_ | refine eR_of (r := itemsR _) ?_ | refine eR_of (r := truD _) ?_ | refine eR_of (r := dMax2 _) ?_ | refine eR_of (r := dMin2 _) ?_ | refine eR_of (r := slD _ _ _) ?_ | refine eR_of (r := mkT _) ?_ | refine eR_of (r := mkL _) ?_ | refine eR_of (r := endR _ _ _ _) ?_ | refine eR_of (r := lRg _ _) ?_ | refine eR_of (r := optB _) ?_ | refine eR_of (r := optR _) ?_); refine ⟨_, rfl, ?_⟩) | ((with_reducible first | refine eR_getCo ?_ | refine eS_frz' ?_); refine ⟨_, rfl, ?_⟩) | ((with_reducible first | refine iR_rng1 ?hh_ ?_ | refine iR_rng2 ?hh_ ?_ | refine iR_dMul ?hh_ ?_ | refine iR_dDiv ?hh_ ?_ | refine iR_dMod ?hh_ ?_ | refine iR_dPow ?hh_ ?_ | refine iR_dAddl ?hh_ ?_ | refine iR_dAdds ?hh_ ?_ | refine iR_dCat ?hh_ ?_ | refine iR_app ?hh_ ?_); (case hh_ => first | omega | decide)) | ((with_reducible first | refine iR_isi_t ?hh_ ?_ | refine if_ct ?hh_ ?_); (case hh_ => exact rfl)) | ((with_reducible first | refine iR_isi_f ?hh_ ?_ | refine if_cf ?hh_ ?_); (case hh_ => exact rfl)) | ((with_reducible refine iR_guard ?hh_ ?_); (case hh_ => first | decide | omega)) | (with_reducible refine iR_okk ?_) | ((with_reducible refine And.intro ?hh_ ?_); (case hh_ => first | decide | exact List.nodup_singleton _ | exact rfl | (simp only [List.length_cons, List.length_nil]; decide) | (intro z; cases z) | omega | (intro _; rfl)))); try dsimp only [List.set_cons_zero, List.set_cons_succ, ownIx, wipeE, restore, List.nil_append, List.cons_append])
      refine ⟨by rw [List.length_map]; exact Nat.lt_of_lt_of_le (m := 64) (by omega) (by decide), ?_, rfl⟩
      rw [rngI_snoc, List.filter_append, List.map_append, List.filter_cons, if_pos (by simpa using h), List.filter_nil, Int.zero_add]; rfl
    · refine ⟨?_, rfl⟩
      rw [rngI_snoc, List.filter_append, List.map_append, List.filter_cons, if_neg (by simpa using h), List.filter_nil]; simp
  rintro acc e ⟨rfl, rfl⟩
  obtain ⟨hf, hpad⟩ := fit_pad (a := a) (b := b) (i := i) (n := n)
  rw [hf]
  repeat ((first | (with_reducible first | refine iR_yesT ?_ | refine iR_lcNil ?_ | refine iR_lcCons ?_ | refine if_t ?_ | refine if_f ?_ | refine iS_seq ?_ | refine iS_set ?_ | refine iS_own ?_ | refine iS_drop ?_ | refine iS_ret ?_ | refine iS_retF ?_ | refine iS_next ?_ | refine iS_if ?_ | refine iS_asg ?_ | refine iS_for0 ?_ | refine iR_ap1 ?_ | refine iR_ap2 ?_ | refine iR_ap2N ?_ | refine iR_apA ?_ | refine iR_kst ?_ | refine iR_aNil ?_ | refine iR_aCons ?_ | refine iR_asB ?_ | refine iR_truR ?_ | refine iR_andT ?_ | refine iR_orT ?_ | refine iR_notT ?_ | refine iR_andV ?_ | refine iR_orV ?_ | refine iR_notV ?_ | refine iR_ifE ?_ | refine iR_asI ?_ | refine iS_sub ?_ | refine iS_retO ?_ | refine iR_mtF ?_ | refine iR_cNil ?_ | refine iR_cVal ?_ | refine iR_call ?_ | refine iR_readV ?_ | refine iR_readN ?_ | refine iR_writeN ?_ | refine iR_writeC ?_ | refine iR_asR1 ?_ | refine iR_asR2 ?_ | refine iR_bind ?_ | refine iR_lc ?_ | refine iR_slN ?_ | refine iR_oSome ?_ | refine iR_oNone ?_ | refine iR_lRg2 ?_ | refine iR_eqi ?_ | refine iR_nei ?_ | refine iR_eqs ?_ | refine iR_nes ?_ | refine iR_eqb ?_ | refine iR_neb ?_) | ((with_reducible first | refine eR_getV ?_ | refine eR_getCv ?_ | refine eR_ownL ?_ | refine eR_cOwn ?_ | refine eR_readO ?_ | refine eS_frz ?_ | refine eR_cellO ?_ | refine eR_of (r := gT _ _ _ _) ?_ | refine eR_of (r := gN _ _ _) ?_ | refine eR_of (r := dAddA _ _) ?_ | refine eR_of (r := dSub _ _) ?_ | refine eR_of (r := dLt _ _) ?_ | refine eR_of (r := dLe _ _) ?_ | refine eR_of (r := dGt _ _) ?_ | refine eR_of (r := dGe _ _) ?_ | refine eR_of (r := dIsN _ _) ?_ | refine eR_of (r := dNotN _ _) ?_ | refine eR_of (r := dIx _ _) ?_ | refine eR_of (r := dNeg _) ?_ | refine eR_of (r := dLen _) ?_ | refine eR_of (r := dList _) ?_ | refine eR_of (r := dTuple _) ?_ | refine eR_of (r := dRev _) ?_ | refine eR_of (r := dInt1 _) ?_ | refine eR_of (r := boolR _) ?_ | refine eR_of (r := intR _) ?_ | refine eR_of (r := itemsR _) ?_ | refine eR_of (r := truD _) ?_ | refine eR_of (r := dMax2 _) ?_ | refine eR_of (r := dMin2 _) ?_ | refine eR_of (r := slD _ _ _) ?_ | refine eR_of (r := mkT _) ?_ | refine eR_of (r := mkL _) ?_ | refine eR_of (r := endR _ _ _ _) ?_ | refine eR_of (r := lRg _ _) ?_ | refine eR_of (r := optB _) ?_ | refine eR_of (r := optR _) ?_); refine ⟨_, rfl, ?_⟩) | ((with_reducible first | refine eR_getCo ?_ | refine eS_frz' ?_); refine ⟨_, rfl, ?_⟩) | ((with_reducible first | refine iR_rng1 ?hh_ ?_ | refine iR_rng2 ?hh_ ?_ | refine iR_dMul ?hh_ ?_ | refine iR_dDiv ?hh_ ?_ | refine iR_dMod ?hh_ ?_ | refine iR_dPow ?hh_ ?_ | refine iR_dAddl ?hh_ ?_ | refine iR_dAdds ?hh_ ?_ | refine iR_dCat ?hh_ ?_ | refine iR_app ?hh_ ?_); (case hh_ => first | omega | decide)) | ((with_reducible first | refine iR_isi_t ?hh_ ?_ | refine if_ct ?hh_ ?_); (case hh_ => exact rfl)) | ((with_reducible first | refine iR_isi_f ?hh_ ?_ | refine if_cf ?hh_ ?_); (case hh_ => exact rfl)) | ((with_reducible refine iR_guard ?hh_ ?_); (case hh_ => first | decide | omega)) | (with_reducible refine iR_okk ?_) | ((with_reducible refine And.intro ?hh_ ?_); (case hh_ => first | decide | exact List.nodup_singleton _ | exact rfl | (simp only [List.length_cons, List.length_nil]; decide) | (intro z; cases z) | omega | (intro _; rfl)))); try dsimp only [List.set_cons_zero, List.set_cons_succ, ownIx, wipeE, restore, List.nil_append, List.cons_append])
  refine iR_neA (okEq_of okD_ints (by decide)) (okEq_of (okD_list (k := 0) fun _ h => nomatch h) (by decide)) ?_
  rw [eqv_nil]
  refine ifcut (fun e => e = [none, some (.own (.list dk)), some (.val (.int size)), some (.val (.tuple [.int a, .int b])), some (.val (.int i)), some (.val (.tuple [.int i, .int (i + (n : Int))])), some (.val (.list (((rngI i (n + 1)).map (fun u => a * u + b)).map PyData.int))), none, some (.val (.list ((padR (pad a b i (i + n))).map PyData.int))), none, some (.val (padL (pad a b i (i + n)))), none, none, none, none, none, none, none]) (fun h => ?_) (fun h => ?_) ?_
  · cases hq : pad a b i (i + n) with
    | none => rw [hq] at h; cases h
    | some p =>
      have hpp := hpad p hq
      have e1 : atI ((padR (some p)).map PyData.int) 0 = some (.int p.1) := by
        show atI ((rngI p.1 (p.2 + 1 - p.1).toNat).map PyData.int) 0 = _
        rw [show (p.2 + 1 - p.1).toNat = (p.2 - p.1).toNat + 1 by omega, rngI_succ]
        exact atI_nat (j := 0) rfl
      have e2 : atI ((padR (some p)).map PyData.int) ((((padR (some p)).map PyData.int).length : Int) - 1) = some (.int p.2) := by
        show atI ((rngI p.1 (p.2 + 1 - p.1).toNat).map PyData.int) ((((rngI p.1 (p.2 + 1 - p.1).toNat).map PyData.int).length : Int) - 1) = _
        rw [show (p.2 + 1 - p.1).toNat = (p.2 - p.1).toNat + 1 by omega, rngI_snoc, List.map_append]
        rw [show [p.1 + ((p.2 - p.1).toNat : Int)].map PyData.int = [PyData.int p.2] by rw [show p.1 + ((p.2 - p.1).toNat : Int) = p.2 by omega]; rfl]
        exact atI_end (by simp; try omega)
      repeat ((first | (with_reducible first | refine iR_yesT ?_ | refine iR_lcNil ?_ | refine iR_lcCons ?_ | refine if_t ?_ | refine if_f ?_ | refine iS_seq ?_ | refine iS_set ?_ | refine iS_own ?_ | refine iS_drop ?_ | refine iS_ret ?_ | refine iS_retF ?_ | refine iS_next ?_ | refine iS_if ?_ | refine iS_asg ?_ | refine iS_for0 ?_ | refine iR_ap1 ?_ | refine iR_ap2 ?_ | refine iR_ap2N ?_ | refine iR_apA ?_ | refine iR_kst ?_ | refine iR_aNil ?_ | refine iR_aCons ?_ | refine iR_asB ?_ | refine iR_truR ?_ | refine iR_andT ?_ | refine iR_orT ?_ | refine iR_notT ?_ | refine iR_andV ?_ | refine iR_orV ?_ | refine iR_notV ?_ | refine iR_ifE ?_ | refine iR_asI ?_ | refine iS_sub ?_ | refine iS_retO ?_ | refine iR_mtF ?_ | refine iR_cNil ?_ | refine iR_cVal ?_ | refine iR_call ?_ | refine iR_readV ?_ | refine iR_readN ?_ | refine iR_writeN ?_ | refine iR_writeC ?_ | refine iR_asR1 ?_ | refine iR_asR2 ?_ | refine iR_bind ?_ | refine iR_lc ?_ | refine iR_slN ?_ | refine iR_oSome ?_ | refine iR_oNone ?_ | refine iR_lRg2 ?_ | refine iR_eqi ?_ | refine iR_nei ?_ | refine iR_eqs ?_ | refine iR_nes ?_ | refine iR_eqb ?_ | refine iR_neb ?_) | ((with_reducible first | refine eR_getV ?_ | refine eR_getCv ?_ | refine eR_ownL ?_ | refine eR_cOwn ?_ | refine eR_readO ?_ | refine eS_frz ?_ | refine eR_cellO ?_ | refine eR_of (r := gT _ _ _ _) ?_ | refine eR_of (r := gN _ _ _) ?_ | refine eR_of (r := dAddA _ _) ?_ | refine eR_of (r := dSub _ _) ?_ | refine eR_of (r := dLt _ _) ?_ | refine eR_of (r := dLe _ _) ?_ | refine eR_of (r := dGt _ _) ?_ | refine eR_of (r := dGe _ _) ?_ | refine eR_of (r := dIsN _ _) ?_ | refine eR_of (r := dNotN _ _) ?_ | refine eR_of (r := dIx _ _) ?_ | refine eR_of (r := dNeg _) ?_ | refine eR_of (r := dLen _) ?_ | refine eR_of (r := dList _) ?_ | refine eR_of (r := dTuple _) ?_ | refine eR_of (r := dRev _) ?_ | refine eR_of (r := dInt1 _) ?_ | refine eR_of (r := boolR _) ?_ | refine eR_of (r := intR _) ?_ | refine eR_of (r := itemsR _) ?_ | refine eR_of (r := truD _) ?_ | refine eR_of (r := dMax2 _) ?_ | refine eR_of (r := dMin2 _) ?_ | refine eR_of (r := slD _ _ _) ?_ | refine eR_of (r := mkT _) ?_ | refine eR_of (r := mkL _) ?_ | refine eR_of (r := endR _ _ _ _) ?_ | refine eR_of (r := lRg _ _) ?_ | refine eR_of (r := optB _) ?_ | refine eR_of (r := optR _) ?_); refine ⟨_, rfl, ?_⟩) | ((with_reducible first | refine eR_getCo ?_ | refine eS_frz' ?_); refine ⟨_, rfl, ?_⟩) | ((with_reducible first | refine iR_rng1 ?hh_ ?_ | refine iR_rng2 ?hh_ ?_ | refine iR_dMul ?hh_ ?_ | refine iR_dDiv ?hh_ ?_ | refine iR_dMod ?hh_ ?_ | refine iR_dPow ?hh_ ?_ | refine iR_dAddl ?hh_ ?_ | refine iR_dAdds ?hh_ ?_ | refine iR_dCat ?hh_ ?_ | refine iR_app ?hh_ ?_); (case hh_ => first | omega | decide)) | ((with_reducible first | refine iR_isi_t ?hh_ ?_ | refine if_ct ?hh_ ?_); (case hh_ => exact rfl)) | ((with_reducible first | refine iR_isi_f ?hh_ ?_ | refine if_cf ?hh_ ?_); (case hh_ => exact rfl)) | ((with_reducible refine iR_guard ?hh_ ?_); (case hh_ => first | decide | omega)) | (with_reducible refine iR_okk ?_) | ((with_reducible refine And.intro ?hh_ ?_); (case hh_ => first | decide | exact List.nodup_singleton _ | exact rfl | (simp only [List.length_cons, List.length_nil]; decide) | (intro z; cases z) | omega | (intro _; rfl)))); try dsimp only [List.set_cons_zero, List.set_cons_succ, ownIx, wipeE, restore, List.nil_append, List.cons_append])
      refine iR_ixl e1 ?_
      repeat ((first | (with_reducible first | refine iR_yesT ?_ | refine iR_lcNil ?_ | refine iR_lcCons ?_ | refine if_t ?_ | refine if_f ?_ | refine iS_seq ?_ | refine iS_set ?_ | refine iS_own ?_ | refine iS_drop ?_ | refine iS_ret ?_ | refine iS_retF ?_ | refine iS_next ?_ | refine iS_if ?_ | refine iS_asg ?_ | refine iS_for0 ?_ | refine iR_ap1 ?_ | refine iR_ap2 ?_ | refine iR_ap2N ?_ | refine iR_apA ?_ | refine iR_kst ?_ | refine iR_aNil ?_ | refine iR_aCons ?_ | refine iR_asB ?_ | refine iR_truR ?_ | refine iR_andT ?_ | refine iR_orT ?_ | refine iR_notT ?_ | refine iR_andV ?_ | refine iR_orV ?_ | refine iR_notV ?_ | refine iR_ifE ?_ | refine iR_asI ?_ | refine iS_sub ?_ | refine iS_retO ?_ | refine iR_mtF ?_ | refine iR_cNil ?_ | refine iR_cVal ?_ | refine iR_call ?_ | refine iR_readV ?_ | refine iR_readN ?_ | refine iR_writeN ?_ | refine iR_writeC ?_ | refine iR_asR1 ?_ | refine iR_asR2 ?_ | refine iR_bind ?_ | refine iR_lc ?_ | refine iR_slN ?_ | refine iR_oSome ?_ | refine iR_oNone ?_ | refine iR_lRg2 ?_ | refine iR_eqi ?_ | refine iR_nei ?_ | refine iR_eqs ?_ | refine iR_nes ?_ | refine iR_eqb ?_ | refine iR_neb ?_) | ((with_reducible first | refine eR_getV ?_ | refine eR_getCv ?_ | refine eR_ownL ?_ | refine eR_cOwn ?_ | refine eR_readO ?_ | refine eS_frz ?_ | refine eR_cellO ?_ | refine eR_of (r := gT _ _ _ _) ?_ | refine eR_of (r := gN _ _ _) ?_ | refine eR_of (r := dAddA _ _) ?_ | refine eR_of (r := dSub _ _) ?_ | refine eR_of (r := dLt _ _) ?_ | refine eR_of (r := dLe _ _) ?_ | refine eR_of (r := dGt _ _) ?_ | refine eR_of (r := dGe _ _) ?_ | refine eR_of (r := dIsN _ _) ?_ | refine eR_of (r := dNotN _ _) ?_ | refine eR_of (r := dIx _ _) ?_ | refine eR_of (r := dNeg _) ?_ | refine eR_of (r := dLen _) ?_ | refine eR_of (r := dList _) ?_ | refine eR_of (r := dTuple _) ?_ | refine eR_of (r := dRev _) ?_ | refine eR_of (r := dInt1 _) ?_ | refine eR_of (r := boolR _) ?_ | refine eR_of (r := intR _) ?_ | refine eR_of (r := itemsR _) ?_ | refine eR_of (r := truD _) ?_ | refine eR_of (r := dMax2 _) ?_ | refine eR_of (r := dMin2 _) ?_ | refine eR_of (r := slD _ _ _) ?_ | refine eR_of (r := mkT _) ?_ | refine eR_of (r := mkL _) ?_ | refine eR_of (r := endR _ _ _ _) ?_ | refine eR_of (r := lRg _ _) ?_ | refine eR_of (r := optB _) ?_ | refine eR_of (r := optR _) ?_); refine ⟨_, rfl, ?_⟩) | ((with_reducible first | refine eR_getCo ?_ | refine eS_frz' ?_); refine ⟨_, rfl, ?_⟩) | ((with_reducible first | refine iR_rng1 ?hh_ ?_ | refine iR_rng2 ?hh_ ?_ | refine iR_dMul ?hh_ ?_ | refine iR_dDiv ?hh_ ?_ | refine iR_dMod ?hh_ ?_ | refine iR_dPow ?hh_ ?_ | refine iR_dAddl ?hh_ ?_ | refine iR_dAdds ?hh_ ?_ | refine iR_dCat ?hh_ ?_ | refine iR_app ?hh_ ?_); (case hh_ => first | omega | decide)) | ((with_reducible first | refine iR_isi_t ?hh_ ?_ | refine if_ct ?hh_ ?_); (case hh_ => exact rfl)) | ((with_reducible first | refine iR_isi_f ?hh_ ?_ | refine if_cf ?hh_ ?_); (case hh_ => exact rfl)) | ((with_reducible refine iR_guard ?hh_ ?_); (case hh_ => first | decide | omega)) | (with_reducible refine iR_okk ?_) | ((with_reducible refine And.intro ?hh_ ?_); (case hh_ => first | decide | exact List.nodup_singleton _ | exact rfl | (simp only [List.length_cons, List.length_nil]; decide) | (intro z; cases z) | omega | (intro _; rfl)))); try dsimp only [List.set_cons_zero, List.set_cons_succ, ownIx, wipeE, restore, List.nil_append, List.cons_append])
      refine iR_ixl e2 ?_
      repeat ((first | (with_reducible first | refine iR_yesT ?_ | refine iR_lcNil ?_ | refine iR_lcCons ?_ | refine if_t ?_ | refine if_f ?_ | refine iS_seq ?_ | refine iS_set ?_ | refine iS_own ?_ | refine iS_drop ?_ | refine iS_ret ?_ | refine iS_retF ?_ | refine iS_next ?_ | refine iS_if ?_ | refine iS_asg ?_ | refine iS_for0 ?_ | refine iR_ap1 ?_ | refine iR_ap2 ?_ | refine iR_ap2N ?_ | refine iR_apA ?_ | refine iR_kst ?_ | refine iR_aNil ?_ | refine iR_aCons ?_ | refine iR_asB ?_ | refine iR_truR ?_ | refine iR_andT ?_ | refine iR_orT ?_ | refine iR_notT ?_ | refine iR_andV ?_ | refine iR_orV ?_ | refine iR_notV ?_ | refine iR_ifE ?_ | refine iR_asI ?_ | refine iS_sub ?_ | refine iS_retO ?_ | refine iR_mtF ?_ | refine iR_cNil ?_ | refine iR_cVal ?_ | refine iR_call ?_ | refine iR_readV ?_ | refine iR_readN ?_ | refine iR_writeN ?_ | refine iR_writeC ?_ | refine iR_asR1 ?_ | refine iR_asR2 ?_ | refine iR_bind ?_ | refine iR_lc ?_ | refine iR_slN ?_ | refine iR_oSome ?_ | refine iR_oNone ?_ | refine iR_lRg2 ?_ | refine iR_eqi ?_ | refine iR_nei ?_ | refine iR_eqs ?_ | refine iR_nes ?_ | refine iR_eqb ?_ | refine iR_neb ?_) | ((with_reducible first | refine eR_getV ?_ | refine eR_getCv ?_ | refine eR_ownL ?_ | refine eR_cOwn ?_ | refine eR_readO ?_ | refine eS_frz ?_ | refine eR_cellO ?_ | refine eR_of (r := gT _ _ _ _) ?_ | refine eR_of (r := gN _ _ _) ?_ | refine eR_of (r := dAddA _ _) ?_ | refine eR_of (r := dSub _ _) ?_ | refine eR_of (r := dLt _ _) ?_ | refine eR_of (r := dLe _ _) ?_ | refine eR_of (r := dGt _ _) ?_ | refine eR_of (r := dGe _ _) ?_ | refine eR_of (r := dIsN _ _) ?_ | refine eR_of (r := dNotN _ _) ?_ | refine eR_of (r := dIx _ _) ?_ | refine eR_of (r := dNeg _) ?_ | refine eR_of (r := dLen _) ?_ | refine eR_of (r := dList _) ?_ | refine eR_of (r := dTuple _) ?_ | refine eR_of (r := dRev _) ?_ | refine eR_of (r := dInt1 _) ?_ | refine eR_of (r := boolR _) ?_ | refine eR_of (r := intR _) ?_ | refine eR_of (r := itemsR _) ?_ | refine eR_of (r := truD _) ?_ | refine eR_of (r := dMax2 _) ?_ | refine eR_of (r := dMin2 _) ?_ | refine eR_of (r := slD _ _ _) ?_ | refine eR_of (r := mkT _) ?_ | refine eR_of (r := mkL _) ?_ | refine eR_of (r := endR _ _ _ _) ?_ | refine eR_of (r := lRg _ _) ?_ | refine eR_of (r := optB _) ?_ | refine eR_of (r := optR _) ?_); refine ⟨_, rfl, ?_⟩) | ((with_reducible first | refine eR_getCo ?_ | refine eS_frz' ?_); refine ⟨_, rfl, ?_⟩) | ((with_reducible first | refine iR_rng1 ?hh_ ?_ | refine iR_rng2 ?hh_ ?_ | refine iR_dMul ?hh_ ?_ | refine iR_dDiv ?hh_ ?_ | refine iR_dMod ?hh_ ?_ | refine iR_dPow ?hh_ ?_ | refine iR_dAddl ?hh_ ?_ | refine iR_dAdds ?hh_ ?_ | refine iR_dCat ?hh_ ?_ | refine iR_app ?hh_ ?_); (case hh_ => first | omega | decide)) | ((with_reducible first | refine iR_isi_t ?hh_ ?_ | refine if_ct ?hh_ ?_); (case hh_ => exact rfl)) | ((with_reducible first | refine iR_isi_f ?hh_ ?_ | refine if_cf ?hh_ ?_); (case hh_ => exact rfl)) | ((with_reducible refine iR_guard ?hh_ ?_); (case hh_ => first | decide | omega)) | (with_reducible refine iR_okk ?_) | ((with_reducible refine And.intro ?hh_ ?_); (case hh_ => first | decide | exact List.nodup_singleton _ | exact rfl | (simp only [List.length_cons, List.length_nil]; decide) | (intro z; cases z) | omega | (intro _; rfl)))); try dsimp only [List.set_cons_zero, List.set_cons_succ, ownIx, wipeE, restore, List.nil_append, List.cons_append])
      rfl
  · cases hq : pad a b i (i + n) with
    | some p =>
      have hpp := hpad p hq
      rw [hq] at h
      rw [show (padR (some p)) = rngI p.1 (p.2 + 1 - p.1).toNat from rfl, show (p.2 + 1 - p.1).toNat = (p.2 - p.1).toNat + 1 by omega, rngI_succ] at h
      cases h
    | none =>
      repeat ((first | (with_reducible first | refine iR_yesT ?_ | refine iR_lcNil ?_ | refine iR_lcCons ?_ | refine if_t ?_ | refine if_f ?_ | refine iS_seq ?_ | refine iS_set ?_ | refine iS_own ?_ | refine iS_drop ?_ | refine iS_ret ?_ | refine iS_retF ?_ | refine iS_next ?_ | refine iS_if ?_ | refine iS_asg ?_ | refine iS_for0 ?_ | refine iR_ap1 ?_ | refine iR_ap2 ?_ | refine iR_ap2N ?_ | refine iR_apA ?_ | refine iR_kst ?_ | refine iR_aNil ?_ | refine iR_aCons ?_ | refine iR_asB ?_ | refine iR_truR ?_ | refine iR_andT ?_ | refine iR_orT ?_ | refine iR_notT ?_ | refine iR_andV ?_ | refine iR_orV ?_ | refine iR_notV ?_ | refine iR_ifE ?_ | refine iR_asI ?_ | refine iS_sub ?_ | refine iS_retO ?_ | refine iR_mtF ?_ | refine iR_cNil ?_ | refine iR_cVal ?_ | refine iR_call ?_ | refine iR_readV ?_ | refine iR_readN ?_ | refine iR_writeN ?_ | refine iR_writeC ?_ | refine iR_asR1 ?_ | refine iR_asR2 ?_ | refine iR_bind ?_ | refine iR_lc ?_ | refine iR_slN ?_ | refine iR_oSome ?_ | refine iR_oNone ?_ | refine iR_lRg2 ?_ | refine iR_eqi ?_ | refine iR_nei ?_ | refine iR_eqs ?_ | refine iR_nes ?_ | refine iR_eqb ?_ | refine iR_neb ?_) | ((with_reducible first | refine eR_getV ?_ | refine eR_getCv ?_ | refine eR_ownL ?_ | refine eR_cOwn ?_ | refine eR_readO ?_ | refine eS_frz ?_ | refine eR_cellO ?_ | refine eR_of (r := gT _ _ _ _) ?_ | refine eR_of (r := gN _ _ _) ?_ | refine eR_of (r := dAddA _ _) ?_ | refine eR_of (r := dSub _ _) ?_ | refine eR_of (r := dLt _ _) ?_ | refine eR_of (r := dLe _ _) ?_ | refine eR_of (r := dGt _ _) ?_ | refine eR_of (r := dGe _ _) ?_ | refine eR_of (r := dIsN _ _) ?_ | refine eR_of (r := dNotN _ _) ?_ | refine eR_of (r := dIx _ _) ?_ | refine eR_of (r := dNeg _) ?_ | refine eR_of (r := dLen _) ?_ | refine eR_of (r := dList _) ?_ | refine eR_of (r := dTuple _) ?_ | refine eR_of (r := dRev _) ?_ | refine eR_of (r := dInt1 _) ?_ | refine eR_of (r := boolR _) ?_ | refine eR_of (r := intR _) ?_ | refine eR_of (r := itemsR _) ?_ | refine eR_of (r := truD _) ?_ | refine eR_of (r := dMax2 _) ?_ | refine eR_of (r := dMin2 _) ?_ | refine eR_of (r := slD _ _ _) ?_ | refine eR_of (r := mkT _) ?_ | refine eR_of (r := mkL _) ?_ | refine eR_of (r := endR _ _ _ _) ?_ | refine eR_of (r := lRg _ _) ?_ | refine eR_of (r := optB _) ?_ | refine eR_of (r := optR _) ?_); refine ⟨_, rfl, ?_⟩) | ((with_reducible first | refine eR_getCo ?_ | refine eS_frz' ?_); refine ⟨_, rfl, ?_⟩) | ((with_reducible first | refine iR_rng1 ?hh_ ?_ | refine iR_rng2 ?hh_ ?_ | refine iR_dMul ?hh_ ?_ | refine iR_dDiv ?hh_ ?_ | refine iR_dMod ?hh_ ?_ | refine iR_dPow ?hh_ ?_ | refine iR_dAddl ?hh_ ?_ | refine iR_dAdds ?hh_ ?_ | refine iR_dCat ?hh_ ?_ | refine iR_app ?hh_ ?_); (case hh_ => first | omega | decide)) | ((with_reducible first | refine iR_isi_t ?hh_ ?_ | refine if_ct ?hh_ ?_); (case hh_ => exact rfl)) | ((with_reducible first | refine iR_isi_f ?hh_ ?_ | refine if_cf ?hh_ ?_); (case hh_ => exact rfl)) | ((with_reducible refine iR_guard ?hh_ ?_); (case hh_ => first | decide | omega)) | (with_reducible refine iR_okk ?_) | ((with_reducible refine And.intro ?hh_ ?_); (case hh_ => first | decide | exact List.nodup_singleton _ | exact rfl | (simp only [List.length_cons, List.length_nil]; decide) | (intro z; cases z) | omega | (intro _; rfl)))); try dsimp only [List.set_cons_zero, List.set_cons_succ, ownIx, wipeE, restore, List.nil_append, List.cons_append])
      rfl
  rintro e rfl
  generalize hG : (sSeq (sSet 11 (callR false [true] RLIntervals (cOwn 1 cNil)))
 (sSeq (sSet 12 (ap2 (ap2N 11 (kst (.int 0)) dIx) (kst (.int 0)) dIx))
 (sSeq (sSet 13 (ap2 (ap2N 11 (ap2 (ap1 (getC 11) dLen) (kst (.int 1)) dSub) dIx) (kst (.int 1)) dIx))
 (sSeq (sFor (asI (apA (aCons (getV 11) (aCons (ap1 (getC 11) dRev) (aCons (ap2N 11 (apA (aCons (ap2N 11 (kst (.int 0)) dIx) aNil) mkL) dAddA) (aCons (slN 11 (oSome (kst (.int 1))) oNone) (aCons (eLc [15] (asI (getV 11)) (gN 15) yesT (apA (aCons (ap2N 15 (kst (.int 1)) dIx) (aCons (ap2N 15 (kst (.int 0)) dIx) aNil)) mkT)) (aCons (apA aNil mkL) aNil)))))) mkL)) (gN 14)
 (sSeq (sSet 16 (apA aNil mkL))
 (sSeq (sSet 17 (kst (.bool true)))
 (sSeq (sFor (asI (getV 14)) (gN 15)
 (sSeq (sSet 17 (andV (getC 17) (ap2 (ap2N 15 (kst (.int 0)) dIx) (ap2N 15 (kst (.int 1)) dIx) dLe)))
 (sSet 16 (ap2N 16 (lRg (rg2 (ap2N 15 (kst (.int 0)) dIx) (ap2 (ap2N 15 (kst (.int 1)) dIx) (kst (.int 1)) dAddA))) dAddA))))
 (sIf (notT (asB (callR false [false, false] (RLSame 4) (cVal (callR false [false, false, false] RPartsRange (cVal (getV 14) (cVal (getV 12) (cVal (getV 13) cNil)))) (cVal (andV (getC 17) (ap2N 16 (lRg (rg2 (getV 12) (ap2N 13 (kst (.int 1)) dAddA))) dEq)) cNil)))))
 (sRet (kst (.bool false)))
 sNext)))))
 (sSeq (sSet 16 (apA aNil mkL))
 (sSeq (sFor (asI (getV 11)) (gN 15)
 (sSet 16 (ap2N 16 (lRg (rg2 (ap2N 15 (kst (.int 0)) dIx) (ap2 (ap2N 15 (kst (.int 1)) dIx) (kst (.int 1)) dAddA))) dAddA)))
 (sSeq (sOwn 10 (apA aNil mkL))
 (sSeq (sFor (asI (getV 16)) (gN 7)
 (sIf (andT (asB (ap2N 10 (apA aNil mkL) dNe)) (asB (ap2 (ap2 (ap2N 10 (ap2 (ap1 (getC 10) dLen) (kst (.int 1)) dSub) dIx) (kst (.int 1)) dIx) (ap2N 7 (kst (.int 1)) dSub) dEq)))
 (sOwn 10 (ap2 (slN 10 oNone (oSome (ap2 (ap1 (getC 10) dLen) (kst (.int 1)) dSub))) (apA (aCons (apA (aCons (ap2 (ap2N 10 (ap2 (ap1 (getC 10) dLen) (kst (.int 1)) dSub) dIx) (kst (.int 0)) dIx) (aCons (getV 7) aNil)) mkT) aNil) mkL) dCat))
 (sDrop (mtF 10 mAppend (aCons (apA (aCons (getV 7) (aCons (getV 7) aNil)) mkT) aNil)))))
 (sFrz 10 (sRet (callR false [false, false] RLSameList (cVal (callR false [false] RUnited (cVal (getV 11) cNil)) (cVal (getV 10) cNil))))))))))))) = G
  repeat ((first | (with_reducible first | refine iR_yesT ?_ | refine iR_lcNil ?_ | refine iR_lcCons ?_ | refine if_t ?_ | refine if_f ?_ | refine iS_seq ?_ | refine iS_set ?_ | refine iS_own ?_ | refine iS_drop ?_ | refine iS_ret ?_ | refine iS_retF ?_ | refine iS_next ?_ | refine iS_if ?_ | refine iS_asg ?_ | refine iS_for0 ?_ | refine iR_ap1 ?_ | refine iR_ap2 ?_ | refine iR_ap2N ?_ | refine iR_apA ?_ | refine iR_kst ?_ | refine iR_aNil ?_ | refine iR_aCons ?_ | refine iR_asB ?_ | refine iR_truR ?_ | refine iR_andT ?_ | refine iR_orT ?_ | refine iR_notT ?_ | refine iR_andV ?_ | refine iR_orV ?_ | refine iR_notV ?_ | refine iR_ifE ?_ | refine iR_asI ?_ | refine iS_sub ?_ | refine iS_retO ?_ | refine iR_mtF ?_ | refine iR_cNil ?_ | refine iR_cVal ?_ | refine iR_call ?_ | refine iR_readV ?_ | refine iR_readN ?_ | refine iR_writeN ?_ | refine iR_writeC ?_ | refine iR_asR1 ?_ | refine iR_asR2 ?_ | refine iR_bind ?_ | refine iR_lc ?_ | refine iR_slN ?_ | refine iR_oSome ?_ | refine iR_oNone ?_ | refine iR_lRg2 ?_ | refine iR_eqi ?_ | refine iR_nei ?_ | refine iR_eqs ?_ | refine iR_nes ?_ | refine iR_eqb ?_ | refine iR_neb ?_) | ((with_reducible first | refine eR_getV ?_ | refine eR_getCv ?_ | refine eR_ownL ?_ | refine eR_cOwn ?_ | refine eR_readO ?_ | refine eS_frz ?_ | refine eR_cellO ?_ | refine eR_of (r := gT _ _ _ _) ?_ | refine eR_of (r := gN _ _ _) ?_ | refine eR_of (r := dAddA _ _) ?_ | refine eR_of (r := dSub _ _) ?_ | refine eR_of (r := dLt _ _) ?_ | refine eR_of (r := dLe _ _) ?_ | refine eR_of (r := dGt _ _) ?_ | refine eR_of (r := dGe _ _) ?_ | refine eR_of (r := dIsN _ _) ?_ | refine eR_of (r := dNotN _ _) ?_ | refine eR_of (r := dIx _ _) ?_ | refine eR_of (r := dNeg _) ?_ | refine eR_of (r := dLen _) ?_ | refine eR_of (r := dList _) ?_ | refine eR_of (r := dTuple _) ?_ | refine eR_of (r := dRev _) ?_ | refine eR_of (r := dInt1 _) ?_ | refine eR_of (r := boolR _) ?_ | refine eR_of (r := intR _) ?_ | refine eR_of (r := itemsR _) ?_ | refine eR_of (r := truD _) ?_ | refine eR_of (r := dMax2 _) ?_ | refine eR_of (r := dMin2 _) ?_ | refine eR_of (r := slD _ _ _) ?_ | refine eR_of (r := mkT _) ?_ | refine eR_of (r := mkL _) ?_ | refine eR_of (r := endR _ _ _ _) ?_ | refine eR_of (r := lRg _ _) ?_ | refine eR_of (r := optB _) ?_ | refine eR_of (r := optR _) ?_); refine ⟨_, rfl, ?_⟩) | ((with_reducible first | refine eR_getCo ?_ | refine eS_frz' ?_); refine ⟨_, rfl, ?_⟩) | ((with_reducible first | refine iR_rng1 ?hh_ ?_ | refine iR_rng2 ?hh_ ?_ | refine iR_dMul ?hh_ ?_ | refine iR_dDiv ?hh_ ?_ | refine iR_dMod ?hh_ ?_ | refine iR_dPow ?hh_ ?_ | refine iR_dAddl ?hh_ ?_ | refine iR_dAdds ?hh_ ?_ | refine iR_dCat ?hh_ ?_ | refine iR_app ?hh_ ?_); (case hh_ => first | omega | decide)) | ((with_reducible first | refine iR_isi_t ?hh_ ?_ | refine if_ct ?hh_ ?_); (case hh_ => exact rfl)) | ((with_reducible first | refine iR_isi_f ?hh_ ?_ | refine if_cf ?hh_ ?_); (case hh_ => exact rfl)) | ((with_reducible refine iR_guard ?hh_ ?_); (case hh_ => first | decide | omega)) | (with_reducible refine iR_okk ?_) | ((with_reducible refine And.intro ?hh_ ?_); (case hh_ => first | decide | exact List.nodup_singleton _ | exact rfl | (simp only [List.length_cons, List.length_nil]; decide) | (intro z; cases z) | omega | (intro _; rfl)))); try dsimp only [List.set_cons_zero, List.set_cons_succ, ownIx, wipeE, restore, List.nil_append, List.cons_append])
  refine iD_of (part_ok (by omega)) ?_
  repeat ((first | (with_reducible first | refine iR_yesT ?_ | refine iR_lcNil ?_ | refine iR_lcCons ?_ | refine if_t ?_ | refine if_f ?_ | refine iS_seq ?_ | refine iS_set ?_ | refine iS_own ?_ | refine iS_drop ?_ | refine iS_ret ?_ | refine iS_retF ?_ | refine iS_next ?_ | refine iS_if ?_ | refine iS_asg ?_ | refine iS_for0 ?_ | refine iR_ap1 ?_ | refine iR_ap2 ?_ | refine iR_ap2N ?_ | refine iR_apA ?_ | refine iR_kst ?_ | refine iR_aNil ?_ | refine iR_aCons ?_ | refine iR_asB ?_ | refine iR_truR ?_ | refine iR_andT ?_ | refine iR_orT ?_ | refine iR_notT ?_ | refine iR_andV ?_ | refine iR_orV ?_ | refine iR_notV ?_ | refine iR_ifE ?_ | refine iR_asI ?_ | refine iS_sub ?_ | refine iS_retO ?_ | refine iR_mtF ?_ | refine iR_cNil ?_ | refine iR_cVal ?_ | refine iR_call ?_ | refine iR_readV ?_ | refine iR_readN ?_ | refine iR_writeN ?_ | refine iR_writeC ?_ | refine iR_asR1 ?_ | refine iR_asR2 ?_ | refine iR_bind ?_ | refine iR_lc ?_ | refine iR_slN ?_ | refine iR_oSome ?_ | refine iR_oNone ?_ | refine iR_lRg2 ?_ | refine iR_eqi ?_ | refine iR_nei ?_ | refine iR_eqs ?_ | refine iR_nes ?_ | refine iR_eqb ?_ | refine iR_neb ?_) | ((with_reducible first | refine eR_getV ?_ | refine eR_getCv ?_ | refine eR_ownL ?_ | refine eR_cOwn ?_ | refine eR_readO ?_ | refine eS_frz ?_ | refine eR_cellO ?_ | refine eR_of (r := gT _ _ _ _) ?_ | refine eR_of (r := gN _ _ _) ?_ | refine eR_of (r := dAddA _ _) ?_ | refine eR_of (r := dSub _ _) ?_ | refine eR_of (r := dLt _ _) ?_ | refine eR_of (r := dLe _ _) ?_ | refine eR_of (r := dGt _ _) ?_ | refine eR_of (r := dGe _ _) ?_ | refine eR_of (r := dIsN _ _) ?_ | refine eR_of (r := dNotN _ _) ?_ | refine eR_of (r := dIx _ _) ?_ | refine eR_of (r := dNeg _) ?_ | refine eR_of (r := dLen _) ?_ | refine eR_of (r := dList _) ?_ | refine eR_of (r := dTuple _) ?_ | refine eR_of (r := dRev _) ?_ | refine eR_of (r := dInt1 _) ?_ | refine eR_of (r := boolR _) ?_ | refine eR_of (r := intR _) ?_ | refine eR_of (r := itemsR _) ?_ | refine eR_of (r := truD _) ?_ | refine eR_of (r := dMax2 _) ?_ | refine eR_of (r := dMin2 _) ?_ | refine eR_of (r := slD _ _ _) ?_ | refine eR_of (r := mkT _) ?_ | refine eR_of (r := mkL _) ?_ | refine eR_of (r := endR _ _ _ _) ?_ | refine eR_of (r := lRg _ _) ?_ | refine eR_of (r := optB _) ?_ | refine eR_of (r := optR _) ?_); refine ⟨_, rfl, ?_⟩) | ((with_reducible first | refine eR_getCo ?_ | refine eS_frz' ?_); refine ⟨_, rfl, ?_⟩) | ((with_reducible first | refine iR_rng1 ?hh_ ?_ | refine iR_rng2 ?hh_ ?_ | refine iR_dMul ?hh_ ?_ | refine iR_dDiv ?hh_ ?_ | refine iR_dMod ?hh_ ?_ | refine iR_dPow ?hh_ ?_ | refine iR_dAddl ?hh_ ?_ | refine iR_dAdds ?hh_ ?_ | refine iR_dCat ?hh_ ?_ | refine iR_app ?hh_ ?_); (case hh_ => first | omega | decide)) | ((with_reducible first | refine iR_isi_t ?hh_ ?_ | refine if_ct ?hh_ ?_); (case hh_ => exact rfl)) | ((with_reducible first | refine iR_isi_f ?hh_ ?_ | refine if_cf ?hh_ ?_); (case hh_ => exact rfl)) | ((with_reducible refine iR_guard ?hh_ ?_); (case hh_ => first | decide | omega)) | (with_reducible refine iR_okk ?_) | ((with_reducible refine And.intro ?hh_ ?_); (case hh_ => first | decide | exact List.nodup_singleton _ | exact rfl | (simp only [List.length_cons, List.length_nil]; decide) | (intro z; cases z) | omega | (intro _; rfl)))); try dsimp only [List.set_cons_zero, List.set_cons_succ, ownIx, wipeE, restore, List.nil_append, List.cons_append])
  refine iD_of (same_self sameOkP) ?_
  repeat ((first | (with_reducible first | refine iR_yesT ?_ | refine iR_lcNil ?_ | refine iR_lcCons ?_ | refine if_t ?_ | refine if_f ?_ | refine iS_seq ?_ | refine iS_set ?_ | refine iS_own ?_ | refine iS_drop ?_ | refine iS_ret ?_ | refine iS_retF ?_ | refine iS_next ?_ | refine iS_if ?_ | refine iS_asg ?_ | refine iS_for0 ?_ | refine iR_ap1 ?_ | refine iR_ap2 ?_ | refine iR_ap2N ?_ | refine iR_apA ?_ | refine iR_kst ?_ | refine iR_aNil ?_ | refine iR_aCons ?_ | refine iR_asB ?_ | refine iR_truR ?_ | refine iR_andT ?_ | refine iR_orT ?_ | refine iR_notT ?_ | refine iR_andV ?_ | refine iR_orV ?_ | refine iR_notV ?_ | refine iR_ifE ?_ | refine iR_asI ?_ | refine iS_sub ?_ | refine iS_retO ?_ | refine iR_mtF ?_ | refine iR_cNil ?_ | refine iR_cVal ?_ | refine iR_call ?_ | refine iR_readV ?_ | refine iR_readN ?_ | refine iR_writeN ?_ | refine iR_writeC ?_ | refine iR_asR1 ?_ | refine iR_asR2 ?_ | refine iR_bind ?_ | refine iR_lc ?_ | refine iR_slN ?_ | refine iR_oSome ?_ | refine iR_oNone ?_ | refine iR_lRg2 ?_ | refine iR_eqi ?_ | refine iR_nei ?_ | refine iR_eqs ?_ | refine iR_nes ?_ | refine iR_eqb ?_ | refine iR_neb ?_) | ((with_reducible first | refine eR_getV ?_ | refine eR_getCv ?_ | refine eR_ownL ?_ | refine eR_cOwn ?_ | refine eR_readO ?_ | refine eS_frz ?_ | refine eR_cellO ?_ | refine eR_of (r := gT _ _ _ _) ?_ | refine eR_of (r := gN _ _ _) ?_ | refine eR_of (r := dAddA _ _) ?_ | refine eR_of (r := dSub _ _) ?_ | refine eR_of (r := dLt _ _) ?_ | refine eR_of (r := dLe _ _) ?_ | refine eR_of (r := dGt _ _) ?_ | refine eR_of (r := dGe _ _) ?_ | refine eR_of (r := dIsN _ _) ?_ | refine eR_of (r := dNotN _ _) ?_ | refine eR_of (r := dIx _ _) ?_ | refine eR_of (r := dNeg _) ?_ | refine eR_of (r := dLen _) ?_ | refine eR_of (r := dList _) ?_ | refine eR_of (r := dTuple _) ?_ | refine eR_of (r := dRev _) ?_ | refine eR_of (r := dInt1 _) ?_ | refine eR_of (r := boolR _) ?_ | refine eR_of (r := intR _) ?_ | refine eR_of (r := itemsR _) ?_ | refine eR_of (r := truD _) ?_ | refine eR_of (r := dMax2 _) ?_ | refine eR_of (r := dMin2 _) ?_ | refine eR_of (r := slD _ _ _) ?_ | refine eR_of (r := mkT _) ?_ | refine eR_of (r := mkL _) ?_ | refine eR_of (r := endR _ _ _ _) ?_ | refine eR_of (r := lRg _ _) ?_ | refine eR_of (r := optB _) ?_ | refine eR_of (r := optR _) ?_); refine ⟨_, rfl, ?_⟩) | ((with_reducible first | refine eR_getCo ?_ | refine eS_frz' ?_); refine ⟨_, rfl, ?_⟩) | ((with_reducible first | refine iR_rng1 ?hh_ ?_ | refine iR_rng2 ?hh_ ?_ | refine iR_dMul ?hh_ ?_ | refine iR_dDiv ?hh_ ?_ | refine iR_dMod ?hh_ ?_ | refine iR_dPow ?hh_ ?_ | refine iR_dAddl ?hh_ ?_ | refine iR_dAdds ?hh_ ?_ | refine iR_dCat ?hh_ ?_ | refine iR_app ?hh_ ?_); (case hh_ => first | omega | decide)) | ((with_reducible first | refine iR_isi_t ?hh_ ?_ | refine if_ct ?hh_ ?_); (case hh_ => exact rfl)) | ((with_reducible first | refine iR_isi_f ?hh_ ?_ | refine if_cf ?hh_ ?_); (case hh_ => exact rfl)) | ((with_reducible refine iR_guard ?hh_ ?_); (case hh_ => first | decide | omega)) | (with_reducible refine iR_okk ?_) | ((with_reducible refine And.intro ?hh_ ?_); (case hh_ => first | decide | exact List.nodup_singleton _ | exact rfl | (simp only [List.length_cons, List.length_nil]; decide) | (intro z; cases z) | omega | (intro _; rfl)))); try dsimp only [List.set_cons_zero, List.set_cons_succ, ownIx, wipeE, restore, List.nil_append, List.cons_append])
  subst hG
  exact rows_ok HD
end D51
namespace D51
open PySem PySem.Spec L2 DL
section
variable {P : Program} {w : World} {K : PySem.W.Frag} {mg : Str → Option Value} {base : Heap}
theorem okDeckS {f : Addr} {fd : FuncData} (F : Fun K "_law_deck" "_law_deck" sLDeck f fd) (T : DTxt mg) : FnOk P w K mg base CX0 1 f fd ["script"] (spDeck K) := by
  refine F.ok scLDeck (fun vs H Q E h => by obtain ⟨a, ns, rfl, _⟩ := h; rfl) (fun cdv A outer s H vs Q E hr h => ?_)
  obtain ⟨a, ns, rfl, ha, k⟩ := h
  refine ⟨_, (pss_one (ps_ret (pe_lst (pa_cons (pe_callTy call_list_of rfl T.zlist boot_list0 (pa_cons (pv 0) pa_nil)) (pa_cons pe_int (pa_cons pe_int (pa_cons pe_int pa_nil))))))), ?_⟩
  refine ⟨.ref a, rfl, ?_⟩
  refine ⟨a, _, rfl, Or.inl ha, fun l hl => ?_⟩
  refine ⟨by show 4 ≤ sizeLine; decide, fun p hp => ?_⟩
  have hp0 : H p = none := upd_none0 hp
  exact k p _ _ hp0 (deck_reps (K := K) hl hp).1 upd_same (deck_reps hl hp).2
theorem okLawS {f : Addr} {fd : FuncData} (F : Fun K "law" "law" sLaw f fd) (T : DTxt mg)
    {fUnited : Addr} {fdUnited : FuncData} (G_United : FnOk P w K mg base CX0 1 fUnited fdUnited ["intervals"] (spD K [false] RUnited)) (L_United : Cal K mg "united" fUnited fdUnited ["intervals"])
    {fLSameList : Addr} {fdLSameList : FuncData} (G_LSameList : FnOk P w K mg base CX0 5 fLSameList fdLSameList ["actual", "due"] (spD K [false, false] RLSameList)) (L_LSameList : Cal K mg "_law_same_list" fLSameList fdLSameList ["actual", "due"])
    {fPartsRange : Addr} {fdPartsRange : FuncData} (G_PartsRange : FnOk P w K mg base CX0 1 fPartsRange fdPartsRange ["intervals", "least", "greatest"] (spD K [false, false, false] RPartsRange)) (L_PartsRange : Cal K mg "parts_range" fPartsRange fdPartsRange ["intervals", "least", "greatest"])
    {fLSame : Addr} {fdLSame : FuncData} (G_LSame : FnOk P w K mg base CX0 4 fLSame fdLSame ["actual", "due"] (spD K [false, false] (RLSame 4))) (L_LSame : Cal K mg "_law_same" fLSame fdLSame ["actual", "due"])
    {fLIntervals : Addr} {fdLIntervals : FuncData} (G_LIntervals : FnOk P w K mg base CX0 2 fLIntervals fdLIntervals ["deck"] (spD K [true] RLIntervals)) (L_LIntervals : Cal K mg "_law_intervals" fLIntervals fdLIntervals ["deck"])
    {fPartAtLeast : Addr} {fdPartAtLeast : FuncData} (G_PartAtLeast : FnOk P w K mg base CX0 1 fPartAtLeast fdPartAtLeast ["form", "interval"] (spD K [false, false] RPartAtLeast)) (L_PartAtLeast : Cal K mg "part_at_least" fPartAtLeast fdPartAtLeast ["form", "interval"])
    {fValueAt : Addr} {fdValueAt : FuncData} (G_ValueAt : FnOk P w K mg base CX0 1 fValueAt fdValueAt ["form", "u"] (spD K [false, false] RValueAt)) (L_ValueAt : Cal K mg "value_at" fValueAt fdValueAt ["form", "u"])
    {fBounds : Addr} {fdBounds : FuncData} (G_Bounds : FnOk P w K mg base CX0 2 fBounds fdBounds ["form", "interval"] (spD K [false, false] RBounds)) (L_Bounds : Cal K mg "bounds" fBounds fdBounds ["form", "interval"])
    {fLDraw : Addr} {fdLDraw : FuncData} (G_LDraw : FnOk P w K mg base CX0 1 fLDraw fdLDraw ["deck", "most"] (spD K [true, false] RLDraw)) (L_LDraw : Cal K mg "_law_draw" fLDraw fdLDraw ["deck", "most"])
    {fLDeck : Addr} {fdLDeck : FuncData} (G_LDeck : FnOk P w K mg base CX0 1 fLDeck fdLDeck ["script"] (spDeck K)) (L_LDeck : Cal K mg "_law_deck" fLDeck fdLDeck ["script"]) : FnOk P w K mg base CX0 6 f fd ["script"] (spLaw K) := by
  refine F.ok scLaw (fun vs H Q E h => by obtain ⟨a, ns, rfl, _⟩ := h; rfl) (fun cdv A outer s H vs Q E hr h => ?_)
  obtain ⟨a, ns, rfl, ha, _, k⟩ := h
  refine ⟨_, (pss_cons (ps_set (i := 1) scLaw.nd rfl (Or.inl rfl) (pe_call G_LDeck (hr.mono (by decide)) rfl L_LDeck.g L_LDeck.k L_LDeck.b .nil pass0 (pa_cons (pv 0) pa_nil)))
(pss_cons (ps_set (i := 2) scLaw.nd rfl (Or.inl rfl) (pe_ix (ix_any : IxR _ (rIxA K)) (pe_lst (pa_cons pe_int (pa_cons pe_int (pa_cons (pe_op op_pow pe_int pe_int) pa_nil)))) (pe_call G_LDraw (hr.mono (by decide)) rfl L_LDraw.g L_LDraw.k L_LDraw.b .nil pass0 (pa_cons (pv 1) (pa_cons pe_int pa_nil))) (fun _ _ => rfl)))
 (pss_cons (ps_set (i := 3) scLaw.nd rfl (Or.inr rfl) (pe_tup (pa_cons (pe_op op_sub (pe_call G_LDraw (hr.mono (by decide)) rfl L_LDraw.g L_LDraw.k L_LDraw.b .nil pass0 (pa_cons (pv 1) (pa_cons (pe_op op_addA (pe_op op_mul pe_int (pv 2)) pe_int) pa_nil))) (pv 2)) (pa_cons (pe_op op_sub (pe_call G_LDraw (hr.mono (by decide)) rfl L_LDraw.g L_LDraw.k L_LDraw.b .nil pass0 (pa_cons (pv 1) (pa_cons (pe_op op_addA (pe_op op_mul pe_int (pv 2)) pe_int) pa_nil))) (pv 2)) pa_nil))))
 (pss_cons (ps_if (pt_cmpR (op_eqA hr.units : OpR _ _ (rEqA K)) (pe_call G_LDraw (hr.mono (by decide)) rfl L_LDraw.g L_LDraw.k L_LDraw.b .nil pass0 (pa_cons (pv 1) (pa_cons pe_int pa_nil))) pe_int (nomark _))
 (pss_one (ps_set (i := 3) scLaw.nd rfl (Or.inr rfl) (pe_tup (pa_cons pe_int (pa_cons (pe_ix (ix_any : IxR _ (rIxA K)) (pv 3) pe_int (fun _ _ => rfl)) pa_nil)))))
 pss_nil)
 (pss_cons (ps_set (i := 4) scLaw.nd rfl (Or.inl rfl) (pe_op op_sub (pe_call G_LDraw (hr.mono (by decide)) rfl L_LDraw.g L_LDraw.k L_LDraw.b .nil pass0 (pa_cons (pv 1) (pa_cons pe_int pa_nil))) pe_int))
 (pss_cons (ps_set (i := 5) scLaw.nd rfl (Or.inr rfl) (pe_tup (pa_cons (pv 4) (pa_cons (pe_op op_addA (pv 4) (pe_ix (ix_any : IxR _ (rIxA K)) (pe_lst (pa_cons pe_int (pa_cons (pe_call G_LDraw (hr.mono (by decide)) rfl L_LDraw.g L_LDraw.k L_LDraw.b .nil pass0 (pa_cons (pv 1) (pa_cons pe_int pa_nil))) (pa_cons pe_int pa_nil)))) (pe_call G_LDraw (hr.mono (by decide)) rfl L_LDraw.g L_LDraw.k L_LDraw.b .nil pass0 (pa_cons (pv 1) (pa_cons pe_int pa_nil))) (fun _ _ => rfl))) pa_nil))))
 (pss_cons (ps_set (i := 6) scLaw.nd rfl (Or.inr rfl) (pe_lc (own := [("u", 7)]) (g := gName 7) (tt := tYes) rfl scLaw.nd (pi_range2 rfl T.zrange (pa_cons (pe_ix (ix_any : IxR _ (rIxA K)) (pv 5) pe_int (fun _ _ => rfl)) (pa_cons (pe_op op_addA (pe_ix (ix_any : IxR _ (rIxA K)) (pv 5) pe_int (fun _ _ => rfl)) pe_int) pa_nil))) (blkOk_by (own := [("u", 7)]) (N := ["script", "deck", "size", "form", "least", "interval", "numbers", "u", "fitting", "k", "due", "rows", "first", "last", "row", "pair", "covered", "proper"]) (sc := defScope sLaw) (by decide +kernel)) (fun _ _ _ _ _ => (pg_name (i := 7) scLaw.nd rfl (Or.inl rfl))) (fun _ _ _ _ _ => pts_nil) (fun _ _ _ _ _ => (pe_op op_addA (pe_op op_mul (pe_ix (ix_any : IxR _ (rIxA K)) (pv 3) pe_int (fun _ _ => rfl)) (pv 7)) (pe_ix (ix_any : IxR _ (rIxA K)) (pv 3) pe_int (fun _ _ => rfl))))))
 (pss_cons (ps_if (PW.pt (pw_or (pt_not (pt_val (pe_call G_LSame (hr.mono (by decide)) rfl L_LSame.g L_LSame.k L_LSame.b .nil pass0 (pa_cons (pe_call G_ValueAt (hr.mono (by decide)) rfl L_ValueAt.g L_ValueAt.k L_ValueAt.b .nil pass0 (pa_cons (pv 3) (pa_cons (pv 4) pa_nil))) (pa_cons (pe_ix (ix_any : IxR _ (rIxA K)) (pv 6) pe_int (fun _ _ => rfl)) pa_nil))))) (pw_or1 (pt_not (pt_val (pe_call G_LSame (hr.mono (by decide)) rfl L_LSame.g L_LSame.k L_LSame.b .nil pass0 (pa_cons (pe_call G_Bounds (hr.mono (by decide)) rfl L_Bounds.g L_Bounds.k L_Bounds.b .nil pass0 (pa_cons (pv 3) (pa_cons (pv 5) pa_nil))) (pa_cons (pe_tup (pa_cons (pe_callB (cr_min rfl) rfl T.zmin boot_min0 (pa_cons (pv 6) pa_nil)) (pa_cons (pe_callB (cr_max rfl) rfl T.zmax boot_max0 (pa_cons (pv 6) pa_nil)) pa_nil))) pa_nil))))))))
 (pss_one (ps_ret pe_bl))
 pss_nil)
 (pss_cons (ps_setLc (i := 8) (own := [("k", 9)]) (g := gName 9) rfl scLaw.nd rfl rfl (sw_true rfl rfl rfl (by decide +kernel)) (pi_range1 rfl T.zrange (pa_cons (pe_callB call_len_seq rfl T.zlen PySem.boot_len (pa_cons (pv 6) pa_nil)) pa_nil)) (blkOk_by (own := [("k", 9)]) (N := ["script", "deck", "size", "form", "least", "interval", "numbers", "u", "fitting", "k", "due", "rows", "first", "last", "row", "pair", "covered", "proper"]) (sc := defScope sLaw) (by decide +kernel)) (fun _ _ _ _ _ => (pg_name (i := 9) scLaw.nd rfl (Or.inl rfl))) (fun _ _ _ _ _ => (pts_one (pt_cmpR op_ge (pe_ix (ix_any : IxR _ (rIxA K)) (pv 6) (pv 9) (fun _ _ => rfl)) pe_int (nomark _)))) (fun _ _ _ _ _ => (pe_op op_addA (pe_ix (ix_any : IxR _ (rIxA K)) (pv 5) pe_int (fun _ _ => rfl)) (pv 9))))
 (pss_cons (ps_set (i := 10) scLaw.nd rfl (Or.inl rfl) pe_non)
 (pss_cons (ps_if (pt_cmpR (op_neA hr.units : OpR _ _ (rNeA K)) (pv 8) (pe_lst pa_nil) (nomark _))
 (pss_one (ps_set (i := 10) scLaw.nd rfl (Or.inl rfl) (pe_tup (pa_cons (pe_ix (ix_any : IxR _ (rIxA K)) (pv 8) pe_int (fun _ _ => rfl)) (pa_cons (pe_ix (ix_any : IxR _ (rIxA K)) (pv 8) (pe_op op_sub (pe_callB call_len_seq rfl T.zlen PySem.boot_len (pa_cons (pv 8) pa_nil)) pe_int) (fun _ _ => rfl)) pa_nil)))))
 pss_nil)
 (pss_cons (ps_if (pt_not (pt_val (pe_call G_LSame (hr.mono (by decide)) rfl L_LSame.g L_LSame.k L_LSame.b .nil pass0 (pa_cons (pe_call G_PartAtLeast (hr.mono (by decide)) rfl L_PartAtLeast.g L_PartAtLeast.k L_PartAtLeast.b .nil pass0 (pa_cons (pv 3) (pa_cons (pv 5) pa_nil))) (pa_cons (pv 10) pa_nil)))))
 (pss_one (ps_ret pe_bl))
 pss_nil)
 (pss_cons (ps_set (i := 11) scLaw.nd rfl (Or.inl rfl) (pe_call G_LIntervals (hr.mono (by decide)) rfl L_LIntervals.g L_LIntervals.k L_LIntervals.b .nil pass0 (pa_cons (pv 1) pa_nil)))
 (pss_cons (ps_set (i := 12) scLaw.nd rfl (Or.inl rfl) (pe_ix (ix_any : IxR _ (rIxA K)) (pe_ix (ix_any : IxR _ (rIxA K)) (pv 11) pe_int (fun _ _ => rfl)) pe_int (fun _ _ => rfl)))
 (pss_cons (ps_set (i := 13) scLaw.nd rfl (Or.inl rfl) (pe_ix (ix_any : IxR _ (rIxA K)) (pe_ix (ix_any : IxR _ (rIxA K)) (pv 11) (pe_op op_sub (pe_callB call_len_seq rfl T.zlen PySem.boot_len (pa_cons (pv 11) pa_nil)) pe_int) (fun _ _ => rfl)) pe_int (fun _ _ => rfl)))
 (pss_cons (ps_for PassesOwn.never rfl (pi_any (pe_lst (pa_cons (pv 11) (pa_cons (RX.pe_listRev rfl rfl T.zlist rfl T.zreversed (pv 11)) (pa_cons (pe_op op_addA (pv 11) (pe_lst (pa_cons (pe_ix (ix_any : IxR _ (rIxA K)) (pv 11) pe_int (fun _ _ => rfl)) pa_nil))) (pa_cons (pe_slice sl_list (pv 11) (po_some pe_int) po_none) (pa_cons (pe_lc (own := [("pair", 15)]) (g := gName 15) (tt := tYes) rfl scLaw.nd (pi_any (pv 11)) (blkOk_by (own := [("pair", 15)]) (N := ["script", "deck", "size", "form", "least", "interval", "numbers", "u", "fitting", "k", "due", "rows", "first", "last", "row", "pair", "covered", "proper"]) (sc := defScope sLaw) (by decide +kernel)) (fun _ _ _ _ _ => (pg_name (i := 15) scLaw.nd rfl (Or.inl rfl))) (fun _ _ _ _ _ => pts_nil) (fun _ _ _ _ _ => (pe_tup (pa_cons (pe_ix (ix_any : IxR _ (rIxA K)) (pv 15) pe_int (fun _ _ => rfl)) (pa_cons (pe_ix (ix_any : IxR _ (rIxA K)) (pv 15) pe_int (fun _ _ => rfl)) pa_nil))))) (pa_cons (pe_lst pa_nil) pa_nil)))))))) (pg_name (i := 14) scLaw.nd rfl (Or.inl rfl))
 (pss_cons (ps_set (i := 16) scLaw.nd rfl (Or.inl rfl) (pe_lst pa_nil))
 (pss_cons (ps_set (i := 17) scLaw.nd rfl (Or.inl rfl) pe_bl)
 (pss_cons (ps_for PassesOwn.never rfl (pi_any (pv 14)) (pg_name (i := 15) scLaw.nd rfl (Or.inl rfl))
 (pss_cons (ps_set (i := 17) scLaw.nd rfl (Or.inl rfl) (pe_and (pv 17) (pe_one (pe_cmpR op_le (pe_ix (ix_any : IxR _ (rIxA K)) (pv 15) pe_int (fun _ _ => rfl)) (pe_ix (ix_any : IxR _ (rIxA K)) (pv 15) pe_int (fun _ _ => rfl)) (nomark _)))))
 (pss_one (ps_set (i := 16) scLaw.nd rfl (Or.inl rfl) (pe_op op_addA (pv 16) (pe_listRg rfl rfl T.zlist (prg_2 rfl T.zrange (pe_ix (ix_any : IxR _ (rIxA K)) (pv 15) pe_int (fun _ _ => rfl)) (pe_op op_addA (pe_ix (ix_any : IxR _ (rIxA K)) (pv 15) pe_int (fun _ _ => rfl)) pe_int))))))))
 (pss_one (ps_if (pt_not (pt_val (pe_call G_LSame (hr.mono (by decide)) rfl L_LSame.g L_LSame.k L_LSame.b .nil pass0 (pa_cons (pe_call G_PartsRange (hr.mono (by decide)) rfl L_PartsRange.g L_PartsRange.k L_PartsRange.b .nil pass0 (pa_cons (pv 14) (pa_cons (pv 12) (pa_cons (pv 13) pa_nil)))) (pa_cons (pe_and (pv 17) (pe_one (pe_cmpR (op_eqA hr.units : OpR _ _ (rEqA K)) (pv 16) (pe_listRg rfl rfl T.zlist (prg_2 rfl T.zrange (pv 12) (pe_op op_addA (pv 13) pe_int))) (nomark _)))) pa_nil)))))
 (pss_one (ps_ret pe_bl))
 pss_nil))))))
 (pss_cons (ps_set (i := 16) scLaw.nd rfl (Or.inl rfl) (pe_lst pa_nil))
 (pss_cons (ps_for PassesOwn.never rfl (pi_any (pv 11)) (pg_name (i := 15) scLaw.nd rfl (Or.inl rfl))
 (pss_one (ps_set (i := 16) scLaw.nd rfl (Or.inl rfl) (pe_op op_addA (pv 16) (pe_listRg rfl rfl T.zlist (prg_2 rfl T.zrange (pe_ix (ix_any : IxR _ (rIxA K)) (pv 15) pe_int (fun _ _ => rfl)) (pe_op op_addA (pe_ix (ix_any : IxR _ (rIxA K)) (pv 15) pe_int (fun _ _ => rfl)) pe_int)))))))
 (pss_cons (ps_set (i := 10) scLaw.nd rfl (Or.inl rfl) (pe_lst pa_nil))
 (pss_cons (ps_for PassesOwn.never rfl (pi_any (pv 16)) (pg_name (i := 7) scLaw.nd rfl (Or.inl rfl))
 (pss_one (ps_if (PW.pt (pw_and (pt_cmpR (op_neA hr.units : OpR _ _ (rNeA K)) (pv 10) (pe_lst pa_nil) (nomark _)) (pw_and1 (pt_cmpR (op_eqA hr.units : OpR _ _ (rEqA K)) (pe_ix (ix_any : IxR _ (rIxA K)) (pe_ix (ix_any : IxR _ (rIxA K)) (pv 10) (pe_op op_sub (pe_callB call_len_seq rfl T.zlen PySem.boot_len (pa_cons (pv 10) pa_nil)) pe_int) (fun _ _ => rfl)) pe_int (fun _ _ => rfl)) (pe_op op_sub (pv 7) pe_int) (nomark _)))))
 (pss_one (ps_set (i := 10) scLaw.nd rfl (Or.inl rfl) (pe_op op_addA (pe_slice sl_list (pv 10) po_none (po_some (pe_op op_sub (pe_callB call_len_seq rfl T.zlen PySem.boot_len (pa_cons (pv 10) pa_nil)) pe_int))) (pe_lst (pa_cons (pe_tup (pa_cons (pe_ix (ix_any : IxR _ (rIxA K)) (pe_ix (ix_any : IxR _ (rIxA K)) (pv 10) (pe_op op_sub (pe_callB call_len_seq rfl T.zlen PySem.boot_len (pa_cons (pv 10) pa_nil)) pe_int) (fun _ _ => rfl)) pe_int (fun _ _ => rfl)) (pa_cons (pv 7) pa_nil))) pa_nil)))))
 (pss_one (ps_expr (pe_bm PySem.F.plainAttrs_list PySem.F.slot_list_append PySem.F.type_list_append mt_append (pv 10) (pa_cons (pe_tup (pa_cons (pv 7) (pa_cons (pv 7) pa_nil))) pa_nil)))))))
 (pss_one (ps_ret (pe_call G_LSameList hr rfl L_LSameList.g L_LSameList.k L_LSameList.b .nil pass0 (pa_cons (pe_call G_United (hr.mono (by decide)) rfl L_United.g L_United.k L_United.b .nil pass0 (pa_cons (pv 11) pa_nil)) (pa_cons (pv 10) pa_nil))))))))))))))))))))))))), ?_⟩
  refine law_read (G := GLaw) ?_ ha
    (sden_seq (sden_set (den_op s2_ix dIx_x (DenF.den (denF_lst (den_cons den_int (den_cons den_int (den_cons (den_op s2_pow dPow_x den_int (Dn.b den_int)) den_nil))))) (Dn.b (den_call (fr := false) (denC_own (denC_val den_int denC_nil))))) (by decide))
 (sden_seq (sden_set (den_tup (den_cons (den_op s2_sub dSub_x (den_call (fr := false) (denC_own (denC_val (den_op s2_addA dAddA_x (den_op s2_mul dMul_x den_int denB_var) (Dn.b den_int)) denC_nil))) denB_var) (den_cons (den_op s2_sub dSub_x (den_call (fr := false) (denC_own (denC_val (den_op s2_addA dAddA_x (den_op s2_mul dMul_x den_int denB_var) (Dn.b den_int)) denC_nil))) denB_var) den_nil))) (by decide))
 (sden_seq (sden_if (den_tst (Dn.b (den_op s2_eq dEq_x (den_call (fr := false) (denC_own (denC_val den_int denC_nil))) (Dn.b den_int))))
 (sden_set (den_tup (den_cons den_int (den_cons (den_opN s2_ix dIx_x (Dn.b den_int)) den_nil))) (by decide))
 sden_next)
 (sden_seq (sden_set (den_op s2_sub dSub_x (den_call (fr := false) (denC_own (denC_val den_int denC_nil))) (Dn.b den_int)) (by decide))
 (sden_seq (sden_set (den_tup (den_cons den_var (den_cons (den_opN s2_addA dAddA_x (Dn.b (den_op s2_ix dIx_x (DenF.den (denF_lst (den_cons den_int (den_cons (den_call (fr := false) (denC_own (denC_val den_int denC_nil))) (den_cons den_int den_nil))))) (Dn.b (den_call (fr := false) (denC_own (denC_val den_int denC_nil))))))) den_nil))) (by decide))
 (sden_seq (sden_set (DenF.den (denF_lc (ws := [7]) (denI_r2 (den_cons (den_opN s2_ix dIx_x (Dn.b den_int)) (den_cons (den_op s2_addA dAddA_x (den_opN s2_ix dIx_x (Dn.b den_int)) (Dn.b den_int)) den_nil))) (fun _ h => (gden_name (h _ (by decide)))) gok_name (by decide) den_yes (den_op s2_addA dAddA_x (den_op s2_mul dMul_x (den_opN s2_ix dIx_x (Dn.b den_int)) denB_var) (Dn.b (den_opN s2_ix dIx_x (Dn.b den_int)))))) (by decide))
 (sden_seq (sden_if (den_orT (den_notT (den_tB (Dn.b (den_call (fr := false) (denC_val (den_call (fr := false) (denC_val den_var (denC_val den_var denC_nil))) (denC_val (den_opN s2_ix dIx_x (Dn.b den_int)) denC_nil)))))) (den_notT (den_tB (Dn.b (den_call (fr := false) (denC_val (den_call (fr := false) (denC_val den_var (denC_val den_var denC_nil))) (denC_val (den_tup (den_cons (den_cb1 sb_min dMinL_x denB_var) (den_cons (den_cb1 sb_max dMaxL_x denB_var) den_nil))) denC_nil)))))))
 (sden_ret den_bl)
 sden_next)
 (sden_seq (sden_set (DenF.den (denF_lc (ws := [9]) (denI_r1 (den_cons (den_cb1 sb_len dLen_x denB_var) den_nil)) (fun _ h => (gden_name (h _ (by decide)))) gok_name (by decide) (den_tst (Dn.b (den_op s2_ge dGe_x (den_opN s2_ix dIx_x denB_var) (Dn.b den_int)))) (den_op s2_addA dAddA_x (den_opN s2_ix dIx_x (Dn.b den_int)) denB_var))) (by decide))
 (sden_seq (sden_set den_non (by decide))
 (sden_seq (sden_if (den_tst (Dn.b (den_opN s2_ne dNe_x (Dn.b (DenF.den (denF_lst den_nil))))))
 (sden_set (den_tup (den_cons (den_opN s2_ix dIx_x (Dn.b den_int)) (den_cons (den_opN s2_ix dIx_x (Dn.b (den_op s2_sub dSub_x (den_cb1 sb_len dLen_x denB_var) (Dn.b den_int)))) den_nil))) (by decide))
 sden_next)
 (sden_seq (sden_frz (i := 10) (by decide) (sden_if (den_notT (den_tB (Dn.b (den_call (fr := false) (denC_val (den_call (fr := false) (denC_val den_var (denC_val den_var denC_nil))) (denC_val den_var denC_nil))))))
 (sden_ret den_bl)
 sden_next))
 (sden_seq (sden_set (den_call (fr := false) (denC_own denC_nil)) (by decide))
 (sden_seq (sden_set (den_op s2_ix dIx_x (den_opN s2_ix dIx_x (Dn.b den_int)) (Dn.b den_int)) (by decide))
 (sden_seq (sden_set (den_op s2_ix dIx_x (den_opN s2_ix dIx_x (Dn.b (den_op s2_sub dSub_x (den_cb1 sb_len dLen_x denB_var) (Dn.b den_int)))) (Dn.b den_int)) (by decide))
 (sden_seq (sden_for (denI_any (DenF.den (denF_lst (den_cons den_var (den_cons (DenF.den (denF_rev denB_var)) (den_cons (den_opN s2_addA dAddA_x (Dn.b (DenF.den (denF_lst (den_cons (den_opN s2_ix dIx_x (Dn.b den_int)) den_nil))))) (den_cons (DenF.den (denF_slN (den_oSome (Dn.b den_int)) den_oNone)) (den_cons (DenF.den (denF_lc (ws := [15]) (denI_any den_var) (fun _ h => (gden_name (h _ (by decide)))) gok_name (by decide) den_yes (den_tup (den_cons (den_opN s2_ix dIx_x (Dn.b den_int)) (den_cons (den_opN s2_ix dIx_x (Dn.b den_int)) den_nil))))) (den_cons (DenF.den (denF_lst den_nil)) den_nil))))))))) (gden_name (by decide))
 (sden_seq (sden_set (DenF.den (denF_lst den_nil)) (by decide))
 (sden_seq (sden_set den_bl (by decide))
 (sden_seq (sden_for (denI_any den_var) (gden_name (by decide))
 (sden_seq (sden_set (den_andV denB_var (den_op s2_le dLe_x (den_opN s2_ix dIx_x (Dn.b den_int)) (Dn.b (den_opN s2_ix dIx_x (Dn.b den_int))))) (by decide))
 (sden_set (den_opN s2_addA dAddA_x (Dn.b (DenF.den (denF_lRg2 (den_opN s2_ix dIx_x (Dn.b den_int)) (Dn.b (den_op s2_addA dAddA_x (den_opN s2_ix dIx_x (Dn.b den_int)) (Dn.b den_int))))))) (by decide))))
 (sden_if (den_notT (den_tB (Dn.b (den_call (fr := false) (denC_val (den_call (fr := false) (denC_val den_var (denC_val den_var (denC_val den_var denC_nil)))) (denC_val (den_andV denB_var (den_opN s2_eq dEq_x (Dn.b (DenF.den (denF_lRg2 den_var (Dn.b (den_opN s2_addA dAddA_x (Dn.b den_int)))))))) denC_nil))))))
 (sden_ret den_bl)
 sden_next)))))
 (sden_seq (sden_set (DenF.den (denF_lst den_nil)) (by decide))
 (sden_seq (sden_for (denI_any den_var) (gden_name (by decide))
 (sden_set (den_opN s2_addA dAddA_x (Dn.b (DenF.den (denF_lRg2 (den_opN s2_ix dIx_x (Dn.b den_int)) (Dn.b (den_op s2_addA dAddA_x (den_opN s2_ix dIx_x (Dn.b den_int)) (Dn.b den_int))))))) (by decide)))
 (sden_seq (sden_own (denF_lst den_nil) (by decide))
 (sden_seq (sden_for (denI_any den_var) (gden_name (by decide))
 (sden_if (den_andT (den_tst (Dn.b (den_opN s2_ne dNe_x (Dn.b (DenF.den (denF_lst den_nil)))))) (den_tst (Dn.b (den_op s2_eq dEq_x (den_op s2_ix dIx_x (den_opN s2_ix dIx_x (Dn.b (den_op s2_sub dSub_x (den_cb1 sb_len dLen_x denB_var) (Dn.b den_int)))) (Dn.b den_int)) (Dn.b (den_opN s2_sub dSub_x (Dn.b den_int)))))))
 (sden_own (denF_op n2_addA dCat_x (DenF.den (denF_slN den_oNone (den_oSome (Dn.b (den_op s2_sub dSub_x (den_cb1 sb_len dLen_x denB_var) (Dn.b den_int)))))) (Dn.b (DenF.den (denF_lst (den_cons (den_tup (den_cons (den_op s2_ix dIx_x (den_opN s2_ix dIx_x (Dn.b (den_op s2_sub dSub_x (den_cb1 sb_len dLen_x denB_var) (Dn.b den_int)))) (Dn.b den_int)) (den_cons den_var den_nil))) den_nil))))) (by decide))
 (sden_drop (den_mt sm_append mAppend_x (den_cons (den_tup (den_cons den_var (den_cons den_var den_nil))) den_nil)))))
 (sden_frz (i := 10) (by decide) (sden_ret (den_call (fr := false) (denC_val (den_call (fr := false) (denC_val den_var denC_nil)) (denC_val den_var denC_nil))))))))))))))))))))))))
    (law_ret law_true) k
  decide
end
end D51
namespace D51
open PySem PySem.Spec L2 DL
theorem all_mk {P : Program} {w : World} {K : PySem.W.Frag} {h : Heap} {mg : Str → Option Value} {fa f_ValueAt f_Bounds f_PartAtLeast f_PartsRange f_United f_LDeck f_LDraw f_LSame f_LSameList f_LIntervals f_LAW : Addr} (X : K.In h) (G : h.Ns mainGlobals mg) (hfa : mg "law" = some (.ref fa))
    {od_ValueAt an_ValueAt : Option Addr} {sl_ValueAt : Array (Option Value)} {oc_ValueAt kV_ValueAt dc_ValueAt pm_ValueAt cd_ValueAt ct_ValueAt : Value}
    {od_Bounds an_Bounds : Option Addr} {sl_Bounds : Array (Option Value)} {oc_Bounds kV_Bounds dc_Bounds pm_Bounds cd_Bounds ct_Bounds : Value}
    {od_PartAtLeast an_PartAtLeast : Option Addr} {sl_PartAtLeast : Array (Option Value)} {oc_PartAtLeast kV_PartAtLeast dc_PartAtLeast pm_PartAtLeast cd_PartAtLeast ct_PartAtLeast : Value}
    {od_PartsRange an_PartsRange : Option Addr} {sl_PartsRange : Array (Option Value)} {oc_PartsRange kV_PartsRange dc_PartsRange pm_PartsRange cd_PartsRange ct_PartsRange : Value}
    {od_United an_United : Option Addr} {sl_United : Array (Option Value)} {oc_United kV_United dc_United pm_United cd_United ct_United : Value}
    {od_LDeck an_LDeck : Option Addr} {sl_LDeck : Array (Option Value)} {oc_LDeck kV_LDeck dc_LDeck pm_LDeck cd_LDeck ct_LDeck : Value}
    {od_LDraw an_LDraw : Option Addr} {sl_LDraw : Array (Option Value)} {oc_LDraw kV_LDraw dc_LDraw pm_LDraw cd_LDraw ct_LDraw : Value}
    {od_LSame an_LSame : Option Addr} {sl_LSame : Array (Option Value)} {oc_LSame kV_LSame dc_LSame pm_LSame cd_LSame ct_LSame : Value}
    {od_LSameList an_LSameList : Option Addr} {sl_LSameList : Array (Option Value)} {oc_LSameList kV_LSameList dc_LSameList pm_LSameList cd_LSameList ct_LSameList : Value}
    {od_LIntervals an_LIntervals : Option Addr} {sl_LIntervals : Array (Option Value)} {oc_LIntervals kV_LIntervals dc_LIntervals pm_LIntervals cd_LIntervals ct_LIntervals : Value}
    {od_LAW an_LAW : Option Addr} {sl_LAW : Array (Option Value)} {oc_LAW kV_LAW dc_LAW pm_LAW cd_LAW ct_LAW : Value}
    (z_int : PySem.W.nsIn K mainGlobals "int" = some none)
    (z_str : PySem.W.nsIn K mainGlobals "str" = some none)
    (z_bool : PySem.W.nsIn K mainGlobals "bool" = some none)
    (z_list : PySem.W.nsIn K mainGlobals "list" = some none)
    (z_tuple : PySem.W.nsIn K mainGlobals "tuple" = some none)
    (z_dict : PySem.W.nsIn K mainGlobals "dict" = some none)
    (z_len : PySem.W.nsIn K mainGlobals "len" = some none)
    (z_range : PySem.W.nsIn K mainGlobals "range" = some none)
    (z_sorted : PySem.W.nsIn K mainGlobals "sorted" = some none)
    (z_isinstance : PySem.W.nsIn K mainGlobals "isinstance" = some none)
    (z_max : PySem.W.nsIn K mainGlobals "max" = some none)
    (z_min : PySem.W.nsIn K mainGlobals "min" = some none)
    (z_sum : PySem.W.nsIn K mainGlobals "sum" = some none)
    (z_all : PySem.W.nsIn K mainGlobals "all" = some none)
    (z_any : PySem.W.nsIn K mainGlobals "any" = some none)
    (z_abs : PySem.W.nsIn K mainGlobals "abs" = some none)
    (z_reversed : PySem.W.nsIn K mainGlobals "reversed" = some none)
    (z_enumerate : PySem.W.nsIn K mainGlobals "enumerate" = some none)
    (z_zip : PySem.W.nsIn K mainGlobals "zip" = some none)
    (z_set : PySem.W.nsIn K mainGlobals "set" = some none)
    (a_ValueAt : PySem.W.nsIn K mainGlobals "value_at" = some (some (.ref f_ValueAt)))
    (l_ValueAt : K.lookup f_ValueAt = some ⟨oc_ValueAt, od_ValueAt, .func (PySem.W.fnOf "value_at" "value_at" (defArgs sValueAt) (defBody sValueAt) (defScope sValueAt) .none kV_ValueAt dc_ValueAt pm_ValueAt an_ValueAt cd_ValueAt ct_ValueAt), sl_ValueAt⟩)
    (c_ValueAt : PySem.W.codeIn K cd_ValueAt "value_at" = true)
    (k_ValueAt : PySem.W.keepIn K (.ref f_ValueAt) = true)
    (a_Bounds : PySem.W.nsIn K mainGlobals "bounds" = some (some (.ref f_Bounds)))
    (l_Bounds : K.lookup f_Bounds = some ⟨oc_Bounds, od_Bounds, .func (PySem.W.fnOf "bounds" "bounds" (defArgs sBounds) (defBody sBounds) (defScope sBounds) .none kV_Bounds dc_Bounds pm_Bounds an_Bounds cd_Bounds ct_Bounds), sl_Bounds⟩)
    (c_Bounds : PySem.W.codeIn K cd_Bounds "bounds" = true)
    (k_Bounds : PySem.W.keepIn K (.ref f_Bounds) = true)
    (a_PartAtLeast : PySem.W.nsIn K mainGlobals "part_at_least" = some (some (.ref f_PartAtLeast)))
    (l_PartAtLeast : K.lookup f_PartAtLeast = some ⟨oc_PartAtLeast, od_PartAtLeast, .func (PySem.W.fnOf "part_at_least" "part_at_least" (defArgs sPartAtLeast) (defBody sPartAtLeast) (defScope sPartAtLeast) .none kV_PartAtLeast dc_PartAtLeast pm_PartAtLeast an_PartAtLeast cd_PartAtLeast ct_PartAtLeast), sl_PartAtLeast⟩)
    (c_PartAtLeast : PySem.W.codeIn K cd_PartAtLeast "part_at_least" = true)
    (k_PartAtLeast : PySem.W.keepIn K (.ref f_PartAtLeast) = true)
    (a_PartsRange : PySem.W.nsIn K mainGlobals "parts_range" = some (some (.ref f_PartsRange)))
    (l_PartsRange : K.lookup f_PartsRange = some ⟨oc_PartsRange, od_PartsRange, .func (PySem.W.fnOf "parts_range" "parts_range" (defArgs sPartsRange) (defBody sPartsRange) (defScope sPartsRange) .none kV_PartsRange dc_PartsRange pm_PartsRange an_PartsRange cd_PartsRange ct_PartsRange), sl_PartsRange⟩)
    (c_PartsRange : PySem.W.codeIn K cd_PartsRange "parts_range" = true)
    (k_PartsRange : PySem.W.keepIn K (.ref f_PartsRange) = true)
    (a_United : PySem.W.nsIn K mainGlobals "united" = some (some (.ref f_United)))
    (l_United : K.lookup f_United = some ⟨oc_United, od_United, .func (PySem.W.fnOf "united" "united" (defArgs sUnited) (defBody sUnited) (defScope sUnited) .none kV_United dc_United pm_United an_United cd_United ct_United), sl_United⟩)
    (c_United : PySem.W.codeIn K cd_United "united" = true)
    (k_United : PySem.W.keepIn K (.ref f_United) = true)
    (a_LDeck : PySem.W.nsIn K mainGlobals "_law_deck" = some (some (.ref f_LDeck)))
    (l_LDeck : K.lookup f_LDeck = some ⟨oc_LDeck, od_LDeck, .func (PySem.W.fnOf "_law_deck" "_law_deck" (defArgs sLDeck) (defBody sLDeck) (defScope sLDeck) .none kV_LDeck dc_LDeck pm_LDeck an_LDeck cd_LDeck ct_LDeck), sl_LDeck⟩)
    (c_LDeck : PySem.W.codeIn K cd_LDeck "_law_deck" = true)
    (k_LDeck : PySem.W.keepIn K (.ref f_LDeck) = true)
    (a_LDraw : PySem.W.nsIn K mainGlobals "_law_draw" = some (some (.ref f_LDraw)))
    (l_LDraw : K.lookup f_LDraw = some ⟨oc_LDraw, od_LDraw, .func (PySem.W.fnOf "_law_draw" "_law_draw" (defArgs sLDraw) (defBody sLDraw) (defScope sLDraw) .none kV_LDraw dc_LDraw pm_LDraw an_LDraw cd_LDraw ct_LDraw), sl_LDraw⟩)
    (c_LDraw : PySem.W.codeIn K cd_LDraw "_law_draw" = true)
    (k_LDraw : PySem.W.keepIn K (.ref f_LDraw) = true)
    (a_LSame : PySem.W.nsIn K mainGlobals "_law_same" = some (some (.ref f_LSame)))
    (l_LSame : K.lookup f_LSame = some ⟨oc_LSame, od_LSame, .func (PySem.W.fnOf "_law_same" "_law_same" (defArgs sLSame) (defBody sLSame) (defScope sLSame) .none kV_LSame dc_LSame pm_LSame an_LSame cd_LSame ct_LSame), sl_LSame⟩)
    (c_LSame : PySem.W.codeIn K cd_LSame "_law_same" = true)
    (k_LSame : PySem.W.keepIn K (.ref f_LSame) = true)
    (a_LSameList : PySem.W.nsIn K mainGlobals "_law_same_list" = some (some (.ref f_LSameList)))
    (l_LSameList : K.lookup f_LSameList = some ⟨oc_LSameList, od_LSameList, .func (PySem.W.fnOf "_law_same_list" "_law_same_list" (defArgs sLSameList) (defBody sLSameList) (defScope sLSameList) .none kV_LSameList dc_LSameList pm_LSameList an_LSameList cd_LSameList ct_LSameList), sl_LSameList⟩)
    (c_LSameList : PySem.W.codeIn K cd_LSameList "_law_same_list" = true)
    (k_LSameList : PySem.W.keepIn K (.ref f_LSameList) = true)
    (a_LIntervals : PySem.W.nsIn K mainGlobals "_law_intervals" = some (some (.ref f_LIntervals)))
    (l_LIntervals : K.lookup f_LIntervals = some ⟨oc_LIntervals, od_LIntervals, .func (PySem.W.fnOf "_law_intervals" "_law_intervals" (defArgs sLIntervals) (defBody sLIntervals) (defScope sLIntervals) .none kV_LIntervals dc_LIntervals pm_LIntervals an_LIntervals cd_LIntervals ct_LIntervals), sl_LIntervals⟩)
    (c_LIntervals : PySem.W.codeIn K cd_LIntervals "_law_intervals" = true)
    (k_LIntervals : PySem.W.keepIn K (.ref f_LIntervals) = true)
    (a_LAW : PySem.W.nsIn K mainGlobals "law" = some (some (.ref f_LAW)))
    (l_LAW : K.lookup f_LAW = some ⟨oc_LAW, od_LAW, .func (PySem.W.fnOf "law" "law" (defArgs sLaw) (defBody sLaw) (defScope sLaw) .none kV_LAW dc_LAW pm_LAW an_LAW cd_LAW ct_LAW), sl_LAW⟩)
    (c_LAW : PySem.W.codeIn K cd_LAW "law" = true)
    (k_LAW : PySem.W.keepIn K (.ref f_LAW) = true) :
    ∃ fd : FuncData, (∀ (s : Shared) (u : Value), BindsTo s fd ⟨[u], []⟩ [("script", u)]) ∧ ∀ base : Heap, K.In base → base.Ns mainGlobals mg → FnOk P w K mg base CX0 6 fa fd ["script"] (spLaw K) := by
  have e := hfa.symm.trans (PySem.W.mg_of X G a_LAW)
  cases e
  have zz : ∀ {x : Str}, PySem.W.nsIn K mainGlobals x = some none → mg x = none := fun e => PySem.W.mg_none_of X G e
  have F_ValueAt := fun_mk (st := sValueAt) l_ValueAt c_ValueAt k_ValueAt
  have L_ValueAt : Cal K mg "value_at" _ _ ["form", "u"] := ⟨PySem.W.mg_of X G a_ValueAt, k_ValueAt, F_ValueAt.binds fun _ _ _ _ _ _ us hl => match us, hl with | [_, _], _ => rfl⟩
  have F_Bounds := fun_mk (st := sBounds) l_Bounds c_Bounds k_Bounds
  have L_Bounds : Cal K mg "bounds" _ _ ["form", "interval"] := ⟨PySem.W.mg_of X G a_Bounds, k_Bounds, F_Bounds.binds fun _ _ _ _ _ _ us hl => match us, hl with | [_, _], _ => rfl⟩
  have F_PartAtLeast := fun_mk (st := sPartAtLeast) l_PartAtLeast c_PartAtLeast k_PartAtLeast
  have L_PartAtLeast : Cal K mg "part_at_least" _ _ ["form", "interval"] := ⟨PySem.W.mg_of X G a_PartAtLeast, k_PartAtLeast, F_PartAtLeast.binds fun _ _ _ _ _ _ us hl => match us, hl with | [_, _], _ => rfl⟩
  have F_PartsRange := fun_mk (st := sPartsRange) l_PartsRange c_PartsRange k_PartsRange
  have L_PartsRange : Cal K mg "parts_range" _ _ ["intervals", "least", "greatest"] := ⟨PySem.W.mg_of X G a_PartsRange, k_PartsRange, F_PartsRange.binds fun _ _ _ _ _ _ us hl => match us, hl with | [_, _, _], _ => rfl⟩
  have F_United := fun_mk (st := sUnited) l_United c_United k_United
  have L_United : Cal K mg "united" _ _ ["intervals"] := ⟨PySem.W.mg_of X G a_United, k_United, F_United.binds fun _ _ _ _ _ _ us hl => match us, hl with | [_], _ => rfl⟩
  have F_LDeck := fun_mk (st := sLDeck) l_LDeck c_LDeck k_LDeck
  have L_LDeck : Cal K mg "_law_deck" _ _ ["script"] := ⟨PySem.W.mg_of X G a_LDeck, k_LDeck, F_LDeck.binds fun _ _ _ _ _ _ us hl => match us, hl with | [_], _ => rfl⟩
  have F_LDraw := fun_mk (st := sLDraw) l_LDraw c_LDraw k_LDraw
  have L_LDraw : Cal K mg "_law_draw" _ _ ["deck", "most"] := ⟨PySem.W.mg_of X G a_LDraw, k_LDraw, F_LDraw.binds fun _ _ _ _ _ _ us hl => match us, hl with | [_, _], _ => rfl⟩
  have F_LSame := fun_mk (st := sLSame) l_LSame c_LSame k_LSame
  have L_LSame : Cal K mg "_law_same" _ _ ["actual", "due"] := ⟨PySem.W.mg_of X G a_LSame, k_LSame, F_LSame.binds fun _ _ _ _ _ _ us hl => match us, hl with | [_, _], _ => rfl⟩
  have F_LSameList := fun_mk (st := sLSameList) l_LSameList c_LSameList k_LSameList
  have L_LSameList : Cal K mg "_law_same_list" _ _ ["actual", "due"] := ⟨PySem.W.mg_of X G a_LSameList, k_LSameList, F_LSameList.binds fun _ _ _ _ _ _ us hl => match us, hl with | [_, _], _ => rfl⟩
  have F_LIntervals := fun_mk (st := sLIntervals) l_LIntervals c_LIntervals k_LIntervals
  have L_LIntervals : Cal K mg "_law_intervals" _ _ ["deck"] := ⟨PySem.W.mg_of X G a_LIntervals, k_LIntervals, F_LIntervals.binds fun _ _ _ _ _ _ us hl => match us, hl with | [_], _ => rfl⟩
  have F_LAW := fun_mk (st := sLaw) l_LAW c_LAW k_LAW
  refine ⟨PySem.W.fnOf "law" "law" (defArgs sLaw) (defBody sLaw) (defScope sLaw) .none kV_LAW dc_LAW pm_LAW an_LAW cd_LAW ct_LAW, fun s u => .of_eq rfl, fun base _ _ => ?_⟩
  have T : DTxt mg := { zint := zz z_int, zstr := zz z_str, zbool := zz z_bool, zlist := zz z_list, ztuple := zz z_tuple, zdict := zz z_dict, zlen := zz z_len, zrange := zz z_range, zsorted := zz z_sorted, zisinstance := zz z_isinstance, zmax := zz z_max, zmin := zz z_min, zsum := zz z_sum, zall := zz z_all, zany := zz z_any, zabs := zz z_abs, zreversed := zz z_reversed, zenumerate := zz z_enumerate, zzip := zz z_zip, zset := zz z_set }
  have G_ValueAt := okValueAt (P := P) (w := w) (base := base) F_ValueAt T 
  have G_Bounds := okBounds (P := P) (w := w) (base := base) F_Bounds T G_ValueAt L_ValueAt
  have G_PartAtLeast := okPartAtLeast (P := P) (w := w) (base := base) F_PartAtLeast T 
  have G_PartsRange := okPartsRange (P := P) (w := w) (base := base) F_PartsRange T 
  have G_United := okUnited (P := P) (w := w) (base := base) F_United T 
  have G_LDeck := okDeckS (P := P) (w := w) (base := base) F_LDeck T
  have G_LDraw := okLDraw (P := P) (w := w) (base := base) F_LDraw T 
  have G_LSame := okLSame (P := P) (w := w) (base := base) F_LSame T L_LSame 4
  have G_LSameList := okLSameList (P := P) (w := w) (base := base) F_LSameList T G_LSame L_LSame
  have G_LIntervals := okLIntervals (P := P) (w := w) (base := base) F_LIntervals T G_LDraw L_LDraw
  exact okLawS (P := P) (w := w) (base := base) F_LAW T G_United L_United G_LSameList L_LSameList G_PartsRange L_PartsRange G_LSame L_LSame G_LIntervals L_LIntervals G_PartAtLeast L_PartAtLeast G_ValueAt L_ValueAt G_Bounds L_Bounds G_LDraw L_LDraw G_LDeck L_LDeck
theorem walk {l : PySem.W.OpenLaw} {q : Program} {loose : List Str} {XP : (Str → Option Value) → Heap → Prop} {YP : World → Heap → Prop} {d : DefRec} {K : Params → PySem.W.Frag} (hn : l.most = some 63) (hdf : d.params.defaults = [])
    (hY : ∀ (w : World) (h : Heap), YP w h → (K w.params).In h)
    (F : ∀ (w : World) (mg : Str → Option Value) (fa : Addr) (h : Heap), (K w.params).In h → h.Ns mainGlobals mg → mg d.name = some (.ref fa) →
      ∃ fd : FuncData, (∀ (s : Shared) (u : Value), BindsTo s fd ⟨[u], []⟩ [("script", u)]) ∧ ∀ base : Heap, (K w.params).In base → base.Ns mainGlobals mg → FnOk l.prog w (K w.params) mg base CX0 6 fa fd ["script"] (spLaw (K w.params))) :
    PySem.W.WalkO q loose XP YP l.row.toRowW d [] (fun f vs => PySem.call f vs) :=
  L2.walk_of (n := 63) (k := 6) (x := "script") (CX := fun _ => CX0) (sp := fun w => spLaw (K w.params)) hn (by decide) hdf ⟨rfl, by decide, by decide⟩ hY F (fun _ _ a ns hl _ hS => ⟨a, ns, rfl, hS, hl, fun _ => rfl⟩) fun _ _ _ _ _ z => z
end D51
open PySem PySem.W PyProof.Rows
set_option maxRecDepth 100000 in
set_option maxHeartbeats 0 in
theorem PySem.Challenge.cw_retroact_k51_forms_and_intervals_holds : PySem.Challenge.rw_retroact_k51_forms_and_intervals.Holds := by
  w_on; o_law; k_head; (case hw => w_witness2)
  k_fill
  refine D51.walk (l := PySem.Challenge.rw_retroact_k51_forms_and_intervals) rfl rfl (fun w h Y => PySem.W.kIn_of Y) ?F
  case F =>
    intro w mg fa h KX G hmg
    refine' D51.all_mk KX G hmg ?z_int ?z_str ?z_bool ?z_list ?z_tuple ?z_dict ?z_len ?z_range ?z_sorted ?z_isinstance ?z_max ?z_min ?z_sum ?z_all ?z_any ?z_abs ?z_reversed ?z_enumerate ?z_zip ?z_set ?a_ValueAt ?l_ValueAt ?c_ValueAt ?k_ValueAt ?a_Bounds ?l_Bounds ?c_Bounds ?k_Bounds ?a_PartAtLeast ?l_PartAtLeast ?c_PartAtLeast ?k_PartAtLeast ?a_PartsRange ?l_PartsRange ?c_PartsRange ?k_PartsRange ?a_United ?l_United ?c_United ?k_United ?a_LDeck ?l_LDeck ?c_LDeck ?k_LDeck ?a_LDraw ?l_LDraw ?c_LDraw ?k_LDraw ?a_LSame ?l_LSame ?c_LSame ?k_LSame ?a_LSameList ?l_LSameList ?c_LSameList ?k_LSameList ?a_LIntervals ?l_LIntervals ?c_LIntervals ?k_LIntervals ?a_LAW ?l_LAW ?c_LAW ?k_LAW
    (case z_int => k_is)
    (case z_str => k_is)
    (case z_bool => k_is)
    (case z_list => k_is)
    (case z_tuple => k_is)
    (case z_dict => k_is)
    (case z_len => k_is)
    (case z_range => k_is)
    (case z_sorted => k_is)
    (case z_isinstance => k_is)
    (case z_max => k_is)
    (case z_min => k_is)
    (case z_sum => k_is)
    (case z_all => k_is)
    (case z_any => k_is)
    (case z_abs => k_is)
    (case z_reversed => k_is)
    (case z_enumerate => k_is)
    (case z_zip => k_is)
    (case z_set => k_is)
    (case a_ValueAt => k_is)
    (case l_ValueAt => k_is)
    (case c_ValueAt => k_is)
    (case k_ValueAt => k_is)
    (case a_Bounds => k_is)
    (case l_Bounds => k_is)
    (case c_Bounds => k_is)
    (case k_Bounds => k_is)
    (case a_PartAtLeast => k_is)
    (case l_PartAtLeast => k_is)
    (case c_PartAtLeast => k_is)
    (case k_PartAtLeast => k_is)
    (case a_PartsRange => k_is)
    (case l_PartsRange => k_is)
    (case c_PartsRange => k_is)
    (case k_PartsRange => k_is)
    (case a_United => k_is)
    (case l_United => k_is)
    (case c_United => k_is)
    (case k_United => k_is)
    (case a_LDeck => k_is)
    (case l_LDeck => k_is)
    (case c_LDeck => k_is)
    (case k_LDeck => k_is)
    (case a_LDraw => k_is)
    (case l_LDraw => k_is)
    (case c_LDraw => k_is)
    (case k_LDraw => k_is)
    (case a_LSame => k_is)
    (case l_LSame => k_is)
    (case c_LSame => k_is)
    (case k_LSame => k_is)
    (case a_LSameList => k_is)
    (case l_LSameList => k_is)
    (case c_LSameList => k_is)
    (case k_LSameList => k_is)
    (case a_LIntervals => k_is)
    (case l_LIntervals => k_is)
    (case c_LIntervals => k_is)
    (case k_LIntervals => k_is)
    (case a_LAW => k_is)
    (case l_LAW => k_is)
    (case c_LAW => k_is)
    (case k_LAW => k_is)
#print axioms PySem.Challenge.cw_retroact_k51_forms_and_intervals_holds
