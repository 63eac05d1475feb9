import PyProof.Rows.All
import Wide.All
import OpenK.AllK
import Wide.FinOn
import KE.SortData
import KE.SortKeyHeap
import HandS.SortInts
import HandS.ForMost
import HandS.DeepEq
import KE.KDictKeyed
import KE.KeyNested
import PyProof.Rows.TupTab
import HandS.DictComp
import KE.SortLaws
import HandS.SortKw
import HandS.Lambda
import HandS.ForSpec
import HandS.IsInst
import HandS.Walk
import HandS.Style
import HandS.Star
import HandS.Deep
import HandS.CallLocal
import HandS.CallSlots
import HandS.EndTab
import KE.OsSortAny
import KE.KNestM
import PySem.Challenge.RW_retroact_k29_differences_of_calls
set_option Elab.async false
set_option linter.all false
set_option maxRecDepth 100000
set_option maxHeartbeats 4000000
namespace RX
open PySem PySem.Spec PyProof.Rows L2
section
variable {β : Type}
/-- values beside what they stand for -/
theorem each_vals {R : V → β → Prop} : ∀ {us : List V} {bs : List β} {its : List Value}, PySem.W.EachIs R us bs → Vals us its → PySem.W.EachIs (fun (u : Value) b => ∃ v, RelV v u ∧ R v b) its bs
  | _, _, _, .nil, .nil => .nil
  | _, _, _, .cons h t, .cons r q => .cons ⟨_, r, h⟩ (each_vals t q)
theorem each_back {R : V → β → Prop} : ∀ {its : List Value} {bs : List β}, PySem.W.EachIs (fun (u : Value) b => ∃ v, RelV v u ∧ R v b) its bs → ∃ us, PySem.W.EachIs R us bs ∧ Vals us its
  | _, _, .nil => ⟨[], .nil, .nil⟩
  | _, _, .cons ⟨v, r, h⟩ t => by
    obtain ⟨us, a, b⟩ := each_back t
    exact ⟨v :: us, .cons h a, .cons r b⟩
end
/-- sorted(xs), items that stand for data: the list in the data's order -/
def rSortedD (K : PySem.W.Frag) (β : Type) (enc : β → PyData) : List V → Hp → VK → Prop := fun vs H Q => ∃ (a : Addr) (us : List V) (bs : List β) (R : V → β → Prop), vs = [V.ref a] ∧ SqL K H a us ∧ PySem.W.EachIs R us bs ∧ (∀ v b, R v b → Dp K H v (enc b)) ∧
  PySem.W.AllAlike (bs.map enc) ∧ PySem.W.Sortable (bs.map enc) ∧ (∀ b ∈ bs, (enc b).depth ≤ 60) ∧ ∀ (out : List V) (p : Addr), PySem.W.EachIs R out (bs.mergeSort (PySem.W.dataLe false enc)) → H p = none → Q (.ref p) (upd H p (.lst out))
section
variable {X : Cx} {β : Type} {enc : β → PyData}
theorem cr_sortedD (hu : X.A.units + 66 < cLine) : CallR X (.builtin "sorted") (rSortedD X.K β enc) := by
  intro pins s σ H vs us Q I r h
  obtain ⟨a, xs, bs, R, rfl, hs, he, hR, hal, hk, hd, q⟩ := h
  obtain ⟨its, rv, hl, hz⟩ := I.list hs
  rw [Vals.ref1 r]
  have e1 := each_vals he rv
  have e2 : PySem.W.EachIs (fun (u : Value) b => ∃ as, Reads s.heap u (enc b) as) its bs := e1.mono fun u b ⟨v, r1, h1⟩ => Dp.reads I (enc b) v u (hR v b h1) r1
  have hlen : bs.length ≤ sizeLine := by rw [← e1.length, ← rv.length]; exact hz
  refine PySem.W.sorted_data hl.isList e1 e2 hal hk hlen (fun b hb => ?_) fun out ho hO => ?_
  · have := hd b hb
    omega
  obtain ⟨ys, k1, k2⟩ := each_back hO
  obtain ⟨ep, he'⟩ := PyProof.Rows.sortedAll_at s.heap its out.toArray
  have hl2 : ys.length ≤ sizeLine := by rw [k2.length, ho]; exact hlen
  exact ⟨.ref _, upd H (s.heap.objs.size + 1) (.lst ys), I.laid (t' := s.toks) (fun _ _ => PyProof.Rows.sortedAll_old) (Nat.le_succ _) ⟨hl2, out, ep, k2, he'⟩, rfl, q _ _ k1 (I.hok.fresh (Nat.le_succ _))⟩
end
end RX
namespace RX
open PySem PySem.Spec PyProof.Rows L2
mutual
inductive NkAt (K : PySem.W.Frag) (H : Hp) : V → NestedKey → Prop
  | int (i : Int) : NkAt K H (.int i) (.num i)
  | str (x : Str) : NkAt K H (.str x) (.text x)
  | tup {a : Addr} {xs : List V} {ks : List NestedKey} : SqT K H a xs → NkAll K H xs ks → NkAt K H (.ref a) (.tup ks)
inductive NkAll (K : PySem.W.Frag) (H : Hp) : List V → List NestedKey → Prop
  | nil : NkAll K H [] []
  | cons {v : V} {vs : List V} {k : NestedKey} {ks : List NestedKey} : NkAt K H v k → NkAll K H vs ks → NkAll K H (v :: vs) (k :: ks)
end
section
variable {X : Cx} {pins : List (Addr × Obj)} {σ : L2.St} {H : Hp} {s : Shared}
mutual
theorem NkAt.is (I : Inv X pins σ H s) : ∀ (k : NestedKey) (v : V) (u : Value), NkAt X.K H v k → RelV v u → NestedIs s.heap k u
  | .none, _, _, h, r => by cases h
  | .num i, _, _, h, r => by
    cases h
    obtain ⟨t, rfl⟩ := r
    exact .int i t
  | .text x, _, _, h, r => by
    cases h
    obtain ⟨t, rfl⟩ := r
    exact .text x t
  | .tup ks, _, _, h, r => by
    cases h with
    | tup hs ha =>
      cases r
      obtain ⟨its, rv, ⟨o, ho, hc, n, hd⟩, _⟩ := I.tuple hs
      exact .tup ho hc hd (by simpa using NkAll.is I ks _ its ha rv)
theorem NkAll.is (I : Inv X pins σ H s) : ∀ (ks : List NestedKey) (vs : List V) (us : List Value), NkAll X.K H vs ks → Vals vs us → NestedAll s.heap ks us
  | [], _, _, h, r => by
    cases h
    cases r
    exact .nil
  | k :: ks, _, _, h, r => by
    cases h with
    | cons h1 h2 =>
      cases r with
      | cons r1 r2 => exact .cons (NkAt.is I k _ _ h1 r1) (NkAll.is I ks _ _ h2 r2)
end
end
/-- the dict at a: each key of xs, True -/
def Nst (P : Program) (w : World) (a : Addr) (xs : List (NestedKey × Addr)) (h : Heap) : Prop := ∃ o es ep, h.get? a = some o ∧ o.ExactDict ∧ o.data = .dict es ep ∧ es.toList = (xs.map fun x => (x.1, x.2, Value.bool true)).map (entryOfKey (nestedKind P w))
def NestO (P : Program) (w : World) (a : Addr) (xs : List (NestedKey × Addr)) : HO := .ext fun h => Nst P w a xs h ∧ (a == sysModules) = false ∧ (xs.map (·.1)).Nodup ∧ xs.length ≤ sizeLine
theorem nestO_new {P : Program} {w : World} {H : Hp} {h : Heap} {a : Addr} {xs : List (NestedKey × Addr)} (p : Nst P w a xs h) (hd : (a == sysModules) = false) (hn : (xs.map (·.1)).Nodup) (hz : xs.length ≤ sizeLine) : ObjOk P w H h a (NestO P w a xs) := by
  obtain ⟨o, es, ep, ho, r⟩ := p
  refine ⟨⟨⟨o, es, ep, ho, r⟩, hd, hn, hz⟩, ⟨o, ho⟩, fun h1 h2 p k => ?_⟩
  obtain ⟨⟨o', es', ep', ho', r'⟩, q⟩ := p
  exact ⟨⟨o', es', ep', k o' ho', r'⟩, q⟩
/-- the keys of xs stand in H -/
def Nks (K : PySem.W.Frag) (H : Hp) (xs : List (NestedKey × Addr)) : Prop := ∀ p ∈ xs, NkAt K H (.ref p.2) p.1 ∧ p.1.depth ≤ 8
section
variable {X : Cx} {pins : List (Addr × Obj)} {σ : L2.St} {H : Hp} {s : Shared} {a : Addr} {xs : List (NestedKey × Addr)}
theorem nest_dict (I : Inv X pins σ H s) (ha : H a = some (NestO X.prog X.w a xs)) (hk : Nks X.K H xs) : s.heap.DictOfH (nestedKind X.prog X.w) a (xs.map fun x => (x.1, x.2, Value.bool true)) ∧ (a == sysModules) = false ∧ xs.length ≤ sizeLine := by
  obtain ⟨⟨⟨o, es, ep, ho, hc, hd, he⟩, q1, q2, q3⟩, _, _⟩ := I.hok a _ ha
  refine ⟨⟨o, es, ep, ho, hc, hd, he, fun x hx => ?_, ?_⟩, q1, q3⟩
  · obtain ⟨p, hp, rfl⟩ := List.mem_map.mp hx
    exact ⟨NkAt.is I p.1 _ _ (hk p hp).1 rfl, (hk p hp).2⟩
  · rw [List.map_map]
    exact q2
theorem atKey_true {k : NestedKey} : (atKey (xs.map fun x => (x.1, x.2, Value.bool true)) k).isSome = decide (k ∈ xs.map (·.1)) := by
  induction xs with
  | nil => rfl
  | cons x xs ih =>
    unfold atKey at ih ⊢
    rw [List.map_cons, List.find?_cons]
    by_cases h : x.1 = k
    · simp [h]
    · have h' : ¬ k = x.1 := fun z => h z.symm
      simp only [h, decide_false]
      rw [ih]
      simp [h']
/-- y in d, y a nested tuple -/
def rInN (P : Program) (w : World) (K : PySem.W.Frag) (f : Bool → Bool) : R2 := fun x y H Q => ∃ (a d : Addr) (k : NestedKey) (xs : List (NestedKey × Addr)), x = .ref a ∧ y = .ref d ∧ H d = some (NestO P w d xs) ∧ Nks K H xs ∧ NkAt K H (.ref a) k ∧ k.depth ≤ 8 ∧ Q (.bl (f (decide (k ∈ xs.map (·.1))))) H
theorem op_inN (hu : X.A.units + 66 < cLine) : OpR X (compareOp .In) (rInN X.prog X.w X.K id) := by
  intro pins s σ H x y v u Q I rx ry h
  obtain ⟨a, d, k, xs, rfl, rfl, hd, hk, hn, hdp, q⟩ := h
  obtain rfl : v = Value.ref a := rx
  obtain rfl : u = Value.ref d := ry
  obtain ⟨D, q1, _⟩ := nest_dict I hd hk
  refine wpAny_in_heap (knd := nestedKind X.prog X.w) (k := k) (by show X.A.units + 1 + 8 < cLine; omega) ⟨NkAt.is I k _ _ hn rfl, hdp⟩ q1 D ?_
  rw [atKey_true]
  exact ⟨.bl _, H, I.tok _, rfl, q⟩
theorem op_notInN (hu : X.A.units + 66 < cLine) : OpR X (compareOp .NotIn) (rInN X.prog X.w X.K not) := by
  intro pins s σ H x y v u Q I rx ry h
  obtain ⟨a, d, k, xs, rfl, rfl, hd, hk, hn, hdp, q⟩ := h
  obtain rfl : v = Value.ref a := rx
  obtain rfl : u = Value.ref d := ry
  obtain ⟨D, q1, _⟩ := nest_dict I hd hk
  refine wpAny_notIn_heap (knd := nestedKind X.prog X.w) (k := k) (by show X.A.units + 1 + 8 < cLine; omega) ⟨NkAt.is I k _ _ hn rfl, hdp⟩ q1 D ?_
  rw [atKey_true]
  exact ⟨.bl _, H, I.tok _, rfl, q⟩
end
/-- xs with the key k at a -/
def addK (xs : List (NestedKey × Addr)) (k : NestedKey) (a : Addr) : List (NestedKey × Addr) := if k ∈ xs.map (·.1) then xs else xs ++ [(k, a)]
theorem addK_mem {xs : List (NestedKey × Addr)} {k j : NestedKey} {a : Addr} : j ∈ (addK xs k a).map (·.1) ↔ j = k ∨ j ∈ xs.map (·.1) := by
  unfold addK
  split
  · rename_i h
    exact ⟨.inr, fun q => q.elim (fun e => e ▸ h) id⟩
  · rw [List.map_append, List.mem_append]
    simp [or_comm]
theorem addK_nodup {xs : List (NestedKey × Addr)} {k : NestedKey} {a : Addr} (h : (xs.map (·.1)).Nodup) : ((addK xs k a).map (·.1)).Nodup := by
  unfold addK
  split
  · exact h
  · rename_i n
    rw [List.map_append]
    refine List.nodup_append.mpr ⟨h, by simp, fun x hx y hy => ?_⟩
    have : y = k := by simpa using hy
    subst this
    intro e
    exact n (e ▸ hx)
theorem addK_len {xs : List (NestedKey × Addr)} {k : NestedKey} {a : Addr} : (addK xs k a).length ≤ xs.length + 1 := by
  unfold addK
  split
  · exact Nat.le_succ _
  · simp
theorem addK_ks {K : PySem.W.Frag} {H : Hp} {xs : List (NestedKey × Addr)} {k : NestedKey} {a : Addr} (h : Nks K H xs) (hn : NkAt K H (.ref a) k) (hd : k.depth ≤ 8) : Nks K H (addK xs k a) := by
  unfold addK
  split
  · exact h
  · intro p hp
    rcases List.mem_append.mp hp with q | q
    · exact h p q
    · have : p = (k, a) := by simpa using q
      subst this
      exact ⟨hn, hd⟩
theorem stored_add {xs : List (NestedKey × Addr)} {k : NestedKey} {a : Addr} : storedH (xs.map fun x => (x.1, x.2, Value.bool true)) k a (.bool true) = (addK xs k a).map fun x => (x.1, x.2, Value.bool true) := by
  unfold storedH addK
  have e : (atKey (xs.map fun x => (x.1, x.2, Value.bool true)) k).isSome = decide (k ∈ xs.map (·.1)) := atKey_true
  rw [e]
  by_cases h : k ∈ xs.map (·.1)
  · rw [decide_eq_true h, if_pos rfl, if_pos h, List.map_map]
    refine List.map_congr_left fun x _ => ?_
    show putAt k (Value.bool true) (x.1, x.2, Value.bool true) = _
    unfold putAt
    split
    · rfl
    · rfl
  · rw [decide_eq_false h, if_neg (by decide), if_neg h, List.map_append]
    rfl
section
variable {X : Cx} {pins : List (Addr × Obj)} {σ : L2.St} {H : Hp} {s : Shared} {E : Value → Shared → Prop} {D a : Addr} {xs : List (NestedKey × Addr)} {k : NestedKey} {u r : Value} {Q : Unit → Shared → Prop}
theorem nest_empty {P : Program} {w : World} {H : Hp} (h : Heap) (hb : sysModules < h.objs.size) : ObjOk P w H (h.push { cls := .type "dict", data := .dict #[] }) h.objs.size (NestO P w h.objs.size []) :=
  nestO_new ⟨_, #[], 0, Heap.get?_push_size _ rfl, ⟨rfl, rfl, rfl⟩, rfl, rfl⟩ (beq_eq_false_iff_ne.mpr (Ne.symm (Nat.ne_of_lt hb))) List.nodup_nil (Nat.zero_le _)
/-- d[k] = True by a comprehension -/
theorem nest_dictSet (I : Inv X pins σ H s) (hu : X.A.units + 66 < cLine) (hD : H D = some (NestO X.prog X.w D xs)) (hk : Nks X.K H xs) (hz : xs.length < sizeLine) (hn : NkAt X.K H (.ref a) k) (hdp : k.depth ≤ 8)
    (h : ∀ s', Inv X pins σ (upd H D (NestO X.prog X.w D (addK xs k a))) s' → Q () s') : wpAny (model X.prog X.w) X.A (dictSet D (.ref a) (.bool true)) Q E s := by
  obtain ⟨dd, hd, _⟩ := nest_dict I hD hk
  refine wpAny_dictSet_heap (knd := nestedKind X.prog X.w) (k := k) (hsz := by rw [List.length_map]; exact Nat.le_of_lt hz) (by show X.A.units + 8 < cLine; omega) ⟨NkAt.is I k _ _ hn rfl, hdp⟩ dd fun h' dd' hs => h _ ?_
  rw [stored_add] at dd'
  obtain ⟨o, es, ep, ho, hc, hdt, he, _, hnd⟩ := dd'
  obtain ⟨⟨_, _, hn0, _⟩, _, _⟩ := I.hok D _ hD
  exact d_write I (by rw [hD]; exact True.intro) hs ⟨o, ho⟩ (nestO_new ⟨o, es, ep, ho, hc, hdt, he⟩ hd (addK_nodup hn0) (Nat.le_trans addK_len hz))
end
mutual
/-- tuples stay (frozen ones too) -/
theorem NkAt.rd {K : PySem.W.Frag} {H H' : Hp} (e : ∀ a xs, SqT K H a xs → SqT K H' a xs) : ∀ {k : NestedKey} {v : V}, NkAt K H v k → NkAt K H' v k
  | .num i, _, h => by cases h; exact .int i
  | .text x, _, h => by cases h; exact .str x
  | .none, _, h => by cases h
  | .tup ks, _, h => by
    cases h with
    | tup hs ha => exact .tup (e _ _ hs) (NkAll.rd e ha)
theorem NkAll.rd {K : PySem.W.Frag} {H H' : Hp} (e : ∀ a xs, SqT K H a xs → SqT K H' a xs) : ∀ {ks : List NestedKey} {vs : List V}, NkAll K H vs ks → NkAll K H' vs ks
  | [], _, h => by cases h; exact .nil
  | k :: ks, _, h => by
    cases h with
    | cons h1 h2 => exact .cons (NkAt.rd e h1) (NkAll.rd e h2)
end
theorem NkAt.mono {K : PySem.W.Frag} {H H' : Hp} (s : ∀ b o, H b = some o → H' b = some o) {k : NestedKey} {v : V} (h : NkAt K H v k) : NkAt K H' v k := h.rd fun a xs q => by
  rcases q with q | q
  · rcases q with q | ⟨o, q⟩
    · exact .inl (.inl (s _ _ q))
    · exact .inl (.inr ⟨o, s _ _ q⟩)
  · exact .inr q
theorem NkAt.nest {K : PySem.W.Frag} {H : Hp} {P : Program} {w : World} {D : Addr} {xs : List (NestedKey × Addr)} {o : HO} (hD : H D = some (NestO P w D xs)) {k : NestedKey} {v : V} (h : NkAt K H v k) : NkAt K (L2.upd H D o) v k := h.rd fun a ys q => by
  have go : ∀ u, H a = some u → (∀ φ, u ≠ .ext φ) → L2.upd H D o a = some u := fun u hu hn => by
    rw [upd_ne (fun z => by
      rw [z, hD] at hu
      exact hn _ (Option.some.inj hu).symm)]
    exact hu
  rcases q with q | q
  · rcases q with q | ⟨o, q⟩
    · exact .inl (.inl (go _ q fun φ z => by cases z))
    · exact .inl (.inr ⟨o, go _ q fun φ z => by cases z⟩)
  · exact .inr q
end RX
namespace RX
open PySem PySem.Spec PyProof.Rows L2
section
variable {X : Cx}
/-- {y: True for target in iter}: D the new dict; y a nested tuple -/
def tDcN (X : Cx) (wi : TI) (g : TG) (tk : TE) (vs : List Nat) : TE := fun σ H Q => wi σ H fun J H1 => ∀ D, H1 D = none → ∃ W : Nat → Nat → Hp → Prop, (∃ m, W 0 m (L2.upd H1 D (NestO X.prog X.w D []))) ∧ ∀ i m H, W i m H →
  (J.stop i H ∧ Q (.ref D) H) ∨ (J.go i H ∧ ∃ Nx : Hp → Prop, (∀ H', Nx H' → ∃ m', m' < m ∧ W (i + 1) m' H') ∧ ∀ x H', J.yld i H x H' → g x (wipe σ vs) H' fun σ2 H2 => wipe σ2 vs = wipe σ vs ∧
    tk σ2 H2 fun y H5 => ∃ (a : Addr) (xs : List (NestedKey × Addr)) (k : NestedKey), y = .ref a ∧ H5 D = some (NestO X.prog X.w D xs) ∧ Nks X.K H5 xs ∧ xs.length < sizeLine ∧ NkAt X.K H5 (.ref a) k ∧ k.depth ≤ 8 ∧ Nx (L2.upd H5 D (NestO X.prog X.w D (addK xs k a))))
/-- the dict of a display with nested tuples as keys, each with True -/
theorem pe_dcN {kx tg iter : Expr} {scope : Scope} {own : List (Str × Nat)} {pos p : Pos} {j : Nat} {wi : TI} {g : TG} {tk : TE} (hc : X.calm = true) (hu : X.A.units + 66 < cLine) (hN : X.N.Nodup) (hi : PI X tg iter wi) (ok : BlkOk X.N X.env.scope scope own)
    (hg : ∀ (s : Shared) (H : Hp) (C : Addr) (cl : List (Str × Addr)) (fp : List Addr), PG (X.blk s H scope (compEnvC scope cl C X.env) fp) tg g)
    (hk : ∀ (s : Shared) (H : Hp) (C : Addr) (cl : List (Str × Addr)) (fp : List Addr), PE (X.blk s H scope (compEnvC scope cl C X.env) fp) kx tk)
    (hs : ∀ x, foldedSetIterable iter X.env x = pure x := by intro _; rfl) :
    PE X (.DictComp kx (.Constant (.bool true) j p) [⟨tg, iter, [], 0⟩] scope pos) (tDcN X wi g tk (own.map (·.2))) := by
  refine ⟨fun pins s σ H Q I h => ?_⟩
  rw [arm_eval_DictComp]
  have hfree : ∀ y ∈ scope.names, y.2 = .free → ∃ c, X.env.cells.lookup y.1 = some c := fun y hy e => by
    rcases ok.free y hy e with k | k
    · exact I.ok.has _ (.inl k)
    · exact I.ok.has _ (.inr k)
  refine wpAny_comprehension_free (use := none) rfl hs (closure_ok hfree) ok.kind (fun y hy e => by rw [ok.uniq y hy, e])
    (thn (hi.run pins s σ H _ I h) fun xv s1 hx => thn hx fun itv s2 h2 => ?_)
  obtain ⟨it, fp, tn, J, H2, e, I2, T, st2, f2, q⟩ := h2
  subst e
  refine wpAny_newObj_type (newEnv_comp ?_)
  generalize hD : s2.heap.objs.size = D
  have hDn : H2 D = none := I2.hok.fresh (Nat.le_of_eq hD)
  obtain ⟨W, ⟨m0, w0⟩, turn⟩ := q D hDn
  -- the new dict
  generalize hs3 : ({ s2 with heap := s2.heap.push { cls := .type "dict", data := .dict #[] } } : Shared) = s3
  have I3 : Inv X pins σ (L2.upd H2 D (NestO X.prog X.w D [])) s3 := by
    rw [← hs3]
    refine I2.laid (t' := s2.toks) (fun b o e => Heap.get?_push_of_some _ e) (Nat.le_of_eq hD) ?_
    rw [← hD]
    exact nest_empty s2.heap I2.big
  have h3 : s3.heap = s2.heap.push { cls := .type "dict", data := .dict #[] } := by rw [← hs3]
  have f3 : ∀ b ∈ fp, FpOk X pins (L2.upd H2 D (NestO X.prog X.w D [])) b ∧ b < s3.heap.objs.size := fun b hb => by
    obtain ⟨o, e, _⟩ := T.obj _ _ st2 b hb
    have hlt := Heap.lt_size e
    refine ⟨⟨?_, (f2 b hb).2⟩, by rw [h3, Heap.size_push]; exact Nat.lt_succ_of_lt hlt⟩
    rw [upd_ne (by rw [← hD]; exact Nat.ne_of_lt hlt)]
    exact (f2 b hb).1
  have st3 : tn 0 s3.heap := T.keep _ _ _ st2 fun b _ o e => by rw [h3]; exact Heap.get?_push_of_some _ e
  generalize hH3 : L2.upd H2 D (NestO X.prog X.w D []) = H3 at I3 w0 f3
  generalize hcl : cellsFrom (s3.heap.objs.size + 1) scope.names (cloFrom X.env.cells scope.names []) = cl
  have I4 : Inv (X.blk s3 H3 scope (compEnvC scope cl s3.heap.objs.size X.env) fp) [] (wipe σ (own.map (·.2))) H3 { s3 with heap := pushCells (s3.heap.push { cls := .type "dict", data := .dict #[] }) scope.names } := by
    rw [← hcl]
    exact block_start I3 ok hN f3
  have pg := hg s3 H3 s3.heap.objs.size cl fp
  have pk := hk s3 H3 s3.heap.objs.size cl fp
  show codeAny _ _ (.compStart (.DictComp kx (.Constant (.bool true) j p) [⟨tg, iter, [], 0⟩] scope pos) 0 (.ref it) (.ref D) (compEnvC scope cl s3.heap.objs.size X.env)) (compPost (model X.prog X.w) X.A X.xe none (EP X pins σ Q) (.ref D) s3.heap.objs.size) { s3 with heap := pushCells (s3.heap.push { cls := .type "dict", data := .dict #[] }) scope.names }
  generalize hce : compEnvC scope cl s3.heap.objs.size X.env = ce at I4 pg pk ⊢
  have cL : ce.locals = s3.heap.objs.size := by subst hce; rfl
  generalize hs4 : ({ s3 with heap := pushCells (s3.heap.push { cls := .type "dict", data := .dict #[] }) scope.names } : Shared) = s4 at I4 ⊢
  have st4 : tn 0 s4.heap := T.keep _ _ _ st3 fun b _ o e => by rw [← hs4]; exact pushCells_keeps _ _ _ _ (Heap.get?_push_of_some _ e)
  have stat : ∀ {σ' : L2.St} {H' : Hp} {s' : Shared}, Inv (X.blk s3 H3 scope ce fp) [] σ' H' s' → (∀ b ∈ fp, H' b = none) → ∀ b ∈ fp, FpOk (X.blk s3 H3 scope ce fp) [] H' b := fun {σ' H' s'} I' hn b hb =>
    ⟨hn b hb, (I'.ok.exf b hb).1, I'.ok.exfs b hb, .inl hb, fun x c e => (I'.ok.exf b hb).2 x c e, fun p hp => absurd (show p ∈ ([] : List (Addr × Obj)) ++ [] from hp) (by simp)⟩
  have loop : codeAny (model X.prog X.w) X.A (.compLoop (.DictComp kx (.Constant (.bool true) j p) [⟨tg, iter, [], 0⟩] scope pos) 0 (.ref it) (.ref D) ce) (compPost (model X.prog X.w) X.A X.xe none (EP X pins σ Q) (.ref D) s3.heap.objs.size) s4 := by
    refine compLoop_anyD (fun n s' => ∃ i H', Inv (X.blk s3 H3 scope ce fp) [] (wipe σ (own.map (·.2))) H' s' ∧ tn i s'.heap ∧ (∀ b ∈ fp, H' b = none) ∧ W i n H') ?_ m0 ⟨0, H3, I4, st4, fun b hb => (f3 b hb).1.1, w0⟩
    rintro n s5 ⟨i, H5, I5, st5, n5, w5⟩
    rcases turn i n H5 w5 with ⟨stop, qq⟩ | ⟨go, Nx, hNx, step⟩
    · refine thnF (T.done (X.blk s3 H3 scope ce fp) rfl rfl rfl hc i [] s5 _ H5 (fun _ _ => False) I5 (stat I5 n5) st5 stop) fun r s6 ⟨hr, I6⟩ => ?_
      subst hr
      have I7 : Inv X pins σ H5 s6 := I3.call' (ch := fp) I6.os I6.base I6.hok I6.bare fun b hb => ⟨(f3 b hb).1.2.2.2.1, (f3 b hb).1.2.1, (f3 b hb).1.2.2.2.2.1, (f3 b hb).1.2.2.2.2.2⟩
      have nC : H5 s3.heap.objs.size = none := by rw [← cL]; exact I6.free
      obtain ⟨m, hn, _⟩ := I6.loc
      have hn : s6.heap.Ns ce.locals m := hn
      rw [cL] at hn
      obtain ⟨f0, f1, f2', f3', f4, f5⟩ := (I3.fpOk (Nat.le_refl _) nC : FpOk X pins H5 _)
      exact ⟨m, hn, fun h'' sb => ⟨.ref D, H5, I7.turned (t' := s6.toks) (fun b o hb e => (sb.2 b hb).trans e) f0 f1 f3' f4 f5, rfl, qq⟩⟩
    · refine thnF (T.item (X.blk s3 H3 scope ce fp) rfl rfl rfl hc i [] s5 _ H5 (fun _ _ => False) I5 (stat I5 n5) st5 go) fun r s6 ⟨u, hr, h6⟩ => ?_
      subst hr
      refine thnF h6 fun _ s7 ⟨x, H7, I7, r7, y7, st7, n7⟩ => ?_
      have I7' := I7.pinned (stat I7 n7) (T.obj _ _ st7)
      refine thnF (pg.run _ s7 _ H7 x u _ I7' r7 (step x H7 y7)) fun _ s8 ⟨σ8, H8, I8, hw8, q8⟩ => ?_
      refine wpAny_pure ?_
      refine (if_pos rfl).mpr ?_
      refine thnF (pk.run _ s8 σ8 H8 _ I8 q8) fun z s10 ⟨yk, H10, I10, r10, a, xs, k, ek, hD10, hks, hz10, hnk, hdp, nx⟩ => ?_
      subst ek
      obtain rfl : z = Value.ref a := r10
      refine thnF ((pe_bl (X := X.blk s3 H3 scope ce fp) (b := true)).run _ s10 σ8 H10 (fun v H' => v = .bl true ∧ H' = H10) I10 ⟨rfl, rfl⟩) fun z2 s11 ⟨v2, H11, I11, r11, e2, eH⟩ => ?_
      subst e2
      subst eH
      obtain rfl : z2 = Value.bool true := r11
      refine nest_dictSet (X := X.blk s3 H3 scope ce fp) I11 hu hD10 hks hz10 hnk hdp fun s12 I12 => ?_
      obtain ⟨m', hm, w'⟩ := hNx _ nx
      have pin' : ∀ b ∈ fp, ∀ o, s7.heap.get? b = some o → s12.heap.get? b = some o ∧ (L2.upd H11 D (NestO X.prog X.w D (addK xs k a))) b = none := fun b hb o e =>
        let z := I12.pin (b, o) (List.mem_append_right _ (List.mem_append_right _ (mem_pinsAt hb e)))
        ⟨z.1, z.2.1⟩
      refine ⟨m', hm, i + 1, _, (I12.unpinned (pins := [])).weak (by rw [← hw8, wipe_length]) (fun j v e => ?_), T.keep _ _ _ st7 fun b hb o e => (pin' b hb o e).1, fun b hb => ?_, w'⟩
      · rw [← hw8] at e
        exact (wipe_some e).1
      · obtain ⟨o, e, _⟩ := T.obj _ _ st7 b hb
        exact (pin' b hb o e).2
  exact codeAny_compStart_dict loop (T.self X.A 0 _ _ _ st4 loop)
end
end RX
namespace RX
open PySem PySem.Spec PyProof.Rows L2
/-- over a list that stays: all its items are keys -/
theorem dcN_list {X : Cx} {a : Addr} {us : List V} {ks : List NestedKey} {g : TG} {tk : TE} {vs : List Nat} {σ : L2.St} {H1 : Hp} {D : Addr} {Qd : Hp → Prop} (hD : H1 D = none) (ha : SqL X.K H1 a us) (hk : PySem.W.EachIs (fun v k => (∃ b, v = .ref b) ∧ NkAt X.K H1 v k ∧ k.depth ≤ 8) us ks) (hz : us.length ≤ 100000)
    (hs : ∀ (x : V) (H : Hp) (Nx : V → Hp → Prop), (∀ y, y = x → Nx y H) → g x (wipe σ vs) H fun σ2 H2 => wipe σ2 vs = wipe σ vs ∧ tk σ2 H2 fun y H5 => Nx y H5)
    (hd : ∀ H' xs, (∀ b o, H1 b = some o → H' b = some o) → H' D = some (NestO X.prog X.w D xs) → Nks X.K H' xs → (∀ k, k ∈ xs.map (·.1) ↔ k ∈ ks) → Qd H') :
    ∃ W : Nat → Nat → Hp → Prop, (∃ m, W 0 m (L2.upd H1 D (NestO X.prog X.w D []))) ∧ ∀ i m H, W i m H →
      ((Itl X.K a).stop i H ∧ Qd H) ∨ ((Itl X.K a).go i H ∧ ∃ Nx : Hp → Prop, (∀ H', Nx H' → ∃ m', m' < m ∧ W (i + 1) m' H') ∧ ∀ x H', (Itl X.K a).yld i H x H' → g x (wipe σ vs) H' fun σ2 H2 => wipe σ2 vs = wipe σ vs ∧
        tk σ2 H2 fun y H5 => ∃ (a : Addr) (xs : List (NestedKey × Addr)) (k : NestedKey), y = .ref a ∧ H5 D = some (NestO X.prog X.w D xs) ∧ Nks X.K H5 xs ∧ xs.length < sizeLine ∧ NkAt X.K H5 (.ref a) k ∧ k.depth ≤ 8 ∧ Nx (L2.upd H5 D (NestO X.prog X.w D (addK xs k a)))) := by
  have sq : ∀ {H' : Hp}, (∀ b o, H1 b = some o → H' b = some o) → SqL X.K H' a us := fun {H'} s => by
    rcases ha with h | h
    · rcases h with h | ⟨o, h⟩
      · exact .inl (.inl (s _ _ h))
      · exact .inl (.inr ⟨o, s _ _ h⟩)
    · exact .inr h
  refine ⟨fun i m H => m = us.length - i ∧ i ≤ us.length ∧ ∃ xs, (∀ b o, H1 b = some o → H b = some o) ∧ H D = some (NestO X.prog X.w D xs) ∧ Nks X.K H xs ∧ xs.length ≤ i ∧ ∀ k, k ∈ xs.map (·.1) ↔ k ∈ ks.take i, ⟨us.length, by simp, Nat.zero_le _, [], fun b o h => by rw [upd_ne (ne_of_none h hD)]; exact h, upd_same, fun p hp => by simp at hp, Nat.le_refl _, fun k => by simp⟩, ?_⟩
  rintro i m H ⟨rfl, hi, xs, s, hDx, hn, hl, hkeys⟩
  by_cases hlt : i < us.length
  · refine .inr ⟨⟨us, us[i], sq s, by simp [hlt]⟩, fun H' => i + 1 ≤ us.length ∧ ∃ xs, (∀ b o, H1 b = some o → H' b = some o) ∧ H' D = some (NestO X.prog X.w D xs) ∧ Nks X.K H' xs ∧ xs.length ≤ i + 1 ∧ ∀ k, k ∈ xs.map (·.1) ↔ k ∈ ks.take (i + 1), fun H' p' => ⟨us.length - (i + 1), by omega, rfl, p'⟩, fun x H' y => ?_⟩
    obtain ⟨e, y⟩ := y
    subst e
    have hx := y us (sq s)
    have hkl := hk.length
    obtain ⟨k, hki⟩ : ∃ k, ks[i]? = some k := ⟨_, List.getElem?_eq_getElem (by omega)⟩
    obtain ⟨⟨b, eb⟩, hnk, hdp⟩ := hk.zip (x, k) (List.mem_of_getElem? (i := i) (by rw [List.getElem?_zip_eq_some]; exact ⟨hx, hki⟩))
    refine hs x _ _ fun y hy => ?_
    rw [hy]
    have eb : x = .ref b := eb
    have hnk' : NkAt X.K H' x k := by
      have := NkAt.mono s hnk
      exact this
    rw [eb] at hnk' ⊢
    refine ⟨b, xs, k, rfl, hDx, hn, Nat.lt_of_le_of_lt (Nat.le_trans hl (Nat.le_trans hi hz)) (by decide), hnk', hdp, hlt, addK xs k b, fun c o h => by rw [upd_ne (ne_of_none h hD)]; exact s c o h, upd_same, ?_, Nat.le_trans addK_len (Nat.succ_le_succ hl), fun j => ?_⟩
    · intro p hp
      obtain ⟨q1, q2⟩ := addK_ks hn hnk' hdp p hp
      exact ⟨NkAt.nest hDx q1, q2⟩
    · rw [addK_mem, hkeys, List.take_add_one, hki, List.mem_append]
      simp [or_comm]
  · have e : i = us.length := by omega
    subst e
    rw [hk.length, List.take_length] at hkeys
    exact .inl ⟨⟨us, sq s, Nat.le_refl _⟩, hd H xs s hDx hn hkeys⟩
end RX
namespace RX
open PySem PySem.Spec PyProof.Rows L2 LamX
section
variable {X : Cx} {pins : List (Addr × Obj)} {σ : L2.St} {H : Hp} {s : Shared}
mutual
theorem NkAt.reads (I : Inv X pins σ H s) : ∀ (k : NestedKey) (v : V) (u : Value), NkAt X.K H v k → RelV v u → Reads s.heap u k.data []
  | .none, _, _, h, r => by cases h
  | .num i, _, _, h, r => by
    cases h
    obtain ⟨t, rfl⟩ := r
    exact .int i t
  | .text x, _, _, h, r => by
    cases h
    obtain ⟨t, rfl⟩ := r
    exact .str x t
  | .tup ks, _, _, h, r => by
    cases h with
    | tup hs ha =>
      cases r
      obtain ⟨its, rv, ⟨o, ho, hc, n, hd⟩, _⟩ := I.tuple hs
      exact .tuple ho hc hd (by simpa using NkAll.reads I ks _ its ha rv)
theorem NkAll.reads (I : Inv X pins σ H s) : ∀ (ks : List NestedKey) (vs : List V) (us : List Value), NkAll X.K H vs ks → Vals vs us → ReadsAll s.heap us (NestedKey.datas ks) []
  | [], _, _, h, r => by
    cases h
    cases r
    exact .nil
  | k :: ks, _, _, h, r => by
    cases h with
    | cons h1 h2 =>
      cases r with
      | cons r1 r2 => exact ReadsAll.cons (as := []) (bs := []) (NkAt.reads I k _ _ h1 r1) (NkAll.reads I ks _ _ h2 r2)
end
end
/-- a lambda that gives its argument's first item, called -/
theorem lam0_call {prog : Program} {w : World} {A : Around} {s : Shared} {f t c' : Addr} {qual x : Str} {params : Arguments} {p1 p2 p3 : Pos} {j : Nat} {scope : Scope} {pm ctv y : Value} {its : List Value} (hroom : A.depth < recursionLimit)
    (hf : s.heap.get? f = some (PySem.W.kla_obj "<lambda>" qual params (.Subscript (.Name x p1) (.Constant (.int 0) j p2) p3) scope [] pm c' ctv)) (hcd : s.heap.CodeRec (.ref c') qual) (hn : scope.names = [(x, .local)]) (hk : scope.kind = .function) (hco : scope.isCoroutine = false) (hgen : scope.isGenerator = false)
    (hbind : ∀ u, bindArgs (PySem.W.kla_fn "<lambda>" qual params (.Subscript (.Name x p1) (.Constant (.int 0) j p2) p3) scope [] pm (.ref c') ctv) ⟨[u], []⟩ = pure [(x, u)]) (hlim : s.heap.NoLimit) (ht : IsTup s.heap t its.toArray) (h0 : its[0]? = some y) (hdb : (x == ("__debug__" : Str)) = false) :
    wpAny (model prog w) A (call (.ref f) [.ref t]) (fun u s' => u = y ∧ ∃ h' tk, s' = { s with heap := h', toks := tk } ∧ ∀ b o, s.heap.get? b = some o → h'.get? b = some o) (fun _ _ => False) s := by
  refine wpAny_call (PySem.W.kla_callFunE hroom hf rfl hco hgen rfl hcd ?_)
  rw [hbind]
  refine wpAny_pure (wpAny_newFunctionEnv (fun z hz => ?_) (fun z hz => ?_) (fun h₁ hns hsb => ⟨hlim.fresh _ hsb, ?_⟩) hk)
  · rw [hn] at hz
    have : z = (x, .local) := by simpa using hz
    rw [this]
    exact fun e => nomatch e
  · have : z = (x, Value.ref t) := by simpa using hz
    rw [this, hn]
    simp
  have kp : ∀ b o, s.heap.get? b = some o → h₁.get? b = some o := fun b o e => hsb.extBut b o (Nat.ne_of_lt (Heap.lt_size e)) (Heap.get?_push_of_some _ e)
  refine PySem.W.kla_codeExpr ?_
  refine Subscript_Constant (wpAny_Name (wpAny_loadName_local (v := .ref t) hk ?_ hns (by simp) ?_) hdb)
  · show scope.names.lookup x = some .local
    rw [hn]
    simp
  refine wpAny_Constant_int ?_
  obtain ⟨o, ho, hc, n, hd⟩ := ht
  refine ⟨"tuple", "tuple.__getitem__", PyProof.Rows.slot_tuple_getitem.lookup, ⟨o, kp _ _ ho, hc⟩, ?_⟩
  exact PyProof.Rows.getItem_tuple (j := 0) (x := y) ⟨o, kp _ _ ho, hc, n, hd⟩ (by decide) (by decide) (by
    have : 0 < its.length := by
      rcases Nat.lt_or_ge 0 its.length with h | h
      · exact h
      · rw [List.getElem?_eq_none h] at h0
        cases h0
    have e : its.toArray.size = its.length := by simp
    rw [e]
    unfold seqIndex?
    simp [this]) (by simpa using h0) ⟨rfl, _, _, rfl, kp⟩
/-- sorted(e, key=lambda x: x[0]): items whose first part is a nested tuple (or an int, a text) -/
def kSort0 (K : PySem.W.Frag) (T : List (Addr × Str)) (β : Type) (key : β → NestedKey) (Q : VK) (v : V) (H1 : Hp) : Prop := ∃ (a : Addr) (us : List V) (bs : List β) (R : V → β → Prop), v = V.ref a ∧ SqL K H1 a us ∧ PySem.W.EachIs R us bs ∧
  (∀ v b, R v b → ∃ (t : Addr) (y : V) (ys : List V), v = .ref t ∧ SqT K H1 t (y :: ys) ∧ NkAt K H1 y (key b)) ∧ PySem.W.AllAlike (bs.map fun b => (key b).data) ∧ PySem.W.Sortable (bs.map fun b => (key b).data) ∧ (∀ b ∈ bs, (key b).data.depth ≤ 60) ∧ Tabs T H1 ∧
  ∀ (out : List V) (p : Addr) (H2 : Hp), ExtN H1 H2 → Tabs T H2 → PySem.W.EachIs R out (bs.mergeSort (PySem.W.dataLe false fun b => (key b).data)) → H2 p = none → Q (.ref p) (upd H2 p (.lst out))
def tSort0 (K : PySem.W.Frag) (T : List (Addr × Str)) (β : Type) (key : β → NestedKey) (t : TA) : TE := fun σ H Q => t σ H fun vs H1 => match vs with | [v] => kSort0 K T β key Q v H1 | _ => False
theorem SqT.ext {K : PySem.W.Frag} {H H' : Hp} {a : Addr} {xs : List V} (h : SqT K H a xs) (e : ExtN H H') : SqT K H' a xs := by
  rcases h with h | h
  · refine .inl ?_
    rcases h with h | ⟨o, h⟩
    · exact .inl (e _ _ h fun ps z => by cases z)
    · exact .inr ⟨o, e _ _ h fun ps z => by cases z⟩
  · exact .inr h
theorem SqL.ext {K : PySem.W.Frag} {H H' : Hp} {a : Addr} {xs : List V} (h : SqL K H a xs) (e : ExtN H H') : SqL K H' a xs := by
  rcases h with h | h
  · refine .inl ?_
    rcases h with h | ⟨o, h⟩
    · exact .inl (e _ _ h fun ps z => by cases z)
    · exact .inr ⟨o, e _ _ h fun ps z => by cases z⟩
  · exact .inr h
mutual
theorem NkAt.ext {K : PySem.W.Frag} {H H' : Hp} (e : ExtN H H') : ∀ {k : NestedKey} {v : V}, NkAt K H v k → NkAt K H' v k
  | .num i, _, h => by cases h; exact .int i
  | .text x, _, h => by cases h; exact .str x
  | .none, _, h => by cases h
  | .tup ks, _, h => by
    cases h with
    | tup hs ha => exact .tup (SqT.ext hs e) (NkAll.ext e ha)
theorem NkAll.ext {K : PySem.W.Frag} {H H' : Hp} (e : ExtN H H') : ∀ {ks : List NestedKey} {vs : List V}, NkAll K H vs ks → NkAll K H' vs ks
  | [], _, h => by cases h; exact .nil
  | k :: ks, _, h => by
    cases h with
    | cons h1 h2 => exact .cons (NkAt.ext e h1) (NkAll.ext e h2)
end
section
variable {X : Cx} {β : Type} {key : β → NestedKey} {T : List (Addr × Str)} {c P : Addr} {x : Str} {p p1 p2 p3 pos lpos kpos : Pos} {j : Nat} {e : Expr} {scope : Scope} {params : Arguments} {t : TA}
theorem pe_sort0 (TB : TabB X.base X.mg c P) (hcode : X.env.code = .ref c) (hm : (P, X.env.qual ++ "<lambda>") ∈ T) (hu : ∀ p ∈ T, p.1 = P → p.2 = X.env.qual ++ "<lambda>") (hdef : defaultsOf params X.env = ([], []))
    (hn : scope.names = [(x, .local)]) (hk : scope.kind = .function) (hco : scope.isCoroutine = false) (hgen : scope.isGenerator = false) (hdb : (x == ("__debug__" : Str)) = false)
    (hbind : ∀ (qual : Str) (pm ctv cv : Value) (u : Value), bindArgs (PySem.W.kla_fn "<lambda>" qual params (.Subscript (.Name x p1) (.Constant (.int 0) j p2) p3) scope [] pm cv ctv) ⟨[u], []⟩ = pure [(x, u)])
    (hroom : Room 1 X.A) (hg : Gl X "sorted") (hms : X.mg "sorted" = none) (hv : bootBuiltins "sorted" = some (.builtin "sorted")) (ha : PA X [e] t)
    (he : backTo pos (starEach [e] X.env) = (false, eval e X.env) :: backTo pos (starEach [] X.env) := by rfl) (hpl : (backTo pos (starEach [e] X.env)).any (·.1) = false := by rfl) :
    PE X (.Call (.Name "sorted" p) [e] [⟨some "key", .Lambda params (.Subscript (.Name x p1) (.Constant (.int 0) j p2) p3) scope lpos, kpos⟩] pos) (tSort0 X.K T β key t) := by
  refine ⟨fun pins s σ H Q I h => ?_⟩
  refine wpAny_Call_Name_kw (ld_blt I hg hms hv ?_ (by decide) (by decide))
  refine PyProof.Rows.callWith_kw (thn (ha.run pos pins s σ H _ I h) fun us s1 ⟨vs, H1, I1, r1, q1⟩ => ?_) he hpl rfl rfl
  match vs, r1, q1 with
  | [v], r1, q1 => ?_
  obtain ⟨a, xs, bs, R, rfl, hs, hE, hR, hal, hsk, hdp, hT, q⟩ := (show kSort0 X.K T β key Q v H1 from q1)
  obtain rfl := Vals.ref1 r1
  show wpAny _ _ (evalAll [(do let v ← eval (.Lambda params (.Subscript (.Name x p1) (.Constant (.int 0) j p2) p3) scope lpos) X.env; standAt pos; pure v)]) _ _ s1
  have hcl : cloFrom X.env.cells scope.names [] = [] := by rw [hn]; rfl
  refine wpAny_evalAll_cons (wpAny_bind (lam_make2 I1 TB hcode hm hu hT hdef (fun y hy e => ?_) fun f c' pm ctv H2 s2 I2 e2 T2 hf nf _ hc' => wpAny_bind (wpAny_standAt (wpAny_pure (wpAny_evalAll_nil ?_)))))
  · rw [hn] at hy
    have : y = (x, .local) := by simpa using hy
    rw [this] at e
    cases e
  rw [hcl] at hf
  show wpAny _ _ (call (.builtin "sorted") [.ref a] [(Str.ofString "key", .ref f)]) _ _ s2
  obtain ⟨its, rv, hl, hz⟩ := I2.list (SqL.ext hs e2)
  have hlen : bs.length ≤ sizeLine := by rw [← hE.length]; exact hz
  obtain ⟨⟨oc, ws, tk0, ho1, ho2, ho3⟩, _, _⟩ := I2.hok c' _ hc'
  refine PySem.W.sorted_key_data (R := fun (u : Value) b => ∃ v, RelV v u ∧ R v b) (b := false) (fun b => (key b).data) hl.isList (each_vals hE rv) hal hsk hlen (fun b hb => ?_) (PyProof.Rows.ksk_s1 _ _) (fun _ => PyProof.Rows.ksk_l1 _ _) (fun z => PyProof.Rows.ksk_t1 f z) (fun u b hub hb h' tk kp => ?_) fun out cc h' tk kp hn0 hn1 hol hO => ?_
  · have := hroom.un
    have := hdp b hb
    omega
  · obtain ⟨v, r, hv'⟩ := hub
    obtain ⟨t1, y, ys, rfl, hty, hky⟩ := hR v b hv'
    obtain rfl : u = Value.ref t1 := r
    obtain ⟨tis, tr, ht, _⟩ := I2.tuple (SqT.ext hty e2)
    obtain ⟨uy, eu, ry⟩ := tr.get (i := 0) (show (y :: ys)[0]? = some y from rfl)
    have ht' : IsTup h' t1 tis.toArray := by
      obtain ⟨o, ho, r⟩ := ht
      exact ⟨o, kp _ _ ho, r⟩
    refine wpAny_mono (lam0_call (s := { s2 with heap := h', toks := tk }) (by have := hroom.dp; show X.A.depth < _; omega) (kp _ _ hf) ⟨c', oc, ws, tk0, rfl, kp _ _ ho1, ho2, ho3⟩ hn hk hco hgen (hbind _ _ _ _) (I2.nolimit.keeps kp) ht' eu hdb) (fun u' s' ⟨e', h'', tk', es, kp'⟩ => ?_) fun _ _ z => z
    subst e'
    subst es
    refine ⟨h'', tk', rfl, kp', ?_⟩
    exact PyProof.Rows.Reads.keeps (fun b o e => kp' b o (kp b o e)) (NkAt.reads I2 _ _ _ (NkAt.ext e2 hky) ry)
  · obtain ⟨ys, k1, k2⟩ := each_back hO
    have hl2 : ys.length ≤ sizeLine := by rw [k2.length, hol]; exact hlen
    exact ⟨.ref _, upd H2 (s2.heap.objs.size + 1) (.lst ys), I2.laid (t' := tk) kp (Nat.le_succ _) ⟨hl2, out, cc, k2, hn1⟩, rfl, q _ _ H2 e2 T2 k1 (I2.hok.fresh (Nat.le_succ _))⟩
end
end RX
namespace KD
open PySem PySem.Spec L2 RX LamX
/-! ### the text -/
def top (i : Nat) : Stmt := PySem.Challenge.pw_retroact_k29_differences_of_calls.main.body.getD i (.Pass ⟨0, 0, 0, 0⟩)
abbrev sDiff : Stmt := top 1
abbrev sByK : Stmt := top 2
abbrev sMix : Stmt := top 4
abbrev sNums : Stmt := top 5
abbrev sTake : Stmt := top 6
abbrev sCall : Stmt := top 7
abbrev sCalls : Stmt := top 8
abbrev sNear : Stmt := top 12
abbrev sLaw : Stmt := top 13
theorem boot_int0 : bootBuiltins "int" = some (.type "int") := by decide +kernel
theorem boot_list0 : bootBuiltins "list" = some (.type "list") := by decide +kernel
theorem boot_sorted0 : bootBuiltins "sorted" = some (.builtin "sorted") := by decide +kernel
/-! ### calls -/
structure Ky where
  p : List Int
  n : Int
deriving DecidableEq
inductive Ef | pay | ship | tell
deriving DecidableEq
def Ef.s : Ef → Str
  | .pay => "pay" | .ship => "ship" | .tell => "tell"
theorem Ef.inj : ∀ {a b : Ef}, a.s = b.s → a = b := by
  intro a b h
  cases a <;> cases b <;> first | rfl | (exact absurd h (by decide +kernel))
structure Cl where
  k : Ky
  e : Ef
  as : List Int
deriving DecidableEq
def Ky.nk (k : Ky) : NestedKey := .tup [.tup (k.p.map .num), .num k.n]
def Cl.nk (c : Cl) : NestedKey := .tup [c.k.nk, .text c.e.s, .tup (c.as.map .num)]
/-! ### heaps and tests -/
def But (p : Addr) (H H' : Hp) : Prop := ∀ b o, b ≠ p → H b = some o → H' b = some o
/-- what is no list stays -/
def Nl (H H' : Hp) : Prop := ∀ b o, (∀ xs, o ≠ .lst xs) → H b = some o → H' b = some o
def Row (H : Hp) (l : Addr) : Prop := ∃ ns : List Int, H l = some (.lst (ns.map V.int)) ∧ ns.length ≤ 10000
theorem But.refl (p : Addr) (H : Hp) : But p H H := fun _ _ _ h => h
theorem Same.but {p : Addr} {H H' : Hp} (s : Same H H') : But p H H' := fun b o _ h => s b o h
theorem Same.nl {H H' : Hp} (s : Same H H') : Nl H H' := fun b o _ h => s b o h
theorem But.trans {p : Addr} {H H1 H2 : Hp} (a : But p H H1) (b : But p H1 H2) : But p H H2 := fun c o n h => b c o n (a c o n h)
theorem Nl.trans {H H1 H2 : Hp} (a : Nl H H1) (b : Nl H1 H2) : Nl H H2 := fun c o n h => b c o n (a c o n h)
theorem But.nl {p : Addr} {H H' : Hp} (s : But p H H') (r : Row H p) : Nl H H' := fun b o n h => s b o (fun z => by
  obtain ⟨ns, r, _⟩ := r
  rw [z, r] at h
  cases h
  exact n _ rfl) h
theorem same_new {H : Hp} {p : Addr} (h : H p = none) (o : HO) : Same H (upd H p o) := fun b u q => by rw [upd_ne (ne_of_none q h)]; exact q
theorem but_upd {p : Addr} {H : Hp} (o : HO) : But p H (upd H p o) := fun b u n q => by rw [upd_ne n]; exact q
theorem Same.upd {H H' : Hp} {p : Addr} (s : Same H H') (n : H p = none) (o : HO) : Same H (upd H' p o) := fun b u q => by rw [upd_ne (ne_of_none q n)]; exact s b u q
theorem Row.same {H H' : Hp} {l : Addr} (s : Same H H') (r : Row H l) : Row H' l := by
  obtain ⟨ns, h, n⟩ := r
  exact ⟨ns, s _ _ h, n⟩
theorem ifT {c : Prop} [Decidable c] {A B : Prop} (h : c) (k : A) : if decide c = true then A else B := by rw [decide_eq_true h]; exact iteT k
theorem ifF {c : Prop} [Decidable c] {A B : Prop} (h : ¬ c) (k : B) : if decide c = true then A else B := by rw [decide_eq_false h]; exact iteF k
theorem ifNT {c : Prop} [Decidable c] {A B : Prop} (h : ¬ c) (k : A) : if (!decide c) = true then A else B := by rw [decide_eq_false h]; exact iteT k
theorem ifNF {c : Prop} [Decidable c] {A B : Prop} (h : c) (k : B) : if (!decide c) = true then A else B := by rw [decide_eq_true h]; exact iteF k
theorem int_eq {i j : Int} : (V.int i = V.int j) ↔ i = j := ⟨fun h => V.int.inj h, fun h => by rw [h]⟩
theorem str_eq {i j : Str} : (V.str i = V.str j) ↔ i = j := ⟨fun h => V.str.inj h, fun h => by rw [h]⟩
theorem size_m {n : Nat} (h : n ≤ 1000000) : n ≤ sizeLine := Nat.le_trans h (by decide)
theorem size_l {n : Nat} (h : n ≤ 100000) : n < sizeLine := Nat.lt_of_le_of_lt h (by decide)
theorem at0 {x : V} {r : List V} : atI (x :: r) 0 = some x := atI_nat (j := 0) rfl
theorem at1 {x y : V} {r : List V} : atI (x :: y :: r) 1 = some y := atI_nat (j := 1) rfl
theorem at2 {x y z : V} {r : List V} : atI (x :: y :: z :: r) 2 = some z := atI_nat (j := 2) rfl
/-! ### what stands in the heap -/
def KeyAt (H : Hp) (v : V) (k : Ky) : Prop := ∃ (a p : Addr), v = .ref a ∧ H a = some (.tup [.ref p, .int k.n]) ∧ H p = some (.tup (k.p.map V.int))
def ClAt (H : Hp) (v : V) (c : Cl) : Prop := ∃ (a g : Addr) (kv : V), v = .ref a ∧ H a = some (.tup [kv, .str c.e.s, .ref g]) ∧ KeyAt H kv c.k ∧ H g = some (.tup (c.as.map V.int)) ∧ (c.e = .pay → c.as ≠ [])
abbrev Cls (H : Hp) (us : List V) (cs : List Cl) : Prop := PySem.W.EachIs (ClAt H) us cs
/-- tuples stay -/
def Tl (H H' : Hp) : Prop := ∀ a xs, H a = some (.tup xs) → H' a = some (.tup xs)
theorem tupNl {ys : List V} : ∀ xs, HO.tup ys ≠ .lst xs := fun _ z => by cases z
theorem Nl.tl {H H' : Hp} (s : Nl H H') : Tl H H' := fun _ _ h => s _ _ tupNl h
theorem ExtN.tl {H H' : Hp} (s : ExtN H H') : Tl H H' := fun _ _ h => s _ _ h fun _ z => by cases z
theorem Same.tl {H H' : Hp} (s : Same H H') : Tl H H' := fun _ _ h => s _ _ h
theorem Tl.trans {H H1 H2 : Hp} (a : Tl H H1) (b : Tl H1 H2) : Tl H H2 := fun c xs h => b c xs (a c xs h)
theorem KeyAt.tl {H H' : Hp} {v : V} {k : Ky} (s : Tl H H') (h : KeyAt H v k) : KeyAt H' v k := by
  obtain ⟨a, p, e, h1, h2⟩ := h
  exact ⟨a, p, e, s _ _ h1, s _ _ h2⟩
theorem ClAt.tl {H H' : Hp} {v : V} {c : Cl} (s : Tl H H') (h : ClAt H v c) : ClAt H' v c := by
  obtain ⟨a, g, kv, e, h1, h2, h3, h4⟩ := h
  exact ⟨a, g, kv, e, s _ _ h1, h2.tl s, s _ _ h3, h4⟩
theorem Cls.tl {H H' : Hp} {us : List V} {cs : List Cl} (s : Tl H H') (h : Cls H us cs) : Cls H' us cs := h.mono fun _ _ q => q.tl s
theorem ints_dp {K : PySem.W.Frag} {H : Hp} : ∀ ns : List Int, DpAll K H (ns.map V.int) (NestedKey.datas (ns.map .num))
  | [] => .nil
  | n :: ns => .cons (.int n) (ints_dp ns)
theorem ints_nk {K : PySem.W.Frag} {H : Hp} : ∀ ns : List Int, NkAll K H (ns.map V.int) (ns.map .num)
  | [] => .nil
  | n :: ns => .cons (.int n) (ints_nk ns)
theorem KeyAt.dp {K : PySem.W.Frag} {H : Hp} {v : V} {k : Ky} (h : KeyAt H v k) : Dp K H v k.nk.data := by
  obtain ⟨a, p, rfl, h1, h2⟩ := h
  exact .tup (SqT.of h1) (.cons (.tup (SqT.of h2) (ints_dp _)) (.cons (.int _) .nil))
theorem KeyAt.nk {K : PySem.W.Frag} {H : Hp} {v : V} {k : Ky} (h : KeyAt H v k) : NkAt K H v k.nk := by
  obtain ⟨a, p, rfl, h1, h2⟩ := h
  exact .tup (SqT.of h1) (.cons (.tup (SqT.of h2) (ints_nk _)) (.cons (.int _) .nil))
theorem ClAt.dp {K : PySem.W.Frag} {H : Hp} {v : V} {c : Cl} (h : ClAt H v c) : Dp K H v c.nk.data := by
  obtain ⟨a, g, kv, rfl, h1, h2, h3, _⟩ := h
  exact .tup (SqT.of h1) (.cons h2.dp (.cons (.str _) (.cons (.tup (SqT.of h3) (ints_dp _)) .nil)))
theorem ClAt.nk {K : PySem.W.Frag} {H : Hp} {v : V} {c : Cl} (h : ClAt H v c) : NkAt K H v c.nk := by
  obtain ⟨a, g, kv, rfl, h1, h2, h3, _⟩ := h
  exact .tup (SqT.of h1) (.cons h2.nk (.cons (.str _) (.cons (.tup (SqT.of h3) (ints_nk _)) .nil)))
theorem ClAt.ref {H : Hp} {v : V} {c : Cl} (h : ClAt H v c) : ∃ a, v = .ref a := by
  obtain ⟨a, _, _, rfl, _⟩ := h
  exact ⟨a, rfl⟩
/-! ### keys and data -/
theorem nums_inj : ∀ {a b : List Int}, a.map NestedKey.num = b.map NestedKey.num → a = b
  | [], [], _ => rfl
  | [], _ :: _, h => by simp at h
  | _ :: _, [], h => by simp at h
  | x :: xs, y :: ys, h => by
    rw [List.map_cons, List.map_cons] at h
    injection h with h1 h2
    injection h1 with h1
    rw [h1, nums_inj h2]
theorem Ky.inj {a b : Ky} (h : a.nk = b.nk) : a = b := by
  cases a
  cases b
  unfold Ky.nk at h
  injection h with h
  injection h with h1 h2
  injection h2 with h2 _
  injection h1 with h1
  injection h2 with h2
  exact (Ky.mk.injEq ..).mpr ⟨nums_inj h1, h2⟩
theorem Cl.inj {a b : Cl} (h : a.nk = b.nk) : a = b := by
  cases a
  cases b
  unfold Cl.nk at h
  injection h with h
  injection h with h1 h
  injection h with h2 h
  injection h with h3 _
  injection h2 with h2
  injection h3 with h3
  exact (Cl.mk.injEq ..).mpr ⟨Ky.inj h1, Ef.inj h2, nums_inj h3⟩
theorem bdec {α : Type} [DecidableEq α] [BEq α] [LawfulBEq α] (a b : α) : (a == b) = decide (a = b) := by
  rw [Bool.eq_iff_iff, beq_iff_eq, decide_eq_true_iff]
mutual
theorem eqv_beq : ∀ a b : NestedKey, PyData.eqv a.data b.data = NestedKey.beq a b
  | .none, .none => by simp [NestedKey.data, PyData.eqv, NestedKey.beq]
  | .num a, .num b => by simp only [NestedKey.data, PyData.eqv, NestedKey.beq]; exact bdec a b
  | .text a, .text b => by simp only [NestedKey.data, PyData.eqv, NestedKey.beq]; exact bdec a b
  | .tup a, .tup b => by
    simp only [NestedKey.data, PyData.eqv, NestedKey.beq]
    exact eqv_beqAll a b
  | .none, .num _ | .none, .text _ | .none, .tup _ => by simp [NestedKey.data, PyData.eqv, NestedKey.beq]
  | .num _, .none | .num _, .text _ | .num _, .tup _ => by simp [NestedKey.data, PyData.eqv, NestedKey.beq]
  | .text _, .none | .text _, .num _ | .text _, .tup _ => by simp [NestedKey.data, PyData.eqv, NestedKey.beq]
  | .tup _, .none | .tup _, .num _ | .tup _, .text _ => by simp [NestedKey.data, PyData.eqv, NestedKey.beq]
theorem eqv_beqAll : ∀ a b : List NestedKey, PyData.eqvAll (NestedKey.datas a) (NestedKey.datas b) = NestedKey.beqAll a b
  | [], [] => by simp [NestedKey.datas, PyData.eqvAll, NestedKey.beqAll]
  | a :: as, b :: bs => by
    simp only [NestedKey.datas, PyData.eqvAll, NestedKey.beqAll]
    rw [eqv_beq a b, eqv_beqAll as bs]
  | [], _ :: _ => by simp [NestedKey.datas, PyData.eqvAll, NestedKey.beqAll]
  | _ :: _, [] => by simp [NestedKey.datas, PyData.eqvAll, NestedKey.beqAll]
end
theorem beq_iff (a b : NestedKey) : NestedKey.beq a b = true ↔ a = b := ⟨NestedKey.eq_of_beq a b, fun h => by rw [h]; exact NestedKey.beq_self b⟩
theorem eqv_ky (a b : Ky) : PyData.eqv a.nk.data b.nk.data = decide (a = b) := by
  rw [eqv_beq, Bool.eq_iff_iff, beq_iff, decide_eq_true_iff]
  exact ⟨Ky.inj, fun h => by rw [h]⟩
theorem eqv_cl (a b : Cl) : PyData.eqv a.nk.data b.nk.data = decide (a = b) := by
  rw [eqv_beq, Bool.eq_iff_iff, beq_iff, decide_eq_true_iff]
  exact ⟨Cl.inj, fun h => by rw [h]⟩
theorem ints_depth : ∀ ns : List Int, NestedKey.depthAll (ns.map .num) = 0
  | [] => rfl
  | n :: ns => by
    show max 0 (NestedKey.depthAll (ns.map .num)) = 0
    rw [ints_depth ns]
    rfl
theorem lay_nums : ∀ ns : List Int, PyData.canLayAll0 (NestedKey.datas (ns.map .num)) = true
  | [] => rfl
  | n :: ns => by
    show (PyData.canLay0 (.int n) && PyData.canLayAll0 (NestedKey.datas (ns.map .num))) = true
    rw [lay_nums ns]
    rfl
theorem dep_nums : ∀ ns : List Int, PyData.depthAll (NestedKey.datas (ns.map .num)) = 0
  | [] => rfl
  | n :: ns => by
    show max 0 (PyData.depthAll (NestedKey.datas (ns.map .num))) = 0
    rw [dep_nums ns]
    rfl
theorem Ky.lay (k : Ky) : k.nk.data.canLay0 = true ∧ k.nk.data.depth ≤ 4 ∧ k.nk.depth ≤ 4 := by
  refine ⟨?_, ?_, ?_⟩
  · show ((PyData.canLayAll0 (NestedKey.datas (k.p.map .num))) && (PyData.canLay0 (.int k.n) && true)) = true
    rw [lay_nums]
    rfl
  · show max (PyData.depthAll (NestedKey.datas (k.p.map .num)) + 1) (max 0 0) + 1 ≤ 4
    rw [dep_nums]
    decide
  · show NestedKey.depth (.tup [.tup (k.p.map .num), .num k.n]) ≤ 4
    simp only [NestedKey.depth, NestedKey.depthAll, ints_depth]
    decide
theorem Ef.lay (e : Ef) : PyData.canLay0 (.str e.s) = true := by cases e <;> decide +kernel
theorem Cl.lay (c : Cl) : c.nk.data.canLay0 = true ∧ c.nk.data.depth ≤ 6 ∧ c.nk.depth ≤ 8 := by
  obtain ⟨a1, a2, a3⟩ := c.k.lay
  refine ⟨?_, ?_, ?_⟩
  · show (c.k.nk.data.canLay0 && (PyData.canLay0 (.str c.e.s) && ((PyData.canLayAll0 (NestedKey.datas (c.as.map .num))) && true))) = true
    rw [lay_nums, a1, Ef.lay]
    rfl
  · show max c.k.nk.data.depth (max 0 (max (PyData.depthAll (NestedKey.datas (c.as.map .num)) + 1) 0)) + 1 ≤ 6
    rw [dep_nums]
    omega
  · show NestedKey.depth (.tup [c.k.nk, .text c.e.s, .tup (c.as.map .num)]) ≤ 8
    simp only [NestedKey.depth, NestedKey.depthAll, ints_depth]
    omega
def kyD (ks : List Ky) : List PyData := ks.map fun k => k.nk.data
def clD (cs : List Cl) : List PyData := cs.map fun c => c.nk.data
theorem kyD_lay : ∀ ks : List Ky, PyData.canLayAll0 (kyD ks) = true ∧ PyData.depthAll (kyD ks) ≤ 4
  | [] => ⟨rfl, Nat.zero_le _⟩
  | k :: ks => by
    obtain ⟨a1, a2, _⟩ := k.lay
    obtain ⟨b1, b2⟩ := kyD_lay ks
    refine ⟨?_, ?_⟩
    · show (k.nk.data.canLay0 && PyData.canLayAll0 (kyD ks)) = true
      rw [a1, b1]
      rfl
    · show max k.nk.data.depth (PyData.depthAll (kyD ks)) ≤ 4
      omega
theorem clD_lay : ∀ cs : List Cl, PyData.canLayAll0 (clD cs) = true ∧ PyData.depthAll (clD cs) ≤ 6
  | [] => ⟨rfl, Nat.zero_le _⟩
  | c :: cs => by
    obtain ⟨a1, a2, _⟩ := c.lay
    obtain ⟨b1, b2⟩ := clD_lay cs
    refine ⟨?_, ?_⟩
    · show (c.nk.data.canLay0 && PyData.canLayAll0 (clD cs)) = true
      rw [a1, b1]
      rfl
    · show max c.nk.data.depth (PyData.depthAll (clD cs)) ≤ 6
      omega
theorem shaped_of {d : PyData} (h1 : d.canLay0 = true) (h2 : d.depth ≤ 64) : SeqAt.shaped d = true := by
  unfold SeqAt.shaped
  rw [h1, decide_eq_true h2]
  rfl
theorem shK (k : Ky) : SeqAt.shaped k.nk.data = true := shaped_of k.lay.1 (by have := k.lay.2.1; omega)
theorem shC (c : Cl) : SeqAt.shaped c.nk.data = true := shaped_of c.lay.1 (by have := c.lay.2.1; omega)
theorem shKs (ks : List Ky) : SeqAt.shaped (.list (kyD ks)) = true := shaped_of (kyD_lay ks).1 (by
  have := (kyD_lay ks).2
  show PyData.depthAll (kyD ks) + 1 ≤ 64
  omega)
theorem shCs (cs : List Cl) : SeqAt.shaped (.list (clD cs)) = true := shaped_of (clD_lay cs).1 (by
  have := (clD_lay cs).2
  show PyData.depthAll (clD cs) + 1 ≤ 64
  omega)
theorem anyK (ks : List Ky) (k : Ky) : ((kyD ks).any fun z => PyData.eqv z k.nk.data) = decide (k ∈ ks) := by
  unfold kyD
  rw [Bool.eq_iff_iff, List.any_eq_true, decide_eq_true_iff]
  constructor
  · rintro ⟨d, hd, q⟩
    obtain ⟨j, hj, rfl⟩ := List.mem_map.mp hd
    rw [eqv_ky, decide_eq_true_iff] at q
    exact q ▸ hj
  · intro h
    exact ⟨_, List.mem_map.mpr ⟨k, h, rfl⟩, by rw [eqv_ky]; exact decide_eq_true rfl⟩
theorem anyC (cs : List Cl) (c : Cl) : ((clD cs).any fun z => PyData.eqv z c.nk.data) = decide (c ∈ cs) := by
  unfold clD
  rw [Bool.eq_iff_iff, List.any_eq_true, decide_eq_true_iff]
  constructor
  · rintro ⟨d, hd, q⟩
    obtain ⟨j, hj, rfl⟩ := List.mem_map.mp hd
    rw [eqv_cl, decide_eq_true_iff] at q
    exact q ▸ hj
  · intro h
    exact ⟨_, List.mem_map.mpr ⟨c, h, rfl⟩, by rw [eqv_cl]; exact decide_eq_true rfl⟩
theorem keys_dp {K : PySem.W.Frag} {H : Hp} {us : List V} {ks : List Ky} (h : PySem.W.EachIs (KeyAt H) us ks) : DpAll K H us (kyD ks) := by
  induction h with
  | nil => exact .nil
  | cons h _ ih => exact .cons h.dp ih
theorem cls_dp {K : PySem.W.Frag} {H : Hp} {us : List V} {cs : List Cl} (h : Cls H us cs) : DpAll K H us (clD cs) := by
  induction h with
  | nil => exact .nil
  | cons h _ ih => exact .cons h.dp ih
theorem each_snoc {α β : Type} {R : α → β → Prop} {us : List α} {cs : List β} {v : α} {c : β} (h : PySem.W.EachIs R us cs) (q : R v c) : PySem.W.EachIs R (us ++ [v]) (cs ++ [c]) := by
  induction h with
  | nil => exact .cons q .nil
  | cons a _ ih => exact .cons a ih
theorem each_get {α β : Type} {R : α → β → Prop} {us : List α} {cs : List β} (h : PySem.W.EachIs R us cs) : ∀ {i : Nat} {v : α}, us[i]? = some v → ∃ c, cs[i]? = some c ∧ R v c := by
  induction h with
  | nil => intro i v q; simp at q
  | cons a _ ih =>
    intro i v q
    cases i with
    | zero => exact ⟨_, rfl, by cases q; exact a⟩
    | succ i => exact ih q
/-! ### the texts of the def's world -/
structure Txt (K : PySem.W.Frag) (mg : Str → Option Value) : Prop where
  zint : mg "int" = none
  zlen : mg "len" = none
  zlist : mg "list" = none
  zrng : mg "range" = none
  zsorted : mg "sorted" = none
structure Cal (K : PySem.W.Frag) (mg : Str → Option Value) (x : Str) (f : Addr) (fd : FuncData) (ps : List Str) : Prop where
  g : mg x = some (.ref f)
  k : PySem.W.keepIn K (.ref f) = true
  b : Binds K fd ps []
/-! ### promises -/
def spMix : Sp := fun vs H Q _ => ∃ n k : Int, vs = [.int n, .int k] ∧ ∀ r, Q (.int r) H
def spNums (K : PySem.W.Frag) : Sp := fun vs H Q _ => ∃ (a : Addr) (ns : List Int) (c : Int), vs = [.ref a, .int c] ∧ SqL K H a (ns.map V.int) ∧ ns.length ≤ 63 ∧ 0 ≤ c ∧ c ≤ 1000 ∧ ∀ H' p, Same H H' → H p = none → Row H' p → Q (.ref p) H'
def spTake : Sp := fun vs H Q _ => ∃ (l : Addr) (b : Int), vs = [.ref l, .int b] ∧ 0 < b ∧ Row H l ∧ ∀ r H', 0 ≤ r → r < b → But l H H' → Row H' l → Q (.int r) H'
end KD
namespace KD
open PySem PySem.Spec L2 RX
theorem mulL {i j : Int} (h0 : -(2 ^ 64) < i) (h1 : i < 2 ^ 64) : CMul i j := .inl ⟨h0, h1⟩
theorem mulR {i j : Int} (h0 : -(2 ^ 64) < j) (h1 : j < 2 ^ 64) : CMul i j := .inr ⟨h0, h1⟩
theorem ints_snoc {ds : List Int} {z : Int} : ds.map V.int ++ [.int z] = (ds ++ [z]).map V.int := by rw [List.map_append]; rfl
section
variable {P : Program} {w : World} {K : PySem.W.Frag} {mg : Str → Option Value} {base : Heap}
theorem scMix : FnScope ["number", "k"] ["number", "k"] (defScope sMix) := ⟨rfl, rfl, rfl, by decide +kernel, rfl, by decide +kernel, by decide +kernel⟩
theorem ok_mix {f : Addr} {fd : FuncData} (F : Fun K "_law_mix" "_law_mix" sMix f fd) (T : Txt K mg) : FnOk P w K mg base CX0 1 f fd ["number", "k"] spMix := by
  refine F.ok scMix (fun vs H Q E h => ?_) (fun cdv A outer s H vs Q E hr h => ?_)
  · obtain ⟨n, k, rfl, _⟩ := h
    rfl
  · obtain ⟨n, k, rfl, q⟩ := h
    refine ⟨_, (pss_one (ps_ret (pe_op op_modN (pe_op op_mul (pe_op op_modN (pe_callTy call_int1 rfl T.zint boot_int0 (pa_cons (pe_op op_mul (pe_op op_add (pe_op op_add (pe_op op_modN (pe_callTy call_int1 rfl T.zint boot_int0 (pa_cons (pv 0) pa_nil)) pe_int) (pe_op op_mul pe_int (pv 1))) pe_int) pe_int) pa_nil)) pe_int) pe_int) pe_int))), ?_⟩
    refine ⟨_, rfl, .inl ⟨n, rfl, _, _, rfl, rfl, (show (1000003 : Int) ≠ 0 by decide), ?_⟩⟩
    refine ⟨_, rfl, _, _, rfl, rfl, mulL (by decide) (by decide), _, _, rfl, rfl, _, _, rfl, rfl, _, _, rfl, rfl, mulR (by decide) (by decide), .inl ⟨_, rfl, _, _, rfl, rfl, (show (1000033 : Int) ≠ 0 by decide), _, _, rfl, rfl, mulR (by decide) (by decide), _, _, rfl, rfl, (show (998244353 : Int) ≠ 0 by decide), q _⟩⟩
theorem scTake : FnScope ["row", "bound"] ["row", "bound"] (defScope sTake) := ⟨rfl, rfl, rfl, by decide +kernel, rfl, by decide +kernel, by decide +kernel⟩
theorem ok_take {f : Addr} {fd : FuncData} (F : Fun K "_law_take" "_law_take" sTake f fd) (T : Txt K mg) : FnOk P w K mg base CX0 1 f fd ["row", "bound"] spTake := by
  refine F.ok scTake (fun vs H Q E h => ?_) (fun cdv A outer s H vs Q E hr h => ?_)
  · obtain ⟨p, m, rfl, _⟩ := h
    rfl
  · obtain ⟨p, m, rfl, hm0, ⟨ns, hp, hn⟩, k⟩ := h
    refine ⟨_, (pss_cons (ps_if (pt_not (pt_truth (pv 0) (by intro _; rfl)))
 (pss_one (ps_ret pe_int))
 pss_nil)
 (pss_one (ps_ret (pe_op op_modN (pe_callTy call_int1 rfl T.zint boot_int0 (pa_cons (pe_bm0 PySem.F.plainAttrs_list PySem.F.slot_list_pop PySem.F.type_list_pop mt_pop (pv 0)) pa_nil)) (pv 1))))), ?_⟩
    refine ⟨_, rfl, !(ns.map V.int).isEmpty, .inl ⟨_, SqL.of hp, rfl⟩, ?_⟩
    by_cases h0 : ns = []
    · subst h0
      refine iteT ?_
      exact k 0 H (Int.le_refl 0) hm0 (But.refl p H) ⟨[], hp, by decide⟩
    · have e : (ns.map V.int).isEmpty = false := by
        cases ns with
        | nil => exact absurd rfl h0
        | cons _ _ => rfl
      rw [e]
      refine iteF ?_
      have hl : ns.length - 1 < ns.length := by have := List.length_pos_iff.mpr h0; omega
      refine ⟨_, rfl, .inl ⟨rfl, _, SqL.of hp⟩, p, _, .int (ns[ns.length - 1]), rfl, rfl, hp, by rw [List.length_map, List.getElem?_map, List.getElem?_eq_getElem hl]; rfl, ?_⟩
      refine .inl ⟨_, rfl, _, rfl, _, _, rfl, rfl, by omega, ?_⟩
      refine k _ _ (Int.fmod_nonneg_of_pos _ hm0) (Int.fmod_lt_of_pos _ hm0) (but_upd _) ⟨ns.dropLast, ?_, by rw [List.length_dropLast]; omega⟩
      rw [← List.map_dropLast]
      exact upd_same
theorem cut_len {xs : List V} {a b : Option Int} : (cutV xs a b).length ≤ xs.length := by
  unfold cutV
  exact Nat.le_trans (List.length_take_le' _ _) (by rw [List.length_drop]; omega)
theorem cut_mem {xs : List V} {a b : Option Int} {x : V} (h : x ∈ cutV xs a b) : x ∈ xs := by
  unfold cutV at h
  exact List.mem_of_mem_drop (List.mem_of_mem_take h)
theorem scNums : FnScope ["script", "count", "row", "base", "cell", "rest", "k"] ["script", "count"] (defScope sNums) := ⟨rfl, rfl, rfl, by decide +kernel, rfl, by decide +kernel, by decide +kernel⟩
theorem ok_nums {f fM : Addr} {fd fdM : FuncData} (F : Fun K "_law_numbers" "_law_numbers" sNums f fd) (T : Txt K mg)
    (G_MX : FnOk P w K mg base CX0 1 fM fdM ["number", "k"] spMix) (L_MX : Cal K mg "_law_mix" fM fdM ["number", "k"]) : FnOk P w K mg base CX0 2 f fd ["script", "count"] (spNums K) := by
  refine F.ok scNums (fun vs H Q E h => ?_) (fun cdv A outer s H vs Q E hr h => ?_)
  · obtain ⟨a, ns, c, rfl, _⟩ := h
    rfl
  · obtain ⟨a, ns, c, rfl, ha, h63, hc0, hc1, k⟩ := h
    refine ⟨_, (pss_cons (ps_set (i := 2) scNums.nd rfl (Or.inl rfl) (pe_lst pa_nil))
 (pss_cons (ps_set (i := 3) scNums.nd rfl (Or.inl rfl) pe_int)
 (pss_cons (ps_for PassesOwn.never rfl (pi_list (pe_slice sl_list (pv 0) po_none (po_some pe_int))) (pg_name (i := 4) scNums.nd rfl (Or.inl rfl))
 (pss_cons (ps_set (i := 3) scNums.nd rfl (Or.inl rfl) (pe_op op_add (pv 3) (pv 4)))
 (pss_one (ps_if (pt_cmpR op_ge (pv 4) pe_int (nomark _))
 (pss_cons (ps_set (i := 5) scNums.nd rfl (Or.inl rfl) (pv 4))
 (pss_one (ps_for PassesOwn.never rfl (pi_range1 rfl T.zrng (pa_cons pe_int pa_nil)) (pg_name (i := 6) scNums.nd rfl (Or.inl rfl))
 (pss_cons (ps_expr (pe_bm PySem.F.plainAttrs_list PySem.F.slot_list_append PySem.F.type_list_append mt_append (pv 2) (pa_cons (pe_op op_modN (pe_callTy call_int1 rfl T.zint boot_int0 (pa_cons (pv 5) pa_nil)) pe_int) pa_nil)))
 (pss_cons (ps_set (i := 5) scNums.nd rfl (Or.inl rfl) (pe_op op_fdivN (pv 5) pe_int))
 (pss_one (ps_if (pt_cmpR op_eq (pv 5) pe_int (nomark _))
 (pss_one ps_break)
 pss_nil)))))))
 (pss_one (ps_expr (pe_bm PySem.F.plainAttrs_list PySem.F.slot_list_append PySem.F.type_list_append mt_append (pv 2) (pa_cons (pe_call G_MX hr rfl L_MX.g L_MX.k L_MX.b .nil pass0 (pa_cons (pe_call G_MX hr rfl L_MX.g L_MX.k L_MX.b .nil pass0 (pa_cons (pv 4) (pa_cons pe_int pa_nil))) (pa_cons pe_int pa_nil))) pa_nil))))))))
 (pss_cons (ps_for PassesOwn.never rfl (pi_range1 rfl T.zrng (pa_cons (pv 1) pa_nil)) (pg_name (i := 6) scNums.nd rfl (Or.inl rfl))
 (pss_one (ps_expr (pe_bm PySem.F.plainAttrs_list PySem.F.slot_list_append PySem.F.type_list_append mt_append (pv 2) (pa_cons (pe_call G_MX hr rfl L_MX.g L_MX.k L_MX.b .nil pass0 (pa_cons (pe_call G_MX hr rfl L_MX.g L_MX.k L_MX.b .nil pass0 (pa_cons (pe_op op_add (pv 3) (pe_op op_mul pe_int (pv 6))) (pa_cons (pe_op op_add pe_int (pv 6)) pa_nil))) (pa_cons pe_int pa_nil))) pa_nil)))))
 (pss_cons (ps_expr (pe_bm0 PySem.F.plainAttrs_list PySem.F.slot_list_reverse PySem.F.type_list_reverse mt_reverse (pv 2)))
 (pss_one (ps_ret (pv 2)))))))), ?_⟩
    refine ⟨(by show 0 ≤ sizeLine; decide), fun D hD => ?_⟩
    have app : ∀ {H1 : Hp} {ds : List Int} (z : Int), Same H H1 → H1 D = some (.lst (ds.map V.int)) → Same H (upd H1 D (.lst (ds.map V.int ++ [.int z]))) ∧ upd H1 D (.lst (ds.map V.int ++ [.int z])) D = some (.lst ((ds ++ [z]).map V.int)) := fun z s h =>
      ⟨Same.upd s hD _, by rw [ints_snoc]; exact upd_same⟩
    refine ⟨_, rfl, 63, rfl, a, _, rfl, (same_new hD _).seq ha, fun L hL => ?_⟩
    have hLD : L ≠ D := fun z => by rw [z, upd_same] at hL; cases hL
    have hL0 : H L = none := by rw [upd_ne hLD] at hL; exact hL
    generalize hx : cutV (ns.map V.int) none (some 63) = xs
    have xl : xs.length ≤ 63 := by rw [← hx]; exact Nat.le_trans cut_len (by rw [List.length_map]; exact h63)
    have xi : ∀ x ∈ xs, ∃ z, x = V.int z := fun x h => by
      rw [← hx] at h
      obtain ⟨z, _, rfl⟩ := List.mem_map.mp (cut_mem h)
      exact ⟨z, rfl⟩
    refine ⟨L, rfl, ⟨_, SqL.of upd_same⟩, for_list (K := K) (a := L) (xs := xs)
      (fun i σ H' => ∃ (ds : List Int) (b : Int) (x4 x5 x6 : Option V), σ = [some (.ref a), some (.int c), some (.ref D), some (.int b), x4, x5, x6] ∧ Same H H' ∧ H' L = some (.lst xs) ∧ H' D = some (.lst (ds.map V.int)) ∧ ds.length ≤ 60 * i)
      ⟨[], 0, none, none, none, rfl, Same.upd (same_new hD _) hL0 _, upd_same, by rw [upd_ne (Ne.symm hLD)]; exact upd_same, Nat.le_refl _⟩ (fun i σ H' _ ⟨_, _, _, _, _, _, _, h, _⟩ => SqL.of h) ?_ ?_⟩
    · rintro i x σ H1 hxi ⟨ds, b, x4, x5, x6, rfl, s1, hL1, h1, hds⟩
      have hi : i < 63 := by
        have := (List.getElem?_eq_some_iff.mp hxi).1
        omega
      obtain ⟨z, rfl⟩ := xi _ (List.mem_of_getElem? hxi)
      refine ⟨_, rfl, _, rfl, _, _, rfl, rfl, ?_⟩
      refine ⟨_, rfl, _, _, rfl, rfl, _, rfl, ?_⟩
      refine ite2 (fun _ => ?_) (fun _ => ?_)
      · refine ⟨_, rfl, ?_⟩
        refine ⟨60, rfl, by decide, by decide, for_range (lo := 0) (n := 60)
          (fun j σ H' => ∃ (ds' : List Int) (q' : Int) (x6 : Option V), σ = [some (.ref a), some (.int c), some (.ref D), some (.int (b + z)), some (.int z), some (.int q'), x6] ∧ Same H H' ∧ H' L = some (.lst xs) ∧ H' D = some (.lst (ds'.map V.int)) ∧ ds'.length ≤ 60 * i + j) ?_ ?_ ?_⟩
        · exact ⟨_, _, _, rfl, s1, hL1, h1, hds⟩
        · rintro j σ H2 hj ⟨ds', q', y6, rfl, s2, hL2, h2, hl2⟩
          refine ⟨_, rfl, .inl ⟨rfl, _, SqL.of h2⟩, _, rfl, .inl ⟨_, rfl, _, _, rfl, rfl, (show (840 : Int) ≠ 0 by decide), D, _, _, rfl, rfl, h2, size_l (by rw [List.length_map]; omega), ?_⟩⟩
          obtain ⟨s3, h3⟩ := app (q'.fmod 840) s2 h2
          refine ⟨_, rfl, _, _, rfl, rfl, ⟨by decide, by decide⟩, ?_⟩
          have fin : ∀ x6 : Option V, ∃ (ds' : List Int) (q' : Int) (y : Option V), [some (V.ref a), some (.int c), some (.ref D), some (.int (b + z)), some (.int z), some (.int q'), x6] = [some (V.ref a), some (.int c), some (.ref D), some (.int (b + z)), some (.int z), some (.int q'), y] ∧ True := fun x6 => ⟨[], 0, x6, rfl, trivial⟩
          have hl3 : (ds' ++ [q'.fmod 840]).length ≤ 60 * i + (j + 1) := by rw [List.length_append, List.length_singleton]; omega
          have hLf : (upd H2 D (.lst (ds'.map V.int ++ [.int (q'.fmod 840)]))) L = some (.lst xs) := by rw [upd_ne hLD]; exact hL2
          refine ⟨_, rfl, rfl, _, rfl, ?_⟩
          refine ite2 (fun _ => ?_) (fun _ => ?_)
          · exact ⟨_, _, _, _, _, rfl, s3, hLf, h3, by omega⟩
          · exact ⟨_, _, _, rfl, s3, hLf, h3, hl3⟩
        · rintro σ H2 ⟨ds', q', y6, rfl, s2, hL2, h2, hl2⟩
          exact ⟨_, _, _, _, _, rfl, s2, hL2, h2, by omega⟩
      · refine ⟨_, rfl, .inl ⟨rfl, _, SqL.of h1⟩, _, rfl, _, _, rfl, fun r1 => ⟨_, _, rfl, fun r2 => ?_⟩⟩
        refine ⟨D, _, _, rfl, rfl, h1, size_l (by rw [List.length_map]; omega), ?_⟩
        obtain ⟨s3, h3⟩ := app r2 s1 h1
        exact ⟨_, _, _, _, _, rfl, s3, by rw [upd_ne hLD]; exact hL1, h3, by rw [List.length_append, List.length_singleton]; omega⟩
    · rintro σ H1 ⟨ds, b, x4, x5, x6, rfl, s1, hL1, h1, hds⟩
      refine ⟨_, rfl, c, rfl, by omega, by omega, for_range (lo := 0) (n := c.toNat)
          (fun j σ H' => ∃ (ds' : List Int) (x6 : Option V), σ = [some (.ref a), some (.int c), some (.ref D), some (.int b), x4, x5, x6] ∧ Same H H' ∧ H' D = some (.lst (ds'.map V.int)) ∧ ds'.length ≤ 60 * 63 + j) ?_ ?_ ?_⟩
      · exact ⟨_, _, rfl, s1, h1, by omega⟩
      · rintro j σ H2 hj ⟨ds', y6, rfl, s2, h2, hl2⟩
        have hj' : j < 1000 := by omega
        refine ⟨_, rfl, .inl ⟨rfl, _, SqL.of h2⟩, _, rfl, _, rfl, _, _, rfl, rfl, mulL (by decide) (by decide), _, _, rfl, rfl, _, rfl, _, _, rfl, rfl, _, _, rfl, fun r1 => ⟨_, _, rfl, fun r2 => ?_⟩⟩
        refine ⟨D, _, _, rfl, rfl, h2, size_l (by rw [List.length_map]; omega), ?_⟩
        obtain ⟨s3, h3⟩ := app r2 s2 h2
        exact ⟨_, _, rfl, s3, h3, by rw [List.length_append, List.length_singleton]; omega⟩
      · rintro σ H2 ⟨ds', y6, rfl, s2, h2, hl2⟩
        refine ⟨_, rfl, .inl ⟨rfl, _, SqL.of h2⟩, D, _, rfl, rfl, h2, ?_⟩
        refine ⟨_, rfl, k _ D (Same.upd s2 hD _) hD ⟨ds'.reverse, ?_, by rw [List.length_reverse]; omega⟩⟩
        rw [List.map_reverse]
        exact upd_same
end
end KD
namespace KD
open PySem PySem.Spec L2 RX LamX
theorem rest_first {c : TT} {A B : TS} {D : Ends} {σ : St} {H : Hp} (I : St → Hp → Prop) (h1 : ∀ σ' H', I σ' H' → D.nx σ' H') (h2 : (∀ σ' H', I σ' H' → D.nx σ' H') → tIfS c A B D σ H) : tIfS c A B D σ H := h2 h1
theorem But.upd {l p : Addr} {H H' : Hp} (s : But l H H') (n : H p = none) (o : HO) : But l H (upd H' p o) := fun b u nb q => by rw [upd_ne (ne_of_none q n)]; exact s b u nb q
theorem But.free {l p : Addr} {H H' : Hp} (s : But l H H') (r : Row H' l) (n : H' p = none) : H p = none := by
  cases e : H p with
  | none => rfl
  | some o =>
    by_cases z : p = l
    · subst z
      obtain ⟨ns, h, _⟩ := r
      rw [h] at n
      cases n
    · rw [s p o z e] at n
      cases n
theorem Row.upd {H : Hp} {l p : Addr} (r : Row H l) (n : H p = none) (o : HO) : Row (upd H p o) l := r.same (same_new n o)
theorem Row.ne {H : Hp} {l p : Addr} (r : Row H l) (n : H p = none) : l ≠ p := fun z => by
  obtain ⟨ns, h, _⟩ := r
  rw [z, n] at h
  cases h
theorem tlu {H : Hp} {p : Addr} (h : H p = none) (o : HO) : Tl H (upd H p o) := Same.tl (same_new h o)
theorem But.tl {l : Addr} {H H' : Hp} (s : But l H H') (r : Row H l) : Tl H H' := (s.nl r).tl
/-- the i-th key of a list of calls that were drawn -/
def Dr (i : Nat) (k : Ky) : Prop := k.p.length ≤ 1 ∨ k = ⟨[1, (i : Int)], 50 + (i : Int)⟩
def Drs (kl : List Ky) : Prop := ∀ i k, kl[i]? = some k → Dr i k
theorem Drs.new {kl : List Ky} (h : Drs kl) : (⟨[1, (kl.length : Int)], 50 + (kl.length : Int)⟩ : Ky) ∉ kl := by
  intro m
  obtain ⟨i, hi⟩ := List.getElem?_of_mem m
  have hl : i < kl.length := (List.getElem?_eq_some_iff.mp hi).1
  rcases h i _ hi with q | q
  · have : ([1, (kl.length : Int)] : List Int).length ≤ 1 := q
    simp at this
  · injection q with q1 q2
    have : (kl.length : Int) = (i : Int) := by
      injection q1 with _ q1
      injection q1
    omega
theorem Drs.snoc {kl : List Ky} {k : Ky} (h : Drs kl) (q : Dr kl.length k) : Drs (kl ++ [k]) := by
  intro i j hj
  by_cases hi : i < kl.length
  · rw [List.getElem?_append_left hi] at hj
    exact h i j hj
  · rw [List.getElem?_append_right (by omega)] at hj
    have e : i - kl.length = 0 := by
      have := (List.getElem?_eq_some_iff.mp hj).1
      simp at this
      omega
    rw [e] at hj
    cases hj
    have : i = kl.length := by omega
    rw [this]
    exact q
def spCall : Sp := fun vs H Q _ => ∃ (l ks : Addr) (us : List V) (kl : List Ky), vs = [.ref l, .ref ks] ∧ Row H l ∧ ks ≠ l ∧ H ks = some (.lst us) ∧ us.length ≤ 100 ∧ PySem.W.EachIs (KeyAt H) us kl ∧ Drs kl ∧ ∀ v c H', But l H H' → Row H' l → ClAt H' v c → c.k ∉ kl → Dr kl.length c.k → Q v H'
theorem effs (r : Int) (h0 : 0 ≤ r) (h1 : r < 3) : ∃ e : Ef, atI [V.str "pay", .str "ship", .str "tell"] r = some (.str e.s) := by
  have : r = 0 ∨ r = 1 ∨ r = 2 := by omega
  rcases this with rfl | rfl | rfl
  · exact ⟨.pay, rfl⟩
  · exact ⟨.ship, rfl⟩
  · exact ⟨.tell, rfl⟩
section
variable {P : Program} {w : World} {K : PySem.W.Frag} {mg : Str → Option Value} {base : Heap}
theorem scCall : FnScope ["row", "keys", "key", "effect"] ["row", "keys"] (defScope sCall) := ⟨rfl, rfl, rfl, by decide +kernel, rfl, by decide +kernel, by decide +kernel⟩
theorem ok_call {f fT : Addr} {fd fdT : FuncData} (F : Fun K "_law_call" "_law_call" sCall f fd) (T : Txt K mg)
    (G_TK : FnOk P w K mg base CX0 1 fT fdT ["row", "bound"] spTake) (L_TK : Cal K mg "_law_take" fT fdT ["row", "bound"]) : FnOk P w K mg base CX0 2 f fd ["row", "keys"] spCall := by
  refine F.ok scCall (fun vs H Q E h => ?_) (fun cdv A outer s H vs Q E hr h => ?_)
  · obtain ⟨l, ks, us, kl, rfl, _⟩ := h
    rfl
  · obtain ⟨l, ks, us, kl, rfl, R0, nkl, hks, hlen, hk, hdr, k⟩ := h
    have hul : us.length = kl.length := hk.length
    have hu65 : ∀ {A : Around}, Room 1 A → A.units + 65 < cLine := fun r => by have := r.un; omega
    refine ⟨_, (pss_cons (ps_set (i := 2) scCall.nd rfl (Or.inl rfl) (pe_tup (pa_cons (pe_tup pa_nil) (pa_cons (pe_call G_TK hr rfl L_TK.g L_TK.k L_TK.b .nil pass0 (pa_cons (pv 0) (pa_cons pe_int pa_nil))) pa_nil))))
 (pss_cons (ps_if (pt_cmpR op_eq (pe_call G_TK hr rfl L_TK.g L_TK.k L_TK.b .nil pass0 (pa_cons (pv 0) (pa_cons pe_int pa_nil))) pe_int (nomark _))
 (pss_one (ps_set (i := 2) scCall.nd rfl (Or.inl rfl) (pe_tup (pa_cons (pe_tup (pa_cons (pe_call G_TK hr rfl L_TK.g L_TK.k L_TK.b .nil pass0 (pa_cons (pv 0) (pa_cons pe_int pa_nil))) pa_nil)) (pa_cons (pe_call G_TK hr rfl L_TK.g L_TK.k L_TK.b .nil pass0 (pa_cons (pv 0) (pa_cons pe_int pa_nil))) pa_nil)))))
 pss_nil)
 (pss_cons (ps_if (pt_cmpR (op_inD (hu65 hr)) (pv 2) (pv 1) (by rfl))
 (pss_one (ps_set (i := 2) scCall.nd rfl (Or.inl rfl) (pe_tup (pa_cons (pe_tup (pa_cons pe_int (pa_cons (pe_callB call_len_seq rfl T.zlen PySem.boot_len (pa_cons (pv 1) pa_nil)) pa_nil))) (pa_cons (pe_op op_add pe_int (pe_callB call_len_seq rfl T.zlen PySem.boot_len (pa_cons (pv 1) pa_nil))) pa_nil)))))
 pss_nil)
 (pss_cons (ps_set (i := 3) scCall.nd rfl (Or.inl rfl) (pe_ix ix_list (pe_lst (pa_cons pe_str (pa_cons pe_str (pa_cons pe_str pa_nil)))) (pe_call G_TK hr rfl L_TK.g L_TK.k L_TK.b .nil pass0 (pa_cons (pv 0) (pa_cons pe_int pa_nil))) (fun _ _ => rfl)))
 (pss_cons (ps_if (pt_cmpR op_eq (pv 3) pe_str (nomark _))
 (pss_one (ps_ret (pe_tup (pa_cons (pv 2) (pa_cons (pv 3) (pa_cons (pe_tup pa_nil) pa_nil))))))
 pss_nil)
 (pss_cons (ps_if (pt_cmpR op_eq (pv 3) pe_str (nomark _))
 (pss_one (ps_ret (pe_tup (pa_cons (pv 2) (pa_cons (pv 3) (pa_cons (pe_tup (pa_cons (pe_op op_sub (pe_call G_TK hr rfl L_TK.g L_TK.k L_TK.b .nil pass0 (pa_cons (pv 0) (pa_cons pe_int pa_nil))) pe_int) pa_nil)) pa_nil))))))
 pss_nil)
 (pss_one (ps_ret (pe_tup (pa_cons (pv 2) (pa_cons (pv 3) (pa_cons (pe_tup (pa_cons (pe_call G_TK hr rfl L_TK.g L_TK.k L_TK.b .nil pass0 (pa_cons (pv 0) (pa_cons pe_int pa_nil))) (pa_cons (pe_call G_TK hr rfl L_TK.g L_TK.k L_TK.b .nil pass0 (pa_cons (pv 0) (pa_cons pe_int pa_nil))) pa_nil))) pa_nil)))))))))))), ?_⟩
    refine ⟨(by show 0 ≤ sizeLine; decide), fun e he => ?_⟩
    have s1 := same_new he (.tup [])
    refine ⟨_, rfl, l, 9, rfl, by decide, R0.upd he _, fun r1 H1 _ _ b1 R1 => ⟨(by show 2 ≤ sizeLine; decide), fun t ht => ?_⟩⟩
    have he1 : H1 e = some (.tup []) := b1 _ _ (R0.ne he).symm upd_same
    have B1 : But l H (upd H1 t (.tup [.ref e, .int r1])) := ((Same.but s1).trans b1).trans (Same.but (same_new ht _))
    have K1 : KeyAt (upd H1 t (.tup [.ref e, .int r1])) (.ref t) ⟨[], r1⟩ := ⟨t, e, rfl, upd_same, same_new ht _ _ _ he1⟩
    have R1' := R1.upd ht (.tup [.ref e, .int r1])
    generalize upd H1 t (.tup [.ref e, .int r1]) = H2 at B1 K1 R1' ⊢
    clear R1 he1 ht b1
    dsimp only [tSeq, tAsg, tC, gName]
    refine rest_first (fun σ' H' => ∃ (kv : V) (d : Ky), σ' = [some (.ref l), some (.ref ks), some kv, none] ∧ But l H H' ∧ Row H' l ∧ KeyAt H' kv d ∧ d.p.length ≤ 1) ?_ (fun rest => ?_)
    · rintro σ' H3 ⟨kv, d, rfl, B3, R3, K3, D3⟩
      dsimp only [tSeq]
      refine rest_first (fun σ' H' => ∃ (kv : V) (d : Ky), σ' = [some (.ref l), some (.ref ks), some kv, none] ∧ But l H H' ∧ Row H' l ∧ KeyAt H' kv d ∧ d ∉ kl ∧ Dr kl.length d) ?_ (fun rest => ?_)
      · rintro σ' H4 ⟨kv, d, rfl, B4, R4, K4, N4, D4⟩
        refine ⟨(by show 3 ≤ sizeLine; decide), fun q hq => ⟨_, rfl, l, 3, rfl, by decide, R4.upd hq _, fun r6 H6 h60 h61 b6 R6 => ?_⟩⟩
        have hq6 := b6 _ _ (R4.ne hq).symm upd_same
        obtain ⟨e, he6⟩ := effs r6 h60 h61
        refine ⟨q, _, _, _, rfl, rfl, SqL.of hq6, he6, ?_⟩
        have B6 : But l H H6 := (B4.trans (Same.but (same_new hq _))).trans b6
        have K6 : KeyAt H6 kv d := (K4.tl (tlu hq _)).tl (b6.tl (R4.upd hq _))
        refine ⟨_, rfl, rfl, _, rfl, ite2 (fun c1 => ?_) (fun c1 => ?_)⟩
        · have ee : e = .tell := Ef.inj (str_eq.mp (of_decide_eq_true c1))
          subst ee
          refine ⟨_, rfl, _, rfl, (by show 0 ≤ sizeLine; decide), fun g hg => ⟨(by show 3 ≤ sizeLine; decide), fun t ht => ?_⟩⟩
          have ng := same_new hg (.tup [])
          have nt := same_new ht (.tup [kv, .str Ef.tell.s, .ref g])
          exact k _ ⟨d, .tell, []⟩ _ ((B6.trans (Same.but ng)).trans (Same.but nt)) ((R6.upd hg _).upd ht _) ⟨t, g, kv, rfl, upd_same, (K6.tl (Same.tl ng)).tl (Same.tl nt), nt _ _ upd_same, fun z => by cases z⟩ N4 D4
        · refine ⟨_, rfl, rfl, _, rfl, ite2 (fun c2 => ?_) (fun c2 => ?_)⟩
          · have ee : e = .pay := Ef.inj (str_eq.mp (of_decide_eq_true c2))
            subst ee
            refine ⟨_, rfl, _, rfl, _, rfl, l, 9, rfl, by decide, R6, fun r7 H7 _ _ b7 R7 => ⟨_, _, rfl, rfl, (by show 1 ≤ sizeLine; decide), fun g hg => ⟨(by show 3 ≤ sizeLine; decide), fun t ht => ?_⟩⟩⟩
            have ng := same_new hg (.tup [.int (r7 - 2)])
            have nt := same_new ht (.tup [kv, .str Ef.pay.s, .ref g])
            exact k _ ⟨d, .pay, [r7 - 2]⟩ _ (((B6.trans b7).trans (Same.but ng)).trans (Same.but nt)) ((R7.upd hg _).upd ht _) ⟨t, g, kv, rfl, upd_same, ((K6.tl (b7.tl R6)).tl (Same.tl ng)).tl (Same.tl nt), nt _ _ upd_same, fun _ z => by cases z⟩ N4 D4
          · have ee : e = .ship := by
              cases e with
              | pay => exact absurd (by decide +kernel) c2
              | ship => rfl
              | tell => exact absurd (by decide +kernel) c1
            subst ee
            refine ⟨_, rfl, _, rfl, _, rfl, l, 4, rfl, by decide, R6, fun r7 H7 _ _ b7 R7 => ⟨_, rfl, l, 6, rfl, by decide, R7, fun r8 H8 _ _ b8 R8 => ⟨(by show 2 ≤ sizeLine; decide), fun g hg => ⟨(by show 3 ≤ sizeLine; decide), fun t ht => ?_⟩⟩⟩⟩
            have ng := same_new hg (.tup [.int r7, .int r8])
            have nt := same_new ht (.tup [kv, .str Ef.ship.s, .ref g])
            exact k _ ⟨d, .ship, [r7, r8]⟩ _ ((((B6.trans b7).trans b8).trans (Same.but ng)).trans (Same.but nt)) ((R8.upd hg _).upd ht _) ⟨t, g, kv, rfl, upd_same, ((K6.tl ((b7.trans b8).tl R6)).tl (Same.tl ng)).tl (Same.tl nt), nt _ _ upd_same, fun z => by cases z⟩ N4 D4
      · have hks3 : H3 ks = some (.lst us) := B3 _ _ nkl hks
        have hk3 : PySem.W.EachIs (KeyAt H3) us kl := hk.mono fun _ _ q => q.tl (B3.tl R0)
        refine ⟨_, rfl, _, rfl, d.nk.data, kyD kl, K3.dp, .lst (SqL.of hks3) (keys_dp hk3), shK d, shKs kl, _, rfl, ?_⟩
        rw [anyK]
        refine ite2 (fun c0 => ?_) (fun c0 => ?_)
        · refine ⟨_, rfl, _, us, rfl, .inl (SqL.of hks3), (by show 2 ≤ sizeLine; decide), fun p hp => ?_⟩
          refine ⟨_, rfl, _, us, rfl, .inl (SqL.of (same_new hp _ _ _ hks3)), _, _, rfl, rfl, (by show 2 ≤ sizeLine; decide), fun t ht => ?_⟩
          refine rest _ _ ⟨.ref t, ⟨[1, (us.length : Int)], 50 + (us.length : Int)⟩, rfl, (B3.trans (Same.but (same_new hp _))).trans (Same.but (same_new ht _)), (R3.upd hp _).upd ht _, ⟨t, p, rfl, upd_same, same_new ht _ _ _ upd_same⟩, ?_, ?_⟩
          · rw [hul]
            exact hdr.new
          · rw [hul]
            exact .inr rfl
        · exact rest _ _ ⟨kv, d, rfl, B3, R3, K3, of_decide_eq_false (by simpa using c0), .inl D3⟩
    · refine ⟨_, rfl, l, 3, rfl, by decide, R1', fun r2 H3 _ _ b3 R3 => ?_⟩
      refine ⟨rfl, _, rfl, ite2 (fun _ => ?_) (fun _ => ?_)⟩
      · refine ⟨_, rfl, l, 2, rfl, by decide, R3, fun r4 H4 _ _ b4 R4 => ⟨(by show 1 ≤ sizeLine; decide), fun p hp => ?_⟩⟩
        refine ⟨_, rfl, l, 4, rfl, by decide, R4.upd hp _, fun r5 H5 _ _ b5 R5 => ⟨(by show 2 ≤ sizeLine; decide), fun t ht => ?_⟩⟩
        have hp5 : H5 p = some (.tup [.int r4]) := b5 _ _ (R4.ne hp).symm upd_same
        exact rest _ _ ⟨.ref t, ⟨[r4], r5⟩, rfl, (((B1.trans (b3.trans b4)).trans (Same.but (same_new hp _))).trans b5).trans (Same.but (same_new ht _)), R5.upd ht _, ⟨t, p, rfl, upd_same, same_new ht _ _ _ hp5⟩, Nat.le_refl 1⟩
      · exact rest _ _ ⟨.ref t, ⟨[], r1⟩, rfl, B1.trans b3, R3, K1.tl (b3.tl R1'), Nat.zero_le 1⟩
end
end KD
namespace KD
open PySem PySem.Spec L2 RX LamX
def spCalls : Sp := fun vs H Q _ => ∃ (l : Addr) (m : Int), vs = [.ref l, .int m] ∧ Row H l ∧ 0 ≤ m ∧ m ≤ 50 ∧ ∀ p us cs H', But l H H' → Row H' l → H p = none → H' p = some (.lst us) → Cls H' us cs → (cs.map (·.k)).Nodup → (cs.length : Int) ≤ m → Q (.ref p) H'
theorem nodup_snoc {α : Type} {ks : List α} {k : α} (h : ks.Nodup) (n : k ∉ ks) : (ks ++ [k]).Nodup := by
  refine List.nodup_append.mpr ⟨h, by simp, fun x hx y hy => ?_⟩
  have : y = k := by simpa using hy
  subst this
  exact fun e => n (e ▸ hx)
theorem upd_tl {H : Hp} {D : Addr} {xs : List V} {o : HO} (h : H D = some (.lst xs)) : Tl H (upd H D o) := fun a ys e => by
  rw [upd_ne (fun z => by rw [z, h] at e; cases e)]
  exact e
section
variable {P : Program} {w : World} {K : PySem.W.Frag} {mg : Str → Option Value} {base : Heap}
theorem scCalls : FnScope ["row", "most", "calls", "k", "call"] ["row", "most"] (defScope sCalls) := ⟨rfl, rfl, rfl, by decide +kernel, rfl, by decide +kernel, by decide +kernel⟩
theorem ok_calls {f fT fC : Addr} {fd fdT fdC : FuncData} (F : Fun K "_law_calls" "_law_calls" sCalls f fd) (T : Txt K mg)
    (G_TK : FnOk P w K mg base CX0 1 fT fdT ["row", "bound"] spTake) (L_TK : Cal K mg "_law_take" fT fdT ["row", "bound"])
    (G_CA : FnOk P w K mg base CX0 2 fC fdC ["row", "keys"] spCall) (L_CA : Cal K mg "_law_call" fC fdC ["row", "keys"]) : FnOk P w K mg base CX0 3 f fd ["row", "most"] spCalls := by
  refine F.ok scCalls (fun vs H Q E h => ?_) (fun cdv A outer s H vs Q E hr h => ?_)
  · obtain ⟨l, m, rfl, _⟩ := h
    rfl
  · obtain ⟨l, m, rfl, R0, hm0, hm1, k⟩ := h
    have hr1 : Room 1 _ := hr.mono (by decide)
    refine ⟨_, (pss_cons (ps_set (i := 2) scCalls.nd rfl (Or.inl rfl) (pe_lst pa_nil))
 (pss_cons (ps_for PassesOwn.never rfl (pi_range1 rfl T.zrng (pa_cons (pe_call G_TK hr1 rfl L_TK.g L_TK.k L_TK.b .nil pass0 (pa_cons (pv 0) (pa_cons (pe_op op_add (pv 1) pe_int) pa_nil))) pa_nil)) (pg_name (i := 3) scCalls.nd rfl (Or.inl rfl))
 (pss_one (ps_expr (pe_bm PySem.F.plainAttrs_list PySem.F.slot_list_append PySem.F.type_list_append mt_append (pv 2) (pa_cons (pe_call G_CA hr rfl L_CA.g L_CA.k L_CA.b .nil pass0 (pa_cons (pv 0) (pa_cons (pe_lc (own := [("call", 4)]) (g := gName 4) (tt := tYes) rfl scCalls.nd (pi_list (pv 2)) (blkOk_by (own := [("call", 4)]) (N := ["row", "most", "calls", "k", "call"]) (sc := defScope sCalls) (by decide +kernel)) (fun _ _ _ _ _ => (pg_name (i := 4) scCalls.nd rfl (Or.inl rfl))) (fun _ _ _ _ _ => pts_nil) (fun _ _ _ _ _ => (pe_ix (ix_tup : IxR _ (rIxT K)) (pv 4) pe_int (fun _ _ => rfl)))) pa_nil))) pa_nil)))))
 (pss_one (ps_ret (pv 2))))), ?_⟩
    refine ⟨(by show 0 ≤ sizeLine; decide), fun D hD => ?_⟩
    have nD := R0.ne hD
    refine ⟨_, rfl, _, rfl, _, _, rfl, rfl, l, m + 1, rfl, by omega, R0.upd hD _, fun r H1 h0 h1 b1 R1 => ?_⟩
    have hD1 : H1 D = some (.lst []) := b1 _ _ nD.symm upd_same
    refine ⟨r, rfl, by omega, by omega, for_range (lo := 0) (n := r.toNat)
      (fun i σ H' => ∃ (us : List V) (cs : List Cl) (x3 : Option V), σ = [some (.ref l), some (.int m), some (.ref D), x3, none] ∧ But l H H' ∧ Row H' l ∧ H' D = some (.lst us) ∧ Cls H' us cs ∧ cs.length = i ∧ (cs.map (·.k)).Nodup ∧ Drs (cs.map (·.k))) ?_ ?_ ?_⟩
    · exact ⟨[], [], none, rfl, (Same.but (same_new hD _)).trans b1, R1, hD1, .nil, rfl, List.nodup_nil, fun i k h => by simp at h⟩
    · rintro i σ H2 hi ⟨us, cs, x3, rfl, b2, R2, hD2, hcs, hl, hnd, hdr⟩
      have hlen : us.length = cs.length := hcs.length
      refine ⟨_, rfl, .inl ⟨rfl, _, SqL.of hD2⟩, _, rfl, _, rfl, D, rfl, ⟨_, SqL.of hD2⟩, fun L hL => lc_list (K := K) (a := D) (xs := us)
        (fun j H' => ∃ (ks : List V), Same H2 H' ∧ H' L = some (.lst ks) ∧ PySem.W.EachIs (KeyAt H') ks ((cs.map (·.k)).take j)) ⟨[], same_new hL _, upd_same, .nil⟩ (fun j H' _ ⟨_, s, _⟩ => SqL.of (s _ _ hD2)) ?_ ?_⟩
      · rintro j x H3 hx ⟨ks, s3, hL3, hk3⟩
        obtain ⟨c, hc, a, g, kv, rfl, ha, hkv, _⟩ := each_get hcs hx
        have hjl : j < us.length := (List.getElem?_eq_some_iff.mp hx).1
        refine ⟨rfl, _, rfl, a, _, _, _, rfl, rfl, SqT.of (s3 _ _ ha), at0, _, hL3, size_l (by have e := hk3.length; rw [List.length_take] at e; omega), ks ++ [kv], Same.upd s3 hL _, upd_same, ?_⟩
        rw [List.take_add_one, List.getElem?_map, hc]
        exact (each_snoc hk3 (hkv.tl (Same.tl s3))).mono fun _ _ q => q.tl (upd_tl hL3)
      · rintro H3 ⟨ks, s3, hL3, hk3⟩
        rw [hlen, show cs.length = (cs.map (·.k)).length by simp, List.take_length] at hk3
        have hLl : L ≠ l := fun z => by
          obtain ⟨ns, h, _⟩ := R2
          rw [z, h] at hL
          cases hL
        refine ⟨l, L, ks, cs.map (·.k), rfl, R2.same s3, hLl, hL3, by rw [hk3.length, List.length_map]; omega, hk3, hdr, fun v c H4 b4 R4 hc nk hd => ?_⟩
        have hD4 : H4 D = some (.lst us) := b4 _ _ nD.symm (s3 _ _ hD2)
        refine ⟨D, _, _, rfl, rfl, hD4, size_l (by omega), ?_⟩
        have ut := upd_tl (o := .lst (us ++ [v])) hD4
        have bl : But l H H4 := (b2.trans (Same.but s3)).trans b4
        refine ⟨us ++ [v], cs ++ [c], _, rfl, fun b o nb q => ?_, ?_, upd_same, Cls.tl ut (each_snoc ((hcs.tl (Same.tl s3)).tl (b4.tl (R2.same s3))) hc), by rw [List.length_append, List.length_singleton, hl], by rw [List.map_append]; exact nodup_snoc hnd nk, by rw [List.map_append]; exact hdr.snoc hd⟩
        · rw [upd_ne (ne_of_none q hD)]
          exact bl _ _ nb q
        · obtain ⟨ns, h, n⟩ := R4
          exact ⟨ns, by rw [upd_ne nD]; exact h, n⟩
    · rintro σ H2 ⟨us, cs, x3, rfl, b2, R2, hD2, hcs, hl, hnd, _⟩
      exact ⟨_, rfl, k D us cs H2 b2 R2 hD hD2 hcs hnd (by omega)⟩
end
end KD
namespace KD
open PySem PySem.Spec L2 RX LamX
theorem datas_ints : ∀ ns : List Int, NestedKey.datas (ns.map .num) = ns.map .int
  | [] => rfl
  | n :: ns => by
    show NestedKey.data (.num n) :: NestedKey.datas (ns.map .num) = _
    rw [datas_ints ns]
    rfl
theorem ky_alike (a b : Ky) : PySem.W.alike a.nk.data b.nk.data = true := by
  show PySem.W.alikeAll [.tuple (NestedKey.datas (a.p.map .num)), .int a.n] [.tuple (NestedKey.datas (b.p.map .num)), .int b.n] = true
  rw [datas_ints, datas_ints]
  show (PySem.W.alikeAll (a.p.map .int) (b.p.map .int) && (true && true)) = true
  rw [PySem.W.alike_ints]
  rfl
theorem cl_alike (a b : Cl) : PySem.W.alike a.nk.data b.nk.data = true := by
  show (PySem.W.alike a.k.nk.data b.k.nk.data && (true && (PySem.W.alikeAll (NestedKey.datas (a.as.map .num)) (NestedKey.datas (b.as.map .num)) && true))) = true
  rw [datas_ints, datas_ints, ky_alike, PySem.W.alike_ints]
  rfl
/-! ### the lambda's table -/
def qLam : Str := ("_by_keys" ++ ".<locals>.") ++ "<lambda>"
def TT (Pt : Addr) : List (Addr × Str) := [(Pt, qLam)]
def srtK (cs : List Cl) : List Cl := cs.mergeSort (PySem.W.dataLe false fun c => c.k.nk.data)
def srtC (cs : List Cl) : List Cl := cs.mergeSort (PySem.W.dataLe false fun c => c.nk.data)
def spBK (K : PySem.W.Frag) (Pt : Addr) : Sp := fun vs H Q _ => ∃ (a : Addr) (us : List V) (cs : List Cl), vs = [.ref a] ∧ SqL K H a us ∧ Cls H us cs ∧ Tabs (TT Pt) H ∧
  ∀ out p H', ExtN H H' → Tabs (TT Pt) H' → H' p = some (.lst out) → Cls H' out (srtK cs) → Q (.ref p) H'
theorem tabs_new {Pt p : Addr} {H : Hp} {o : HO} (t : Tabs (TT Pt) H) (h : H p = none) : Tabs (TT Pt) (L2.upd H p o) := t.ext fun b u q => same_new h o b u q
theorem hu66 {k : Nat} {A : Around} (r : Room k A) : A.units + 66 < cLine := by have := r.un; omega
theorem hu65 {k : Nat} {A : Around} (r : Room k A) : A.units + 65 < cLine := by have := r.un; omega
section
variable {P : Program} {w : World} {K : PySem.W.Frag} {mg : Str → Option Value} {base : Heap}
theorem scByK : FnScope ["calls"] ["calls"] (defScope sByK) := ⟨rfl, rfl, rfl, by decide +kernel, rfl, by decide +kernel, by decide +kernel⟩
theorem ok_byk {f c Pt : Addr} {oc kV doc pm ct : Value} {od an : Option Addr} {osl : Array (Option Value)} (lk : K.lookup f = some ⟨oc, od, .func (PySem.W.fnOf "_by_keys" "_by_keys" (defArgs sByK) (defBody sByK) (defScope sByK) .none kV doc pm an (.ref c) ct), osl⟩)
    (hcd : PySem.W.codeIn K (.ref c) "_by_keys" = true) (T : Txt K mg) (TB : TabB base mg c Pt) : FnOk P w K mg base CX0 2 f (PySem.W.fnOf "_by_keys" "_by_keys" (defArgs sByK) (defBody sByK) (defScope sByK) .none kV doc pm an (.ref c) ct) ["calls"] (spBK K Pt) := by
  refine fn_of lk hcd scByK (fun vs H Q E h => ?_) (fun A outer s H vs Q E hr h => ?_)
  · obtain ⟨a, us, cs, rfl, _⟩ := h
    rfl
  · obtain ⟨a, us, cs, rfl, ha, hcs, hT, k⟩ := h
    refine ⟨_, (pss_one (ps_ret (pe_sort0 (β := Cl) (key := fun c => c.k.nk) (T := TT Pt) (c := c) (P := Pt) (x := "call") TB rfl (by exact List.mem_singleton.mpr rfl) (fun p hp _ => by rw [List.mem_singleton.mp hp]; rfl) rfl rfl rfl rfl rfl (by decide) (fun _ _ _ _ _ => rfl) hr rfl T.zsorted boot_sorted0 (pa_cons (pv 0) pa_nil)))), ?_⟩
    refine ⟨_, rfl, a, us, cs, ClAt H, rfl, ha, hcs, fun v b hv => ?_, PySem.W.AllAlike.of fun x y => ky_alike x.k y.k, PySem.W.Sortable.tuples fun b => ⟨_, _, rfl⟩, fun b _ => ?_, hT, fun out p H2 e2 t2 ho hn => ?_⟩
    · obtain ⟨t, g, kv, rfl, h1, h2, _⟩ := hv
      exact ⟨t, kv, _, rfl, SqT.of h1, h2.nk⟩
    · have := b.k.lay.2.1
      show b.k.nk.data.depth ≤ 60
      omega
    · refine k out p _ (e2.trans (ExtN.of (same_new hn _))) (tabs_new t2 hn) upd_same (Cls.tl (Tl.trans (ExtN.tl e2) (tlu hn _)) ho)
/-- the state of a comprehension that keeps some calls -/
def Flt (H2 : Hp) (L : Addr) (cs : List Cl) (p : Cl → Bool) (i : Nat) (H' : Hp) : Prop := Same H2 H' ∧ ∃ out, H' L = some (.lst out) ∧ Cls H' out ((cs.take i).filter p) ∧ out.length ≤ i
theorem flt_start {H2 : Hp} {L : Addr} {cs : List Cl} {p : Cl → Bool} (h : H2 L = none) : Flt H2 L cs p 0 (L2.upd H2 L (.lst [])) := ⟨same_new h _, [], upd_same, .nil, Nat.le_refl _⟩
theorem flt_yes {H2 H3 : Hp} {L : Addr} {cs : List Cl} {p : Cl → Bool} {i : Nat} {c : Cl} {x : V} (hL : H2 L = none) (f : Flt H2 L cs p i H3) (hc : cs[i]? = some c) (hx : ClAt H2 x c) (hp : p c = true) (hz : i ≤ 100000) :
    ∃ acc, H3 L = some (.lst acc) ∧ acc.length < sizeLine ∧ Flt H2 L cs p (i + 1) (L2.upd H3 L (.lst (acc ++ [x]))) := by
  obtain ⟨s3, out, ho, hout, hol⟩ := f
  refine ⟨out, ho, size_l (by omega), Same.upd s3 hL _, out ++ [x], upd_same, ?_, by rw [List.length_append, List.length_singleton]; omega⟩
  rw [List.take_add_one, hc, List.filter_append]
  show Cls _ _ (_ ++ List.filter p [c])
  rw [List.filter_cons_of_pos hp]
  exact Cls.tl (upd_tl ho) (each_snoc hout (hx.tl (Same.tl s3)))
theorem flt_no {H2 H3 : Hp} {L : Addr} {cs : List Cl} {p : Cl → Bool} {i : Nat} {c : Cl} (f : Flt H2 L cs p i H3) (hc : cs[i]? = some c) (hp : p c = false) : Flt H2 L cs p (i + 1) H3 := by
  obtain ⟨s3, out, ho, hout, hol⟩ := f
  refine ⟨s3, out, ho, ?_, Nat.le_succ_of_le hol⟩
  rw [List.take_add_one, hc, List.filter_append]
  show Cls _ _ (_ ++ List.filter p [c])
  rw [List.filter_cons_of_neg (by rw [hp]; decide)]
  exact (List.append_nil (List.filter p (List.take i cs))).symm ▸ hout
theorem flt_end {H2 H3 : Hp} {L : Addr} {cs : List Cl} {p : Cl → Bool} {n : Nat} (f : Flt H2 L cs p n H3) (hn : n = cs.length) : ∃ out, Same H2 H3 ∧ H3 L = some (.lst out) ∧ Cls H3 out (cs.filter p) := by
  obtain ⟨s3, out, ho, hout, _⟩ := f
  rw [hn, List.take_length] at hout
  exact ⟨out, s3, ho, hout⟩
def spDiff (K : PySem.W.Frag) (Pt : Addr) : Sp := fun vs H Q _ => ∃ (a b : Addr) (us ws : List V) (cs ds : List Cl), vs = [.ref a, .ref b] ∧ SqL K H a us ∧ Cls H us cs ∧ SqL K H b ws ∧ Cls H ws ds ∧ us.length ≤ 1000 ∧ ws.length ≤ 1000 ∧ Tabs (TT Pt) H ∧
  ∀ t l1 l2 l3 o1 o2 o3 H', ExtN H H' → Tabs (TT Pt) H' → H' t = some (.tup [.ref l1, .ref l2, .ref l3]) → H' l1 = some (.lst o1) → H' l2 = some (.lst o2) → H' l3 = some (.lst o3) →
    Cls H' o1 (srtK (cs.filter fun c => decide (c ∈ ds))) → Cls H' o2 (srtK (cs.filter fun c => !decide (c ∈ ds))) → Cls H' o3 (srtK (ds.filter fun c => !decide (c ∈ cs))) → Q (.ref t) H'
theorem scDiff : FnScope ["past", "now", "earlier", "later", "call", "same", "there", "here"] ["past", "now"] (defScope sDiff) := ⟨rfl, rfl, rfl, by decide +kernel, rfl, by decide +kernel, by decide +kernel⟩
theorem cls_nk {H : Hp} {us : List V} {cs : List Cl} (h : Cls H us cs) : PySem.W.EachIs (fun v k => (∃ b, v = .ref b) ∧ NkAt K H v k ∧ k.depth ≤ 8) us (cs.map Cl.nk) := by
  induction h with
  | nil => exact .nil
  | @cons v c us cs h _ ih => exact .cons ⟨h.ref, h.nk, c.lay.2.2⟩ ih
theorem nk_mem {cs : List Cl} {c : Cl} : c.nk ∈ cs.map Cl.nk ↔ c ∈ cs := by
  constructor
  · intro h
    obtain ⟨d, hd, e⟩ := List.mem_map.mp h
    exact Cl.inj e ▸ hd
  · exact fun h => List.mem_map.mpr ⟨c, h, rfl⟩
theorem SqL.same {H H' : Hp} {a : Addr} {xs : List V} (h : SqL K H a xs) (s : Same H H') : SqL K H' a xs := RX.SqL.ext h (ExtN.of s)
theorem ok_diff {f fB : Addr} {fd fdB : FuncData} {Pt : Addr} (F : Fun K "difference" "difference" sDiff f fd) (T : Txt K mg)
    (G_BK : FnOk P w K mg base CX0 2 fB fdB ["calls"] (spBK K Pt)) (L_BK : Cal K mg "_by_keys" fB fdB ["calls"]) : FnOk P w K mg base CX0 3 f fd ["past", "now"] (spDiff K Pt) := by
  refine F.ok scDiff (fun vs H Q E h => ?_) (fun cdv A outer s H vs Q E hr h => ?_)
  · obtain ⟨a, b, us, ws, cs, ds, rfl, _⟩ := h
    rfl
  · obtain ⟨a, b, us, ws, cs, ds, rfl, ha, hcs, hb, hds, hul, hwl, hT, k⟩ := h
    refine ⟨_, (pss_cons (ps_set (i := 2) scDiff.nd rfl (Or.inr rfl) (pe_dcN (own := [("call", 4)]) (g := gName 4) rfl (hu66 hr) scDiff.nd (pi_list (pv 0)) (blkOk_by (own := [("call", 4)]) (N := ["past", "now", "earlier", "later", "call", "same", "there", "here"]) (sc := defScope sDiff) (by decide +kernel)) (fun _ _ _ _ _ => (pg_name (i := 4) scDiff.nd rfl (Or.inl rfl))) (fun _ _ _ _ _ => (pv 4))))
 (pss_cons (ps_set (i := 3) scDiff.nd rfl (Or.inr rfl) (pe_dcN (own := [("call", 4)]) (g := gName 4) rfl (hu66 hr) scDiff.nd (pi_list (pv 1)) (blkOk_by (own := [("call", 4)]) (N := ["past", "now", "earlier", "later", "call", "same", "there", "here"]) (sc := defScope sDiff) (by decide +kernel)) (fun _ _ _ _ _ => (pg_name (i := 4) scDiff.nd rfl (Or.inl rfl))) (fun _ _ _ _ _ => (pv 4))))
 (pss_cons (ps_setLc (i := 5) (own := [("call", 4)]) (g := gName 4) rfl scDiff.nd rfl rfl (sw_true rfl rfl rfl (by decide +kernel)) (pi_list (pv 0)) (blkOk_by (own := [("call", 4)]) (N := ["past", "now", "earlier", "later", "call", "same", "there", "here"]) (sc := defScope sDiff) (by decide +kernel)) (fun _ _ _ _ _ => (pg_name (i := 4) scDiff.nd rfl (Or.inl rfl))) (fun _ _ _ _ _ => (pts_one (pt_cmpR (op_inN (hu66 hr) : OpR _ _ (rInN P w K id)) (pv 4) (pv 3) (by rfl)))) (fun _ _ _ _ _ => (pv 4)))
 (pss_cons (ps_setLc (i := 6) (own := [("call", 4)]) (g := gName 4) rfl scDiff.nd rfl rfl (sw_true rfl rfl rfl (by decide +kernel)) (pi_list (pv 0)) (blkOk_by (own := [("call", 4)]) (N := ["past", "now", "earlier", "later", "call", "same", "there", "here"]) (sc := defScope sDiff) (by decide +kernel)) (fun _ _ _ _ _ => (pg_name (i := 4) scDiff.nd rfl (Or.inl rfl))) (fun _ _ _ _ _ => (pts_one (pt_cmpR (op_notInN (hu66 hr) : OpR _ _ (rInN P w K not)) (pv 4) (pv 3) (by rfl)))) (fun _ _ _ _ _ => (pv 4)))
 (pss_cons (ps_setLc (i := 7) (own := [("call", 4)]) (g := gName 4) rfl scDiff.nd rfl rfl (sw_true rfl rfl rfl (by decide +kernel)) (pi_list (pv 1)) (blkOk_by (own := [("call", 4)]) (N := ["past", "now", "earlier", "later", "call", "same", "there", "here"]) (sc := defScope sDiff) (by decide +kernel)) (fun _ _ _ _ _ => (pg_name (i := 4) scDiff.nd rfl (Or.inl rfl))) (fun _ _ _ _ _ => (pts_one (pt_cmpR (op_notInN (hu66 hr) : OpR _ _ (rInN P w K not)) (pv 4) (pv 2) (by rfl)))) (fun _ _ _ _ _ => (pv 4)))
 (pss_one (ps_ret (pe_tup (pa_cons (pe_call G_BK hr rfl L_BK.g L_BK.k L_BK.b .nil pass0 (pa_cons (pv 5) pa_nil)) (pa_cons (pe_call G_BK hr rfl L_BK.g L_BK.k L_BK.b .nil pass0 (pa_cons (pv 6) pa_nil)) (pa_cons (pe_call G_BK hr rfl L_BK.g L_BK.k L_BK.b .nil pass0 (pa_cons (pv 7) pa_nil)) pa_nil))))))))))), ?_⟩
    refine ⟨_, rfl, a, rfl, ⟨_, ha⟩, fun D1 hD1 => dcN_list hD1 ha (cls_nk hcs) (by omega) (fun x H Nx q => ⟨rfl, _, rfl, q _ rfl⟩) fun H1 xs1 s1 h1 n1 m1 => ?_⟩
    refine ⟨_, rfl, b, rfl, ⟨_, SqL.same hb s1⟩, fun D2 hD2 => dcN_list hD2 (SqL.same hb s1) (cls_nk (Cls.tl (Same.tl s1) hds)) (by omega) (fun x H Nx q => ⟨rfl, _, rfl, q _ rfl⟩) fun H2 xs2 s2 h2 n2 m2 => ?_⟩
    have ha2 : SqL K H2 a us := SqL.same (SqL.same ha s1) s2
    have hb2 : SqL K H2 b ws := SqL.same (SqL.same hb s1) s2
    have hcs2 : Cls H2 us cs := Cls.tl (Same.tl s2) (Cls.tl (Same.tl s1) hcs)
    have hds2 : Cls H2 ws ds := Cls.tl (Same.tl s2) (Cls.tl (Same.tl s1) hds)
    have h12 : H2 D1 = some (NestO P w D1 xs1) := s2 _ _ h1
    have n12 : Nks K H2 xs1 := fun p hp => ⟨NkAt.mono s2 (n1 p hp).1, (n1 p hp).2⟩
    have h2 : H2 D2 = some (NestO P w D2 xs2) := h2
    have n2 : Nks K H2 xs2 := n2
    have eq1 : ∀ c : Cl, decide (c.nk ∈ xs1.map (·.1)) = decide (c ∈ cs) := fun c => decide_eq_decide.mpr ((m1 _).trans nk_mem)
    have eq2 : ∀ c : Cl, decide (c.nk ∈ xs2.map (·.1)) = decide (c ∈ ds) := fun c => decide_eq_decide.mpr ((m2 _).trans nk_mem)
    have S02 : Same H H2 := fun b o q => s2 b o (s1 b o q)
    clear s1 s2 h1 n1 m1 m2 hD1 hD2
    have nks : ∀ {xs : List (NestedKey × Addr)} {H' : Hp}, Same H2 H' → Nks K H2 xs → Nks K H' xs := fun s n p hp => ⟨NkAt.mono s (n p hp).1, (n p hp).2⟩
    refine ⟨_, rfl, a, rfl, ⟨_, ha2⟩, fun L1 hL1 => lc_list (K := K) (a := a) (xs := us) (Flt H2 L1 cs fun c => decide (c ∈ ds)) (flt_start hL1) (fun i H' _ ⟨s3, _⟩ => SqL.same ha2 s3) ?_ ?_⟩
    · rintro i x H3 hx f3
      obtain ⟨c, hc, hxc⟩ := each_get hcs2 hx
      have hi := (List.getElem?_eq_some_iff.mp hx).1
      obtain ⟨ad, rfl⟩ := hxc.ref
      refine ⟨rfl, _, rfl, _, rfl, ad, D2, c.nk, xs2, rfl, rfl, f3.1 _ _ h2, nks f3.1 n2, (hxc.tl (Same.tl f3.1)).nk, c.lay.2.2, _, rfl, ?_⟩
      rw [eq2]
      refine ite2 (fun c0 => ?_) (fun c0 => ?_)
      · exact ⟨_, rfl, flt_yes hL1 f3 hc hxc c0 (by omega)⟩
      · exact flt_no f3 hc (by simpa using c0)
    · intro H3 f3
      obtain ⟨o1, t1, k1, c1⟩ := flt_end f3 hcs2.length
      have h23 := t1 _ _ h2
      have n23 := nks t1 n2
      refine ⟨_, rfl, a, rfl, ⟨_, SqL.same ha2 t1⟩, fun L2 hL2 => lc_list (K := K) (a := a) (xs := us) (Flt H3 L2 cs fun c => !decide (c ∈ ds)) (flt_start hL2) (fun i H' _ ⟨s3, _⟩ => SqL.same (SqL.same ha2 t1) s3) ?_ ?_⟩
      · rintro i x H4 hx f4
        obtain ⟨c, hc, hxc⟩ := each_get hcs2 hx
        have hi := (List.getElem?_eq_some_iff.mp hx).1
        have hxc3 := hxc.tl (Same.tl t1)
        obtain ⟨ad, rfl⟩ := hxc.ref
        refine ⟨rfl, _, rfl, _, rfl, ad, D2, c.nk, xs2, rfl, rfl, f4.1 _ _ h23, fun p hp => ⟨NkAt.mono f4.1 (n23 p hp).1, (n23 p hp).2⟩, (hxc3.tl (Same.tl f4.1)).nk, c.lay.2.2, _, rfl, ?_⟩
        rw [eq2]
        refine ite2 (fun c0 => ?_) (fun c0 => ?_)
        · exact ⟨_, rfl, flt_yes hL2 f4 hc hxc3 c0 (by omega)⟩
        · exact flt_no f4 hc (by simpa using c0)
      · intro H4 f4
        obtain ⟨o2, t2, k2, c2⟩ := flt_end f4 hcs2.length
        have h14 := t2 _ _ (t1 _ _ h12)
        have n14 : Nks K H4 xs1 := fun p hp => ⟨NkAt.mono t2 (nks t1 n12 p hp).1, (nks t1 n12 p hp).2⟩
        have hds4 : Cls H4 ws ds := Cls.tl (Same.tl t2) (Cls.tl (Same.tl t1) hds2)
        have hb4 : SqL K H4 b ws := SqL.same (SqL.same hb2 t1) t2
        refine ⟨_, rfl, b, rfl, ⟨_, hb4⟩, fun L3 hL3 => lc_list (K := K) (a := b) (xs := ws) (Flt H4 L3 ds fun c => !decide (c ∈ cs)) (flt_start hL3) (fun i H' _ ⟨s3, _⟩ => SqL.same hb4 s3) ?_ ?_⟩
        · rintro i x H5 hx f5
          obtain ⟨c, hc, hxc⟩ := each_get hds4 hx
          have hi := (List.getElem?_eq_some_iff.mp hx).1
          obtain ⟨ad, rfl⟩ := hxc.ref
          refine ⟨rfl, _, rfl, _, rfl, ad, D1, c.nk, xs1, rfl, rfl, f5.1 _ _ h14, fun p hp => ⟨NkAt.mono f5.1 (n14 p hp).1, (n14 p hp).2⟩, (hxc.tl (Same.tl f5.1)).nk, c.lay.2.2, _, rfl, ?_⟩
          rw [eq1]
          refine ite2 (fun c0 => ?_) (fun c0 => ?_)
          · exact ⟨_, rfl, flt_yes hL3 f5 hc hxc c0 (by omega)⟩
          · exact flt_no f5 hc (by simpa using c0)
        · intro H5 f5
          obtain ⟨o3, t3, k3, c3⟩ := flt_end f5 hds4.length
          have S05 : Same H H5 := ((S02.trans t1).trans t2).trans t3
          have k1' : H5 L1 = some (.lst o1) := t3 _ _ (t2 _ _ k1)
          have k2' : H5 L2 = some (.lst o2) := t3 _ _ k2
          refine ⟨_, rfl, L1, o1, _, rfl, SqL.of k1', Cls.tl (Same.tl t3) (Cls.tl (Same.tl t2) c1), hT.ext S05, fun u1 p1 H6 e6 T6 q1 d1 => ?_⟩
          have nl : ∀ {xs : List V} (ps : Array Value), HO.lst xs ≠ .tbl ps := fun _ z => by cases z
          refine ⟨_, rfl, L2, o2, _, rfl, SqL.of (e6 _ _ k2' nl), Cls.tl (ExtN.tl e6) (Cls.tl (Same.tl t3) c2), T6, fun u2 p2 H7 e7 T7 q2 d2 => ?_⟩
          refine ⟨_, rfl, L3, o3, _, rfl, SqL.of (e7 _ _ (e6 _ _ k3 nl) nl), Cls.tl (ExtN.tl e7) (Cls.tl (ExtN.tl e6) c3), T7, fun u3 p3 H8 e8 T8 q3 d3 => ?_⟩
          refine ⟨(by show 3 ≤ sizeLine; decide), fun t ht => ?_⟩
          have s9 := same_new ht (.tup [.ref p1, .ref p2, .ref p3])
          exact k t p1 p2 p3 u1 u2 u3 _ ((((ExtN.of S05).trans e6).trans e7).trans e8 |>.trans (ExtN.of s9)) (tabs_new T8 ht) upd_same (s9 _ _ (e8 _ _ (e7 _ _ q1 nl) nl)) (s9 _ _ (e8 _ _ q2 nl)) (s9 _ _ q3)
            (Cls.tl (Same.tl s9) (Cls.tl (ExtN.tl e8) (Cls.tl (ExtN.tl e7) d1))) (Cls.tl (Same.tl s9) (Cls.tl (ExtN.tl e8) d2)) (Cls.tl (Same.tl s9) d3)
end
end KD
namespace KD
open PySem PySem.Spec L2 RX LamX
def spNear : Sp := fun vs H Q _ => ∃ (l a : Addr) (us : List V) (cs : List Cl), vs = [.ref l, .ref a] ∧ Row H l ∧ a ≠ l ∧ H a = some (.lst us) ∧ Cls H us cs ∧ (cs.map (·.k)).Nodup ∧ cs.length ≤ 50 ∧
  ∀ p ws ds H', But l H H' → Row H' l → H p = none → H' p = some (.lst ws) → Cls H' ws ds → (ds.map (·.k)).Nodup → ds.length ≤ 200 → Q (.ref p) H'
theorem sub_add {cs fs : List Cl} {i : Nat} {c d : Cl} (h : (fs.map (·.k)).Sublist ((cs.take i).map (·.k))) (hc : cs[i]? = some c) (e : d.k = c.k) : ((fs ++ [d]).map (·.k)).Sublist ((cs.take (i + 1)).map (·.k)) := by
  rw [List.take_add_one, hc, List.map_append, List.map_append]
  refine h.append ?_
  show [d.k].Sublist [c.k]
  rw [e]
  exact List.Sublist.refl _
theorem sub_skip {cs fs : List Cl} {i : Nat} (h : (fs.map (·.k)).Sublist ((cs.take i).map (·.k))) : (fs.map (·.k)).Sublist ((cs.take (i + 1)).map (·.k)) := by
  rw [List.take_add_one, List.map_append]
  exact h.trans (List.sublist_append_left _ _)
theorem ins_nodup {fs : List Cl} {c : Cl} {n : Nat} (h : (fs.map (·.k)).Nodup) (hc : c.k ∉ fs.map (·.k)) : ((fs.take n ++ [c] ++ fs.drop n).map (·.k)).Nodup := by
  have p : (fs.take n ++ [c] ++ fs.drop n).Perm (c :: fs) := by
    have := (List.perm_middle (a := c) (l₁ := fs.take n) (l₂ := fs.drop n))
    rw [List.append_assoc]
    exact this.trans (by rw [List.take_append_drop])
  rw [(p.map (·.k)).nodup_iff]
  exact List.nodup_cons.mpr ⟨hc, h⟩
theorem cls_ins {H : Hp} {us : List V} {fs : List Cl} {v : V} {c : Cl} (h : Cls H us fs) (hv : ClAt H v c) : ∀ n, Cls H (us.take n ++ [v] ++ us.drop n) (fs.take n ++ [c] ++ fs.drop n) := by
  induction h with
  | nil => intro n; rw [List.take_nil, List.take_nil, List.drop_nil, List.drop_nil]; exact .cons hv .nil
  | cons a t ih =>
    intro n
    cases n with
    | zero => exact .cons hv (.cons a t)
    | succ n => exact .cons a (ih n)
section
variable {P : Program} {w : World} {K : PySem.W.Frag} {mg : Str → Option Value} {base : Heap}
theorem scNear : FnScope ["row", "calls", "found", "key", "effect", "arguments", "turn", "call", "one"] ["row", "calls"] (defScope sNear) := ⟨rfl, rfl, rfl, by decide +kernel, rfl, by decide +kernel, by decide +kernel⟩
theorem ok_near {f fT fC : Addr} {fd fdT fdC : FuncData} (F : Fun K "_law_near" "_law_near" sNear f fd) (T : Txt K mg)
    (G_TK : FnOk P w K mg base CX0 1 fT fdT ["row", "bound"] spTake) (L_TK : Cal K mg "_law_take" fT fdT ["row", "bound"])
    (G_CS : FnOk P w K mg base CX0 3 fC fdC ["row", "most"] spCalls) (L_CS : Cal K mg "_law_calls" fC fdC ["row", "most"]) : FnOk P w K mg base CX0 4 f fd ["row", "calls"] spNear := by
  refine F.ok scNear (fun vs H Q E h => ?_) (fun cdv A outer s H vs Q E hr h => ?_)
  · obtain ⟨l, a, us, cs, rfl, _⟩ := h
    rfl
  · obtain ⟨l, a, us, cs, rfl, R0, nal, ha, hcs, hnd, hcl, k⟩ := h
    have hr1 : Room 1 _ := hr.mono (by decide)
    refine ⟨_, (pss_cons (ps_set (i := 2) scNear.nd rfl (Or.inl rfl) (pe_lst pa_nil))
 (pss_cons (ps_for PassesOwn.never rfl (pi_list (pv 1)) (pg_tup rfl (pgs_cons (pg_name (i := 3) scNear.nd rfl (Or.inl rfl)) (pgs_cons (pg_name (i := 4) scNear.nd rfl (Or.inl rfl)) (pgs_cons (pg_name (i := 5) scNear.nd rfl (Or.inl rfl)) pgs_nil))))
 (pss_cons (ps_set (i := 6) scNear.nd rfl (Or.inl rfl) (pe_call G_TK hr1 rfl L_TK.g L_TK.k L_TK.b .nil pass0 (pa_cons (pv 0) (pa_cons pe_int pa_nil))))
 (pss_one (ps_if (PW.pt (pw_and (pt_cmpR op_eq (pv 6) pe_int (nomark _)) (pw_and1 (pt_cmpR op_eq (pv 4) pe_str (nomark _)))))
 (pss_one (ps_expr (pe_bm PySem.F.plainAttrs_list PySem.F.slot_list_append PySem.F.type_list_append mt_append (pv 2) (pa_cons (pe_tup (pa_cons (pv 3) (pa_cons (pv 4) (pa_cons (pe_tup (pa_cons (pe_op op_add (pe_ix ix_tup (pv 5) pe_int (fun _ _ => rfl)) pe_int) pa_nil)) pa_nil)))) pa_nil))))
 (pss_one (ps_if (pt_cmpR op_eq (pv 6) pe_int (nomark _))
 (pss_one (ps_expr (pe_bm PySem.F.plainAttrs_list PySem.F.slot_list_append PySem.F.type_list_append mt_append (pv 2) (pa_cons (pe_tup (pa_cons (pv 3) (pa_cons pe_str (pa_cons (pe_tup pa_nil) pa_nil)))) pa_nil))))
 (pss_one (ps_if (pt_cmpR op_ne (pv 6) pe_int (nomark _))
 (pss_one (ps_expr (pe_bm PySem.F.plainAttrs_list PySem.F.slot_list_append PySem.F.type_list_append mt_append (pv 2) (pa_cons (pe_tup (pa_cons (pv 3) (pa_cons (pv 4) (pa_cons (pv 5) pa_nil)))) pa_nil))))
 pss_nil))))))))
 (pss_cons (ps_for PassesOwn.never rfl (pi_list (pe_call G_CS hr rfl L_CS.g L_CS.k L_CS.b .nil pass0 (pa_cons (pv 0) (pa_cons pe_int pa_nil)))) (pg_name (i := 7) scNear.nd rfl (Or.inl rfl))
 (pss_one (ps_if (pt_cmpR (op_notInD (hu65 hr)) (pe_ix ix_tup (pv 7) pe_int (fun _ _ => rfl)) (pe_lc (own := [("one", 8)]) (g := gName 8) (tt := tYes) rfl scNear.nd (pi_list (pv 2)) (blkOk_by (own := [("one", 8)]) (N := ["row", "calls", "found", "key", "effect", "arguments", "turn", "call", "one"]) (sc := defScope sNear) (by decide +kernel)) (fun _ _ _ _ _ => (pg_name (i := 8) scNear.nd rfl (Or.inl rfl))) (fun _ _ _ _ _ => pts_nil) (fun _ _ _ _ _ => (pe_ix (ix_tup : IxR _ (rIxT K)) (pv 8) pe_int (fun _ _ => rfl)))) (by rfl))
 (pss_one (ps_expr (pe_bm PySem.F.plainAttrs_list PySem.F.slot_list_insert PySem.F.type_list_insert mt_insert (pv 2) (pa_cons (pe_call G_TK hr1 rfl L_TK.g L_TK.k L_TK.b .nil pass0 (pa_cons (pv 0) (pa_cons (pe_op op_add (pe_callB call_len_seq rfl T.zlen PySem.boot_len (pa_cons (pv 2) pa_nil)) pe_int) pa_nil))) (pa_cons (pv 7) pa_nil)))))
 pss_nil)))
 (pss_one (ps_ret (pv 2)))))), ?_⟩
    refine ⟨(by show 0 ≤ sizeLine; decide), fun D hD => ?_⟩
    have nD := R0.ne hD
    have naD : a ≠ D := fun z => by rw [z, hD] at ha; cases ha
    have ha1 : L2.upd H D (.lst []) a = some (.lst us) := same_new hD _ _ _ ha
    have hul : us.length = cs.length := hcs.length
    refine ⟨_, rfl, a, rfl, ⟨_, SqL.of ha1⟩, for_list (K := K) (a := a) (xs := us)
      (fun i σ H' => ∃ (out : List V) (fs : List Cl) (x3 x4 x5 x6 : Option V), σ = [some (.ref l), some (.ref a), some (.ref D), x3, x4, x5, x6, none, none] ∧ But l H H' ∧ Row H' l ∧ H' D = some (.lst out) ∧ Cls H' out fs ∧ (fs.map (·.k)).Sublist ((cs.take i).map (·.k)))
      ⟨[], [], none, none, none, none, rfl, Same.but (same_new hD _), R0.upd hD _, upd_same, .nil, List.nil_sublist _⟩ (fun i σ H' _ ⟨_, _, _, _, _, _, _, b, _⟩ => SqL.of (b _ _ nal ha)) ?_ ?_⟩
    · rintro i x σ H1 hx ⟨out, fs, x3, x4, x5, x6, rfl, b1, R1, hD1, hf, hs⟩
      obtain ⟨c, hc, t, g, kv, rfl, ht, hkv, hg, hpay⟩ := each_get hcs hx
      have hi := (List.getElem?_eq_some_iff.mp hx).1
      have hfl : fs.length ≤ 50 := by
        have := hs.length_le
        rw [List.length_map, List.length_map, List.length_take] at this
        omega
      have hol : out.length = fs.length := hf.length
      have t1 := But.tl b1 R0
      refine ⟨t, _, rfl, SqT.of (t1 _ _ ht), rfl, _, _, rfl, _, _, rfl, _, _, rfl, rfl, ?_⟩
      have kc : KeyAt H1 kv c.k := hkv.tl t1
      have hg1 := t1 _ _ hg
      dsimp only [tSeq, tAsg, tC, gName]
      refine ⟨_, rfl, l, 6, rfl, by decide, R1, fun r H2 _ _ b2 R2 => ?_⟩
      have t2 := But.tl b2 R1
      have hD2 : H2 D = some (.lst out) := b2 _ _ nD.symm hD1
      have kc2 := kc.tl t2
      have hg2 := t2 _ _ hg1
      have hf2 := Cls.tl t2 hf
      have b02 := b1.trans b2
      -- what an append leaves
      have app : ∀ (t5 : Addr) (d : Cl) (H5 : Hp), But l H2 H5 → Row H5 l → ClAt H5 (.ref t5) d → d.k = c.k → ∃ acc, H5 D = some (.lst acc) ∧ acc.length < sizeLine ∧ ∃ (out : List V) (fs : List Cl) (x3 x4 x5 x6 : Option V), [some (.ref l), some (.ref a), some (.ref D), some kv, some (V.str c.e.s), some (V.ref g), some (V.int r), none, none] = [some (.ref l), some (.ref a), some (.ref D), x3, x4, x5, x6, none, none] ∧ But l H (L2.upd H5 D (.lst (acc ++ [.ref t5]))) ∧ Row (L2.upd H5 D (.lst (acc ++ [.ref t5]))) l ∧ L2.upd H5 D (.lst (acc ++ [.ref t5])) D = some (.lst out) ∧ Cls (L2.upd H5 D (.lst (acc ++ [.ref t5]))) out fs ∧ (fs.map (·.k)).Sublist ((cs.take (i + 1)).map (·.k)) := by
        intro t5 d H5 b5 R5 h5 e5
        have hD5 : H5 D = some (.lst out) := b5 _ _ nD.symm hD2
        have ut := upd_tl (o := .lst (out ++ [.ref t5])) hD5
        refine ⟨out, hD5, size_l (by omega), out ++ [.ref t5], fs ++ [d], _, _, _, _, rfl, fun b o nb q => ?_, ?_, upd_same, Cls.tl ut (each_snoc (Cls.tl (But.tl b5 R2) hf2) h5), sub_add hs hc e5⟩
        · rw [upd_ne (ne_of_none q hD)]
          exact (b02.trans b5) _ _ nb q
        · obtain ⟨ns, h, n⟩ := R5
          exact ⟨ns, by rw [upd_ne nD]; exact h, n⟩
      have skip : ∃ (out : List V) (fs : List Cl) (x3 x4 x5 x6 : Option V), [some (.ref l), some (.ref a), some (.ref D), some kv, some (V.str c.e.s), some (V.ref g), some (V.int r), none, none] = [some (.ref l), some (.ref a), some (.ref D), x3, x4, x5, x6, none, none] ∧ But l H H2 ∧ Row H2 l ∧ H2 D = some (.lst out) ∧ Cls H2 out fs ∧ (fs.map (·.k)).Sublist ((cs.take (i + 1)).map (·.k)) := ⟨out, fs, _, _, _, _, rfl, b02, R2, hD2, hf2, sub_skip hs⟩
      refine ⟨_, rfl, rfl, _, rfl, ?_⟩
      show if decide (V.int r = V.int 0) = true then _ else _
      refine ite2 (fun c1 => ⟨_, rfl, rfl, _, rfl, ite2 (fun c2 => ?pay) (fun _ => ?e1)⟩) (fun _ => iteF ?e2)
      case pay =>
        have ep : c.e = .pay := Ef.inj (str_eq.mp (of_decide_eq_true c2))
        obtain ⟨z, zs, ez⟩ := List.exists_cons_of_ne_nil (hpay ep)
        have hg3 : H2 g = some (.tup (V.int z :: zs.map V.int)) := by
          rw [hg2, ez]
          rfl
        refine ⟨_, rfl, .inl ⟨rfl, _, SqL.of hD2⟩, _, rfl, _, rfl, _, rfl, g, _, _, _, rfl, rfl, SqT.of hg3, at0, _, _, rfl, rfl, (by show 1 ≤ sizeLine; decide), fun g5 hg5 => ⟨(by show 3 ≤ sizeLine; decide), fun t5 ht5 => ?_⟩⟩
        have n5 := same_new hg5 (.tup [.int (z + 1)])
        have n6 := same_new ht5 (.tup [kv, .str c.e.s, .ref g5])
        obtain ⟨acc, q1, q2, q3⟩ := app t5 ⟨c.k, c.e, [z + 1]⟩ _ ((Same.but n5).trans (Same.but n6)) ((R2.upd hg5 _).upd ht5 _) ⟨t5, g5, kv, rfl, upd_same, (kc2.tl (Same.tl n5)).tl (Same.tl n6), n6 _ _ upd_same, fun _ q => by cases q⟩ rfl
        exact ⟨D, acc, _, rfl, rfl, q1, q2, q3⟩
      all_goals
        refine ⟨_, rfl, rfl, _, rfl, ite2 (fun c3 => ?_) (fun c3 => ?_)⟩
        · refine ⟨_, rfl, .inl ⟨rfl, _, SqL.of hD2⟩, _, rfl, (by show 0 ≤ sizeLine; decide), fun g5 hg5 => ⟨(by show 3 ≤ sizeLine; decide), fun t5 ht5 => ?_⟩⟩
          have n5 := same_new hg5 (.tup [])
          have n6 := same_new ht5 (.tup [kv, .str Ef.tell.s, .ref g5])
          obtain ⟨acc, q1, q2, q3⟩ := app t5 ⟨c.k, .tell, []⟩ _ ((Same.but n5).trans (Same.but n6)) ((R2.upd hg5 _).upd ht5 _) ⟨t5, g5, kv, rfl, upd_same, (kc2.tl (Same.tl n5)).tl (Same.tl n6), n6 _ _ upd_same, fun q => by cases q⟩ rfl
          exact ⟨D, acc, _, rfl, rfl, q1, q2, q3⟩
        · refine ⟨_, rfl, rfl, _, rfl, ite2 (fun c4 => ?_) (fun c4 => ?_)⟩
          · refine ⟨_, rfl, .inl ⟨rfl, _, SqL.of hD2⟩, _, rfl, _, rfl, _, rfl, (by show 3 ≤ sizeLine; decide), fun t5 ht5 => ?_⟩
            have n6 := same_new ht5 (.tup [kv, .str c.e.s, .ref g])
            obtain ⟨acc, q1, q2, q3⟩ := app t5 c _ (Same.but n6) (R2.upd ht5 _) ⟨t5, g, kv, rfl, upd_same, kc2.tl (Same.tl n6), n6 _ _ hg2, hpay⟩ rfl
            exact ⟨D, acc, _, rfl, rfl, q1, q2, q3⟩
          · exact skip
    · rintro σ H1 ⟨out, fs, x3, x4, x5, x6, rfl, b1, R1, hD1, hf, hs⟩
      have hnf : (fs.map (·.k)).Nodup := by
        rw [hul, List.take_length] at hs
        exact hs.nodup hnd
      have hfl : fs.length ≤ 50 := by
        have := hs.length_le
        rw [List.length_map, List.length_map, List.length_take] at this
        omega
      refine ⟨_, rfl, l, 3, rfl, R1, by decide, by decide, fun p us2 cs2 H2 b2 R2 hp hp2 hcs2 _ hl2 => ?_⟩
      have t2 := But.tl b2 R1
      have npl : p ≠ l := fun z => (R1.ne (z ▸ hp)) rfl
      have npD : p ≠ D := fun z => by rw [z, hD1] at hp; cases hp
      have hul2 : us2.length = cs2.length := hcs2.length
      refine ⟨p, rfl, ⟨_, SqL.of hp2⟩, for_list (K := K) (a := p) (xs := us2)
        (fun i σ H' => ∃ (out : List V) (fs : List Cl) (x7 : Option V), σ = [some (.ref l), some (.ref a), some (.ref D), x3, x4, x5, x6, x7, none] ∧ But l H H' ∧ Row H' l ∧ H' D = some (.lst out) ∧ H' p = some (.lst us2) ∧ Cls H' us2 cs2 ∧ Cls H' out fs ∧ (fs.map (·.k)).Nodup ∧ fs.length ≤ 50 + i)
        ⟨out, fs, none, rfl, b1.trans b2, R2, b2 _ _ nD.symm hD1, hp2, hcs2, Cls.tl t2 hf, hnf, hfl⟩ (fun i σ H' _ ⟨_, _, _, _, _, _, _, h, _⟩ => SqL.of h) ?_ ?_⟩
      · rintro i x σ H3 hx ⟨out, fs, x7, rfl, b3, R3, hD3, hp3, hc3, hf3, hn3, hl3⟩
        obtain ⟨c, hc, hxc⟩ := each_get hc3 hx
        have hi := (List.getElem?_eq_some_iff.mp hx).1
        obtain ⟨t, g, kv, rfl, ht, hkv, hg, hpay⟩ := hxc
        have hxc : ClAt H3 (.ref t) c := ⟨t, g, kv, rfl, ht, hkv, hg, hpay⟩
        have hol : out.length = fs.length := hf3.length
        have hi3 : i < 3 := by omega
        refine ⟨_, rfl, t, _, _, _, rfl, rfl, SqT.of ht, at0, _, rfl, D, rfl, ⟨_, SqL.of hD3⟩, fun L hL => lc_list (K := K) (a := D) (xs := out)
          (fun j H' => ∃ (ks : List V), Same H3 H' ∧ H' L = some (.lst ks) ∧ PySem.W.EachIs (KeyAt H') ks ((fs.map (·.k)).take j)) ⟨[], same_new hL _, upd_same, .nil⟩ (fun j H' _ ⟨_, s, _⟩ => SqL.of (s _ _ hD3)) ?_ ?_⟩
        · rintro j y H4 hy ⟨ks, s4, hL4, hk4⟩
          obtain ⟨d, hd, u, g', kv', rfl, hu, hkv', _⟩ := each_get hf3 hy
          have hjl : j < out.length := (List.getElem?_eq_some_iff.mp hy).1
          refine ⟨rfl, _, rfl, u, _, _, _, rfl, rfl, SqT.of (s4 _ _ hu), at0, _, hL4, size_l (by have e := hk4.length; rw [List.length_take] at e; omega), ks ++ [kv'], Same.upd s4 hL _, upd_same, ?_⟩
          rw [List.take_add_one, List.getElem?_map, hd]
          exact (each_snoc hk4 (hkv'.tl (Same.tl s4))).mono fun _ _ q => q.tl (upd_tl hL4)
        · rintro H4 ⟨ks, s4, hL4, hk4⟩
          rw [hol, show fs.length = (fs.map (·.k)).length by simp, List.take_length] at hk4
          have hD4 := s4 _ _ hD3
          have R4 := R3.same s4
          have b4 : But l H H4 := b3.trans (Same.but s4)
          refine ⟨c.k.nk.data, kyD (fs.map (·.k)), (hkv.tl (Same.tl s4)).dp, .lst (SqL.of hL4) (keys_dp hk4), shK _, shKs _, _, rfl, ?_⟩
          rw [anyK]
          refine ite2 (fun c0 => ?_) (fun c0 => ?_)
          · have nk : c.k ∉ fs.map (·.k) := fun z => by rw [decide_eq_true z] at c0; cases c0
            refine ⟨_, rfl, .inl ⟨rfl, _, SqL.of hD4⟩, _, rfl, _, rfl, D, out, rfl, .inl (SqL.of hD4), _, _, rfl, rfl, l, (out.length : Int) + 1, rfl, by omega, R4, fun r H5 h0 h1 b5 R5 => ⟨_, rfl, D, out, r, _, rfl, rfl, ?_⟩⟩
            have hD5 : H5 D = some (.lst out) := b5 _ _ nD.symm hD4
            have t35 : Tl H3 H5 := Tl.trans (Same.tl s4) (But.tl b5 R4)
            have ut := upd_tl (o := .lst (out.take r.toNat ++ [.ref t] ++ out.drop r.toNat)) hD5
            refine ⟨hD5, size_l (by omega), h0, by omega, _, fs.take r.toNat ++ [c] ++ fs.drop r.toNat, _, rfl, fun b o nb q => ?_, ?_, upd_same, ?_, Cls.tl ut (Cls.tl t35 hc3), Cls.tl ut (cls_ins (Cls.tl t35 hf3) (hxc.tl t35) _), ins_nodup hn3 nk, ?_⟩
            · rw [upd_ne (ne_of_none q hD)]
              exact (b4.trans b5) _ _ nb q
            · obtain ⟨ns, h, n⟩ := R5
              exact ⟨ns, by rw [upd_ne nD]; exact h, n⟩
            · rw [upd_ne npD]
              exact b5 _ _ npl (s4 _ _ hp3)
            · rw [List.length_append, List.length_append, List.length_take, List.length_drop, List.length_singleton]
              omega
          · exact ⟨out, fs, _, rfl, b4, R4, hD4, s4 _ _ hp3, Cls.tl (Same.tl s4) hc3, Cls.tl (Same.tl s4) hf3, hn3, by omega⟩
      · rintro σ H3 ⟨out, fs, x7, rfl, b3, R3, hD3, hp3, hc3, hf3, hn3, hl3⟩
        exact ⟨_, rfl, k D out fs H3 b3 R3 hD hD3 hf3 hn3 (by omega)⟩
end
end KD
namespace KD
open PySem PySem.Spec L2 RX LamX
abbrev leC : Cl → Cl → Bool := PySem.W.dataLe false fun c => c.nk.data
abbrev leK : Cl → Cl → Bool := PySem.W.dataLe false fun c => c.k.nk.data
theorem leC_total : PySem.W.TotalLe leC := PySem.W.sortLe_total _ _ _
theorem leK_total : PySem.W.TotalLe leK := PySem.W.sortLe_total _ _ _
theorem toks_inj {x y : PyData} (h : PySem.W.alike x y = true) (e : PySem.W.keyToks x = PySem.W.keyToks y) : PyData.eqv x y = true := by
  cases q : PyData.eqv x y with
  | true => rfl
  | false =>
    have z := (PySem.W.toks_eqv x y h).2 q [] [.inl 0]
    rw [e, PySem.W.lex_pre] at z
    have i := (PyProof.Rows.listOrd PyProof.Rows.itemOrd).irrefl (PySem.W.keyToks y)
    have i' : PyProof.Rows.lexLt PyProof.Rows.itemOrd (PySem.W.keyToks y) (PySem.W.keyToks y) = false := i
    rw [i'] at z
    have z2 : PyProof.Rows.lexLt PyProof.Rows.itemOrd [] [Sum.inl 0] = true := rfl
    rw [z2] at z
    cases z
theorem leC_anti (a b : Cl) (h1 : leC a b = true) (h2 : leC b a = true) : a = b := by
  have q1 : PyProof.Rows.lexLt PyProof.Rows.itemOrd (PySem.W.keyToks b.nk.data) (PySem.W.keyToks a.nk.data) = false := by
    have z : (!PyProof.Rows.lexLt PyProof.Rows.itemOrd (PySem.W.keyToks b.nk.data) (PySem.W.keyToks a.nk.data)) = true := h1
    simpa using z
  have q2 : PyProof.Rows.lexLt PyProof.Rows.itemOrd (PySem.W.keyToks a.nk.data) (PySem.W.keyToks b.nk.data) = false := by
    have z : (!PyProof.Rows.lexLt PyProof.Rows.itemOrd (PySem.W.keyToks a.nk.data) (PySem.W.keyToks b.nk.data)) = true := h2
    simpa using z
  have e : PySem.W.keyToks a.nk.data = PySem.W.keyToks b.nk.data := (PyProof.Rows.listOrd PyProof.Rows.itemOrd).total _ _ q2 q1
  have := toks_inj (cl_alike a b) e
  rw [eqv_cl, decide_eq_true_iff] at this
  exact this
theorem srtC_perm {cs ds : List Cl} (h : cs.Perm ds) : srtC cs = srtC ds := by
  refine PySem.W.Srt.the_of_perm leC leC_total.trans (fun x y => Bool.or_eq_true_iff.mpr (leC_total.total x y)) leC_anti ((List.mergeSort_perm cs leC).trans h) (PySem.W.sort_pairwise leC_total cs)
theorem inj_k {cs : List Cl} (h : (cs.map (·.k)).Nodup) : ∀ {a b : Cl}, a ∈ cs → b ∈ cs → a.k = b.k → a = b := by
  induction cs with
  | nil => intro a b ha; simp at ha
  | cons c cs ih =>
    rw [List.map_cons, List.nodup_cons] at h
    intro a b ha hb e
    rcases List.mem_cons.mp ha with e1 | ha
    · rcases List.mem_cons.mp hb with e2 | hb
      · rw [e1, e2]
      · exact absurd (List.mem_map.mpr ⟨b, hb, by rw [← e, e1]⟩) h.1
    · rcases List.mem_cons.mp hb with e2 | hb
      · exact absurd (List.mem_map.mpr ⟨a, ha, by rw [e, e2]⟩) h.1
      · exact ih h.2 ha hb e
theorem srtK_eq {cs : List Cl} (h : (cs.map (·.k)).Nodup) : srtK cs = srtC cs := by
  refine PySem.W.sort_congr fun a ha b hb => ?_
  by_cases e : a.k = b.k
  · have := inj_k h ha hb e
    subst this
    exact (leK_total.refl a).trans (leC_total.refl a).symm
  · show (!PySem.W.dataLt b.k.nk.data a.k.nk.data) = (!PySem.W.dataLt b.nk.data a.nk.data)
    have q : PySem.W.dataLt b.nk.data a.nk.data = PySem.W.dataLt b.k.nk.data a.k.nk.data := by
      show PySem.W.dataLt (.tuple [b.k.nk.data, _, _]) (.tuple [a.k.nk.data, _, _]) = _
      rw [PySem.W.dataLt_tuple]
      refine PySem.W.dataLt_all_no (ky_alike _ _) ?_
      rw [eqv_ky]
      exact decide_eq_false fun z => e z.symm
    rw [q]
theorem nd_filter {cs : List Cl} (p : Cl → Bool) (h : (cs.map (·.k)).Nodup) : ((cs.filter p).map (·.k)).Nodup := (List.filter_sublist.map _).nodup h
theorem nd_of {cs : List Cl} (h : (cs.map (·.k)).Nodup) : cs.Nodup := by
  induction cs with
  | nil => exact List.nodup_nil
  | cons c cs ih =>
    rw [List.map_cons, List.nodup_cons] at h
    exact List.nodup_cons.mpr ⟨fun z => h.1 (List.mem_map.mpr ⟨c, z, rfl⟩), ih h.2⟩
theorem perm_of_mem {cs ds : List Cl} (h1 : cs.Nodup) (h2 : ds.Nodup) (h : ∀ c, c ∈ cs ↔ c ∈ ds) : cs.Perm ds := (List.perm_ext_iff_of_nodup h1 h2).mpr h
theorem both_perm {cs ds : List Cl} (h1 : (cs.map (·.k)).Nodup) (h2 : (ds.map (·.k)).Nodup) : (ds.filter fun c => decide (c ∈ cs)).Perm (cs.filter fun c => decide (c ∈ ds)) := by
  refine perm_of_mem ((nd_of h2).filter _) ((nd_of h1).filter _) fun c => ?_
  simp [List.mem_filter, and_comm]
theorem part_perm (cs : List Cl) (p : Cl → Bool) : (srtC (cs.filter p) ++ srtC (cs.filter fun c => !p c)).Perm cs :=
  ((List.mergeSort_perm _ _).append (List.mergeSort_perm _ _)).trans (List.filter_append_perm p cs)
theorem filter_self (cs : List Cl) : cs.filter (fun c => decide (c ∈ cs)) = cs := List.filter_eq_self.mpr fun c hc => decide_eq_true hc
theorem filter_none (cs : List Cl) : cs.filter (fun c => !decide (c ∈ cs)) = [] := List.filter_eq_nil_iff.mpr fun c hc => by simp [hc]
end KD
namespace KD
open PySem PySem.Spec L2 RX LamX
theorem tabs_nl {T : List (Addr × Str)} {H H' : Hp} (t : Tabs T H) (s : Nl H H') : Tabs T H' := fun p hp => by
  obtain ⟨ps, h1, h2, h3⟩ := t p hp
  refine ⟨ps, s _ _ (fun xs z => by cases z) h1, h2, fun pos cv hc => ?_⟩
  obtain ⟨c, e1, e2⟩ := h3 pos cv hc
  exact ⟨c, e1, s _ _ (fun xs z => by unfold CodeO at z; cases z) e2⟩
def trip (A B C : List Cl) : PyData := .tuple [.list (clD A), .list (clD B), .list (clD C)]
theorem trip_sh (A B C : List Cl) : SeqAt.shaped (trip A B C) = true := by
  obtain ⟨a1, a2⟩ := clD_lay A
  obtain ⟨b1, b2⟩ := clD_lay B
  obtain ⟨c1, c2⟩ := clD_lay C
  refine shaped_of ?_ ?_
  · show (PyData.canLayAll0 (clD A) && (PyData.canLayAll0 (clD B) && (PyData.canLayAll0 (clD C) && true))) = true
    rw [a1, b1, c1]
    rfl
  · show max (PyData.depthAll (clD A) + 1) (max (PyData.depthAll (clD B) + 1) (max (PyData.depthAll (clD C) + 1) 0)) + 1 ≤ 64
    omega
theorem duo_sh (A B : List Cl) : SeqAt.shaped (.tuple [.list (clD A), .list (clD B)]) = true := by
  obtain ⟨a1, a2⟩ := clD_lay A
  obtain ⟨b1, b2⟩ := clD_lay B
  refine shaped_of ?_ ?_
  · show (PyData.canLayAll0 (clD A) && (PyData.canLayAll0 (clD B) && true)) = true
    rw [a1, b1]
    rfl
  · show max (PyData.depthAll (clD A) + 1) (max (PyData.depthAll (clD B) + 1) 0) + 1 ≤ 64
    omega
/-- a list of calls -/
def LsAt (K : PySem.W.Frag) (H : Hp) (v : V) (A : List Cl) : Prop := ∃ (l : Addr) (o : List V), v = .ref l ∧ H l = some (.lst o) ∧ Cls H o A
theorem LsAt.dp {K : PySem.W.Frag} {H : Hp} {v : V} {A : List Cl} (h : LsAt K H v A) : Dp K H v (.list (clD A)) := by
  obtain ⟨l, o, rfl, h, c⟩ := h
  exact .lst (SqL.of h) (cls_dp c)
theorem LsAt.ext {K : PySem.W.Frag} {H H' : Hp} {v : V} {A : List Cl} (h : LsAt K H v A) (e : ExtN H H') : LsAt K H' v A := by
  obtain ⟨l, o, rfl, h, c⟩ := h
  exact ⟨l, o, rfl, e _ _ h (fun _ z => by cases z), Cls.tl (ExtN.tl e) c⟩
theorem trip_dp {K : PySem.W.Frag} {H : Hp} {t : Addr} {x y z : V} {A B C : List Cl} (h : H t = some (.tup [x, y, z])) (hx : LsAt K H x A) (hy : LsAt K H y B) (hz : LsAt K H z C) : Dp K H (.ref t) (trip A B C) :=
  .tup (SqT.of h) (.cons hx.dp (.cons hy.dp (.cons hz.dp .nil)))
theorem refl_eqv {d : PyData} (h : SeqAt.shaped d = true) : PyData.eqv d d = true := SeqAt.eqv_refl _ (SeqAt.canLay_of_shaped h)
theorem each_app {α β : Type} {R : α → β → Prop} {us vs : List α} {cs ds : List β} (h : PySem.W.EachIs R us cs) (q : PySem.W.EachIs R vs ds) : PySem.W.EachIs R (us ++ vs) (cs ++ ds) := by
  induction h with
  | nil => exact q
  | cons a _ ih => exact .cons a ih
theorem ls_sh (A : List Cl) : SeqAt.shaped (.list (clD A)) = true := shCs A
theorem srtC_len (A : List Cl) : (srtC A).length = A.length := (List.mergeSort_perm A leC).length_eq
def spLaw (K : PySem.W.Frag) (Pt : Addr) : Sp := fun vs H Q _ => ∃ (a : Addr) (ns : List Int), vs = [.ref a] ∧ SqL K H a (ns.map V.int) ∧ ns.length ≤ 63 ∧ Tabs (TT Pt) H ∧ ∀ H', Q (.bl true) H'
section
variable {P : Program} {w : World} {K : PySem.W.Frag} {mg : Str → Option Value} {base : Heap}
theorem scLaw : FnScope ["script", "row", "past", "now", "due", "call", "given"] ["script"] (defScope sLaw) := ⟨rfl, rfl, rfl, by decide +kernel, rfl, by decide +kernel, by decide +kernel⟩
theorem ok_law {f fNS fCS fNE fDI : Addr} {fd fdNS fdCS fdNE fdDI : FuncData} {Pt : Addr} (F : Fun K "law" "law" sLaw f fd) (T : Txt K mg)
    (G_NS : FnOk P w K mg base CX0 2 fNS fdNS ["script", "count"] (spNums K)) (L_NS : Cal K mg "_law_numbers" fNS fdNS ["script", "count"])
    (G_CS : FnOk P w K mg base CX0 3 fCS fdCS ["row", "most"] spCalls) (L_CS : Cal K mg "_law_calls" fCS fdCS ["row", "most"])
    (G_NE : FnOk P w K mg base CX0 4 fNE fdNE ["row", "calls"] spNear) (L_NE : Cal K mg "_law_near" fNE fdNE ["row", "calls"])
    (G_DI : FnOk P w K mg base CX0 3 fDI fdDI ["past", "now"] (spDiff K Pt)) (L_DI : Cal K mg "difference" fDI fdDI ["past", "now"]) : FnOk P w K mg base CX0 5 f fd ["script"] (spLaw K Pt) := by
  refine F.ok scLaw (fun vs H Q E h => ?_) (fun cdv A outer s H vs Q E hr h => ?_)
  · obtain ⟨a, ns, rfl, _⟩ := h
    rfl
  · obtain ⟨a, ns, rfl, ha, hns, hT, k⟩ := h
    have hr2 : Room 2 _ := hr.mono (by decide)
    have hr3 : Room 3 _ := hr.mono (by decide)
    refine ⟨_, (pss_cons (ps_set (i := 1) scLaw.nd rfl (Or.inl rfl) (pe_call G_NS hr2 rfl L_NS.g L_NS.k L_NS.b .nil pass0 (pa_cons (pv 0) (pa_cons pe_int pa_nil))))
 (pss_cons (ps_set (i := 2) scLaw.nd rfl (Or.inr rfl) (pe_call G_CS hr3 rfl L_CS.g L_CS.k L_CS.b .nil pass0 (pa_cons (pv 1) (pa_cons pe_int pa_nil))))
 (pss_cons (ps_set (i := 3) scLaw.nd rfl (Or.inr rfl) (pe_call G_NE hr rfl L_NE.g L_NE.k L_NE.b .nil pass0 (pa_cons (pv 1) (pa_cons (pv 2) pa_nil))))
 (pss_cons (ps_set (i := 4) scLaw.nd rfl (Or.inl rfl) (pe_tup (pa_cons (pe_callB (cr_sortedD (β := Cl) (enc := fun c => c.nk.data) (hu66 hr)) rfl T.zsorted boot_sorted0 (pa_cons (pe_lc (own := [("call", 5)]) (g := gName 5) rfl scLaw.nd (pi_list (pv 2)) (blkOk_by (own := [("call", 5)]) (N := ["script", "row", "past", "now", "due", "call", "given"]) (sc := defScope sLaw) (by decide +kernel)) (fun _ _ _ _ _ => (pg_name (i := 5) scLaw.nd rfl (Or.inl rfl))) (fun _ _ _ _ _ => (pts_one (pt_cmpR (op_inD (hu65 hr) : OpR _ _ (rInD K)) (pv 5) (pv 3) (by rfl)))) (fun _ _ _ _ _ => (pv 5))) pa_nil)) (pa_cons (pe_callB (cr_sortedD (β := Cl) (enc := fun c => c.nk.data) (hu66 hr)) rfl T.zsorted boot_sorted0 (pa_cons (pe_lc (own := [("call", 5)]) (g := gName 5) rfl scLaw.nd (pi_list (pv 2)) (blkOk_by (own := [("call", 5)]) (N := ["script", "row", "past", "now", "due", "call", "given"]) (sc := defScope sLaw) (by decide +kernel)) (fun _ _ _ _ _ => (pg_name (i := 5) scLaw.nd rfl (Or.inl rfl))) (fun _ _ _ _ _ => (pts_one (pt_cmpR (op_notInD (hu65 hr) : OpR _ _ (rNotInD K)) (pv 5) (pv 3) (by rfl)))) (fun _ _ _ _ _ => (pv 5))) pa_nil)) (pa_cons (pe_callB (cr_sortedD (β := Cl) (enc := fun c => c.nk.data) (hu66 hr)) rfl T.zsorted boot_sorted0 (pa_cons (pe_lc (own := [("call", 5)]) (g := gName 5) rfl scLaw.nd (pi_list (pv 3)) (blkOk_by (own := [("call", 5)]) (N := ["script", "row", "past", "now", "due", "call", "given"]) (sc := defScope sLaw) (by decide +kernel)) (fun _ _ _ _ _ => (pg_name (i := 5) scLaw.nd rfl (Or.inl rfl))) (fun _ _ _ _ _ => (pts_one (pt_cmpR (op_notInD (hu65 hr) : OpR _ _ (rNotInD K)) (pv 5) (pv 2) (by rfl)))) (fun _ _ _ _ _ => (pv 5))) pa_nil)) pa_nil)))))
 (pss_cons (ps_set (i := 6) scLaw.nd rfl (Or.inl rfl) (pe_tup (pa_cons (pe_callTy call_list_of rfl T.zlist boot_list0 (pa_cons (pv 2) pa_nil)) (pa_cons (pe_callTy call_list_of rfl T.zlist boot_list0 (pa_cons (pv 3) pa_nil)) pa_nil))))
 (pss_cons (ps_if (PW.pt (pw_or (pt_cmpR (op_neD hr.units) (pe_call G_DI hr3 rfl L_DI.g L_DI.k L_DI.b .nil pass0 (pa_cons (pe_ix ix_tup (pv 6) pe_int (fun _ _ => rfl)) (pa_cons (pe_ix ix_tup (pv 6) pe_int (fun _ _ => rfl)) pa_nil))) (pv 4) (nomark _)) (pw_or1 (pt_cmpR (op_neD hr.units) (pv 6) (pe_tup (pa_cons (pv 2) (pa_cons (pv 3) pa_nil))) (nomark _)))))
 (pss_one (ps_ret pe_bl))
 pss_nil)
 (pss_cons (ps_if (PW.pt (pw_or (pt_cmpR (op_neD hr.units) (pe_call G_DI hr3 rfl L_DI.g L_DI.k L_DI.b .nil pass0 (pa_cons (pv 3) (pa_cons (pv 2) pa_nil))) (pe_tup (pa_cons (pe_ix ix_tup (pv 4) pe_int (fun _ _ => rfl)) (pa_cons (pe_ix ix_tup (pv 4) pe_int (fun _ _ => rfl)) (pa_cons (pe_ix ix_tup (pv 4) pe_int (fun _ _ => rfl)) pa_nil)))) (nomark _)) (pw_or1 (pt_cmpR (op_neD hr.units) (pe_call G_DI hr3 rfl L_DI.g L_DI.k L_DI.b .nil pass0 (pa_cons (pv 2) (pa_cons (pv 2) pa_nil))) (pe_tup (pa_cons (pe_callB (cr_sortedD (β := Cl) (enc := fun c => c.nk.data) (hu66 hr)) rfl T.zsorted boot_sorted0 (pa_cons (pv 2) pa_nil)) (pa_cons (pe_lst pa_nil) (pa_cons (pe_lst pa_nil) pa_nil)))) (nomark _)))))
 (pss_one (ps_ret pe_bl))
 pss_nil)
 (pss_one (ps_ret (pe_and (pe_cmpR (op_eqD hr.units) (pe_callB (cr_sortedD (β := Cl) (enc := fun c => c.nk.data) (hu66 hr)) rfl T.zsorted boot_sorted0 (pa_cons (pe_op op_cat (pe_ix ix_tup (pv 4) pe_int (fun _ _ => rfl)) (pe_ix ix_tup (pv 4) pe_int (fun _ _ => rfl))) pa_nil)) (pe_callB (cr_sortedD (β := Cl) (enc := fun c => c.nk.data) (hu66 hr)) rfl T.zsorted boot_sorted0 (pa_cons (pv 2) pa_nil)) (nomark _)) (pe_one (pe_cmpR (op_eqD hr.units) (pe_call G_DI hr3 rfl L_DI.g L_DI.k L_DI.b .nil pass0 (pa_cons (pe_lst pa_nil) (pa_cons (pe_lst pa_nil) pa_nil))) (pe_tup (pa_cons (pe_lst pa_nil) (pa_cons (pe_lst pa_nil) (pa_cons (pe_lst pa_nil) pa_nil)))) (nomark _))))))))))))), ?_⟩
    refine ⟨_, rfl, a, ns, 60, rfl, ha, hns, by decide, by decide, fun H1 l s1 hl R1 => ?_⟩
    refine ⟨_, rfl, l, 6, rfl, R1, by decide, by decide, fun p1 us cs H2 b2 R2 hp1 h1 hcs hnd hcl => ?_⟩
    have np1 : p1 ≠ l := fun z => (R1.ne (z ▸ hp1)) rfl
    refine ⟨_, rfl, _, rfl, l, p1, us, cs, rfl, R2, np1, h1, hcs, hnd, by omega, fun p2 ws ds H3 b3 R3 hp2 h2 hds hnd2 hdl => ?_⟩
    have T3 : Tabs (TT Pt) H3 := tabs_nl (tabs_nl (tabs_nl hT (Same.nl s1)) (b2.nl R1)) (b3.nl R2)
    have h13 : H3 p1 = some (.lst us) := b3 _ _ np1 h1
    have hcs3 : Cls H3 us cs := Cls.tl (But.tl b3 R2) hcs
    have hul : us.length = cs.length := hcs.length
    have hwl : ws.length = ds.length := hds.length
    clear b2 b3 R1 R2 R3 hcs s1 hT ha hp1 hp2 h1
    have a1 : LsAt K H3 (.ref p1) cs := ⟨p1, us, rfl, h13, hcs3⟩
    -- the three due lists
    refine ⟨_, rfl, p1, rfl, ⟨_, SqL.of h13⟩, fun L1 hL1 => lc_list (K := K) (a := p1) (xs := us) (Flt H3 L1 cs fun c => decide (c ∈ ds)) (flt_start hL1) (fun i H' _ ⟨s3, _⟩ => SqL.of (s3 _ _ h13)) ?_ ?_⟩
    · rintro i x H4 hx f4
      obtain ⟨c, hc, hxc⟩ := each_get hcs3 hx
      have hi := (List.getElem?_eq_some_iff.mp hx).1
      refine ⟨rfl, _, rfl, _, rfl, c.nk.data, clD ds, (hxc.tl (Same.tl f4.1)).dp, .lst (SqL.of (f4.1 _ _ h2)) (cls_dp (Cls.tl (Same.tl f4.1) hds)), shC _, shCs _, _, rfl, ?_⟩
      rw [anyC]
      refine ite2 (fun c0 => ?_) (fun c0 => ?_)
      · exact ⟨_, rfl, flt_yes hL1 f4 hc hxc c0 (by omega)⟩
      · exact flt_no f4 hc (by simpa using c0)
    intro H4 f4
    obtain ⟨o1, t1, k1, c1⟩ := flt_end f4 hul
    refine ⟨L1, o1, _, ClAt H4, rfl, SqL.of k1, c1, fun v b h => h.dp, PySem.W.AllAlike.of cl_alike, PySem.W.Sortable.tuples fun b => ⟨_, _, rfl⟩, fun b _ => (by have := b.lay.2.1; show b.nk.data.depth ≤ 60; omega), fun e1 q1 he1 hq1 => ?_⟩
    have S1 : Same H3 (L2.upd H4 q1 (.lst e1)) := Same.upd t1 (t1.free hq1) _
    have A1 : LsAt K (L2.upd H4 q1 (.lst e1)) (.ref q1) (srtC (cs.filter fun c => decide (c ∈ ds))) := ⟨q1, e1, rfl, upd_same, Cls.tl (tlu hq1 _) he1⟩
    generalize L2.upd H4 q1 (.lst e1) = H5 at S1 A1
    clear t1 k1 c1 f4 he1 hq1
    have h15 := S1 _ _ h13
    have h25 := S1 _ _ h2
    have hcs5 := Cls.tl (Same.tl S1) hcs3
    have hds5 := Cls.tl (Same.tl S1) hds
    refine ⟨_, rfl, p1, rfl, ⟨_, SqL.of h15⟩, fun M2 hL2 => lc_list (K := K) (a := p1) (xs := us) (Flt H5 M2 cs fun c => !decide (c ∈ ds)) (flt_start hL2) (fun i H' _ ⟨s3, _⟩ => SqL.of (s3 _ _ h15)) ?_ ?_⟩
    · rintro i x H6 hx f6
      obtain ⟨c, hc, hxc⟩ := each_get hcs5 hx
      have hi := (List.getElem?_eq_some_iff.mp hx).1
      refine ⟨rfl, _, rfl, _, rfl, c.nk.data, clD ds, (hxc.tl (Same.tl f6.1)).dp, .lst (SqL.of (f6.1 _ _ h25)) (cls_dp (Cls.tl (Same.tl f6.1) hds5)), shC _, shCs _, _, rfl, ?_⟩
      rw [anyC]
      refine ite2 (fun c0 => ?_) (fun c0 => ?_)
      · exact ⟨_, rfl, flt_yes hL2 f6 hc hxc c0 (by omega)⟩
      · exact flt_no f6 hc (by simpa using c0)
    intro H6 f6
    obtain ⟨o2, t2, k2, c2⟩ := flt_end f6 hul
    refine ⟨M2, o2, _, ClAt H6, rfl, SqL.of k2, c2, fun v b h => h.dp, PySem.W.AllAlike.of cl_alike, PySem.W.Sortable.tuples fun b => ⟨_, _, rfl⟩, fun b _ => (by have := b.lay.2.1; show b.nk.data.depth ≤ 60; omega), fun e2 q2 he2 hq2 => ?_⟩
    have S2 : Same H5 (L2.upd H6 q2 (.lst e2)) := Same.upd t2 (t2.free hq2) _
    have A2 : LsAt K (L2.upd H6 q2 (.lst e2)) (.ref q2) (srtC (cs.filter fun c => !decide (c ∈ ds))) := ⟨q2, e2, rfl, upd_same, Cls.tl (tlu hq2 _) he2⟩
    generalize L2.upd H6 q2 (.lst e2) = H7 at S2 A2
    clear t2 k2 c2 f6 he2 hq2
    have h17 := S2 _ _ h15
    have h27 := S2 _ _ h25
    have hcs7 := Cls.tl (Same.tl S2) hcs5
    have hds7 := Cls.tl (Same.tl S2) hds5
    refine ⟨_, rfl, p2, rfl, ⟨_, SqL.of h27⟩, fun L3 hL3 => lc_list (K := K) (a := p2) (xs := ws) (Flt H7 L3 ds fun c => !decide (c ∈ cs)) (flt_start hL3) (fun i H' _ ⟨s3, _⟩ => SqL.of (s3 _ _ h27)) ?_ ?_⟩
    · rintro i x H8 hx f8
      obtain ⟨c, hc, hxc⟩ := each_get hds7 hx
      have hi := (List.getElem?_eq_some_iff.mp hx).1
      refine ⟨rfl, _, rfl, _, rfl, c.nk.data, clD cs, (hxc.tl (Same.tl f8.1)).dp, .lst (SqL.of (f8.1 _ _ h17)) (cls_dp (Cls.tl (Same.tl f8.1) hcs7)), shC _, shCs _, _, rfl, ?_⟩
      rw [anyC]
      refine ite2 (fun c0 => ?_) (fun c0 => ?_)
      · exact ⟨_, rfl, flt_yes hL3 f8 hc hxc c0 (by omega)⟩
      · exact flt_no f8 hc (by simpa using c0)
    intro H8 f8
    obtain ⟨o3, t3, k3, c3⟩ := flt_end f8 hwl
    refine ⟨L3, o3, _, ClAt H8, rfl, SqL.of k3, c3, fun v b h => h.dp, PySem.W.AllAlike.of cl_alike, PySem.W.Sortable.tuples fun b => ⟨_, _, rfl⟩, fun b _ => (by have := b.lay.2.1; show b.nk.data.depth ≤ 60; omega), fun e3 q3 he3 hq3 => ?_⟩
    have S3 : Same H7 (L2.upd H8 q3 (.lst e3)) := Same.upd t3 (t3.free hq3) _
    have A3 : LsAt K (L2.upd H8 q3 (.lst e3)) (.ref q3) (srtC (ds.filter fun c => !decide (c ∈ cs))) := ⟨q3, e3, rfl, upd_same, Cls.tl (tlu hq3 _) he3⟩
    generalize L2.upd H8 q3 (.lst e3) = H9 at S3 A3
    clear t3 k3 c3 f8 he3 hq3
    refine ⟨(by show 3 ≤ sizeLine; decide), fun d hd => ?_⟩
    have S4 : Same H3 (L2.upd H9 d (.tup [.ref q1, .ref q2, .ref q3])) := ((S1.trans S2).trans S3).trans (same_new hd _)
    have hd1 : (L2.upd H9 d (.tup [.ref q1, .ref q2, .ref q3])) d = some (.tup [.ref q1, .ref q2, .ref q3]) := upd_same
    have B1 := A1.ext (ExtN.of ((S2.trans S3).trans (same_new hd (.tup [.ref q1, .ref q2, .ref q3]))))
    have B2 := A2.ext (ExtN.of (S3.trans (same_new hd (.tup [.ref q1, .ref q2, .ref q3]))))
    have B3 := A3.ext (ExtN.of (same_new hd (.tup [.ref q1, .ref q2, .ref q3])))
    generalize L2.upd H9 d (.tup [.ref q1, .ref q2, .ref q3]) = H10 at S4 hd1 B1 B2 B3
    clear S1 S2 S3 A1 A2 A3 hd h15 h25 h17 h27 hcs5 hds5 hcs7 hds7
    have P0 := a1.ext (ExtN.of S4)
    have N0 : LsAt K H10 (.ref p2) ds := LsAt.ext (H := H3) ⟨p2, ws, rfl, h2, hds⟩ (ExtN.of S4)
    have T10 : Tabs (TT Pt) H10 := T3.ext S4
    have h110 := S4 _ _ h13
    have h210 := S4 _ _ h2
    have hcs10 := Cls.tl (Same.tl S4) hcs3
    have hds10 := Cls.tl (Same.tl S4) hds
    clear S4 a1 h13 h2 hcs3 hds T3
    refine ⟨_, rfl, p1, us, rfl, .inl (SqL.of h110), fun g1 hg1 => ?_⟩
    refine ⟨_, rfl, p2, ws, rfl, .inl (SqL.of (same_new hg1 _ _ _ h210)), fun g2 hg2 => ⟨(by show 2 ≤ sizeLine; decide), fun g hg => ?_⟩⟩
    have S5 : Same H10 (L2.upd (L2.upd (L2.upd H10 g1 (.lst us)) g2 (.lst ws)) g (.tup [.ref g1, .ref g2])) := ((same_new hg1 _).trans (same_new hg2 _)).trans (same_new hg _)
    have u1 : (L2.upd (L2.upd (L2.upd H10 g1 (.lst us)) g2 (.lst ws)) g (.tup [.ref g1, .ref g2])) g1 = some (.lst us) := same_new hg _ _ _ (same_new hg2 _ _ _ upd_same)
    have u2 : (L2.upd (L2.upd (L2.upd H10 g1 (.lst us)) g2 (.lst ws)) g (.tup [.ref g1, .ref g2])) g2 = some (.lst ws) := same_new hg _ _ _ upd_same
    have u3 : (L2.upd (L2.upd (L2.upd H10 g1 (.lst us)) g2 (.lst ws)) g (.tup [.ref g1, .ref g2])) g = some (.tup [.ref g1, .ref g2]) := upd_same
    generalize L2.upd (L2.upd (L2.upd H10 g1 (.lst us)) g2 (.lst ws)) g (.tup [.ref g1, .ref g2]) = H11 at S5 u1 u2 u3
    clear hg1 hg2 hg
    have E5 : ExtN H10 H11 := ExtN.of S5
    have nl : ∀ {xs : List V} (ps : Array Value), HO.lst xs ≠ .tbl ps := fun _ z => by cases z
    have nt : ∀ {xs : List V} (ps : Array Value), HO.tup xs ≠ .tbl ps := fun _ z => by cases z
    have r1 := srtK_eq (nd_filter (fun c => decide (c ∈ ds)) hnd)
    have r2 := srtK_eq (nd_filter (fun c => !decide (c ∈ ds)) hnd)
    have r3 := srtK_eq (nd_filter (fun c => !decide (c ∈ cs)) hnd2)
    have r4 : srtK (ds.filter fun c => decide (c ∈ cs)) = srtC (cs.filter fun c => decide (c ∈ ds)) := (srtK_eq (nd_filter _ hnd2)).trans (srtC_perm (both_perm hnd hnd2))
    have r5 : srtK (cs.filter fun c => decide (c ∈ cs)) = srtC cs := by rw [filter_self]; exact srtK_eq hnd
    have r6 : srtK (cs.filter fun c => !decide (c ∈ cs)) = [] := by rw [filter_none]; exact List.mergeSort_nil
    -- difference(given[0], given[1]) != due
    refine ⟨_, rfl, g, _, _, _, rfl, rfl, SqT.of u3, at0, _, rfl, g, _, _, _, rfl, rfl, SqT.of u3, at1, g1, g2, us, ws, cs, ds, rfl, SqL.of u1, Cls.tl (Same.tl S5) hcs10, SqL.of u2, Cls.tl (Same.tl S5) hds10, by omega, by omega, T10.ext S5, fun t l1 l2 l3 o1 o2 o3 H12 e12 T12 ht k1 k2 k3 c1 c2 c3 => ?_⟩
    rw [r1] at c1
    rw [r2] at c2
    rw [r3] at c3
    have e10 : ExtN H10 H12 := E5.trans e12
    refine ⟨_, rfl, trip (srtC (cs.filter fun c => decide (c ∈ ds))) (srtC (cs.filter fun c => !decide (c ∈ ds))) (srtC (ds.filter fun c => !decide (c ∈ cs))), trip (srtC (cs.filter fun c => decide (c ∈ ds))) (srtC (cs.filter fun c => !decide (c ∈ ds))) (srtC (ds.filter fun c => !decide (c ∈ cs))), trip_dp (K := K) ht ⟨l1, o1, rfl, k1, c1⟩ ⟨l2, o2, rfl, k2, c2⟩ ⟨l3, o3, rfl, k3, c3⟩, trip_dp (K := K) (e10 _ _ hd1 nt) (B1.ext e10) (B2.ext e10) (B3.ext e10), trip_sh _ _ _, trip_sh _ _ _, _, rfl, ?_⟩
    rw [refl_eqv (trip_sh _ _ _)]
    refine iteF ?_
    clear ht k1 k2 k3 c1 c2 c3
    -- given != (past, now)
    refine ⟨_, rfl, _, rfl, _, rfl, (by show 2 ≤ sizeLine; decide), fun t3 ht3 => ?_⟩
    have n3 := same_new ht3 (.tup [.ref p1, .ref p2])
    have e13 := e10.trans (ExtN.of n3)
    have e113 := e12.trans (ExtN.of n3)
    have gd : Dp K (L2.upd H12 t3 (.tup [.ref p1, .ref p2])) (.ref g) (.tuple [.list (clD cs), .list (clD ds)]) := .tup (SqT.of (e113 _ _ u3 nt)) (.cons (.lst (SqL.of (e113 _ _ u1 nl)) (cls_dp (Cls.tl (ExtN.tl e13) hcs10))) (.cons (.lst (SqL.of (e113 _ _ u2 nl)) (cls_dp (Cls.tl (ExtN.tl e13) hds10))) .nil))
    have pd : Dp K (L2.upd H12 t3 (.tup [.ref p1, .ref p2])) (.ref t3) (.tuple [.list (clD cs), .list (clD ds)]) := .tup (SqT.of upd_same) (.cons (P0.ext e13).dp (.cons (N0.ext e13).dp .nil))
    refine ⟨_, _, gd, pd, duo_sh _ _, duo_sh _ _, _, rfl, ?_⟩
    rw [refl_eqv (duo_sh _ _)]
    refine iteF ?_
    have T13 := T12.ext n3
    generalize L2.upd H12 t3 (.tup [.ref p1, .ref p2]) = H13 at e13 T13
    clear gd pd n3 e113 ht3 e10 e12 T12 u1 u2 u3 E5 S5
    -- difference(now, past) != (due[0], due[2], due[1])
    refine ⟨_, rfl, _, rfl, p2, p1, ws, us, ds, cs, rfl, SqL.of (e13 _ _ h210 nl), Cls.tl (ExtN.tl e13) hds10, SqL.of (e13 _ _ h110 nl), Cls.tl (ExtN.tl e13) hcs10, by omega, by omega, T13, fun t l1 l2 l3 o1 o2 o3 H14 e14 T14 ht k1 k2 k3 c1 c2 c3 => ?_⟩
    rw [r4] at c1
    rw [r3] at c2
    rw [r2] at c3
    have e10 := e13.trans e14
    have hd14 := e10 _ _ hd1 nt
    refine ⟨_, rfl, d, _, _, _, rfl, rfl, SqT.of hd14, at0, _, rfl, d, _, _, _, rfl, rfl, SqT.of hd14, at2, _, rfl, d, _, _, _, rfl, rfl, SqT.of hd14, at1, (by show 3 ≤ sizeLine; decide), fun t2 ht2 => ?_⟩
    have n2 := same_new ht2 (.tup [.ref q1, .ref q3, .ref q2])
    have e15 := e10.trans (ExtN.of n2)
    refine ⟨_, _, trip_dp (K := K) (n2 _ _ ht) ⟨l1, o1, rfl, n2 _ _ k1, Cls.tl (Same.tl n2) c1⟩ ⟨l2, o2, rfl, n2 _ _ k2, Cls.tl (Same.tl n2) c2⟩ ⟨l3, o3, rfl, n2 _ _ k3, Cls.tl (Same.tl n2) c3⟩, trip_dp (K := K) upd_same (B1.ext e15) (B3.ext e15) (B2.ext e15), trip_sh _ _ _, trip_sh _ _ _, _, rfl, ?_⟩
    rw [refl_eqv (trip_sh _ _ _)]
    refine iteF ?_
    have T15 := T14.ext n2
    generalize L2.upd H14 t2 (.tup [.ref q1, .ref q3, .ref q2]) = H15 at e15 T15
    clear n2 ht2 ht k1 k2 k3 c1 c2 c3 e10 hd14 e14 T14 e13 T13
    -- difference(past, past) != (sorted(past), [], [])
    refine ⟨_, rfl, _, rfl, p1, p1, us, us, cs, cs, rfl, SqL.of (e15 _ _ h110 nl), Cls.tl (ExtN.tl e15) hcs10, SqL.of (e15 _ _ h110 nl), Cls.tl (ExtN.tl e15) hcs10, by omega, by omega, T15, fun t l1 l2 l3 o1 o2 o3 H16 e16 T16 ht k1 k2 k3 c1 c2 c3 => ?_⟩
    rw [r5] at c1
    rw [r6] at c2 c3
    have e10 := e15.trans e16
    refine ⟨_, rfl, p1, us, cs, ClAt H16, rfl, SqL.of (e10 _ _ h110 nl), Cls.tl (ExtN.tl e10) hcs10, fun v b h => h.dp, PySem.W.AllAlike.of cl_alike, PySem.W.Sortable.tuples fun b => ⟨_, _, rfl⟩, fun b _ => (by have := b.lay.2.1; show b.nk.data.depth ≤ 60; omega), fun e1 y1 he1 hy1 => ?_⟩
    refine ⟨(by show 0 ≤ sizeLine; decide), fun y2 hy2 => ⟨(by show 0 ≤ sizeLine; decide), fun y3 hy3 => ⟨(by show 3 ≤ sizeLine; decide), fun t2 ht2 => ?_⟩⟩⟩
    have m1 := same_new hy1 (.lst e1)
    have m2 := same_new hy2 (.lst [])
    have m3 := same_new hy3 (.lst [])
    have m4 := same_new ht2 (.tup [.ref y1, .ref y2, .ref y3])
    have mm := ((m1.trans m2).trans m3).trans m4
    refine ⟨trip (srtC cs) [] [], trip (srtC cs) [] [], trip_dp (K := K) (mm _ _ ht) ⟨l1, o1, rfl, mm _ _ k1, Cls.tl (Same.tl mm) c1⟩ ⟨l2, o2, rfl, mm _ _ k2, Cls.tl (Same.tl mm) c2⟩ ⟨l3, o3, rfl, mm _ _ k3, Cls.tl (Same.tl mm) c3⟩, trip_dp (K := K) upd_same ⟨y1, e1, rfl, m4 _ _ (m3 _ _ (m2 _ _ upd_same)), Cls.tl (Same.tl mm) he1⟩ ⟨y2, [], rfl, m4 _ _ (m3 _ _ upd_same), .nil⟩ ⟨y3, [], rfl, m4 _ _ upd_same, .nil⟩, trip_sh _ _ _, trip_sh _ _ _, _, rfl, ?_⟩
    rw [refl_eqv (trip_sh _ _ _)]
    refine iteF ?_
    have e17 := e10.trans (ExtN.of mm)
    have T17 := T16.ext mm
    generalize L2.upd (L2.upd (L2.upd (L2.upd H16 y1 (.lst e1)) y2 (.lst [])) y3 (.lst [])) t2 (.tup [.ref y1, .ref y2, .ref y3]) = H17 at e17 T17
    clear mm m1 m2 m3 m4 hy1 hy2 hy3 ht2 he1 ht k1 k2 k3 c1 c2 c3 e10 e15 e16 T15 T16
    obtain ⟨b1, e1, eb1, hb1, ce1⟩ := B1.ext e17
    obtain ⟨b2, e2, eb2, hb2, ce2⟩ := B2.ext e17
    cases eb1
    cases eb2
    have hd17 := e17 _ _ hd1 nt
    have len1 : e1.length ≤ cs.length := by rw [ce1.length, srtC_len]; exact List.length_filter_le _ _
    have len2 : e2.length ≤ cs.length := by rw [ce2.length, srtC_len]; exact List.length_filter_le _ _
    refine ⟨_, rfl, d, _, _, _, rfl, rfl, SqT.of hd17, at0, _, rfl, d, _, _, _, rfl, rfl, SqT.of hd17, at1, q1, q2, e1, e2, rfl, rfl, hb1, hb2, size_m (by omega), fun y1 hy1 => ?_⟩
    have m1 := same_new hy1 (.lst (e1 ++ e2))
    refine ⟨y1, e1 ++ e2, _, ClAt (L2.upd H17 y1 (.lst (e1 ++ e2))), rfl, SqL.of upd_same, each_app (Cls.tl (Same.tl m1) ce1) (Cls.tl (Same.tl m1) ce2), fun v b h => h.dp, PySem.W.AllAlike.of cl_alike, PySem.W.Sortable.tuples fun b => ⟨_, _, rfl⟩, fun b _ => (by have := b.lay.2.1; show b.nk.data.depth ≤ 60; omega), fun f1 y2 hf1 hy2 => ?_⟩
    have m2 := same_new hy2 (.lst f1)
    have mm := m1.trans m2
    have e18 := e17.trans (ExtN.of mm)
    have hf1 : Cls (L2.upd H17 y1 (.lst (e1 ++ e2))) f1 (srtC cs) := by
      rw [← srtC_perm (part_perm cs fun c => decide (c ∈ ds))]
      exact hf1
    refine ⟨_, rfl, p1, us, cs, ClAt (L2.upd (L2.upd H17 y1 (.lst (e1 ++ e2))) y2 (.lst f1)), rfl, SqL.of (e18 _ _ h110 nl), Cls.tl (ExtN.tl e18) hcs10, fun v b h => h.dp, PySem.W.AllAlike.of cl_alike, PySem.W.Sortable.tuples fun b => ⟨_, _, rfl⟩, fun b _ => (by have := b.lay.2.1; show b.nk.data.depth ≤ 60; omega), fun f2 y3 hf2 hy3 => ?_⟩
    have m3 := same_new hy3 (.lst f2)
    refine ⟨.list (clD (srtC cs)), .list (clD (srtC cs)), .lst (SqL.of (m3 _ _ upd_same)) (cls_dp (Cls.tl (Same.tl m3) (Cls.tl (Same.tl m2) hf1))), .lst (SqL.of upd_same) (cls_dp (Cls.tl (Same.tl m3) hf2)), ls_sh _, ls_sh _, _, rfl, ?_⟩
    rw [refl_eqv (ls_sh _)]
    refine iteT ?_
    have T18 := T17.ext (mm.trans m3)
    generalize L2.upd (L2.upd (L2.upd H17 y1 (.lst (e1 ++ e2))) y2 (.lst f1)) y3 (.lst f2) = H18 at T18
    clear mm m1 m2 m3 hf1 hf2 hy1 hy2 hy3 e18
    -- difference([], []) == ([], [], [])
    refine ⟨(by show 0 ≤ sizeLine; decide), fun z1 hz1 => ⟨(by show 0 ≤ sizeLine; decide), fun z2 hz2 => ?_⟩⟩
    have n1 := same_new hz1 (.lst [])
    have n2 := same_new hz2 (.lst [])
    refine ⟨z1, z2, [], [], [], [], rfl, SqL.of (n2 _ _ upd_same), .nil, SqL.of upd_same, .nil, by decide, by decide, T18.ext (n1.trans n2), fun t l1 l2 l3 o1 o2 o3 H19 e19 T19 ht k1 k2 k3 c1 c2 c3 => ?_⟩
    have z0 : srtK ([] : List Cl) = [] := List.mergeSort_nil
    replace c1 : Cls H19 o1 [] := z0 ▸ c1
    replace c2 : Cls H19 o2 [] := z0 ▸ c2
    replace c3 : Cls H19 o3 [] := z0 ▸ c3
    refine ⟨(by show 0 ≤ sizeLine; decide), fun y1 hy1 => ⟨(by show 0 ≤ sizeLine; decide), fun y2 hy2 => ⟨(by show 0 ≤ sizeLine; decide), fun y3 hy3 => ⟨(by show 3 ≤ sizeLine; decide), fun t2 ht2 => ?_⟩⟩⟩⟩
    have m1 := same_new hy1 (.lst [])
    have m2 := same_new hy2 (.lst [])
    have m3 := same_new hy3 (.lst [])
    have m4 := same_new ht2 (.tup [.ref y1, .ref y2, .ref y3])
    have mm := ((m1.trans m2).trans m3).trans m4
    refine ⟨trip [] [] [], trip [] [] [], trip_dp (K := K) (mm _ _ ht) ⟨l1, o1, rfl, mm _ _ k1, Cls.tl (Same.tl mm) c1⟩ ⟨l2, o2, rfl, mm _ _ k2, Cls.tl (Same.tl mm) c2⟩ ⟨l3, o3, rfl, mm _ _ k3, Cls.tl (Same.tl mm) c3⟩, trip_dp (K := K) upd_same ⟨y1, [], rfl, m4 _ _ (m3 _ _ (m2 _ _ upd_same)), .nil⟩ ⟨y2, [], rfl, m4 _ _ (m3 _ _ upd_same), .nil⟩ ⟨y3, [], rfl, m4 _ _ upd_same, .nil⟩, trip_sh _ _ _, trip_sh _ _ _, ?_⟩
    rw [refl_eqv (trip_sh _ _ _)]
    exact k _
end
end KD
namespace KD
open PySem PySem.Spec L2 RX LamX
theorem all_mk {P : Program} {w : World} {K : PySem.W.Frag} {h : Heap} {mg : Str → Option Value} {fa f_DI f_BK f_MX f_NS f_TK f_CA f_CS f_NE f_LAW cB Pt : Addr} (X : K.In h) (G : h.Ns mainGlobals mg) (hfa : mg "law" = some (.ref fa))
    {clB : Value} {ddB : Option Addr} {vsB : Array Value} {slB : Array (Option Value)}
    {od_DI an_DI : Option Addr} {sl_DI : Array (Option Value)} {oc_DI kV_DI dc_DI pm_DI cd_DI ct_DI : Value}
    {od_BK an_BK : Option Addr} {sl_BK : Array (Option Value)} {oc_BK kV_BK dc_BK pm_BK ct_BK : Value}
    {od_MX an_MX : Option Addr} {sl_MX : Array (Option Value)} {oc_MX kV_MX dc_MX pm_MX cd_MX ct_MX : Value}
    {od_NS an_NS : Option Addr} {sl_NS : Array (Option Value)} {oc_NS kV_NS dc_NS pm_NS cd_NS ct_NS : Value}
    {od_TK an_TK : Option Addr} {sl_TK : Array (Option Value)} {oc_TK kV_TK dc_TK pm_TK cd_TK ct_TK : Value}
    {od_CA an_CA : Option Addr} {sl_CA : Array (Option Value)} {oc_CA kV_CA dc_CA pm_CA cd_CA ct_CA : Value}
    {od_CS an_CS : Option Addr} {sl_CS : Array (Option Value)} {oc_CS kV_CS dc_CS pm_CS cd_CS ct_CS : Value}
    {od_NE an_NE : Option Addr} {sl_NE : Array (Option Value)} {oc_NE kV_NE dc_NE pm_NE cd_NE ct_NE : Value}
    {od_LAW an_LAW : Option Addr} {sl_LAW : Array (Option Value)} {oc_LAW kV_LAW dc_LAW pm_LAW cd_LAW ct_LAW : Value}
    (z_int : PySem.W.nsIn K mainGlobals "int" = some none)
    (z_len : PySem.W.nsIn K mainGlobals "len" = some none)
    (z_list : PySem.W.nsIn K mainGlobals "list" = some none)
    (z_range : PySem.W.nsIn K mainGlobals "range" = some none)
    (z_sorted : PySem.W.nsIn K mainGlobals "sorted" = some none)
    (xB : K.lookup cB = some ⟨clB, ddB, .fields vsB, slB⟩)
    (vB : vsB[11]? = some (.ref Pt))
    (hH : PySem.W.codeHdIn K cB Pt = true)
    (nP : K.lookup Pt = none)
    (hTb : h.get? Pt = some { cls := .none, data := .fields #[] })
    (a_DI : PySem.W.nsIn K mainGlobals "difference" = some (some (.ref f_DI)))
    (l_DI : K.lookup f_DI = some ⟨oc_DI, od_DI, .func (PySem.W.fnOf "difference" "difference" (defArgs sDiff) (defBody sDiff) (defScope sDiff) .none kV_DI dc_DI pm_DI an_DI cd_DI ct_DI), sl_DI⟩)
    (c_DI : PySem.W.codeIn K cd_DI "difference" = true)
    (k_DI : PySem.W.keepIn K (.ref f_DI) = true)
    (a_BK : PySem.W.nsIn K mainGlobals "_by_keys" = some (some (.ref f_BK)))
    (l_BK : K.lookup f_BK = some ⟨oc_BK, od_BK, .func (PySem.W.fnOf "_by_keys" "_by_keys" (defArgs sByK) (defBody sByK) (defScope sByK) .none kV_BK dc_BK pm_BK an_BK (.ref cB) ct_BK), sl_BK⟩)
    (c_BK : PySem.W.codeIn K (.ref cB) "_by_keys" = true)
    (k_BK : PySem.W.keepIn K (.ref f_BK) = true)
    (a_MX : PySem.W.nsIn K mainGlobals "_law_mix" = some (some (.ref f_MX)))
    (l_MX : K.lookup f_MX = some ⟨oc_MX, od_MX, .func (PySem.W.fnOf "_law_mix" "_law_mix" (defArgs sMix) (defBody sMix) (defScope sMix) .none kV_MX dc_MX pm_MX an_MX cd_MX ct_MX), sl_MX⟩)
    (c_MX : PySem.W.codeIn K cd_MX "_law_mix" = true)
    (k_MX : PySem.W.keepIn K (.ref f_MX) = true)
    (a_NS : PySem.W.nsIn K mainGlobals "_law_numbers" = some (some (.ref f_NS)))
    (l_NS : K.lookup f_NS = some ⟨oc_NS, od_NS, .func (PySem.W.fnOf "_law_numbers" "_law_numbers" (defArgs sNums) (defBody sNums) (defScope sNums) .none kV_NS dc_NS pm_NS an_NS cd_NS ct_NS), sl_NS⟩)
    (c_NS : PySem.W.codeIn K cd_NS "_law_numbers" = true)
    (k_NS : PySem.W.keepIn K (.ref f_NS) = true)
    (a_TK : PySem.W.nsIn K mainGlobals "_law_take" = some (some (.ref f_TK)))
    (l_TK : K.lookup f_TK = some ⟨oc_TK, od_TK, .func (PySem.W.fnOf "_law_take" "_law_take" (defArgs sTake) (defBody sTake) (defScope sTake) .none kV_TK dc_TK pm_TK an_TK cd_TK ct_TK), sl_TK⟩)
    (c_TK : PySem.W.codeIn K cd_TK "_law_take" = true)
    (k_TK : PySem.W.keepIn K (.ref f_TK) = true)
    (a_CA : PySem.W.nsIn K mainGlobals "_law_call" = some (some (.ref f_CA)))
    (l_CA : K.lookup f_CA = some ⟨oc_CA, od_CA, .func (PySem.W.fnOf "_law_call" "_law_call" (defArgs sCall) (defBody sCall) (defScope sCall) .none kV_CA dc_CA pm_CA an_CA cd_CA ct_CA), sl_CA⟩)
    (c_CA : PySem.W.codeIn K cd_CA "_law_call" = true)
    (k_CA : PySem.W.keepIn K (.ref f_CA) = true)
    (a_CS : PySem.W.nsIn K mainGlobals "_law_calls" = some (some (.ref f_CS)))
    (l_CS : K.lookup f_CS = some ⟨oc_CS, od_CS, .func (PySem.W.fnOf "_law_calls" "_law_calls" (defArgs sCalls) (defBody sCalls) (defScope sCalls) .none kV_CS dc_CS pm_CS an_CS cd_CS ct_CS), sl_CS⟩)
    (c_CS : PySem.W.codeIn K cd_CS "_law_calls" = true)
    (k_CS : PySem.W.keepIn K (.ref f_CS) = true)
    (a_NE : PySem.W.nsIn K mainGlobals "_law_near" = some (some (.ref f_NE)))
    (l_NE : K.lookup f_NE = some ⟨oc_NE, od_NE, .func (PySem.W.fnOf "_law_near" "_law_near" (defArgs sNear) (defBody sNear) (defScope sNear) .none kV_NE dc_NE pm_NE an_NE cd_NE ct_NE), sl_NE⟩)
    (c_NE : PySem.W.codeIn K cd_NE "_law_near" = true)
    (k_NE : PySem.W.keepIn K (.ref f_NE) = true)
    (a_LAW : PySem.W.nsIn K mainGlobals "law" = some (some (.ref f_LAW)))
    (l_LAW : K.lookup f_LAW = some ⟨oc_LAW, od_LAW, .func (PySem.W.fnOf "law" "law" (defArgs sLaw) (defBody sLaw) (defScope sLaw) .none kV_LAW dc_LAW pm_LAW an_LAW cd_LAW ct_LAW), sl_LAW⟩)
    (c_LAW : PySem.W.codeIn K cd_LAW "law" = true)
    (k_LAW : PySem.W.keepIn K (.ref f_LAW) = true) :
    ∃ cB Pt : Addr, h.get? Pt = some { cls := .none, data := .fields #[] } ∧ K.lookup Pt = none ∧ PySem.W.CodeHd h cB Pt ∧ ∃ fd : FuncData, (∀ (s : Shared) (u : Value), BindsTo s fd ⟨[u], []⟩ [("script", u)]) ∧ ∀ base : Heap, K.In base → base.Ns mainGlobals mg → TabB base mg cB Pt → FnOk P w K mg base CX0 5 fa fd ["script"] (spLaw K Pt) := by
  have e := hfa.symm.trans (PySem.W.mg_of X G a_LAW)
  cases e
  have zz : ∀ {x : Str}, PySem.W.nsIn K mainGlobals x = some none → mg x = none := fun e => PySem.W.mg_none_of X G e
  have F_DI := fun_mk (st := sDiff) l_DI c_DI k_DI
  have L_DI : Cal K mg "difference" _ _ ["past", "now"] := ⟨PySem.W.mg_of X G a_DI, k_DI, F_DI.binds fun _ _ _ _ _ _ us hl => match us, hl with | [_, _], _ => rfl⟩
  have F_BK := fun_mk (st := sByK) l_BK c_BK k_BK
  have L_BK : Cal K mg "_by_keys" _ _ ["calls"] := ⟨PySem.W.mg_of X G a_BK, k_BK, F_BK.binds fun _ _ _ _ _ _ us hl => match us, hl with | [_], _ => rfl⟩
  have F_MX := fun_mk (st := sMix) l_MX c_MX k_MX
  have L_MX : Cal K mg "_law_mix" _ _ ["number", "k"] := ⟨PySem.W.mg_of X G a_MX, k_MX, F_MX.binds fun _ _ _ _ _ _ us hl => match us, hl with | [_, _], _ => rfl⟩
  have F_NS := fun_mk (st := sNums) l_NS c_NS k_NS
  have L_NS : Cal K mg "_law_numbers" _ _ ["script", "count"] := ⟨PySem.W.mg_of X G a_NS, k_NS, F_NS.binds fun _ _ _ _ _ _ us hl => match us, hl with | [_, _], _ => rfl⟩
  have F_TK := fun_mk (st := sTake) l_TK c_TK k_TK
  have L_TK : Cal K mg "_law_take" _ _ ["row", "bound"] := ⟨PySem.W.mg_of X G a_TK, k_TK, F_TK.binds fun _ _ _ _ _ _ us hl => match us, hl with | [_, _], _ => rfl⟩
  have F_CA := fun_mk (st := sCall) l_CA c_CA k_CA
  have L_CA : Cal K mg "_law_call" _ _ ["row", "keys"] := ⟨PySem.W.mg_of X G a_CA, k_CA, F_CA.binds fun _ _ _ _ _ _ us hl => match us, hl with | [_, _], _ => rfl⟩
  have F_CS := fun_mk (st := sCalls) l_CS c_CS k_CS
  have L_CS : Cal K mg "_law_calls" _ _ ["row", "most"] := ⟨PySem.W.mg_of X G a_CS, k_CS, F_CS.binds fun _ _ _ _ _ _ us hl => match us, hl with | [_, _], _ => rfl⟩
  have F_NE := fun_mk (st := sNear) l_NE c_NE k_NE
  have L_NE : Cal K mg "_law_near" _ _ ["row", "calls"] := ⟨PySem.W.mg_of X G a_NE, k_NE, F_NE.binds fun _ _ _ _ _ _ us hl => match us, hl with | [_, _], _ => rfl⟩
  have F_LAW := fun_mk (st := sLaw) l_LAW c_LAW k_LAW
  refine ⟨cB, Pt, hTb, nP, PySem.W.codeHd_of_K X hH, PySem.W.fnOf "law" "law" (defArgs sLaw) (defBody sLaw) (defScope sLaw) .none kV_LAW dc_LAW pm_LAW an_LAW cd_LAW ct_LAW, fun s u => .of_eq rfl, fun base _ _ TB => ?_⟩
  have T : Txt K mg := { zint := zz z_int, zlen := zz z_len, zlist := zz z_list, zrng := zz z_range, zsorted := zz z_sorted }
  have G_BK := ok_byk (P := P) (w := w) (base := base) l_BK c_BK T TB
  have G_MX := ok_mix (P := P) (w := w) (base := base) F_MX T
  have G_TK := ok_take (P := P) (w := w) (base := base) F_TK T
  have G_NS := ok_nums F_NS T G_MX L_MX
  have G_CA := ok_call F_CA T G_TK L_TK
  have G_CS := ok_calls F_CS T G_TK L_TK G_CA L_CA
  have G_NE := ok_near F_NE T G_TK L_TK G_CS L_CS
  have G_DI := ok_diff F_DI T G_BK L_BK
  exact ok_law F_LAW T G_NS L_NS G_CS L_CS G_NE L_NE G_DI L_DI
theorem walk {l : PySem.W.OpenLaw} {q : Program} {loose : List Str} {XP : (Str → Option Value) → Heap → Prop} {YP : World → Heap → Prop} {d : DefRec} {K : Params → PySem.W.Frag} (hn : l.most = some 63) (hdf : d.params.defaults = [])
    (hY : ∀ (w : World) (h : Heap), YP w h → (K w.params).In h)
    (F : ∀ (w : World) (mg : Str → Option Value) (fa : Addr) (h : Heap), YP w h → (K w.params).In h → h.Ns mainGlobals mg → mg d.name = some (.ref fa) →
      ∃ cB Pt : Addr, h.get? Pt = some { cls := .none, data := .fields #[] } ∧ (K w.params).lookup Pt = none ∧ PySem.W.CodeHd h cB Pt ∧ ∃ fd : FuncData, (∀ (s : Shared) (u : Value), BindsTo s fd ⟨[u], []⟩ [("script", u)]) ∧ ∀ base : Heap, (K w.params).In base → base.Ns mainGlobals mg → TabB base mg cB Pt → FnOk l.prog w (K w.params) mg base CX0 5 fa fd ["script"] (spLaw (K w.params) Pt)) :
    PySem.W.WalkO q loose XP YP l.row.toRowW d [] (fun f vs => PySem.call f vs) := by
  refine LamX.walk_ofTs (n := 63) (k := 5) (x := "script") (CX := fun _ => CX0) hn (by decide) hdf ⟨rfl, by decide, by decide⟩ hY (fun w mg fa h Y KX G hm => ?_) fun _ _ _ _ _ z => z
  obtain ⟨cB, Pt, h1, h2, h3, fd, hb, hF⟩ := F w mg fa h Y KX G hm
  have one : ∀ {Q : Addr × Addr → Prop}, Q (cB, Pt) → ∀ p ∈ [(cB, Pt)], Q p := fun q p hp => by rw [List.mem_singleton.mp hp]; exact q
  refine ⟨fd, [(cB, Pt)], spLaw (K w.params) Pt, one h1, one h2, one h3, hb, fun H a ns hl _ hT hS => ⟨a, ns, rfl, hS, hl, fun p hp => ?_, fun _ => rfl⟩, fun base k1 k2 k3 => hF base k1 k2 (k3 _ (List.mem_singleton.mpr rfl))⟩
  rw [List.mem_singleton.mp hp]
  exact TabS.nil (hT (cB, Pt) (List.mem_singleton.mpr rfl))
end KD
open PySem PySem.W PyProof.Rows
set_option maxRecDepth 100000 in
set_option maxHeartbeats 0 in
theorem PySem.Challenge.cw_retroact_k29_differences_of_calls_holds : PySem.Challenge.rw_retroact_k29_differences_of_calls.Holds := by
  w_on; o_law; k_head; (case hw => w_witness2)
  k_fill
  refine KD.walk (l := PySem.Challenge.rw_retroact_k29_differences_of_calls) rfl rfl (fun w h Y => PySem.W.km_in_of Y) ?F
  case F =>
    intro w mg fa h Y KX G hmg
    have hT8 := PySem.W.km_tabs_of Y
    refine' KD.all_mk KX G hmg ?z_int ?z_len ?z_list ?z_range ?z_sorted ?xB ?vB ?hH ?nP ?hTb ?a_DI ?l_DI ?c_DI ?k_DI ?a_BK ?l_BK ?c_BK ?k_BK ?a_MX ?l_MX ?c_MX ?k_MX ?a_NS ?l_NS ?c_NS ?k_NS ?a_TK ?l_TK ?c_TK ?k_TK ?a_CA ?l_CA ?c_CA ?k_CA ?a_CS ?l_CS ?c_CS ?k_CS ?a_NE ?l_NE ?c_NE ?k_NE ?a_LAW ?l_LAW ?c_LAW ?k_LAW
    (case z_int => k_is)
    (case z_len => k_is)
    (case z_list => k_is)
    (case z_range => k_is)
    (case z_sorted => k_is)
    (case a_DI => k_is)
    (case l_DI => k_is)
    (case c_DI => k_is)
    (case k_DI => k_is)
    (case a_BK => k_is)
    (case l_BK => k_is)
    (case c_BK => k_is)
    (case k_BK => k_is)
    (case a_MX => k_is)
    (case l_MX => k_is)
    (case c_MX => k_is)
    (case k_MX => k_is)
    (case a_NS => k_is)
    (case l_NS => k_is)
    (case c_NS => k_is)
    (case k_NS => k_is)
    (case a_TK => k_is)
    (case l_TK => k_is)
    (case c_TK => k_is)
    (case k_TK => k_is)
    (case a_CA => k_is)
    (case l_CA => k_is)
    (case c_CA => k_is)
    (case k_CA => k_is)
    (case a_CS => k_is)
    (case l_CS => k_is)
    (case c_CS => k_is)
    (case k_CS => k_is)
    (case a_NE => k_is)
    (case l_NE => k_is)
    (case c_NE => k_is)
    (case k_NE => k_is)
    (case a_LAW => k_is)
    (case l_LAW => k_is)
    (case c_LAW => k_is)
    (case k_LAW => k_is)
    (case xB => k_is)
    (case vB => rfl)
    (case hH => kernel_rfl)
    (case nP => first | rfl | kernel_rfl | k_is)
    (case hTb => exact hT8 _ (by simp))
#print axioms PySem.Challenge.cw_retroact_k29_differences_of_calls_holds
