import PyProof.Rows.All
import Wide.All
import OpenK.AllK
import Wide.FinOn
import HandS.ForMost
import HandS.Rev
import HandS.Dict
import HandS.TupAny
import HandS.Style
import KE.KDictPairs
import HandS.GenList
import HandS.AnyAll
import HandS.EndOwn
import HandS.ExcOwn
import HandS.IsInst
import PyProof.ReprRoads
import HandS.Walk
import KE.GoesMore
import HandS.Iter
import KE.KRevSl
import PyProof.Draws
import PyProof.EnumMake
import PyProof.EqKinds
import HandS.More
import PyProof.Rows.IntBool
import PyProof.CallStr
import PyProof.IsRules
import PyProof.ReprLen
import PyProof.FitsInt
import PyProof.StrLawsRepr
import PyProof.NeKinds
import HandS.FStrTup
import PyProof.Rows.RegReprOcc
import HandS.StrMore
import HandS.Wide
import HandS.Replace
import HandS.Codes
import HandS.IterVal
import HandS.TupLe
import PySem.Challenge.RW_kindalone_k04_what_is_a_worth
set_option Elab.async false
set_option linter.all false
set_option maxRecDepth 100000
set_option maxHeartbeats 4000000
namespace Kr
open PySem PySem.Spec PyProof.Rows L2 RT
section
variable {prog : Program} {w : World} {A : Around} {E : Value → Shared → Prop} {s : Shared}
/-- a list grows by what a walk from behind over another list gives -/
theorem growRev {R : Result → Shared → Prop} {it l S : Addr} {its : Array Value} {res : Value} {c0 : Nat} (hh : A.handled = none) (hit : s.heap.IsRevIter it l ((its.size : Int) - 1))
    (hl : s.heap.IsList l its) (hne : l ≠ it) (hn : its.size ≤ sizeLine) (hS : s.heap.get? S = some { cls := .type "list", data := .seq #[] c0 }) (hSi : S ≠ it) (hSl : S ≠ l)
    (hR : ∀ (h' : Heap) (tk : Nat) (acc : Array Value) (c : Nat), (∀ b o, b ≠ it → b ≠ S → s.heap.get? b = some o → h'.get? b = some o) →
      h'.get? S = some { cls := .type "list", dict := none, data := .seq acc c, slots := #[] } → ItemsOf (fun i v => its[its.size - 1 - i]? = some v) acc its.size → R (.ok (.ret res)) { s with heap := h', toks := tk }) :
    wpAny (model prog w) A.in1 (Builtin.List.listExtendWith (.ref S) (.ref it) res)
      (fun fin s' => match fin with
        | .done f => R (.ok f) s'
        | .again c' => c'.quiet = true ∧ codeAny (model prog w) A c' R s') (fun e s' => R (.error e) s') s := by
  have W := (Walks.listRev (prog := prog) (w := w) (A := A.in1) hh it l hne its).toS
  have out : S ∉ [it, l] := by
    intro z
    rcases List.mem_cons.mp z with z | z
    · exact hSi z
    · exact hSl (List.mem_singleton.mp z)
  have ty : s.TypeIs (.ref it) "list_reverseiterator" := hit.typeIs
  have no : Builtin.List.listSameRef (.ref S) (.ref it) = false := by
    simp [Builtin.List.listSameRef, hSi]
  unfold Builtin.List.listExtendWith
  refine wpAny_bind (wpAny_typeOf ty ?_)
  rw [if_neg (by rw [no]; decide)]
  refine wpAny_bind (wpAny_pyIter_revIter hit ?_)
  refine wpAny_bind (wpAny_holding ?_)
  unfold Builtin.List.listLengthHint
  refine wpAny_bind (wpAny_specialOf ty RT.nolen_lri ?_)
  show wpAny _ A.in1 (specialOf (.ref it) (Str.ofString "__length_hint__") >>= _) _ _ _
  refine wpAny_bind (wpAny_specialOf ty RT.hint_lri ?_)
  generalize hid : ("list_reverseiterator.__length_hint__" : String) = nm
  wp_delta
  have sp : splitId nm = some ("list_reverseiterator", "__length_hint__") := by
    subst hid
    decide +kernel
  rw [sp]
  subst hid
  refine wpAny_bind (wpAny_isInstance (b := true) ty (by rw [isSubtype_type]; kernel_rfl) ?_)
  refine wpAny_pure ?_
  rw [if_neg (by decide)]
  have z0 : ((its.size : Nat) : Int) - 1 - ((0 : Nat) : Int) = (its.size : Int) - 1 := by omega
  have st0 : s.heap.IsRevIter it l ((its.size : Int) - 1 - ((0 : Nat) : Int)) := by rw [z0]; exact hit
  refine wpAny_pure ⟨plainId_quiet F.plain_extend_loop _, ?_⟩
  refine codeAny_extend_loopS W hn S out res its.size 0 _ _ _ rfl (Nat.zero_le _) ⟨Nat.zero_le _, st0, hl⟩ hS (ItemsOf.nil _) (fun s' acc' c' mv hS' hacc => ?_)
  rw [Moved.eq_with mv]
  refine hR s'.heap s'.toks acc' c' (fun b o h1 h2 e => mv.heap b o (fun z => ?_) e) hS' hacc
  rcases List.mem_cons.mp z with z | z
  · exact h2 z
  · exact h1 (List.mem_singleton.mp z)
theorem call_list_rev {Q : Value → Shared → Prop} {it l : Addr} {its : Array Value} (hh : A.handled = none) (hit : s.heap.IsRevIter it l ((its.size : Int) - 1)) (hl : s.heap.IsList l its) (hne : l ≠ it) (hn : its.size ≤ sizeLine)
    (hQ : ∀ (h' : Heap) (tk : Nat) (acc : Array Value) (c : Nat), (∀ b o, b ≠ it → s.heap.get? b = some o → h'.get? b = some o) →
      h'.get? s.heap.objs.size = some { cls := .type "list", dict := none, data := .seq acc c, slots := #[] } → ItemsOf (fun i v => its[its.size - 1 - i]? = some v) acc its.size → Q (.ref s.heap.objs.size) { s with heap := h', toks := tk }) :
    wpAny (model prog w) A (call (.type "list") [.ref it]) Q E s := by
  obtain ⟨oi, hoi, _⟩ := id hit
  obtain ⟨ol, hol, _⟩ := id hl
  have n1 : s.heap.objs.size ≠ it := Nat.ne_of_gt (Heap.lt_size hoi)
  have n2 : s.heap.objs.size ≠ l := Nat.ne_of_gt (Heap.lt_size hol)
  refine callType_codes (Q₁ := fun obj s₁ => obj = .ref s.heap.objs.size ∧ s₁ = { s with heap := s.heap.push { cls := .type "list", data := .seq #[] } })
    F.called_list (F.typeCall_list_1 _) F.entry_list_init (code_list_new _ ⟨rfl, rfl⟩) (fun obj s₁ h₁ => ?_)
  obtain ⟨rfl, rfl⟩ := h₁
  have hS : (s.heap.push { cls := .type "list", data := .seq #[] }).get? s.heap.objs.size
      = some { cls := .type "list", data := .seq #[] } := Heap.get?_push_size _ rfl
  refine ⟨⟨_, hS, rfl⟩, F.args_list_init_2 _ _, ?_⟩
  show wpAny _ _ (do
    let old ← Builtin.List.listItems (.ref s.heap.objs.size)
    Builtin.List.listUpdate (.ref s.heap.objs.size) (fun _ => #[])
    letGo old.toList.reverse
    Builtin.List.listExtendWith (.ref s.heap.objs.size) (.ref it) .none) _ _ _
  refine wpAny_bind ?_
  unfold Builtin.List.listItems
  refine wpAny_bind (wpAny_seqItems hS rfl (wpAny_pure ?_))
  show wpAny _ _ (do
    updateSeq s.heap.objs.size (fun _ => #[])
    letGo (#[] : Array Value).toList.reverse
    Builtin.List.listExtendWith (.ref s.heap.objs.size) (.ref it) .none) _ _ _
  refine wpAny_bind (wpAny_updateSeq hS rfl ?_)
  have hS2 := Heap.get?_update_self (Obj.mapSeq fun _ => (#[] : Array Value)) hS rfl
  refine wpAny_bind (wpAny_letGo ?_)
  generalize hh2 : (s.heap.push { cls := .type "list", data := .seq #[] }).update s.heap.objs.size (Obj.mapSeq fun _ => (#[] : Array Value)) = h2 at hS2 ⊢
  have kp : ∀ b o, s.heap.get? b = some o → h2.get? b = some o := fun b o e => by
    rw [← hh2, Heap.get?_update_other _ _ (Nat.ne_of_gt (Heap.lt_size e))]
    exact Heap.get?_push_of_some _ e
  have hl2 : h2.IsList l its := by
    obtain ⟨o, e, r⟩ := id hl
    exact ⟨o, kp _ _ e, r⟩
  refine growRev (A := A.in1) (s := { s with heap := h2 }) hh (hit.at fun o e => kp _ _ e) hl2 hne hn hS2 n1 n2 (fun h' tk acc c k e i => ?_)
  exact ⟨rfl, hQ h' tk acc c (fun b o hb hbo => k b o hb (Nat.ne_of_lt (Heap.lt_size hbo)) (kp b o hbo)) e i⟩
end
/-- list(reversed(x)), x a list -/
def tListRev (K : PySem.W.Frag) (te : TE) : TE := fun σ H Q => te σ H fun v G => ∃ (a : Addr) (xs : List V), v = .ref a ∧ SqL K G a xs ∧ ∀ q, G q = none → Q (.ref q) (upd G q (.lst xs.reverse))
theorem pe_listRev {X : Cx} {e : Expr} {te : TE} {p p2 pos pos2 : Pos} (hc : X.calm = true) (hg : Gl X "list") (hm : X.mg "list" = none) (hg2 : Gl X "reversed") (hm2 : X.mg "reversed" = none) (he : PE X e te)
    (hs : starEach [e] X.env = (false, eval e X.env) :: starEach [] X.env := by rfl)
    (hs2 : starEach [.Call (.Name "reversed" p2) [e] [] pos2] X.env = (false, eval (.Call (.Name "reversed" p2) [e] [] pos2) X.env) :: starEach [] X.env := by rfl) :
    PE X (.Call (.Name "list" p) [.Call (.Name "reversed" p2) [e] [] pos2] [] pos) (tListRev X.K te) := by
  refine ⟨fun pins s σ H Q I h => ?_⟩
  have inner := fun (Q' : Value → Shared → Prop) (k : ∀ (a : Addr) (xs : List V) (its : List Value) (s1 : Shared) (G : Hp), Inv X pins σ G s1 → SqL X.K G a xs → Vals xs its → PlainL s1.heap a its.toArray → xs.length ≤ sizeLine →
      (∀ q, G q = none → Q (.ref q) (upd G q (.lst xs.reverse))) → Q' (.ref s1.heap.objs.size) { s1 with heap := s1.heap.push (revObj a ((its.toArray.size : Int) - 1)) }) =>
    show wpAny (model X.prog X.w) X.A (eval (.Call (.Name "reversed" p2) [e] [] pos2) X.env) Q' X.xe s from
      Call_ (ld_blt I hg2 hm2 PyProof.Rows.boot_reversed (PyProof.Rows.callWith_type1 (args_cons (thn (he.run pins s σ H _ I h) fun u s1 ⟨v, G, I1, r1, a, xs, ev, hq, q⟩ => args_nil (by
        subst ev
        obtain rfl : u = Value.ref a := r1
        obtain ⟨its, rv, pl, hz⟩ := I1.list hq
        exact call_reversed_list pl.isList (k a xs its s1 G I1 hq rv pl hz q))) hs) hs rfl))
  refine Call_ (ld_blt I hg hm boot_list (PyProof.Rows.callWith_type1 (args_cons (inner _ fun a xs its s1 G I1 hq rv pl hz q => args_nil ?_) hs2) hs2 rfl))
  have k0 : ∀ b o, s1.heap.get? b = some o → (s1.heap.push (revObj a ((its.toArray.size : Int) - 1))).get? b = some o := fun b o z => Heap.get?_push_of_some _ z
  obtain ⟨ol, hol, _⟩ := id pl.isList
  have hne : a ≠ s1.heap.objs.size := Nat.ne_of_lt (Heap.lt_size hol)
  have hn : its.toArray.size ≤ sizeLine := by rw [List.size_toArray, ← rv.length]; exact hz
  generalize hh3 : s1.heap.push (revObj a ((its.toArray.size : Int) - 1)) = h3 at k0 ⊢
  have it3 : h3.IsRevIter s1.heap.objs.size a ((its.toArray.size : Int) - 1) := by
    rw [← hh3]
    exact ⟨_, Heap.get?_push_size _ rfl, rfl, rfl⟩
  have l3 : h3.IsList a its.toArray := by
    rw [← hh3]
    exact pl.isList.push _
  have lt3 : s1.heap.objs.size < h3.objs.size := by
    obtain ⟨o, e, _⟩ := id it3
    exact Heap.lt_size e
  refine call_list_rev (s := { s1 with heap := h3 }) (I1.ok.hd hc) it3 l3 hne hn fun h' tk acc c hk hS hi => ?_
  have hgo : G h3.objs.size = none := I1.hok.fresh (Nat.le_of_lt lt3)
  refine ⟨.ref h3.objs.size, upd G h3.objs.size (.lst xs.reverse), I1.laid (t' := tk) (fun b o z => hk b o (Nat.ne_of_lt (Heap.lt_size z)) (k0 b o z)) (Nat.le_of_lt lt3)
    (show ObjOk X.prog X.w _ _ _ (.lst xs.reverse) from ⟨by rw [List.length_reverse]; exact hz, acc.toList, c, vals_rev rv hi, by rw [Array.toArray_toList]; exact hS⟩), rfl, q _ hgo⟩
/-- xs.extend(t), t a tuple -/
def rExtT (K : PySem.W.Frag) : V → List V → Hp → VK → Prop := fun x vs H Q => ∃ l b xs zs, x = .ref l ∧ vs = [.ref b] ∧ H l = some (.lst xs) ∧ SqT K H b zs ∧ xs.length + zs.length ≤ sizeLine ∧ Q .non (upd H l (.lst (xs ++ zs)))
theorem mt_extT {X : Cx} : MtM X "list.extend" (rExtT X.K) := by
  intro pins s σ H x vs v us Q I rx rv h
  obtain ⟨l, b, xs, zs, rfl, rfl, hl, hb, hz, q⟩ := h
  cases rx
  obtain ⟨u, rfl, ru⟩ := rv.one
  cases ru
  obtain ⟨z1, its, n, r1, _, e1⟩ := I.lstM hl
  obtain ⟨jts, r2, ⟨o, eo, oc, m, od⟩, z2⟩ := I.tuple hb
  have n1 := r1.length
  have n2 := r2.length
  have sm : its.toArray.size + jts.toArray.size ≤ sizeLine := by
    rw [List.size_toArray, List.size_toArray]
    omega
  have ty : s.TypeIs (.ref b) "tuple" := ⟨o, eo, oc⟩
  refine wpAny_call_entry F.slot_list_extend ⟨_, e1, rfl⟩ F.entry_list_extend ?_ (F.args_list_extend_2 _ _)
  show wpAny _ _ (Builtin.List.listExtendWith (.ref l) (.ref b) .none) _ _ _
  unfold Builtin.List.listExtendWith
  refine wpAny_bind (wpAny_typeOf ty ?_)
  have yes : (Builtin.List.listSameRef (.ref l) (.ref b) || Value.type "tuple" == Value.type "list" || Value.type "tuple" == Value.type "tuple") = true := by simp
  rw [if_pos yes]
  refine wpAny_bind ?_
  unfold Builtin.List.listItems
  refine wpAny_bind (wpAny_seqItems eo od (wpAny_pure ?_))
  refine wpAny_bind ?_
  refine wpAny_bind (wpAny_seqItems e1 rfl (wpAny_pure ?_))
  have long : (!its.toArray.isEmpty && Builtin.List.listTooLong (its.toArray.size + jts.toArray.size)) = false := by
    rw [notLongL sm, Bool.and_false]
  rw [if_neg (by rw [long]; exact Bool.false_ne_true)]
  refine wpAny_bind ?_
  show wpAny _ _ (updateSeq l (· ++ jts.toArray)) _ _ _
  refine wpAny_updateSeq e1 rfl ?_ (by rw [List.size_toArray]; omega) (by rw [Array.size_append]; omega)
  refine wpAny_pure ⟨_, rfl, ?_⟩
  refine ⟨.non, _, I.lset (its' := its ++ jts) hl e1 (by simp) (r1.append r2) ?_, rfl, q⟩
  rw [List.length_append]
  exact hz
end Kr

/-! dict(..) of a tuple of pairs, a tuple of two turned about -/
namespace Kt
open PySem PySem.Spec PyProof.Rows L2
section
variable {X : Cx}
/-- tuple(l): the object is known -/
theorem call_tupleF : CallR X (.type "tuple") (fun xs H Q => ∃ p ys, xs = [.ref p] ∧ SqL X.K H p ys ∧ ∀ l (o : Obj), H l = none → o.dict = none → o.cls = .type "tuple" → Q (.ref l) (upd H l (.frz o (.tup ys)))) := by
  intro pins s σ H xs us Q I r h
  obtain ⟨p, ys, rfl, hq, q⟩ := h
  obtain ⟨u, rfl, rx⟩ := vals1 r
  cases rx
  obtain ⟨its, r', pl, hz⟩ := I.list hq
  have hlen := r'.length
  refine call_tuple_list pl.isList (fun h' kp => ?_) (by simp only [List.size_toArray] <;> omega)
  have I1 : Inv X pins σ H { s with heap := h' } := I.kept (t' := s.toks) kp
  have I2 : Inv X pins σ (upd H h'.objs.size (.frz { cls := .type "tuple", data := .seq its.toArray } (.tup ys))) { s with heap := h'.push { cls := .type "tuple", data := .seq its.toArray } } :=
    I1.laid (t' := s.toks) (fun b o e => Heap.get?_push_of_some _ e) (Nat.le_refl _) (show ObjOk X.prog X.w _ _ _ (.frz _ (.tup ys)) from ⟨Heap.get?_push_size _ rfl, hz, its, r', IsTup.new _ _⟩)
  exact ⟨.ref h'.objs.size, _, I2, rfl, q _ _ (I1.hok.fresh (Nat.le_refl _)) rfl rfl⟩
/-- () -/
def tTup0 : TE := fun _ H Q => ∀ p (o : Obj), H p = none → o.dict = none → o.cls = .type "tuple" → Q (.ref p) (upd H p (.frz o (.tup [])))
theorem pe_tup0 {x1 : Nat} {pos : Pos} : PE X (.Tuple [] x1 pos) tTup0 := by
  refine ⟨fun pins s σ H Q I h => ?_⟩
  refine wpAny_Tuple_spliced (thn ((pa_nil (X := X)).run pos pins s σ H (fun xs H1 => xs = [] ∧ H1 = H) I ⟨rfl, rfl⟩) fun us s1 ⟨xs, H1, I1, r, e1, e2⟩ => ?_)
  subst e1 e2
  cases r
  refine ⟨Nat.zero_le _, ?_⟩
  refine ⟨.ref s1.heap.objs.size, _, I1.laid (t' := s1.toks) (o := .frz { cls := .type "tuple", data := .seq ([] : List Value).toArray } (.tup [])) (fun b u e => Heap.get?_push_of_some _ e) (Nat.le_refl _) ?_, rfl, h _ _ (I1.hok.fresh (Nat.le_refl _)) rfl rfl⟩
  exact ⟨Heap.get?_push_size _ rfl, Nat.zero_le _, [], .nil, IsTup.new _ _⟩
theorem raws_of {pins : List (Addr × Obj)} {σ : L2.St} {H : Hp} {s : Shared} (I : Inv X pins σ H s) : ∀ {ps : List Addr} {kvs : List (Key × V)}, Paired (fun p kv => SqT X.K H p [kV kv.1, kv.2]) ps kvs →
    ∃ (prs : List (Key × Value)) (raws : List (Value × Value)), KV kvs prs ∧ prs.length = ps.length ∧ raws.length = ps.length ∧ ∀ (j : Nat) (u v : Value), raws[j]? = some (u, v) → ∃ (b : Addr) (k : Key), ps[j]? = some b ∧ IsTup s.heap b #[u, v] ∧ prs[j]? = some (k, v) ∧ keyIs k u = true
  | _, _, .nil => ⟨[], [], .nil, rfl, rfl, fun j u v e => by simp at e⟩
  | _, _, .cons (a := p) (b := kv) h t => by
    obtain ⟨prs, raws, r, hl, hl2, hp⟩ := raws_of I t
    obtain ⟨its, rv, ht, _⟩ := I.tuple h
    obtain ⟨u, y, ei, ru, ry⟩ := vals2 rv
    subst ei
    refine ⟨(kv.1, y) :: prs, (u, y) :: raws, .cons ⟨rfl, ry⟩ r, by rw [List.length_cons, List.length_cons, hl], by rw [List.length_cons, List.length_cons, hl2], fun j u' v' e => ?_⟩
    cases j with
    | zero =>
      have e' : (u, y) = (u', v') := Option.some.inj e
      cases e'
      exact ⟨p, kv.1, rfl, ht, rfl, kV_is (P := X.prog) (w := X.w) ru⟩
    | succ j =>
      obtain ⟨b, k, e1, e2, e3, e4⟩ := hp j u' v' (by simpa using e)
      exact ⟨b, k, by simpa using e1, e2, by simpa using e3, e4⟩
/-- dict(t) of a tuple of pairs -/
theorem call_dictF (hcalm : X.calm = true) : CallR X (.type "dict") (fun xs H Q => ∃ (a : Addr) (o : Obj) (ps : List Addr) (kvs : List (Key × V)), xs = [.ref a] ∧ H a = some (.frz o (.tup (ps.map V.ref))) ∧ o.dict = none ∧ o.cls = .type "tuple" ∧ Paired (fun p kv => SqT X.K H p [kV kv.1, kv.2]) ps kvs ∧
    ∀ p, H p = none → Q (.ref p) (upd H p (.dK (mergeK [] kvs)))) := by
  intro pins s σ H xs us Q I r q
  obtain ⟨a, o, ps, kvs, ex, hq, hod, hoc, hp, q⟩ := q
  subst ex
  obtain ⟨u, eu, rx⟩ := vals1 r
  subst eu
  cases rx
  obtain ⟨ho, hz, its, rv, o2, ho2, hc2, n2, hdat⟩ := I.hok a _ hq
  rw [ho] at ho2
  cases ho2
  have ei := refs_at rv
  subst ei
  rw [List.length_map] at hz
  obtain ⟨prs, raws, rel, hl, hl2, hpr⟩ := raws_of I hp
  have PA := PairArg.tuple (prog := X.prog) (w := X.w) a (ps.map Value.ref).toArray (fun j => (ps[j]?).getD 0) raws
  refine PySem.call_dict_pairs (knd := mixKind X.prog X.w) (kvs := prs) PA (I.ok.hd hcalm) ⟨⟨o, n2, ho, hoc, hod, hdat⟩, by simp [hl2], fun j k v e => ?_⟩ ⟨by rw [hl, hl2], fun i key v e => ?_⟩ (by rw [hl2]; exact hz) fun h' tk hd' k => ?_
  · obtain ⟨b, kk, e1, e2, e3, e4⟩ := hpr j k v e
    refine ⟨by simp [e1], .inl ?_⟩
    show s.heap.IsTuple ((ps[j]?).getD 0) #[k, v]
    rw [e1]
    exact e2
  · obtain ⟨b, kk, e1, e2, e3, e4⟩ := hpr i key v e
    exact ⟨kk, e3, e4⟩
  · have hm : (s.heap.objs.size == sysModules) = false := beq_eq_false_iff_ne.mpr (Nat.ne_of_gt I.big)
    have hlen : (mergeK [] kvs).length ≤ sizeLine := by
      refine Nat.le_trans (length_mergeK kvs []) ?_
      rw [List.length_nil, Nat.zero_add, rel.length, hl]
      exact hz
    exact ⟨.ref s.heap.objs.size, upd H s.heap.objs.size (.dK (mergeK [] kvs)), I.laid (t' := tk) (fun b o e => k b o (by simp) e) (Nat.le_refl _) (show ObjOk X.prog X.w _ _ _ (.dK (mergeK [] kvs)) from ⟨hlen, hm, merged [] prs, KV.merge rel .nil, hd'⟩), rfl, q _ (I.hok.fresh (Nat.le_refl _))⟩
end
/-! t[::-1], t of two -/
section
variable {prog : Program} {w : World} {A : Around} {E : Value → Shared → Prop} {s : Shared}
theorem getItem_two {t sl : Addr} {x y vl vu vs : Value} {Q : Value → Shared → Prop} (ht : IsTup s.heap t #[x, y]) (hs : s.heap.IsSliceOf sl vl vu vs) (pl : IsPart vl none) (pu : IsPart vu none) (ps : IsPart vs (some (-1)))
    (h : Q (.ref s.heap.objs.size) { s with heap := s.heap.push { cls := .type "tuple", data := .seq #[y, x] } }) : wpAny (model prog w) A (getItem (.ref t) (.ref sl)) Q E s := by
  have htake : sizeOk (.seq #[y, x]) := by
    show 2 ≤ sizeLine
    decide
  obtain ⟨os, hos, hcs, hds⟩ := id hs
  have hTs : s.TypeIs (.ref sl) "slice" := ⟨os, hos, hcs⟩
  unfold getItem
  try with_reducible refine wpAny_holding ?_
  first | refine wpAny_bind (wpAny_pure ?_) | skip
  refine wpAny_bind (wpAny_sequenceKey ht.typeIs (by decide) ?_)
  refine wpAny_bind (wpAny_callSpecial?_slot (name := Str.ofString "__getitem__") ht.typeIs PyProof.Rows.slot_tuple_getitem
    (wpAny_call_entry PyProof.Rows.slot_tuple_getitem ht.typeIs entry_tuple_getitem ?_ (args_tuple_getitem _ _)))
  show wpAny _ _ (Builtin.Tuple.tupleItemsOf (.ref t) >>= _) _ _ s
  refine wpAny_bind (tupleItemsOf_ ht ?_)
  refine wpAny_bind (wpAny_typeOf hTs ?_)
  rw [if_pos (by decide)]
  refine wpAny_bind ?_
  unfold Builtin.Slice.sliceApplied Builtin.Slice.sliceFields
  refine wpAny_bind (wpAny_bind (wpAny_field hos hds (x := vl) rfl (wpAny_bind (wpAny_field hos hds (x := vu) rfl (wpAny_bind (wpAny_field hos hds (x := vs) rfl (wpAny_pure ?_)))))))
  refine wpAny_bind (HT.slicePart_ ps ?_)
  show wpAny _ _ (if ((-1 : Int) == 0) = true then _ else _) _ _ s
  rw [if_neg (by decide)]
  refine wpAny_bind (HT.slicePart_ pl (wpAny_bind (HT.slicePart_ pu (wpAny_bind (wpAny_pure ?_)))))
  refine wpAny_pure ?_
  show wpAny _ _ (if (((1 : Int) == 0 && (-1 : Int) == 1 && (2 : Nat) == 2) = true) then _ else _) _ _ s
  rw [if_neg (by decide)]
  generalize hA : (List.filterMap _ (List.range _)).toArray = arr
  have eA : arr = #[y, x] := by
    rw [← hA]
    first
      | rfl
      | kernel_rfl
      | with_unfolding_all rfl
  subst eA
  show wpAny _ _ (Builtin.Tuple.tupleExact #[y, x] >>= fun v => ret v) _ _ s
  have e : ((List.range 2).filterMap fun (m : Nat) => (#[x, y] : Array Value)[((1 : Int) + (m : Int) * (-1)).toNat]?).toArray = #[y, x] := rfl
  first
    | exact wpAny_bind (m := Builtin.Tuple.tupleExact _) (wpAny_newObj_type (wpAny_pure ⟨_, rfl, wpAny_pure h⟩) htake)
    | exact wpAny_bind (m := Builtin.Tuple.tupleExact _) (wpAny_newObj_type (wpAny_bind (wpAny_pure (wpAny_pure ⟨_, rfl, wpAny_pure h⟩))) htake)
    | exact wpAny_bind (wpAny_bind (m := Builtin.Tuple.tupleExact _) (wpAny_newObj_type (wpAny_pure (wpAny_pure ⟨_, rfl, wpAny_pure h⟩)) htake))
    | exact wpAny_bind (wpAny_bind (m := Builtin.Tuple.tupleExact _) (wpAny_newObj_type (wpAny_pure ⟨_, rfl, wpAny_pure h⟩) htake))
end
section
variable {X : Cx}
def tRev2 (K : PySem.W.Frag) (te : TE) : TE := fun σ H Q => te σ H fun x H1 => ∃ a y z, x = .ref a ∧ SqT K H1 a [y, z] ∧ ∀ p, H1 p = none → Q (.ref p) (upd H1 p (.tup [z, y]))
theorem pe_rev2 {e : Expr} {te : TE} {k : Nat} {p1 p2 p3 pos : Pos} (he : PE X e te) : PE X (.Subscript e (.Slice none none (some (.UnaryOp .USub (.Constant (.int 1) k p1) p2)) p3) pos) (tRev2 X.K te) := by
  refine ⟨fun pins s σ H Q I h => ?_⟩
  refine Subscript_ (thn (he.run pins s σ H _ I h) fun v s1 ⟨x, H1, I1, r1, q1⟩ => ?_)
  obtain ⟨a, y, z, ex, hx, q⟩ := q1
  subst ex
  cases r1
  have hst : PO X (some (.UnaryOp .USub (.Constant (.int 1) k p1) p2)) (tPart (tUn (rU fun i => .int (-i)) (tC (.int 1)))) := po_some (pe_un un_neg pe_int)
  refine wpAny_Slice (thn (po_none.run pins s1 σ H1 (fun o H2 => o = none ∧ H2 = H1) I1 ⟨rfl, rfl⟩) fun vl s2 ⟨l, H2, I2, pl, el, e2⟩ => ?_)
  subst el e2
  refine thn (po_none.run pins s2 σ H2 (fun o H3 => o = none ∧ H3 = H2) I2 ⟨rfl, rfl⟩) fun vu s3 ⟨u, H3, I3, pu, eu, e3⟩ => ?_
  subst eu e3
  refine thn (hst.run pins s3 σ H3 (fun o H4 => o = some (-1) ∧ H4 = H3) I3 ⟨1, rfl, -1, rfl, rfl, rfl⟩) fun vs s4 ⟨o, H4, I4, ps, eo, e4⟩ => ?_
  subst eo e4
  have I5 : Inv X pins σ H4 { s4 with heap := s4.heap.push { cls := .type "slice", data := .fields #[vl, vu, vs] } } := I4.kept (t' := s4.toks) fun b ob q => Heap.get?_push_of_some _ q
  obtain ⟨its, r, ht, hz⟩ := I5.tuple hx
  obtain ⟨yv, zv, ei, ry, rz⟩ := vals2 r
  subst ei
  show wpAny (model X.prog X.w) X.A (subscriptTail e (.Slice none none (some (.UnaryOp .USub (.Constant (.int 1) k p1) p2)) p3) (.ref a) (.ref s4.heap.objs.size)) (EP X pins σ Q) X.xe { s4 with heap := s4.heap.push { cls := .type "slice", data := .fields #[vl, vu, vs] } }
  refine tail_any (ops := [.ref a, .ref s4.heap.objs.size]) ht.typeIs (PyProof.Rows.slot_tuple_getitem.lookup) ?_ (by with_unfolding_all rfl)
  refine getItem_two ht (Heap.IsSliceOf.new _ vl vu vs) pl pu ps ?_
  refine ⟨.ref _, _, I5.laid (t' := s4.toks) (o := .tup [z, y]) (fun b ob q => Heap.get?_push_of_some _ q) (Nat.le_refl _) ?_, rfl, q _ (I5.hok.fresh (Nat.le_refl _))⟩
  exact ⟨by show 2 ≤ sizeLine; decide, [zv, yv], .cons rz (.cons ry .nil), IsTup.new _ _⟩
end
end Kt

/-! all(..) of a generator expression whose element may call defs -/
namespace Kg
open PySem PySem.Spec PyProof.Rows L2 GenW GxR
open Sem (wp)
theorem over_startC {A : Around} {elt t it : Expr} {ifs : List Expr} {scope : Scope} {pos : Pos} {iv acc : Value} {env : Env} : A.over (.compStart (.GeneratorExp elt [⟨t, it, ifs, 0⟩] scope pos) 0 iv acc env) [] = A.deeper env := by
  first
    | rfl
    | (obtain ⟨hd, d, fr, gs, u⟩ := A; simp [Around.over, Around.deeper, marksOver, frameCount, unitsOf, envsOf, guardsOf, pushEnvs, pushGuards, Code.envs, Code.env?, Code.isFrame, Code.guards, Code.isGuard, Code.weight, Code.frames, Code.isCreation, Code.isCaller, Code.cUnits])
theorem over_loopC {A : Around} {elt t it : Expr} {ifs : List Expr} {scope : Scope} {pos : Pos} {iv acc : Value} {env : Env} : A.over (.compLoop (.GeneratorExp elt [⟨t, it, ifs, 0⟩] scope pos) 0 iv acc env) [] = A.deeper env := by
  first
    | rfl
    | (obtain ⟨hd, d, fr, gs, u⟩ := A; simp [Around.over, Around.deeper, marksOver, frameCount, unitsOf, envsOf, guardsOf, pushEnvs, pushGuards, Code.envs, Code.env?, Code.isFrame, Code.guards, Code.isGuard, Code.weight, Code.frames, Code.isCreation, Code.isCaller, Code.cUnits])
/-- the scope of a generator expression within a def: its own names, those that it captures (with their places in N) -/
structure GxS (N : List Str) (sc scope : Scope) (own : List Str) (caps : List (Str × Nat)) : Prop where
  kind : scope.kind = .function
  co : scope.isCoroutine = false
  cell : ∀ y ∈ scope.names, y.2 ≠ .cell
  dot : scope.names.lookup (".0" : Str) = some NameKind.local
  nd : (own ++ caps.map (·.1)).Nodup
  caps : ∀ p ∈ caps, N[p.2]? = some p.1 ∧ scope.names.lookup p.1 = some .free
  free : ∀ y ∈ scope.names, y.2 = .free → sc.names.lookup y.1 = some .cell ∨ sc.names.lookup y.1 = some .free
  uniq : ∀ y ∈ scope.names, scope.names.lookup y.1 = some y.2
abbrev gxN (own : List Str) (caps : List (Str × Nat)) : List Str := own ++ caps.map (·.1)
abbrev gxSt (own : List Str) (caps : List (Str × Nat)) (σ : L2.St) : L2.St := own.map (fun _ => none) ++ caps.map (fun p => (σ[p.2]?).join)
abbrev gxEnv (X : Cx) (scope : Scope) (C : Addr) (code : Value) : Env := genEnv scope (cloFrom X.env.cells scope.names []) C code builtinsNs X.env
/-- the context of its frame -/
abbrev gcx (X : Cx) (A : Around) (N : List Str) (s : Shared) (H : Hp) (cenv : Env) (fp : List Addr) : Cx :=
  { X with A := A.deeper cenv, N := N, s_0 := s, H_0 := H, env := cenv, outer := X.stack, stack := cenv :: X.stack, ex := fp, fn := fun _ => false, calm := true, pn := [], xe := fun _ _ => False }
section
variable {X : Cx} {pins : List (Addr × Obj)} {σ : L2.St} {H : Hp} {s : Shared}
theorem gx_start {A : Around} {scope : Scope} {own : List Str} {caps : List (Str × Nat)} {fp : List Addr} {code : Value} {m0 : Str → Option Value} {s1 : Shared} (I : Inv X pins σ H s) (S : GxS X.N X.env.scope scope own caps) (hh : A.handled = none) (hfr : A.frames = some X.stack)
    (hfp : ∀ b ∈ fp, FpOk X pins H b ∧ b < s.heap.objs.size) (hns : s1.heap.Ns s.heap.objs.size m0) (kp : ∀ b o, s.heap.get? b = some o → s1.heap.get? b = some o) (hos : s1.os = s.os) (hb : AllBare s1.gens) :
    Inv (gcx X A (gxN own caps) s H (gxEnv X scope s.heap.objs.size code) fp) [] (gxSt own caps σ) H s1 := by
  have hfree : ∀ y ∈ scope.names, y.2 = .free → ∃ c, X.env.cells.lookup y.1 = some c := fun y hy e => by
    rcases S.free y hy e with k | k
    · exact I.ok.has _ (.inl k)
    · exact I.ok.has _ (.inr k)
  have cm : ∀ {y c}, (y, c) ∈ cloFrom X.env.cells scope.names [] → X.env.cells.lookup y = some c ∧ c < s.heap.objs.size := fun {y c} hm => by
    rcases cloFrom_mem hm with hm | ⟨h1, rfl⟩
    · cases hm
    · obtain ⟨c, hc⟩ := hfree _ h1 rfl
      rw [hc]
      obtain ⟨w, z⟩ := I.cell _ _ hc
      exact ⟨rfl, z.lt⟩
  have mem : ∀ {y c}, (cloFrom X.env.cells scope.names []).lookup y = some c → X.env.cells.lookup y = some c ∧ c < s.heap.objs.size := fun {y c} e => cm (PySem.mem_of_lookup e)
  have look : ∀ {y}, scope.names.lookup y = some .free → ∃ c, (cloFrom X.env.cells scope.names []).lookup y = some c := fun {y} hl => by
    have hy : (y, NameKind.free) ∈ scope.names := PySem.mem_of_lookup hl
    exact mem_lookup (cloFrom_has (cells := X.env.cells) (acc := []) hy)
  have nfs : ∀ b o, X.base.get? b = some o → b ∉ frs X.stack := fun b o e z => by
    rcases List.mem_cons.mp (I.stkSub b z) with z | z
    · have h1 := Heap.lt_size e
      have h2 := Nat.le_trans I.ok.bsz I.ok.above
      rw [z] at h1
      exact absurd (Nat.lt_of_lt_of_le h1 h2) (Nat.lt_irrefl _)
    · exact I.ok.nofr e z
  have okB : (gcx X A (gxN own caps) s H (gxEnv X scope s.heap.objs.size code) fp).Ok := by
    refine ⟨I.ok.mod, S.kind, I.ok.glob, rfl, Nat.le_refl _, fun y z c e1 e2 => I.ok.inj y z c (mem e1).1 (mem e2).1, fun y hy => ?_, fun y c z e => ?_, fun _ => hh, ?_, .inr ⟨rfl, rfl⟩, fun b hb => ⟨Nat.ne_of_lt (hfp b hb).2, fun y c e z => (hfp b hb).1.2.2.2.2.1 y c (mem e).1 z⟩,
      I.bs, Nat.le_trans I.ok.bsz I.sz, fun b o e hb => ?_, fun b hb z => ?_, I.stack, I.stkFree⟩
    · have hy : scope.names.lookup y = some .cell ∨ scope.names.lookup y = some .free := hy
      rcases hy with hy | hy
      · exact absurd rfl (S.cell _ (PySem.mem_of_lookup hy))
      · exact look hy
    · cases z
    · exact Around.frames_deeper hfr
    · rcases (hfp b hb).1.2.2.2.1 with z | z
      · exact I.ok.noex b o e z
      · exact absurd (Nat.lt_of_lt_of_le (Heap.lt_size e) (Nat.le_trans I.ok.bsz z)) (Nat.lt_irrefl _)
    · rcases List.mem_cons.mp (I.stkSub b z) with z | z
      · exact (hfp b hb).1.2.1 z
      · exact (hfp b hb).1.2.2.1 z
  refine ⟨okB, hos, hb, Un.kept kp, ⟨m0, hns, fun i y av e1 e2 e3 => ?_⟩, fun y c e => ?_, I.hok.fresh (Nat.le_refl _), fun y c e => ?_, fun p hp => ?_, I.hok.kept kp, ?_⟩
  · have e1 : (own ++ caps.map (·.1))[i]? = some y := e1
    have e2 : (own.map (fun _ => (none : Option V)) ++ caps.map (fun p => (σ[p.2]?).join))[i]? = some (some av) := e2
    by_cases hi : i < own.length
    · rw [List.getElem?_append_left (by rw [List.length_map]; exact hi), List.getElem?_map, List.getElem?_eq_getElem hi] at e2
      cases e2
    · rw [List.getElem?_append_right (by rw [List.length_map]; omega), List.length_map, List.getElem?_map] at e2
      rw [List.getElem?_append_right (by omega), List.getElem?_map] at e1
      cases hc : caps[i - own.length]? with
      | none => rw [hc] at e1; cases e1
      | some p =>
        rw [hc] at e1 e2
        have e1 : p.1 = y := Option.some.inj e1
        have e2 : (σ[p.2]?).join = some av := Option.some.inj e2
        obtain ⟨hN, hf⟩ := S.caps p (List.mem_of_getElem? hc)
        have hσ : σ[p.2]? = some (some av) := by
          cases q : σ[p.2]? with
          | none => rw [q] at e2; cases e2
          | some o => rw [q] at e2; exact congrArg some e2
        have hv : X.env.scope.names.lookup p.1 = some .cell ∨ X.env.scope.names.lookup p.1 = some .free := S.free (p.1, .free) (PySem.mem_of_lookup hf) rfl
        obtain ⟨m, hm, hl⟩ := I.loc
        obtain ⟨u, ru, lk⟩ := hl p.2 p.1 av hN hσ (.inr hv)
        subst e1
        refine ⟨u, ru, .inr ⟨.inr hf, ?_⟩⟩
        obtain ⟨c, hc'⟩ := look hf
        refine ⟨c, hc', ?_⟩
        rcases lk with ⟨h1, _⟩ | ⟨_, c2, h2, h3⟩
        · have h1 : X.env.scope.names.lookup p.1 = some .local := h1
          rcases hv with hv | hv
          · rw [hv] at h1; cases h1
          · rw [hv] at h1; cases h1
        · rw [(mem hc').1] at h2
          cases h2
          obtain ⟨o, ho, hd⟩ := h3
          exact ⟨o, kp _ _ ho, hd⟩
  · obtain ⟨v, o, ho, hd⟩ := I.cell y c (mem e).1
    exact ⟨v, o, kp _ _ ho, hd⟩
  · exact I.freeC y c (mem e).1
  · exact absurd (show p ∈ ([] : List (Addr × Obj)) ++ [] from hp) (by simp)
  · show (own.map (fun _ => (none : Option V)) ++ caps.map (fun p => (σ[p.2]?).join)).length = (own ++ caps.map (·.1)).length
    simp
end
/-! the protocol -/
/-- behind the whole: only the table of generators has turned, things may be new -/
def Done (Qf : Value → Shared → Prop) (b : Bool) (s : Shared) : Prop := ∀ s' : Shared, (∀ x o, s.heap.get? x = some o → s'.heap.get? x = some o) → s'.os = s.os → AllBare s'.gens → Qf (.bool b) s'
def GEndA (Qf : Value → Shared → Prop) : Nat → Shared → Shared → Prop := fun _ _ s => AllBare s.gens ∧ Done Qf true s
def GProto (Qf : Value → Shared → Prop) (a : Addr) (g : Nat) : Protocol := fun _ _ v s kap =>
  ∃ b : Bool, v = .bool b ∧ s.heap.IsGen a g ∧ s.heap.NoLimit ∧ AllBare s.gens ∧ (b = true → ∀ s' : Shared, s'.heap = s.heap → s'.os = s.os → AllBare s'.gens → kap (.send .none) s') ∧ (b = false → Done Qf false s)
section
variable {P : Program} {w : World} {A : Around} {Qf : Value → Shared → Prop} {a : Addr} {g : Nat}
/-- all's own loop -/
theorem all_drain (hh : A.handled = none) (hd : A.depth < recursionLimit) : ∀ (n : Nat) (s : Shared), s.heap.IsGen a g → s.heap.NoLimit →
    (∃ gs, s.gens[g]? = some gs ∧ gs.Goes (model P w) A.in1.in1 (fun n s₀ r s₁ => r = .ok .next ∧ GEndA Qf n s₀ s₁) (GProto Qf a g) n (.send .none) (s.setGen g .running)) →
    codeAny (model P w) A (.builtin "all.loop" ⟨[.ref a], []⟩) (fun r s' => ∃ b : Bool, r = .ok (.ret (.bool b)) ∧ Qf (.bool b) s') s := by
  intro n
  induction n with
  | zero =>
    intro s hg hl ⟨gs, hgs, hgo⟩
    refine codeAny_builtin F.entry_all_loop ?_
    rw [Around.under_plainId F.plain_all_loop _]
    show wpAny _ A.in1 (pyNext (.ref a) >>= _) _ _ s
    refine wpAny_bind (wpAny_pyNext_genexpQ (A := A.in1) (P := GEndA Qf) hh hl hd hg hgs hgo (fun v s₁ gs' hbare hv => ?_) (fun s₁ hp h' hk => ?_))
    · obtain ⟨b, rfl, hg1, hl1, hb1, ht, hf⟩ := hv
      cases b with
      | true => exact False.elim (ht rfl s₁ rfl rfl hb1)
      | false =>
        refine wpAny_bind (wpAny_holding (wpAny_truthy_bool ?_))
        refine wpAny_bind (wpAny_letGo ?_)
        simp only [Bool.false_eq_true, if_false]
        refine wpAny_bind (wpAny_rule (wpAny_pure ⟨false, rfl, hf rfl _ (fun x o e => e) rfl (allBare_setGen hb1 hbare)⟩))
    · refine wpAny_bind (wpAny_rule (wpAny_pure ⟨true, rfl, hp.2 _ hk rfl (allBare_setGen hp.1 rfl)⟩))
  | succ n ih =>
    intro s hg hl ⟨gs, hgs, hgo⟩
    have hgl : g < s.gens.size := (Array.getElem?_eq_some_iff.mp hgs).1
    refine codeAny_builtin F.entry_all_loop ?_
    rw [Around.under_plainId F.plain_all_loop _]
    show wpAny _ A.in1 (pyNext (.ref a) >>= _) _ _ s
    refine wpAny_bind (wpAny_gsz (n := g + 1) hgl (wpAny_pyNext_genexpQ (A := A.in1) (P := GEndA Qf) hh hl hd hg hgs hgo (fun v s₁ gs' hbare hv => ?_) (fun s₁ hp h' hk => ?_)))
    · intro hsz
      have hsz1 : g < s₁.gens.size := by
        have q : (s₁.setGen g gs').gens.size = s₁.gens.size := setGen_size _ _ _
        have hsz' : g + 1 ≤ (s₁.setGen g gs').gens.size := hsz
        omega
      obtain ⟨b, rfl, hg1, hl1, hb1, ht, hf⟩ := hv
      refine wpAny_bind (wpAny_holding (wpAny_truthy_bool ?_))
      refine wpAny_bind (wpAny_letGo ?_)
      cases b with
      | true =>
        simp only [if_true]
        refine wpAny_pure ⟨plainId_quiet F.plain_all_loop _, ih _ hg1 hl1 ⟨gs', setGen_at hsz1, ?_⟩⟩
        exact ht rfl _ rfl rfl (allBare_setGen (s := s₁.setGen g gs') (allBare_setGen hb1 hbare) rfl)
      | false =>
        simp only [Bool.false_eq_true, if_false]
        refine wpAny_bind (wpAny_rule (wpAny_pure ⟨false, rfl, hf rfl _ (fun x o e => e) rfl (allBare_setGen hb1 hbare)⟩))
    · intro hsz
      refine wpAny_bind (wpAny_rule (wpAny_pure ⟨true, rfl, hp.2 _ hk rfl (allBare_setGen hp.1 rfl)⟩))
theorem call_all_gen {E : Value → Shared → Prop} {n : Nat} {s : Shared} (hh : A.handled = none) (hd : A.depth < recursionLimit) (hg : s.heap.IsGen a g) (hl : s.heap.NoLimit)
    (hgo : ∃ gs, s.gens[g]? = some gs ∧ gs.Goes (model P w) A.in1.in1 (fun n s₀ r s₁ => r = .ok .next ∧ GEndA Qf n s₀ s₁) (GProto Qf a g) n (.send .none) (s.setGen g .running)) : wpAny (model P w) A (call (.builtin "all") [.ref a]) Qf E s := by
  refine call_function_tree F.kind_all F.plain_all F.entry_all (F.args_all1 _) ?_
  unfold Builtin.«all»
  refine wpAny_bind (m := oneArg "all" _) (wpAny_pure ?_)
  refine wpAny_bind (wpAny_pyIter_gen hg ?_)
  refine wpAny_pure ⟨plainId_quiet F.plain_all_loop _, codeAny_mono (all_drain hh hd n s hg hl hgo) fun r s' h => ?_⟩
  obtain ⟨b, rfl, q⟩ := h
  exact q
end
end Kg

namespace Kg
open PySem PySem.Spec PyProof.Rows L2 GenW GxR
open Sem (wp)
theorem inv_same {G : Cx} {pins : List (Addr × Obj)} {σ : L2.St} {H : Hp} {s s' : Shared} (I : Inv G pins σ H s) (hk : ∀ x o, s.heap.get? x = some o → s'.heap.get? x = some o) (ho : s'.os = s.os) (hb : AllBare s'.gens) : Inv G pins σ H s' :=
  I.call' (ch := []) ho (Un.kept hk) (I.hok.kept hk) hb fun b z => by simp at z
/-- a turn's wish -/
def Turns (J : It) (σ0 : L2.St) (vs : List Nat) (g : TG) (te : TE) (Qe : Bool → Hp → Prop) (W : Nat → Nat → Hp → Prop) : Prop :=
  ∀ i m H, W i m H → (J.stop i H ∧ Qe true H) ∨ (J.go i H ∧ ∃ Nx : Hp → Prop, (∀ H', Nx H' → ∃ m', m' < m ∧ W (i + 1) m' H') ∧ ∀ x H', J.yld i H x H' → g x σ0 H' fun σ2 H2 => wipe σ2 vs = σ0 ∧ te σ2 H2 fun y H4 => ∃ b, y = .bl b ∧ if b = true then Nx H4 else Qe false H4)
section
variable {X : Cx} {A : Around} {N : List Str} {s4 : Shared} {H0 : Hp} {cenv : Env} {fp : List Addr} {tg elt iter : Expr} {scope : Scope} {pos : Pos} {it a : Addr} {gi : Nat} {go : Obj} {J : It} {tn : Nat → Heap → Prop} {σ0 : L2.St} {vs : List Nat} {g : TG} {te : TE} {Qe : Bool → Hp → Prop} {W : Nat → Nat → Hp → Prop} {Qf : Value → Shared → Prop}
theorem gx_loop (hh : A.handled = none) (hco : cenv.scope.isCoroutine = false) (T : Turn X.prog X.w X.K tg J fp it tn) (haf : a ∉ fp) (hgen : ∀ h : Heap, h.get? a = some go → h.IsGen a gi)
    (pg : PG (gcx X A N s4 H0 cenv fp) tg g) (pe : PE (gcx X A N s4 H0 cenv fp) elt te) (turn : Turns J σ0 vs g te Qe W)
    (hfin : ∀ b s H', Inv (gcx X A N s4 H0 cenv fp) [(a, go)] σ0 H' s → Qe b H' → Done Qf b s) :
    ∀ (m n i : Nat) (H : Hp) (s₀ s : Shared), m < n → W i m H → Inv (gcx X A N s4 H0 cenv fp) [(a, go)] σ0 H s → tn i s.heap → (∀ b ∈ fp, H b = none) →
      Seg (model X.prog X.w) A (fun n s₀ r s₁ => r = .ok .next ∧ GEndA Qf n s₀ s₁) (GProto Qf a gi) n s₀ (.compLoop (.GeneratorExp elt [⟨tg, iter, [], 0⟩] scope pos) 0 (.ref it) .none cenv)
        ((model X.prog X.w).den (.compLoop (.GeneratorExp elt [⟨tg, iter, [], 0⟩] scope pos) 0 (.ref it) .none cenv)) [] s := by
  have stat : ∀ {σ' : L2.St} {H' : Hp} {s' : Shared}, Inv (gcx X A N s4 H0 cenv fp) [(a, go)] σ' H' s' → (∀ b ∈ fp, H' b = none) → ∀ b ∈ fp, FpOk (gcx X A N s4 H0 cenv fp) [(a, go)] H' b := fun {σ' H' s'} I' hn b hb =>
    ⟨hn b hb, (I'.ok.exf b hb).1, I'.ok.exfs b hb, .inl hb, fun x c e => (I'.ok.exf b hb).2 x c e, fun p hp z => by
      have hp : p ∈ [(a, go)] := hp
      rw [List.mem_singleton.mp hp] at z
      have z : a = b := z
      exact haf (by rw [z]; exact hb)⟩
  have hy : ∀ v, yieldOut cenv v = yieldValue v := fun v => by simp only [yieldOut, hco, Bool.false_eq_true, if_false]
  intro m
  induction m using Nat.strongRecOn with
  | ind m ih =>
    intro n i H s₀ s hmn hW I hst hn
    obtain ⟨n, rfl⟩ : ∃ k, n = k + 1 := ⟨n - 1, by omega⟩
    show Seg _ A _ _ _ s₀ _ ((compTurn (.GeneratorExp elt [⟨tg, iter, [], 0⟩] scope pos) 0 (.ref it) .none cenv).onRaise (leaving cenv)) [] s
    rw [compTurn_gen, Sem.onRaise_eq_wrap]
    refine seg_bind_wrap (wpAny_standAt ?_)
    rcases turn i m H hW with ⟨stop, qq⟩ | ⟨hgo, Nx, hNx, step⟩
    · refine seg_bind_wrap ?_
      rw [over_loopC]
      refine thn (T.done (gcx X A N s4 H0 cenv fp) rfl rfl rfl rfl i [(a, go)] s _ H _ I (stat I hn) hst stop) fun r s6 ⟨hr, I6⟩ => ?_
      subst hr
      exact seg_end (.ok .next) ⟨rfl, I6.bare, hfin true s6 H I6 qq⟩
    · refine seg_bind_wrap ?_
      rw [over_loopC]
      refine thn (T.item (gcx X A N s4 H0 cenv fp) rfl rfl rfl rfl i [(a, go)] s _ H _ I (stat I hn) hst hgo) fun r s6 ⟨u, hr, h6⟩ => ?_
      subst hr
      refine seg_bind_wrap ?_
      rw [over_loopC]
      refine thn h6 fun _ s7 ⟨x, H7, I7, r7, y7, st7, n7⟩ => ?_
      have I7' := I7.pinned (stat I7 n7) (T.obj _ _ st7)
      refine seg_bind_wrap ?_
      rw [over_loopC]
      refine wpAny_mono (pg.run _ s7 _ H7 x u _ I7' r7 (step x H7 y7)) (fun _ s8 ⟨σ8, H8, I8, hw8, q8⟩ => ?_) fun _ _ e => e.elim
      have fin : ∀ {s' : Shared} {H' : Hp}, Inv (gcx X A N s4 H0 cenv fp) ([(a, go)] ++ pinsAt fp s7.heap) σ8 H' s' → Inv (gcx X A N s4 H0 cenv fp) [(a, go)] σ0 H' s' ∧ tn (i + 1) s'.heap ∧ ∀ b ∈ fp, H' b = none := fun {s' H'} I' => by
        have pin' : ∀ b ∈ fp, ∀ o, s7.heap.get? b = some o → s'.heap.get? b = some o ∧ H' b = none := fun b hb o e =>
          let z := I'.pin (b, o) (List.mem_append_right _ (List.mem_append_right _ (mem_pinsAt hb e)))
          ⟨z.1, z.2.1⟩
        have hl : σ0.length = σ8.length := by rw [← hw8, wipe_length]
        refine ⟨(I'.unpinned (pins := [(a, go)])).weak hl (fun j v e => ?_), T.keep _ _ _ st7 fun b hb o e => (pin' b hb o e).1, fun b hb => ?_⟩
        · rw [← hw8] at e
          exact (wipe_some e).1
        · obtain ⟨o, e, _⟩ := T.obj _ _ st7 b hb
          exact (pin' b hb o e).2
      simp only [List.forIn_nil]
      refine seg_bind_wrap (wpAny_pure ?_)
      simp only [if_true]
      simp only [hy]
      rw [Sem.bind_eq_wrap', Sem.bind_eq_wrap', Sem.wrap_wrap, Sem.wrap_wrap]
      refine seg_wrap ?_
      rw [over_loopC]
      refine wpAny_mono (pe.run _ s8 σ8 H8 _ I8 q8) (fun v s10 ⟨y, H10, I10, r10, b, hyb, q10⟩ => ?_) fun _ _ e => e.elim
      subst hyb
      obtain rfl : v = Value.bool b := r10
      obtain ⟨J1, J2, J3⟩ := fin I10
      have hga : s10.heap.IsGen a gi := hgen _ (J1.pin (a, go) (List.mem_append_right _ (List.mem_singleton.mpr rfl))).1
      refine seg_at (seg_yield rfl rfl rfl ⟨b, rfl, hga, J1.nolimit, J1.bare, fun hb s'' e1 e2 e3 => ?_, fun hb => ?_⟩)
      · subst hb
        rw [if_pos rfl] at q10
        obtain ⟨m', hm', w'⟩ := hNx H10 q10
        refine seg_again rfl (ih m' hm' n (i + 1) H10 s'' s'' (by omega) w' (inv_same J1 (fun x o e => by rw [e1]; exact e) e2 e3) (by rw [e1]; exact J2) J3)
      · subst hb
        rw [if_neg Bool.false_ne_true] at q10
        exact hfin false s10 H10 J1 q10
theorem gx_begin (hh : A.handled = none) (hco : cenv.scope.isCoroutine = false) (T : Turn X.prog X.w X.K tg J fp it tn) (haf : a ∉ fp) (hgen : ∀ h : Heap, h.get? a = some go → h.IsGen a gi)
    (pg : PG (gcx X A N s4 H0 cenv fp) tg g) (pe : PE (gcx X A N s4 H0 cenv fp) elt te) (turn : Turns J σ0 vs g te Qe W)
    (hfin : ∀ b s H', Inv (gcx X A N s4 H0 cenv fp) [(a, go)] σ0 H' s → Qe b H' → Done Qf b s) {m : Nat} {H : Hp} {s : Shared} (w0 : W 0 m H) (I : Inv (gcx X A N s4 H0 cenv fp) [(a, go)] σ0 H s) (hst : tn 0 s.heap) (hn : ∀ b ∈ fp, H b = none) :
    Seg (model X.prog X.w) A (fun n s₀ r s₁ => r = .ok .next ∧ GEndA Qf n s₀ s₁) (GProto Qf a gi) (m + 1) s (.compStart (.GeneratorExp elt [⟨tg, iter, [], 0⟩] scope pos) 0 (.ref it) .none cenv)
      ((model X.prog X.w).den (.compStart (.GeneratorExp elt [⟨tg, iter, [], 0⟩] scope pos) 0 (.ref it) .none cenv)) [] s := by
  have loop := gx_loop (iter := iter) (scope := scope) (pos := pos) hh hco T haf hgen pg pe turn hfin m (m + 1) 0 H s s (Nat.lt_succ_self _) w0 I hst hn
  show Seg _ A _ _ _ s _ ((compStart (.GeneratorExp elt [⟨tg, iter, [], 0⟩] scope pos) 0 (.ref it) .none cenv).onRaise (leaving cenv)) [] s
  unfold compStart
  rw [Sem.onRaise_eq_wrap]
  show Seg _ A _ _ _ s _ ((ask >>= _).wrap _ _ _ _) [] s
  refine seg_bind_wrap (wpAny_askSetting ?_)
  split
  · exact seg_again rfl loop
  · first
      | exact seg_bind_wrap (wpAny_rule (seg_bind_wrap (wpAny_standAt (seg_bind_wrap (T.self _ 0 s _ _ hst (seg_again rfl loop))))))
      | (refine seg_bind_wrap (wpAny_rule ?_); show Seg _ A _ _ _ s _ ((standAt iter.pos >>= _).wrap _ _ _ _) [] s; exact seg_bind_wrap (wpAny_standAt (seg_bind_wrap (T.self _ 0 s _ _ hst (seg_again rfl loop)))))
end
/-! the rule -/
section
variable {X : Cx}
/-- all(elt for tg in iter) -/
def tAllG (P : Addr) (wi : TI) (own : List Str) (caps : List (Str × Nat)) (vs : List Nat) (g : TG) (te : TE) : TE := fun σ H Q => wi σ H fun J H1 => TabG H1 P ∧ ∀ H2, Tabbed P H1 H2 → ∃ W : Nat → Nat → Hp → Prop, (∃ m, W 0 m H2) ∧ Turns J (gxSt own caps σ) vs g te (fun b H' => Q (.bl b) H') W
theorem pe_allG {c P : Addr} {elt tg iter : Expr} {p pos gpos : Pos} {scope : Scope} {own : List Str} {caps : List (Str × Nat)} {vs : List Nat} {wi : TI} {g : TG} {te : TE} {k : Nat}
    (hr : Room k X.A) (hg : Gl X "all") (hm : X.mg "all" = none) (TB : TabB X.base X.mg c P) (hcode : X.env.code = .ref c) (S : GxS X.N X.env.scope scope own caps) (hi : PI X tg iter wi)
    (pg : ∀ (s : Shared) (H : Hp) (C : Addr) (cd : Value) (fp : List Addr), PG (gcx X X.A.in1.in1 (gxN own caps) s H (gxEnv X scope C cd) fp) tg g)
    (pe : ∀ (s : Shared) (H : Hp) (C : Addr) (cd : Value) (fp : List Addr), PE (gcx X X.A.in1.in1 (gxN own caps) s H (gxEnv X scope C cd) fp) elt te)
    (hs : ∀ v, genFold iter X.env v = pure v := by intro _; rfl)
    (he : starEach [.GeneratorExp elt [⟨tg, iter, [], 0⟩] scope gpos] X.env = (false, eval (.GeneratorExp elt [⟨tg, iter, [], 0⟩] scope gpos) X.env) :: starEach [] X.env := by rfl) :
    PE X (.Call (.Name "all" p) [.GeneratorExp elt [⟨tg, iter, [], 0⟩] scope gpos] [] pos) (tAllG P wi own caps vs g te) := by
  refine ⟨fun pins s σ H Q I h => ?_⟩
  have hfree : ∀ y ∈ scope.names, y.2 = .free → ∃ c, X.env.cells.lookup y.1 = some c := fun y hy e => by
    rcases S.free y hy e with k | k
    · exact I.ok.has _ (.inl k)
    · exact I.ok.has _ (.inr k)
  refine wpAny_Call_Name_kw (ld_blt I hg hm PyProof.Rows.boot_all ?_)
  refine PyProof.Rows.callWith_builtin1 ?_ he (by rfl)
  rw [he]
  show wpAny _ _ (spliced ((false, eval (.GeneratorExp elt [⟨tg, iter, [], 0⟩] scope gpos) X.env) :: backTo pos (starEach [] X.env))) _ _ s
  refine Calls.spliced_cons ?_
  refine wpAny_GeneratorExp_make S.co (closure_ok hfree) S.cell S.dot S.kind (by have := hr.dp; omega) ?_ hs
  refine thn (hi.run pins s σ H _ I h) fun xv s1 hx => thn hx fun itv s2 h2 => ?_
  obtain ⟨it, fp, tn, J, H1, rfl, I2, T, st2, f2, ⟨ps, hP, ht⟩, q⟩ := h2
  refine ⟨I2.nolimit, ?_⟩
  have hPs : s2.heap.get? P = some { cls := .none, data := .fields ps } := I2.hok P _ hP
  have cd : PySem.W.CodeHd s2.heap c P := TB.code.keeps I2.bk
  have sz2 : ∀ b ∈ fp, b < s2.heap.objs.size := fun b hb => by
    obtain ⟨o, e, _⟩ := T.obj _ _ st2 b hb
    exact Heap.lt_size e
  have cont : ∀ (code : Value) (h3 : Heap) (tk : Nat) (ps' more : Array Value), Heap.ExtBut P s2.heap h3 → s2.heap.objs.size ≤ h3.objs.size → h3.get? P = some { cls := .none, data := .fields ps' } → ps' = ps ++ more → TriplesOk ps'.toList →
      wpAny (model X.prog X.w) X.A (builtinsFor X.env.globals X.env.builtins) (fun bi s₄ =>
        ∀ h', h'.Ns s₄.heap.objs.size (fun y => if y = ".0" then some (.ref it) else none) → Heap.SameBut s₄.heap.objs.size (s₄.heap.push { cls := .type "frame", data := .dict #[] }) h' →
          wpAny (model X.prog X.w) X.A (spliced (backTo pos (starEach [] X.env))) (fun us s' => wpAny (model X.prog X.w) X.A (call (.builtin "all") (.ref h'.objs.size :: us)) (EP X pins σ Q) X.xe s') X.xe { s₄ with
            gens := s₄.gens.push (.fresh (.compStart (.GeneratorExp elt [⟨tg, iter, [], 0⟩] scope gpos) 0 (.ref it) .none (genEnv scope (cloFrom X.env.cells scope.names []) s₄.heap.objs.size code bi X.env))),
            toks := s₄.toks + 1 + 1 + 1,
            heap := h'.push { cls := .type "generator", data := .fields #[.int s₄.gens.size 0, .str "<genexpr>" (s₄.toks + 1), .str (X.env.qual ++ "<genexpr>") (s₄.toks + 1 + 1)] } }) X.xe { s2 with heap := h3, toks := tk } := by
    intro code h3 tk ps' more hx hsz hP3 hmore ht3
    obtain ⟨bm, ob, e1, e2, e3, e4, e5, e6, e7, e8⟩ := TB.bm
    have keep3 : ∀ b u, b ≠ P → s2.heap.get? b = some u → h3.get? b = some u := fun b u hb e => hx b u hb e
    refine wpAny_builtinsFor (m := X.mg) (by rw [I2.ok.glob]; exact (I2.mod.glob.keeps I2.bk).extBut hx TB.gP) e1 e2 (keep3 _ _ e4 (I2.bk _ _ e5)) e6 e7 e8 ?_
    intro h' hns hsb
    have I3 : Inv X pins σ (upd H1 P (.tbl (ps ++ more))) { s2 with heap := h3, toks := tk } := inv_tab (more := more) (g' := s2.gens) (d' := s2.drawn) (t' := tk) I2 hP keep3 (by rw [← hmore]; exact hP3) I2.bare
    have hT : Tabbed P H1 (upd H1 P (.tbl (ps ++ more))) := ⟨⟨ps ++ more, upd_same, by rw [← hmore]; exact ht3⟩, fun b hb => upd_ne hb⟩
    obtain ⟨W, ⟨m, w0⟩, turn⟩ := q _ hT
    have nP : ∀ b ∈ fp, b ≠ P := fun b hb z => by
      have := (f2 b hb).1
      rw [z, hP] at this
      cases this
    have f3 : ∀ b ∈ fp, FpOk X pins (upd H1 P (.tbl (ps ++ more))) b ∧ b < h3.objs.size := fun b hb => ⟨⟨by rw [upd_ne (nP b hb)]; exact (f2 b hb).1, (f2 b hb).2⟩, Nat.lt_of_lt_of_le (sz2 b hb) hsz⟩
    generalize upd H1 P (.tbl (ps ++ more)) = H3 at I3 w0 f3
    have hsz' : h'.objs.size = h3.objs.size + 1 := by rw [hsb.1, Heap.size_push]
    have keep' : ∀ b o, h3.get? b = some o → h'.get? b = some o := fun b o e => hsb.extBut b o (Nat.ne_of_lt (Heap.lt_size e)) (Heap.get?_push_of_some _ e)
    refine Calls.spliced_nil ?_
    generalize hgo : ({ cls := .type "generator", data := .fields #[.int s2.gens.size 0, .str "<genexpr>" (tk + 1), .str (X.env.qual ++ "<genexpr>") (tk + 1 + 1)] } : Obj) = go
    have hgen : ∀ hp : Heap, hp.get? h'.objs.size = some go → hp.IsGen h'.objs.size s2.gens.size := fun hp e => ⟨go, _, _, e, by rw [← hgo], by rw [← hgo], by rw [← hgo]⟩
    have hput : (h'.push go).get? h'.objs.size = some go := Heap.get?_push_size _ (by rw [← hgo]; rfl)
    have hgd : ∀ v, go.data ≠ .cell v := fun v z => by rw [← hgo] at z; cases z
    show wpAny _ _ (call (.builtin "all") [.ref h'.objs.size]) _ _ { s2 with gens := s2.gens.push (.fresh (.compStart (.GeneratorExp elt [⟨tg, iter, [], 0⟩] scope gpos) 0 (.ref it) .none (gxEnv X scope h3.objs.size code))), toks := tk + 1 + 1 + 1, heap := h'.push go }
    have keep5 : ∀ b o, h3.get? b = some o → (h'.push go).get? b = some o := fun b o e => Heap.get?_push_of_some _ (keep' b o e)
    have hb5 : AllBare (s2.gens.push (.fresh (.compStart (.GeneratorExp elt [⟨tg, iter, [], 0⟩] scope gpos) 0 (.ref it) .none (gxEnv X scope h3.objs.size code)))) := I2.bare.push rfl
    have hrun : AllBare (({ s2 with gens := s2.gens.push (.fresh (.compStart (.GeneratorExp elt [⟨tg, iter, [], 0⟩] scope gpos) 0 (.ref it) .none (gxEnv X scope h3.objs.size code))), toks := tk + 1 + 1 + 1, heap := h'.push go } : Shared).setGen s2.gens.size .running).gens := allBare_setGen hb5 rfl
    have G0 : Inv (gcx X X.A.in1.in1 (gxN own caps) { s2 with heap := h3, toks := tk } H3 (gxEnv X scope h3.objs.size code) fp) [] (gxSt own caps σ) H3 (({ s2 with gens := s2.gens.push (.fresh (.compStart (.GeneratorExp elt [⟨tg, iter, [], 0⟩] scope gpos) 0 (.ref it) .none (gxEnv X scope h3.objs.size code))), toks := tk + 1 + 1 + 1, heap := h'.push go } : Shared).setGen s2.gens.size .running) :=
      gx_start (s := { s2 with heap := h3, toks := tk }) I3 S hr.hd I3.ok.frames f3 (hns.push go) keep5 rfl hrun
    have hna : H3 h'.objs.size = none := I3.hok.fresh (by show h3.objs.size ≤ h'.objs.size; omega)
    have G1 : Inv (gcx X X.A.in1.in1 (gxN own caps) { s2 with heap := h3, toks := tk } H3 (gxEnv X scope h3.objs.size code) fp) [(h'.objs.size, go)] (gxSt own caps σ) H3 (({ s2 with gens := s2.gens.push (.fresh (.compStart (.GeneratorExp elt [⟨tg, iter, [], 0⟩] scope gpos) 0 (.ref it) .none (gxEnv X scope h3.objs.size code))), toks := tk + 1 + 1 + 1, heap := h'.push go } : Shared).setGen s2.gens.size .running) :=
      G0.pins_of fun p hp => by
        rw [List.mem_singleton.mp hp]
        refine ⟨hput, hna, ?_, fun z => ?_, hgd⟩
        · show h'.objs.size ≠ h3.objs.size
          omega
        · have z : h'.objs.size ∈ frs X.stack := z
          rcases List.mem_cons.mp (I3.stkSub _ z) with z | z
          · have h1 := I3.lt
            rw [← z] at h1
            have h1 : h'.objs.size < h3.objs.size := h1
            omega
          · exact I3.nofs (show h3.objs.size ≤ h'.objs.size by omega) z
    have st5 : tn 0 (h'.push go) := T.keep _ _ _ st2 fun b hb o e => keep5 b o (keep3 b o (nP b hb) e)
    refine call_all_gen (n := m + 1) hr.hd (by have := hr.dp; omega) (hgen _ hput) (I3.nolimit.keeps keep5) ⟨_, Array.getElem?_push_size .., rfl, ?_⟩
    refine gx_begin (A := X.A.in1.in1) (N := gxN own caps) (σ0 := gxSt own caps σ) (vs := vs) (g := g) (te := te) (Qe := fun b H' => Q (.bl b) H') (W := W) hr.hd S.co T (fun z => ?_) hgen (pg _ _ _ _ _) (pe _ _ _ _ _) turn (fun b s6 H6 J6 q6 s7 k7 o7 b7 => ?_) w0 G1 st5 (fun b hb => (f3 b hb).1.1)
    · have z2 : h'.objs.size < h3.objs.size := (f3 _ z).2
      rw [hsz'] at z2
      exact absurd z2 (by omega)
    · have I6 : Inv X pins σ H6 s6 := I3.call' (ch := fp) J6.os J6.base J6.hok J6.bare fun b hb => ⟨(f3 b hb).1.2.2.2.1, (f3 b hb).1.2.1, (f3 b hb).1.2.2.2.2.1, (f3 b hb).1.2.2.2.2.2⟩
      exact ⟨.bl b, H6, inv_same I6 k7 o7 b7, rfl, q6⟩
  cases hf : codeAmong gpos ps.toList with
  | none =>
    refine wpAny_genexprCodeX hcode (cd.code hPs ht) (cd.tab hPs) hf fun c' h' tk hx hge hlt hco' _ htab' _ => ?_
    obtain ⟨o1, vs, f1, tf, fl, tg, inF, tx, tt, op, _, _, _, _, _, _, _, _, _, htr, _⟩ := hco'
    exact cont _ h' tk _ _ hx (Nat.le_trans hge (Nat.le_of_lt hlt)) htab'.2 rfl htr
  | some cv =>
    refine wpAny_genexprCode_hit hcode (cd.code hPs ht) hf ?_
    exact cont cv s2.heap s2.toks ps #[] (Heap.ExtBut.refl _ _) (Nat.le_refl _) hPs (by simp) ht
end
end Kg

/-! defs that are called where no repr is under way -/
namespace Kf
open PySem PySem.Spec PyProof.Rows L2 LamX
/-- no repr is under way -/
abbrev Still (A : Around) : Prop := A.guards = some []
/-- a def's promise, called where no repr is under way -/
structure FnG (P : Program) (w : World) (K : PySem.W.Frag) (mg : Str → Option Value) (base : Heap) (CX : CXT) (k : Nat) (f : Addr) (fd : FuncData) (ps : List Str) (sp : Sp) : Prop where
  cnt : ∀ vs H Q E, sp vs H Q E → vs.length = ps.length
  go : ∀ (A : Around) (o : List Env) (s : Shared) (H : Hp) (r : Args) (us : List Value) (vs : List V) (Q : VK) (E : XK), Still A → Room k A → Env0 P w K mg base A o s H → BindsTo s fd r (ps.zip us) → Vals vs us → sp vs H Q E →
    codeAny (model P w) A (.call (.ref f) r) (CR CX o P w H s Q E) s
section
variable {P : Program} {w : World} {K : PySem.W.Frag} {mg : Str → Option Value} {base : Heap} {CX : CXT}
theorem FnG.of {k : Nat} {f : Addr} {fd : FuncData} {ps : List Str} {sp : Sp} (F : FnOk P w K mg base CX k f fd ps sp) : FnG P w K mg base CX k f fd ps sp :=
  ⟨F.len, fun A o s H r us vs Q E _ => F.run A o s H r us vs Q E⟩
theorem FnG.up {j k : Nat} {f : Addr} {fd : FuncData} {ps : List Str} {sp : Sp} (F : FnG P w K mg base CX j f fd ps sp) (h : j ≤ k) : FnG P w K mg base CX k f fd ps sp :=
  ⟨F.cnt, fun A o s H r us vs Q E g hr => F.go A o s H r us vs Q E g (hr.mono h)⟩
/-- a def by its body -/
theorem fnG_of {k : Nat} {f : Addr} {nm ql : Str} {prm : Arguments} {bd : List Stmt} {sco : Scope} {dV kV doc pm cdv ct oc : Value} {an od : Option Addr} {sl : Array (Option Value)} {N ps : List Str} {sp : Sp}
    (at' : K.lookup f = some ⟨oc, od, .func (PySem.W.fnOf nm ql prm bd sco dV kV doc pm an cdv ct), sl⟩) (hc : PySem.W.codeIn K cdv ql = true) (S : FnScope N ps sco) (cnt : ∀ vs H Q E, sp vs H Q E → vs.length = ps.length)
    (body : ∀ (A : Around) (o : List Env) (s : Shared) (H : Hp) (vs : List V) (Q : VK) (E : XK), Still A → Room k (A.deeper (envOfC ql sco s.heap.objs.size f cdv)) → sp vs H Q E →
      ∃ t, PSs (cxOf CX P w K mg base N ql sco f cdv A o s H E) bd t ∧ t { nx := fun _ G => Q .non G, rt := Q } (start N vs) H) : FnG P w K mg base CX (k + 1) f (PySem.W.fnOf nm ql prm bd sco dV kV doc pm an cdv ct) ps sp where
  cnt := cnt
  go := by
    intro A o s H r us vs Q E still room e0 binds vals hsp
    have hold := fun b u (z : base.get? b = some u) => (e0.bs b u z).1
    have kx := e0.mod.kin.keeps hold
    have par : ∀ z ∈ ps.zip us, sco.names.lookup z.1 = some .local ∨ (sco.names.lookup z.1 = some .cell ∧ ((cellsFrom (s.heap.objs.size + 1) sco.names []).lookup z.1).isSome = true) := by
      intro z hz
      have hm : z.1 ∈ ps := (List.of_mem_zip (a := z.1) (b := z.2) hz).1
      exact (S.par z.1 hm).imp id fun q => ⟨q, PySem.W.cellsFrom_some _ _ _ (.inl q)⟩
    refine codeAny_call_function room.depth (kx _ _ at') rfl S.co S.gen rfl (PySem.W.codeRec_of kx hc) (binds _ _ _ _ (wpAny_newFunctionEnv_cells S.kind par ?_))
    rintro env rfl s1 x
    refine ⟨(e0.mod.nolimit.keeps hold).keeps x.toInCall.keep, codeAny_func ?_⟩
    obtain ⟨t, ht, hq⟩ := body A o s H vs Q E still (room.deeper _) hsp
    refine wpAny_mono (ht.run [] s1 (start N vs) H _ (inv_start S room.hd e0 (cnt _ _ _ _ hsp) vals x) hq) ?_ (fun _ _ z => z)
    intro fl s2 z
    match fl, z with
    | .ret u, ⟨v, _, G, J, rv, q⟩ => exact ⟨v, G, J.os, J.bare, J.base, J.hok, rv, q⟩
    | .next, ⟨_, G, J, q⟩ => exact ⟨V.non, G, J.os, J.bare, J.base, J.hok, rfl, q⟩
    | .brk, ⟨_, _, _, q⟩ => exact q.elim
    | .cont, ⟨_, _, _, q⟩ => exact q.elim
/-- a def of the text that lets nothing out -/
theorem okG {x ql : Str} {st : Stmt} {f : Addr} {fd : FuncData} {N ps : List Str} {k : Nat} {sp : Sp} (F : Fun K x ql st f fd) (S : FnScope N ps (defScope st)) (cnt : ∀ vs H Q E, sp vs H Q E → vs.length = ps.length)
    (body : ∀ (cdv : Value) (A : Around) (o : List Env) (s : Shared) (H : Hp) (vs : List V) (Q : VK) (E : XK), Still A → Room k (A.deeper (envOfC ql (defScope st) s.heap.objs.size f cdv)) → sp vs H Q E →
      ∃ t, PSs (cxOf CX0 P w K mg base N ql (defScope st) f cdv A o s H E).nox (defBody st) t ∧ t { nx := fun _ G => Q .non G, rt := Q } (start N vs) H) : FnG P w K mg base CX0 (k + 1) f fd ps sp := by
  obtain ⟨oc, od, kV, doc, pm, an, cdv, ct, sl, rfl, hl, hc⟩ := F.ex
  exact fnG_of hl hc S cnt fun A o s H vs Q E g hr h => (body cdv A o s H vs Q E g hr h).imp fun t z => ⟨z.1.nox, z.2⟩
end
section
variable {X : Cx} {CX : CXT} {k : Nat} {f : Addr} {fd : FuncData} {ps : List Str} {sp : Sp} {dvs : List V} {ds : List Value} {E : XK} {x : Str} {p pos : Pos} {e : Expr} {es : List Expr} {t : TA}
theorem goG {pins : List (Addr × Obj)} {σ : L2.St} {H : Hp} {s : Shared} {Q : VK} {us : List Value} {vs : List V} (F : FnG X.prog X.w X.K X.mg X.base CX k f fd ps sp) (g : Still X.A) (hr : Room k X.A) (hb : Binds X.K fd ps ds) (hd : Vals dvs ds) (hx : Passes CX X E) (I : Inv X pins σ H s) (rv : Vals vs us)
    (h : sp (vs ++ dvs) H Q E) : wpAny (model X.prog X.w) X.A (call (.ref f) us) (EP X pins σ Q) X.xe s := by
  have both := rv.append hd
  have n : (us ++ ds).length = ps.length := both.length.symm.trans (F.cnt _ _ _ _ h)
  refine wpAny_call (codeAny_mono (F.go X.A X.stack s H ⟨us, []⟩ _ _ Q E g hr I.env0 (hb s us I.kIn n) both h) ?_)
  intro r s2 z
  match r, z with
  | .error u, z => exact hx pins σ H s u s2 I z
  | .ok (.ret u), z => exact I.after z
  | .ok .next, z => exact z.elim
  | .ok .brk, z => exact z.elim
  | .ok .cont, z => exact z.elim
/-- f(e, ..) -/
theorem pe_callG (F : FnG X.prog X.w X.K X.mg X.base CX k f fd ps sp) (g : Still X.A) (hr : Room k X.A) (hg : Gl X x) (hm : X.mg x = some (.ref f)) (hk : PySem.W.keepIn X.K (.ref f) = true) (hb : Binds X.K fd ps ds) (hd : Vals dvs ds) (hx : Passes CX X E) (ha : PA X (e :: es) t)
    (hn : (x == ("__debug__" : Str)) = false := by decide) (h1 : starEach (e :: es) X.env = (false, eval e X.env) :: starEach es X.env := by rfl) (h2 : (backTo pos (starEach es X.env)).any (·.1) = false := by rfl) : PE X (.Call (.Name x p) (e :: es) [] pos) (tCall sp dvs E t) := by
  constructor
  intro pins s σ H Q I h
  refine wpAny_Call_Name_kw (ld_glob I hg hm (PySem.W.callWith_K (h₀ := X.base) I.ok.mod.kin hk (thn (ha.run pos pins s σ H _ I h) ?_) h1 h2) hn)
  rintro us s2 ⟨vs, G, J, rv, q⟩
  exact ⟨J.kIn, goG F g hr hb hd hx J rv q⟩
end
end Kf

/-! repr of data -/
namespace Kf
open PySem PySem.Spec PyProof.Rows L2
/-- data that shows as it is, of at most so many in one another -/
structure Shows (n : Nat) (d : PyData) : Prop where
  ok : d.showable = true
  nd : d.hasDict = false
  dp : d.depth ≤ n
  sz : d.shown.length ≤ sizeLine
def rShow (K : PySem.W.Frag) (n : Nat) : List V → Hp → VK → Prop := fun xs H Q => ∃ (a : Addr) (d : PyData), xs = [.ref a] ∧ Dp K H (.ref a) d ∧ Shows n d ∧ Q (.str d.shown) H
theorem call_show {X : Cx} {n : Nat} (g : Still X.A) (hu : X.A.units + (n + 1) < cLine) : CallR X (.builtin "repr") (rShow X.K n) := by
  intro pins s σ H xs us Q I r h
  obtain ⟨a, d, rfl, hd, sh, q⟩ := h
  rw [Vals.ref1 r]
  obtain ⟨as, rd⟩ := Dp.reads I d _ (.ref a) hd rfl
  exact repr_of_reads' rd sh.ok (PyData.noDict_hsm sh.nd) g (by have := sh.dp; omega) (fun _ _ e => e) (fun h' u tk hk => ⟨.str d.shown, H, I.kept hk, ⟨u, rfl⟩, q⟩) sh.sz
end Kf

/-! things of anything: none, truths, numbers, texts, tuples, lists, the empty dict -/
namespace Kv
open PySem PySem.Spec PyProof.Rows L2 Kf
inductive Dt where
  | non
  | bl (b : Bool)
  | int (i : Int)
  | str (x : Str)
  | tup (xs : List Dt)
  | lst (xs : List Dt)
  | emp
mutual
/-- the thing stands at v; its lists and dicts at places N -/
inductive Dd (N : Addr → Prop) (H : Hp) : Dt → V → Prop
  | non : Dd N H .non .non
  | bl (b : Bool) : Dd N H (.bl b) (.bl b)
  | int (i : Int) : Dd N H (.int i) (.int i)
  | str (x : Str) : Dd N H (.str x) (.str x)
  | tup {a : Addr} {xs : List Dt} {vs : List V} : H a = some (.tup vs) → DdL N H xs vs → Dd N H (.tup xs) (.ref a)
  | lst {a : Addr} {xs : List Dt} {vs : List V} : N a → H a = some (.lst vs) → DdL N H xs vs → Dd N H (.lst xs) (.ref a)
  | emp {a : Addr} : N a → H a = some (.dK []) → Dd N H .emp (.ref a)
inductive DdL (N : Addr → Prop) (H : Hp) : List Dt → List V → Prop
  | nil : DdL N H [] []
  | cons {x : Dt} {xs : List Dt} {v : V} {vs : List V} : Dd N H x v → DdL N H xs vs → DdL N H (x :: xs) (v :: vs)
end
/-- what stood of tuples, and of lists and dicts at N, stands -/
structure Kn (N : Addr → Prop) (H G : Hp) : Prop where
  tup : ∀ b xs, H b = some (.tup xs) → G b = some (.tup xs)
  lst : ∀ b xs, N b → H b = some (.lst xs) → G b = some (.lst xs)
  dic : ∀ b xs, N b → H b = some (.dK xs) → G b = some (.dK xs)
theorem Kn.of {N : Addr → Prop} {H G : Hp} (s : Same H G) : Kn N H G := ⟨fun b _ e => s b _ e, fun b _ _ e => s b _ e, fun b _ _ e => s b _ e⟩
theorem Kn.trans {N : Addr → Prop} {H G F : Hp} (a : Kn N H G) (b : Kn N G F) : Kn N H F := ⟨fun x _ e => b.tup x _ (a.tup x _ e), fun x _ n e => b.lst x _ n (a.lst x _ n e), fun x _ n e => b.dic x _ n (a.dic x _ n e)⟩
theorem Kn.rfl {N : Addr → Prop} {H : Hp} : Kn N H H := ⟨fun _ _ e => e, fun _ _ _ e => e, fun _ _ _ e => e⟩
theorem Kn.sub {N M : Addr → Prop} {H G : Hp} (k : Kn N H G) (h : ∀ b, M b → N b) : Kn M H G := ⟨k.tup, fun b xs n e => k.lst b xs (h b n) e, fun b xs n e => k.dic b xs (h b n) e⟩
/-- another list, dict or the like is put at p -/
theorem Kn.put {N : Addr → Prop} {H G : Hp} {p : Addr} {o : HO} (k : Kn N H G) (n : ¬ N p) (h : ∀ xs, H p ≠ some (.tup xs)) : Kn N H (upd G p o) := by
  refine ⟨fun b xs e => ?_, fun b u hb e => ?_, fun b u hb e => ?_⟩
  · rw [upd_ne (fun z => h xs (by rw [← z]; exact e))]
    exact k.tup b xs e
  · rw [upd_ne (fun z => n (by rw [← z]; exact hb))]
    exact k.lst b u hb e
  · rw [upd_ne (fun z => n (by rw [← z]; exact hb))]
    exact k.dic b u hb e
/-- what was free is put at p -/
theorem Kn.new {N : Addr → Prop} {H G : Hp} {p : Addr} {o : HO} (k : Kn N H G) (h : H p = none) : Kn N H (upd G p o) := by
  refine ⟨fun b xs e => ?_, fun b u hb e => ?_, fun b u hb e => ?_⟩
  · rw [upd_ne (ne_of_none e h)]
    exact k.tup b xs e
  · rw [upd_ne (ne_of_none e h)]
    exact k.lst b u hb e
  · rw [upd_ne (ne_of_none e h)]
    exact k.dic b u hb e
mutual
theorem Dd.kn {N : Addr → Prop} {H G : Hp} (k : Kn N H G) : ∀ {x : Dt} {v : V}, Dd N H x v → Dd N G x v
  | _, _, .non => .non
  | _, _, .bl b => .bl b
  | _, _, .int i => .int i
  | _, _, .str x => .str x
  | _, _, .tup h t => .tup (k.tup _ _ h) (t.kn k)
  | _, _, .lst n h t => .lst n (k.lst _ _ n h) (t.kn k)
  | _, _, .emp n h => .emp n (k.dic _ _ n h)
theorem DdL.kn {N : Addr → Prop} {H G : Hp} (k : Kn N H G) : ∀ {xs : List Dt} {vs : List V}, DdL N H xs vs → DdL N G xs vs
  | _, _, .nil => .nil
  | _, _, .cons h t => .cons (h.kn k) (t.kn k)
end
mutual
/-- at fewer, or other places, where the heap has nothing elsewhere -/
theorem Dd.at {N M : Addr → Prop} {H : Hp} (k : ∀ b u, N b → H b = some u → M b) : ∀ {x : Dt} {v : V}, Dd N H x v → Dd M H x v
  | _, _, .non => .non
  | _, _, .bl b => .bl b
  | _, _, .int i => .int i
  | _, _, .str x => .str x
  | _, _, .tup h t => .tup h (t.at k)
  | _, _, .lst n h t => .lst (k _ _ n h) h (t.at k)
  | _, _, .emp n h => .emp (k _ _ n h) h
theorem DdL.at {N M : Addr → Prop} {H : Hp} (k : ∀ b u, N b → H b = some u → M b) : ∀ {xs : List Dt} {vs : List V}, DdL N H xs vs → DdL M H xs vs
  | _, _, .nil => .nil
  | _, _, .cons h t => .cons (h.at k) (t.at k)
end
/-- at any places -/
abbrev Any : Addr → Prop := fun _ => True
theorem Dd.any {N : Addr → Prop} {H : Hp} {x : Dt} {v : V} (h : Dd N H x v) : Dd Any H x v := h.at fun _ _ _ _ => trivial
theorem DdL.any {N : Addr → Prop} {H : Hp} {x : List Dt} {v : List V} (h : DdL N H x v) : DdL Any H x v := h.at fun _ _ _ _ => trivial
theorem Dd.same {N : Addr → Prop} {H G : Hp} {x : Dt} {v : V} (h : Dd N H x v) (s : Same H G) : Dd N G x v := h.kn (.of s)
theorem DdL.same {N : Addr → Prop} {H G : Hp} {x : List Dt} {v : List V} (h : DdL N H x v) (s : Same H G) : DdL N G x v := h.kn (.of s)
section
variable {N : Addr → Prop} {H : Hp}
theorem DdL.len : ∀ {xs : List Dt} {vs : List V}, DdL N H xs vs → xs.length = vs.length
  | _, _, .nil => rfl
  | _, _, .cons _ t => congrArg (· + 1) t.len
theorem DdL.app : ∀ {xs ys : List Dt} {vs ws : List V}, DdL N H xs vs → DdL N H ys ws → DdL N H (xs ++ ys) (vs ++ ws)
  | _, _, _, _, .nil, h => h
  | _, _, _, _, .cons h t, k => .cons h (t.app k)
theorem DdL.get : ∀ {xs : List Dt} {vs : List V} {i : Nat} {v : V}, DdL N H xs vs → vs[i]? = some v → ∃ x, xs[i]? = some x ∧ Dd N H x v
  | _, _, i, v, .nil, e => by simp at e
  | _, _, 0, v, .cons (x := x) (v := w) h t, e => ⟨x, rfl, by rw [← show w = v from Option.some.inj e]; exact h⟩
  | _, _, i + 1, v, .cons h t, e => DdL.get (i := i) t e
theorem DdL.get' : ∀ {xs : List Dt} {vs : List V} {i : Nat} {x : Dt}, DdL N H xs vs → xs[i]? = some x → ∃ v, vs[i]? = some v ∧ Dd N H x v
  | _, _, i, v, .nil, e => by simp at e
  | _, _, 0, v, .cons (x := w) (v := y) h t, e => ⟨y, rfl, by rw [← show w = v from Option.some.inj e]; exact h⟩
  | _, _, i + 1, v, .cons h t, e => DdL.get' (i := i) t e
theorem DdL.drop : ∀ {xs : List Dt} {vs : List V} (n : Nat), DdL N H xs vs → DdL N H (xs.drop n) (vs.drop n)
  | _, _, 0, h => h
  | _, _, n + 1, .nil => .nil
  | _, _, n + 1, .cons _ t => t.drop n
theorem DdL.take : ∀ {xs : List Dt} {vs : List V} (n : Nat), DdL N H xs vs → DdL N H (xs.take n) (vs.take n)
  | _, _, 0, h => .nil
  | _, _, n + 1, .nil => .nil
  | _, _, n + 1, .cons h t => .cons h (t.take n)
theorem DdL.rev : ∀ {xs : List Dt} {vs : List V}, DdL N H xs vs → DdL N H xs.reverse vs.reverse
  | _, _, .nil => .nil
  | _, _, .cons (x := x) (xs := xs) (v := v) (vs := vs) h t => by
    rw [List.reverse_cons, List.reverse_cons]
    exact t.rev.app (.cons h .nil)
theorem DdL.last : ∀ {xs : List Dt} {vs : List V}, DdL N H xs vs → vs ≠ [] → ∃ ys y ws w, xs = ys ++ [y] ∧ vs = ws ++ [w] ∧ DdL N H ys ws ∧ Dd N H y w
  | _, _, .nil, n => absurd rfl n
  | _, _, .cons (x := x) (v := v) h .nil, _ => ⟨[], x, [], v, rfl, rfl, .nil, h⟩
  | _, _, .cons (x := x) (v := v) h (.cons h' t'), _ => by
    obtain ⟨ys, y, ws, w, e1, e2, k, r⟩ := DdL.last (.cons h' t') (by simp)
    exact ⟨x :: ys, y, v :: ws, w, by rw [e1]; rfl, by rw [e2]; rfl, .cons h k, r⟩
theorem DdL.strs : ∀ (xs : List Str), DdL N H (xs.map Dt.str) (xs.map V.str)
  | [] => .nil
  | x :: xs => .cons (.str x) (DdL.strs xs)
theorem DdL.ints : ∀ (xs : List Int), DdL N H (xs.map Dt.int) (xs.map V.int)
  | [] => .nil
  | x :: xs => .cons (.int x) (DdL.ints xs)
end
/-! their classes -/
def Dt.cls : Dt → String
  | .non => "NoneType"
  | .bl _ => "bool"
  | .int _ => "int"
  | .str _ => "str"
  | .tup _ => "tuple"
  | .lst _ => "list"
  | .emp => "dict"
theorem Dd.ty {K : PySem.W.Frag} {N : Addr → Prop} {H : Hp} {x : Dt} {v : V} (h : Dd N H x v) : TyX K H v (.type x.cls) := by
  cases h with
  | non => exact .base .non
  | bl b => exact .base (.bl b)
  | int i => exact .base (.int i)
  | str x => exact .base (.str x)
  | tup h _ => exact .base (.tup h)
  | lst _ h _ => exact .base (.lst h)
  | emp _ h => exact .base (.dK h)
def Dt.isTup : Dt → Bool
  | .tup _ => true
  | _ => false
def Dt.isStr : Dt → Bool
  | .str _ => true
  | _ => false
def Dt.isBl : Dt → Bool
  | .bl _ => true
  | _ => false
def Dt.isInt : Dt → Bool
  | .bl _ => true
  | .int _ => true
  | _ => false
def Dt.isLst : Dt → Bool
  | .lst _ => true
  | _ => false
/-- isinstance of such a thing: the answers -/
theorem kTup (K : PySem.W.Frag) : ∀ x : Dt, PySem.W.kitOne K (.type x.cls) (.type "tuple") = some x.isTup := by
  intro x
  cases x <;> (refine kit_ty ?_; simp only [Dt.cls, Dt.isTup]; decide +kernel)
theorem kStr (K : PySem.W.Frag) : ∀ x : Dt, PySem.W.kitOne K (.type x.cls) (.type "str") = some x.isStr := by
  intro x
  cases x <;> (refine kit_ty ?_; simp only [Dt.cls, Dt.isStr]; decide +kernel)
theorem kBl (K : PySem.W.Frag) : ∀ x : Dt, PySem.W.kitOne K (.type x.cls) (.type "bool") = some x.isBl := by
  intro x
  cases x <;> (refine kit_ty ?_; simp only [Dt.cls, Dt.isBl]; decide +kernel)
theorem kInt (K : PySem.W.Frag) : ∀ x : Dt, PySem.W.kitOne K (.type x.cls) (.type "int") = some x.isInt := by
  intro x
  cases x <;> (refine kit_ty ?_; simp only [Dt.cls, Dt.isInt]; decide +kernel)
theorem kLst (K : PySem.W.Frag) : ∀ x : Dt, PySem.W.kitOne K (.type x.cls) (.type "list") = some x.isLst := by
  intro x
  cases x <;> (refine kit_ty ?_; simp only [Dt.cls, Dt.isLst]; decide +kernel)
/-! as data, shown -/
mutual
def Dt.toP : Dt → PyData
  | .non => .none
  | .bl b => .bool b
  | .int i => .int i
  | .str x => .str x
  | .tup xs => .tuple (Dt.toPs xs)
  | .lst xs => .list (Dt.toPs xs)
  | .emp => .dict []
def Dt.toPs : List Dt → List PyData
  | [] => []
  | x :: xs => x.toP :: Dt.toPs xs
end
section
variable {X : Cx} {pins : List (Addr × Obj)} {σ : L2.St} {H : Hp} {s : Shared} {N : Addr → Prop}
/-- the empty dict, as an object -/
theorem emp_obj (I : Inv X pins σ H s) {a : Addr} (h : H a = some (.dK [])) : ∃ o n, s.heap.get? a = some o ∧ o.cls = .type "dict" ∧ o.data = .dict #[] n ∧ (a == sysModules) = false := by
  obtain ⟨_, low, vs, kv, o, es, ep, ho, hx, hd, _, pr, _⟩ := dk_of I.hok h
  cases kv
  have ee : es = #[] := by
    obtain ⟨l⟩ := es
    cases l with
    | nil => rfl
    | cons e r => cases pr
  subst ee
  exact ⟨o, ep, ho, hx.1, hd, low⟩
mutual
theorem Dd.reads (I : Inv X pins σ H s) : ∀ {x : Dt} {v : V}, Dd N H x v → ∀ {u : Value}, RelV v u → ∃ as, Reads s.heap u x.toP as
  | _, _, .non, _, r => by
    cases r
    exact ⟨_, .none⟩
  | _, _, .bl b, _, r => by
    cases r
    exact ⟨_, .bool b⟩
  | _, _, .int i, _, r => by
    obtain ⟨t, rfl⟩ := r
    exact ⟨_, .int i t⟩
  | _, _, .str x, _, r => by
    obtain ⟨t, rfl⟩ := r
    exact ⟨_, .str x t⟩
  | _, _, .tup h t, _, r => by
    cases r
    obtain ⟨its, rv, ⟨o, ho, hc, n, hd⟩, _⟩ := I.tuple (SqT.of h)
    obtain ⟨as, ra⟩ := t.reads I rv
    exact ⟨_, .tuple ho hc hd ra⟩
  | _, _, .lst _ h t, _, r => by
    cases r
    obtain ⟨its, rv, ⟨o, n, ho, hc, _, hd⟩, _⟩ := I.list (SqL.of h)
    obtain ⟨as, ra⟩ := t.reads I rv
    exact ⟨_, .list ho hc hd ra⟩
  | _, _, .emp _ h, _, r => by
    cases r
    obtain ⟨o, n, ho, hc, hd, _⟩ := emp_obj I h
    exact ⟨_, .dict (kvs := []) ho hc hd .nil .nil⟩
theorem DdL.reads (I : Inv X pins σ H s) : ∀ {xs : List Dt} {vs : List V}, DdL N H xs vs → ∀ {us : List Value}, Vals vs us → ∃ as, ReadsAll s.heap us (Dt.toPs xs) as
  | _, _, .nil, _, r => by
    cases r
    exact ⟨_, .nil⟩
  | _, _, .cons h t, _, r => by
    cases r with
    | cons r1 r2 =>
      obtain ⟨as, ra⟩ := h.reads I r1
      obtain ⟨bs, rb⟩ := t.reads I r2
      exact ⟨_, .cons ra rb⟩
end
theorem shownAll_le {xs : List PyData} {n : Nat} (h : ∀ t ∈ PyData.shownAll xs, t.length ≤ n) : ∀ t ∈ PyData.shownAll xs, t.length ≤ n := h
mutual
theorem Dd.reprK (I : Inv X pins σ H s) : ∀ {x : Dt} {v : V}, Dd N H x v → ∀ {u : Value}, RelV v u → x.toP.showable = true → x.toP.shown.length ≤ sizeLine → ∃ bs, ReadAtMost s.heap x.toP.depth bs ∧ ReprK X.prog X.w bs s.heap x.toP.depth u x.toP.shown
  | _, _, .non, _, r, _, _ => by
    cases r
    exact ⟨[], (fun _ h => nomatch h), by simp only [Dt.toP, PyData.shown]; exact .of_is ReprIs.none _ _ _⟩
  | _, _, .bl b, _, r, _, _ => by
    cases r
    exact ⟨[], (fun _ h => nomatch h), by simp only [Dt.toP, PyData.shown]; exact .of_is (ReprIs.bool b) _ _ _⟩
  | _, _, .int i, _, r, hs, _ => by
    obtain ⟨t, rfl⟩ := r
    exact ⟨[], (fun _ h => nomatch h), by simp only [Dt.toP, PyData.shown]; exact .of_is (ReprIs.int t (by simpa [Dt.toP, PyData.showable] using hs)) _ _ _⟩
  | _, _, .str x, _, r, _, hz => by
    obtain ⟨t, rfl⟩ := r
    exact ⟨[], (fun _ h => nomatch h), by simp only [Dt.toP, PyData.shown]; exact .of_is (ReprIs.str x t (by simpa only [Dt.toP, PyData.shown] using hz)) _ _ _⟩
  | _, _, .tup (a := a) (xs := xs) h t, _, r, hs, hz => by
    cases r
    obtain ⟨its, rv, ⟨o, ho, hc, n, hd⟩, _⟩ := I.tuple (SqT.of h)
    have hz' : (tupleText (PyData.shownAll (Dt.toPs xs))).length ≤ sizeLine := by simpa only [Dt.toP, PyData.shown] using hz
    obtain ⟨as, ra⟩ := t.reads I rv
    obtain ⟨bs, hb, hk⟩ := t.reprK I rv (by simpa [Dt.toP, PyData.showable] using hs) (fun t ht => Nat.le_trans (tupleText_mem_le ht) hz')
    have rd : Reads s.heap (.ref a) (.tuple (Dt.toPs xs)) _ := .tuple ho hc hd ra
    have na : a ∉ bs := not_mem_of_deeper rd (by simp only [PyData.depth]; omega) hb
    have le : PyData.depthAll (Dt.toPs xs) ≤ (PyData.tuple (Dt.toPs xs)).depth := by simp only [PyData.depth]; omega
    exact ⟨a :: bs, ReadAtMost.cons rd le hb, by simp only [Dt.toP, PyData.depth, PyData.shown]; exact ReprK.tuple ho hc hd na hk⟩
  | _, _, .lst (a := a) (xs := xs) (vs := vs) _ h t, _, r, hs, hz => by
    cases r
    obtain ⟨its, rv, ⟨o, n, ho, hc, _, hd⟩, _⟩ := I.list (SqL.of h)
    have hz' : (listText (PyData.shownAll (Dt.toPs xs))).length ≤ sizeLine := by simpa only [Dt.toP, PyData.shown] using hz
    obtain ⟨as, ra⟩ := t.reads I rv
    obtain ⟨bs, hb, hk⟩ := t.reprK I rv (by simpa [Dt.toP, PyData.showable] using hs) (fun t ht => Nat.le_trans (listText_mem_le ht) hz')
    have rd : Reads s.heap (.ref a) (.list (Dt.toPs xs)) _ := .list ho hc hd ra
    have na : a ∉ bs := not_mem_of_deeper rd (by simp only [PyData.depth]; omega) hb
    have le : PyData.depthAll (Dt.toPs xs) ≤ (PyData.list (Dt.toPs xs)).depth := by simp only [PyData.depth]; omega
    refine ⟨a :: bs, ReadAtMost.cons rd le hb, ?_⟩
    simp only [Dt.toP, PyData.depth, PyData.shown]
    cases its with
    | nil =>
      cases rv
      cases t
      simp only [Dt.toPs, PyData.shownAll, listText_nil]
      exact ReprK.listEmpty ho hc hd
    | cons y l => exact ReprK.list ho hc hd na (by simpa using hk.length_eq) (fun i y e => hk.item i y (by simpa using e))
  | _, _, .emp (a := a) _ h, _, r, _, hz => by
    cases r
    obtain ⟨o, n, ho, hc, hd, low⟩ := emp_obj I h
    have rd : Reads s.heap (.ref a) (.dict []) _ := .dict (kvs := []) ho hc hd .nil .nil
    refine ⟨a :: [], ReadAtMost.cons (n := 0) rd (Nat.zero_le _) (fun _ h => nomatch h), ?_⟩
    simp only [Dt.toP, PyData.depth, PyData.shown, PyData.shownKv_eq]
    exact ReprK.dict ho hc hd low (by simp) .nil
theorem DdL.reprK (I : Inv X pins σ H s) : ∀ {xs : List Dt} {vs : List V}, DdL N H xs vs → ∀ {us : List Value}, Vals vs us → PyData.showableAll (Dt.toPs xs) = true → (∀ t ∈ PyData.shownAll (Dt.toPs xs), t.length ≤ sizeLine) →
    ∃ bs, ReadAtMost s.heap (PyData.depthAll (Dt.toPs xs)) bs ∧ ReprAllK X.prog X.w bs s.heap (PyData.depthAll (Dt.toPs xs)) us (PyData.shownAll (Dt.toPs xs))
  | _, _, .nil, _, r, _, _ => by
    cases r
    exact ⟨[], (fun _ h => nomatch h), .nil⟩
  | _, _, .cons (x := x) (xs := xs) h t, _, r, hs, hz => by
    cases r with
    | cons r1 r2 =>
      have hs' : x.toP.showable = true ∧ PyData.showableAll (Dt.toPs xs) = true := by simpa [Dt.toPs, PyData.showableAll] using hs
      obtain ⟨as, ha, ka⟩ := h.reprK I r1 hs'.1 (hz _ (by simp [Dt.toPs, PyData.shownAll]))
      obtain ⟨bs, hb, kb⟩ := t.reprK I r2 hs'.2 (fun t ht => hz _ (by simp [Dt.toPs, PyData.shownAll, ht]))
      have m1 : x.toP.depth ≤ PyData.depthAll (Dt.toPs (x :: xs)) := by simp only [Dt.toPs, PyData.depthAll]; omega
      have m2 : PyData.depthAll (Dt.toPs xs) ≤ PyData.depthAll (Dt.toPs (x :: xs)) := by simp only [Dt.toPs, PyData.depthAll]; omega
      refine ⟨as ++ bs, (ha.mono m1).append (hb.mono m2), ?_⟩
      simp only [Dt.toPs, PyData.shownAll]
      exact .cons ((ka.more fun b hb => List.mem_append_left _ hb).level_le m1) (kb.more_le (fun b hb => List.mem_append_right _ hb) m2)
end
/-- it is shown: within the bounds -/
structure Shw (n : Nat) (x : Dt) : Prop where
  ok : x.toP.showable = true
  dp : x.toP.depth ≤ n
  sz : x.toP.shown.length ≤ sizeLine
def rShowU (n : Nat) : List V → Hp → VK → Prop := fun xs H Q => ∃ (v : V) (x : Dt), xs = [v] ∧ Dd Any H x v ∧ Shw n x ∧ Q (.str x.toP.shown) H
theorem call_showU {n : Nat} (g : Still X.A) (hu : X.A.units + (n + 1) < cLine) : CallR X (.builtin "repr") (rShowU n) := by
  intro pins s σ H xs us Q I r h
  obtain ⟨v, x, rfl, hd, sh, q⟩ := h
  cases r with
  | cons r1 r2 =>
    cases r2
    have done : ∀ (h' : Heap) (u tk : Tok), (∀ b o, s.heap.get? b = some o → h'.get? b = some o) → EP X pins σ Q (.str x.toP.shown u) { s with heap := h', toks := tk } := fun h' u tk hk => ⟨.str _, H, I.kept hk, ⟨u, rfl⟩, q⟩
    have dpx := sh.dp
    cases hd with
    | non =>
      cases r1
      exact PySem.P.repr_of_none (done s.heap _ _ fun _ _ e => e)
    | bl b =>
      cases r1
      exact PySem.P.repr_of_bool (by simpa only [Dt.toP, PyData.shown] using done s.heap _ _ fun _ _ e => e)
    | int i =>
      obtain ⟨t, rfl⟩ := r1
      exact PySem.P.repr_of_int (by simpa [Dt.toP, PyData.showable] using sh.ok) (by simpa only [Dt.toP, PyData.shown] using done s.heap _ _ fun _ _ e => e)
    | str y =>
      obtain ⟨t, rfl⟩ := r1
      exact PySem.P.repr_of_str (by simpa only [Dt.toP, PyData.shown] using done s.heap _ _ fun _ _ e => e) (by simpa only [Dt.toP, PyData.shown] using sh.sz)
    | tup h t =>
      rename_i a ys ws
      cases r1
      obtain ⟨its, rv, ⟨o, ho, hc, m, hd⟩, _⟩ := I.tuple (SqT.of h)
      have hz' : (tupleText (PyData.shownAll (Dt.toPs ys))).length ≤ sizeLine := by simpa only [Dt.toP, PyData.shown] using sh.sz
      obtain ⟨as, ra⟩ := t.reads I rv
      obtain ⟨bs, hb, hk⟩ := t.reprK I rv (by simpa [Dt.toP, PyData.showable] using sh.ok) (fun t ht => Nat.le_trans (tupleText_mem_le ht) hz')
      have rd : Reads s.heap (.ref a) (.tuple (Dt.toPs ys)) _ := .tuple ho hc hd ra
      have na : a ∉ bs := not_mem_of_deeper rd (by simp only [PyData.depth]; omega) hb
      have dp : PyData.depthAll (Dt.toPs ys) + 1 ≤ n := by simpa only [Dt.toP, PyData.depth, Nat.add_comm] using dpx
      exact call_repr_slot (by omega) ⟨o, ho, hc⟩ PySem.F.slot_tuple_repr (call_tuple_reprK ho hc hd na hk (A := X.A.in1) g (fun b _ => Clear.nil b) (by show X.A.units + 1 + _ < cLine; omega) (fun _ _ e => e) (fun h' u tk hk' => ⟨_, _, rfl, by simpa only [Dt.toP, PyData.shown] using done h' u tk hk'⟩) hz')
    | lst _ h t =>
      rename_i a ys ws _
      cases r1
      obtain ⟨its, rv, ⟨o, m, ho, hc, _, hd⟩, _⟩ := I.list (SqL.of h)
      have hz' : (listText (PyData.shownAll (Dt.toPs ys))).length ≤ sizeLine := by simpa only [Dt.toP, PyData.shown] using sh.sz
      obtain ⟨as, ra⟩ := t.reads I rv
      obtain ⟨bs, hb, hk⟩ := t.reprK I rv (by simpa [Dt.toP, PyData.showable] using sh.ok) (fun t ht => Nat.le_trans (listText_mem_le ht) hz')
      have rd : Reads s.heap (.ref a) (.list (Dt.toPs ys)) _ := .list ho hc hd ra
      have na : a ∉ bs := not_mem_of_deeper rd (by simp only [PyData.depth]; omega) hb
      have dp : PyData.depthAll (Dt.toPs ys) + 1 ≤ n := by simpa only [Dt.toP, PyData.depth, Nat.add_comm] using dpx
      cases its with
      | nil =>
        cases rv
        cases t
        exact call_repr_slot (by omega) ⟨o, ho, hc⟩ PySem.F.slot_list_repr.toG (call_list_repr_empty ⟨o, ho, hc⟩ ho hd ⟨_, _, rfl, by
          have z := done s.heap s.toks (s.toks + 1) fun _ _ e => e
          simp only [Dt.toP, Dt.toPs, PyData.shown, PyData.shownAll, listText_nil] at z
          exact z⟩)
      | cons y l =>
        exact call_repr_slot (by omega) ⟨o, ho, hc⟩ PySem.F.slot_list_repr.toG (call_list_reprK ho hc hd na (by simpa using hk.length_eq) (fun i y e => hk.item i y (by simpa using e)) (A := X.A.in1) g (fun b _ => Clear.nil b) (by show X.A.units + 1 + _ < cLine; omega) (fun _ _ e => e) (fun h' u tk hk' => ⟨_, _, rfl, by simpa only [Dt.toP, PyData.shown] using done h' u tk hk'⟩) hz')
    | emp _ h =>
      rename_i a _
      cases r1
      obtain ⟨o, m, ho, hc, hd, low⟩ := emp_obj I h
      have dp : 1 ≤ n := by simpa only [Dt.toP, PyData.depth, PyData.depthKv] using dpx
      exact call_repr_slot (by omega) ⟨o, ho, hc⟩ PySem.F.slot_dict_repr (call_dict_reprK (as := []) (d := 0) (ps := []) ho hc hd low (by simp) .nil (A := X.A.in1) g (fun b _ => Clear.nil b) (by show X.A.units + 1 + _ < cLine; omega) (fun _ _ e => e) (fun h' u tk hk' => ⟨_, _, rfl, by simpa only [Dt.toP, PyData.shown, PyData.shownKv] using done h' u tk hk'⟩) (by decide))
end
end Kv

namespace Kg
open PySem PySem.Spec PyProof.Rows L2 GxR
/-- a def whose code object is known -/
structure FunC (K : PySem.W.Frag) (x qual : Str) (st : Stmt) (f : Addr) (fd : FuncData) (c : Addr) : Prop where
  ex : ∃ (oc : Value) (od : Option Addr) (kV doc pm : Value) (an : Option Addr) (ct : Value) (osl : Array (Option Value)),
    fd = PySem.W.fnOf x qual (defArgs st) (defBody st) (defScope st) .none kV doc pm an (.ref c) ct ∧ K.lookup f = some ⟨oc, od, .func fd, osl⟩ ∧ PySem.W.codeIn K (.ref c) qual = true
section
variable {P : Program} {w : World} {K : PySem.W.Frag} {mg : Str → Option Value} {base : Heap}
theorem FunC.ok {x qual : Str} {st : Stmt} {f : Addr} {fd : FuncData} {c : Addr} {N ps : List Str} {k : Nat} {sp : Sp} (F : FunC K x qual st f fd c) (S : FnScope N ps (defScope st)) (len : ∀ vs H Q E, sp vs H Q E → vs.length = ps.length)
    (hbody : ∀ (A : Around) (outer : List Env) (s : Shared) (H : Hp) (vs : List V) (Q : VK) (E : XK), Room k (A.deeper (envOfC qual (defScope st) s.heap.objs.size f (.ref c))) → sp vs H Q E →
      ∃ t, PSs (cxOf CX0 P w K mg base N qual (defScope st) f (.ref c) A outer s H E).nox (defBody st) t ∧ t { nx := fun _ H' => Q .non H', rt := Q } (start N vs) H) : FnOk P w K mg base CX0 (k + 1) f fd ps sp := by
  obtain ⟨oc, od, kV, doc, pm, an, ct, osl, rfl, lk, hcd⟩ := F.ex
  refine fn_of lk hcd S len fun A outer s H vs Q E hr hsp => ?_
  obtain ⟨t, h, q⟩ := hbody A outer s H vs Q E hr hsp
  exact ⟨t, h.nox, q⟩
theorem funC_mk {x qual : Str} {st : Stmt} {f c : Addr} {oc : Value} {od an : Option Addr} {osl : Array (Option Value)} {kV doc pm ct : Value} (l : K.lookup f = some ⟨oc, od, .func (PySem.W.fnOf x qual (defArgs st) (defBody st) (defScope st) .none kV doc pm an (.ref c) ct), osl⟩)
    (h : PySem.W.codeIn K (.ref c) qual = true) : FunC K x qual st f (PySem.W.fnOf x qual (defArgs st) (defBody st) (defScope st) .none kV doc pm an (.ref c) ct) c := ⟨⟨oc, od, kV, doc, pm, an, ct, osl, rfl, l, h⟩⟩
end
def gxSB (N : List Str) (sc scope : Scope) (own : List Str) (caps : List (Str × Nat)) : Bool :=
  decide (scope.kind = .function) && !scope.isCoroutine && scope.names.all (fun y => !decide (y.2 = .cell)) && decide (scope.names.lookup (".0" : Str) = some NameKind.local) && decide ((own ++ caps.map (·.1)).Nodup) &&
  caps.all (fun p => decide (N[p.2]? = some p.1) && decide (scope.names.lookup p.1 = some .free)) && scope.names.all (fun y => !decide (y.2 = .free) || decide (sc.names.lookup y.1 = some .cell) || decide (sc.names.lookup y.1 = some .free)) && scope.names.all fun y => decide (scope.names.lookup y.1 = some y.2)
theorem gxS_by {N : List Str} {sc scope : Scope} {own : List Str} {caps : List (Str × Nat)} (h : gxSB N sc scope own caps = true) : GxS N sc scope own caps := by
  unfold gxSB at h
  simp only [Bool.and_eq_true, Bool.or_eq_true, Bool.not_eq_true', decide_eq_true_eq, decide_eq_false_iff_not, List.all_eq_true] at h
  obtain ⟨⟨⟨⟨⟨⟨⟨h1, h2⟩, h3⟩, h4⟩, h5⟩, h6⟩, h7⟩, h8⟩ := h
  refine ⟨h1, h2, h3, h4, h5, h6, fun y hy e => ?_, h8⟩
  rcases h7 y hy with (z | z) | z
  · exact absurd e z
  · exact .inl z
  · exact .inr z
/-! the tables of code objects -/
def TbS (T : List Addr) (H : Hp) : Prop := ∀ p ∈ T, TabG H p
/-- all but the tables stands; they are tables -/
def Sm (T : List Addr) (H G : Hp) : Prop := (∀ b u, b ∉ T → H b = some u → G b = some u) ∧ TbS T G
theorem TbS.same {T : List Addr} {H G : Hp} (t : TbS T H) (s : Same H G) : TbS T G := fun p hp => by
  obtain ⟨ps, h1, h2⟩ := t p hp
  exact ⟨ps, s _ _ h1, h2⟩
theorem Sm.refl {T : List Addr} {H : Hp} (t : TbS T H) : Sm T H H := ⟨fun _ _ _ e => e, t⟩
theorem Sm.of {T : List Addr} {H G : Hp} (s : Same H G) (t : TbS T H) : Sm T H G := ⟨fun b u _ e => s b u e, t.same s⟩
theorem Sm.trans {T : List Addr} {H G F : Hp} (a : Sm T H G) (b : Sm T G F) : Sm T H F := ⟨fun x u h e => b.1 x u h (a.1 x u h e), b.2⟩
theorem Sm.tab {T : List Addr} {H G : Hp} {p : Addr} (hp : p ∈ T) (t : TbS T H) (h : Tabbed p H G) : Sm T H G := by
  refine ⟨fun b u hb e => ?_, fun q hq => ?_⟩
  · rw [h.2 b (fun z => hb (by rw [z]; exact hp))]
    exact e
  · by_cases z : q = p
    · rw [z]
      exact h.1
    · obtain ⟨ps, h1, h2⟩ := t q hq
      exact ⟨ps, by rw [h.2 q z]; exact h1, h2⟩
theorem TbS.off {T : List Addr} {H : Hp} {b : Addr} {u : HO} (t : TbS T H) (e : H b = some u) (n : ∀ ps, u ≠ .tbl ps) : b ∉ T := fun hb => by
  obtain ⟨ps, h1, _⟩ := t b hb
  rw [e] at h1
  exact n ps (Option.some.inj h1)
theorem Sm.at {T : List Addr} {H G : Hp} (a : Sm T H G) (t : TbS T H) {b : Addr} {u : HO} (e : H b = some u) (n : ∀ ps, u ≠ .tbl ps) : G b = some u := a.1 b u (t.off e n) e
theorem Sm.free {T : List Addr} {H G : Hp} {p : Addr} (a : Sm T H G) (h : G p = none) : H p = none := by
  cases e : H p with
  | none => rfl
  | some u =>
    by_cases hp : p ∈ T
    · obtain ⟨ps, h1, _⟩ := a.2 p hp
      rw [h] at h1
      cases h1
    · rw [a.1 p u hp e] at h
      cases h
/-! all over a list, over a tuple -/
section
variable {K : PySem.W.Frag} {a : Addr} {xs : List V} {g : TG} {te : TE} {vs : List Nat} {σ0 : L2.St} {G : Hp} {Qe : Bool → Hp → Prop}
theorem all_list (Pv : Nat → Hp → Prop) (h0 : Pv 0 G) (hl : ∀ i H, i ≤ xs.length → Pv i H → SqL K H a xs)
    (hs : ∀ i x H, xs[i]? = some x → Pv i H → g x σ0 H fun σ2 H2 => wipe σ2 vs = σ0 ∧ te σ2 H2 fun y H4 => ∃ b, y = .bl b ∧ if b = true then Pv (i + 1) H4 else Qe false H4) (hd : ∀ H, Pv xs.length H → Qe true H) :
    ∃ W : Nat → Nat → Hp → Prop, (∃ m, W 0 m G) ∧ Turns (Itl K a) σ0 vs g te Qe W := by
  refine ⟨fun i m F => m = xs.length - i ∧ i ≤ xs.length ∧ Pv i F, ⟨_, rfl, Nat.zero_le _, h0⟩, fun i m F z => ?_⟩
  obtain ⟨rfl, hi, p⟩ := z
  have q := hl i F hi p
  by_cases lt : i < xs.length
  · refine .inr ⟨⟨xs, xs[i], q, List.getElem?_eq_getElem lt⟩, Pv (i + 1), fun F' p' => ⟨xs.length - (i + 1), by omega, rfl, lt, p'⟩, fun x F' y => ?_⟩
    obtain ⟨e, y⟩ := y
    subst e
    exact hs i x _ (y xs q) p
  · have e : i = xs.length := by omega
    subst e
    exact .inl ⟨⟨xs, q, Nat.le_refl _⟩, hd F p⟩
theorem all_tup (Pv : Nat → Hp → Prop) (h0 : Pv 0 G) (hl : ∀ i H, i ≤ xs.length → Pv i H → SqT K H a xs)
    (hs : ∀ i x H, xs[i]? = some x → Pv i H → g x σ0 H fun σ2 H2 => wipe σ2 vs = σ0 ∧ te σ2 H2 fun y H4 => ∃ b, y = .bl b ∧ if b = true then Pv (i + 1) H4 else Qe false H4) (hd : ∀ H, Pv xs.length H → Qe true H) :
    ∃ W : Nat → Nat → Hp → Prop, (∃ m, W 0 m G) ∧ Turns (Itt K a) σ0 vs g te Qe W := by
  refine ⟨fun i m F => m = xs.length - i ∧ i ≤ xs.length ∧ Pv i F, ⟨_, rfl, Nat.zero_le _, h0⟩, fun i m F z => ?_⟩
  obtain ⟨rfl, hi, p⟩ := z
  have q := hl i F hi p
  by_cases lt : i < xs.length
  · refine .inr ⟨⟨xs, xs[i], q, List.getElem?_eq_getElem lt⟩, Pv (i + 1), fun F' p' => ⟨xs.length - (i + 1), by omega, rfl, lt, p'⟩, fun x F' y => ?_⟩
    obtain ⟨e, y⟩ := y
    subst e
    exact hs i x _ (y xs q) p
  · have e : i = xs.length := by omega
    subst e
    exact .inl ⟨⟨xs, q, Nat.le_refl _⟩, hd F p⟩
/-- all over what walks -/
theorem all_it {J : It} {n : Nat} {I : Hp → Prop} {Y : Nat → Hp → V → Hp → Prop} (w : Walk J n I Y) (Pv : Nat → Hp → Prop) (h0 : Pv 0 G) (hl : ∀ i H, i ≤ n → Pv i H → I H)
    (hs : ∀ i x H H', i < n → Pv i H → Y i H x H' → g x σ0 H' fun σ2 H2 => wipe σ2 vs = σ0 ∧ te σ2 H2 fun y H4 => ∃ b, y = .bl b ∧ if b = true then Pv (i + 1) H4 else Qe false H4) (hd : ∀ H, Pv n H → Qe true H) :
    ∃ W : Nat → Nat → Hp → Prop, (∃ m, W 0 m G) ∧ Turns J σ0 vs g te Qe W := by
  refine ⟨fun i m F => m = n - i ∧ i ≤ n ∧ Pv i F, ⟨_, rfl, Nat.zero_le _, h0⟩, fun i m F z => ?_⟩
  obtain ⟨rfl, hi, p⟩ := z
  have q := hl i F hi p
  by_cases lt : i < n
  · exact .inr ⟨w.goes i F lt q, Pv (i + 1), fun F' p' => ⟨n - (i + 1), by omega, rfl, lt, p'⟩, fun x F' y => hs i x F F' lt p (w.yields i F x F' lt q y)⟩
  · have e : i = n := by omega
    subst e
    exact .inl ⟨w.stops F q, hd F p⟩
theorem Sm.kn {T : List Addr} {N : Addr → Prop} {H G : Hp} (a : Sm T H G) (t : TbS T H) : Kv.Kn N H G :=
  ⟨fun b xs e => a.at t e (fun ps z => by cases z), fun b xs _ e => a.at t e (fun ps z => by cases z), fun b xs _ e => a.at t e (fun ps z => by cases z)⟩
theorem Sm.new {T : List Addr} {H G : Hp} {p : Addr} {o : HO} (a : Sm T H G) (h : H p = none) (tb : TbS T H) : Sm T H (upd G p o) := by
  refine ⟨fun b u hb e => ?_, fun q hq => ?_⟩
  · rw [upd_ne (ne_of_none e h)]
    exact a.1 b u hb e
  · obtain ⟨ps, h1, h2⟩ := a.2 q hq
    obtain ⟨ps0, h10, _⟩ := tb q hq
    exact ⟨ps, by rw [upd_ne (ne_of_none h10 h)]; exact h1, h2⟩
end
end Kg

/-! further rules: == of tuples by texts, enumerate of a tuple, a text many times, a tuple turned about -/
namespace Kv
open PySem PySem.Spec PyProof.Rows L2 Kf
theorem vals_at : ∀ {xs : List V} {us : List Value} {i : Nat} (h : i < us.length), Vals xs us → ∃ x, xs[i]? = some x ∧ RelV x us[i]
  | _, _, i, h, .nil => absurd h (Nat.not_lt_zero _)
  | _, _, 0, h, .cons r t => ⟨_, rfl, r⟩
  | _, _, i + 1, h, .cons r t => by
    obtain ⟨x, e, q⟩ := vals_at (i := i) (Nat.lt_of_succ_lt_succ h) t
    exact ⟨x, e, q⟩
/-- at places that both have stand texts -/
def BothTxt (xs ys : List V) : Prop := ∀ (i : Nat) (u v : V), xs[i]? = some u → ys[i]? = some v → ∃ a b : Str, u = .str a ∧ v = .str b
def rEqTT (K : PySem.W.Frag) : R2 := fun x y H Q => ∃ (a b : Addr) (xs ys : List V), x = .ref a ∧ y = .ref b ∧ SqT K H a xs ∧ SqT K H b ys ∧ BothTxt xs ys ∧ Q (.bl (decide (xs = ys))) H
theorem op_eqTT {X : Cx} (hu : X.A.units + 64 < cLine) : OpR X (compareOp .Eq) (rEqTT X.K) := by
  intro pins s σ H x y v u Q I rx ry h
  obtain ⟨a, b, xs, ys, rfl, rfl, ha, hb, bt, q⟩ := h
  cases rx
  cases ry
  obtain ⟨is, r1, ⟨o1, h1, c1, n1, d1⟩, _⟩ := I.tuple ha
  obtain ⟨js, r2, ⟨o2, h2, c2, n2, d2⟩, _⟩ := I.tuple hb
  have l1 := r1.length
  have l2 := r2.length
  refine PySem.SeqAt.eq_tupleAt (e := fun i => decide (xs[i]? = ys[i]?)) ⟨o1, h1, c1, n1, d1⟩ ⟨o2, h2, c2, n2, d2⟩ (by omega) (fun j j1 j2 => ?_) ?_
  · have j1' : j < is.length := by simpa using j1
    have j2' : j < js.length := by simpa using j2
    obtain ⟨p, ep, rp⟩ := vals_at j1' r1
    obtain ⟨p', ep', rp'⟩ := vals_at j2' r2
    obtain ⟨sa, sb, rfl, rfl⟩ := bt j p p' ep ep'
    obtain ⟨t1, e1⟩ := rp
    obtain ⟨t2, e2⟩ := rp'
    have z := PySem.SeqAt.EqAt.str_str (A := X.A.in1) (s := s) sa t1 sb t2
    simp only [List.getElem_toArray, e1, e2, ep, ep']
    have e : decide (some (V.str sa) = some (V.str sb)) = (sa == sb) := by
      by_cases c : sa = sb
      · subst c
        simp
      · have : ¬ some (V.str sa) = some (V.str sb) := fun z => c (V.str.inj (Option.some.inj z))
        rw [decide_eq_false this]
        exact (beq_eq_false_iff_ne.mpr c).symm
    rw [e]
    exact z
  · have e : ((List.range (min is.toArray.size js.toArray.size)).all (fun i => decide (xs[i]? = ys[i]?)) && is.toArray.size == js.toArray.size) = decide (xs = ys) := by
      rw [List.size_toArray, List.size_toArray, ← l1, ← l2]
      by_cases c : xs = ys
      · subst c
        simp
      · rw [decide_eq_false c]
        by_cases cl : xs.length = ys.length
        · rw [Bool.and_eq_false_iff]
          left
          rw [← Bool.not_eq_true, List.all_eq_true]
          intro all
          refine c (List.ext_getElem? fun i => ?_)
          by_cases hi : i < xs.length
          · exact of_decide_eq_true (all i (List.mem_range.mpr (by omega)))
          · rw [List.getElem?_eq_none (by omega), List.getElem?_eq_none (by omega)]
        · rw [Bool.and_eq_false_iff]
          right
          exact beq_eq_false_iff_ne.mpr cl
    rw [e]
    exact ⟨.bl _, H, I, rfl, q⟩
/-! a text many times -/
theorem fold_app : ∀ (l : List (Array Nat)) (acc : Array Nat), (l.foldl (· ++ ·) acc).toList = acc.toList ++ (l.map Array.toList).flatten
  | [], acc => by simp
  | x :: l, acc => by
    rw [List.foldl_cons, fold_app l]
    simp [Array.toList_append, List.append_assoc]
theorem mul_cps (z : Str) (n : Nat) : (∀ c ∈ (Txt.mul z (n : Int)).cps.toList, c ∈ z.cps.toList) ∧ (Txt.mul z (n : Int)).cps.toList.length ≤ z.cps.toList.length * n := by
  unfold Txt.mul
  by_cases h1 : (n : Int) < 1
  · rw [if_pos h1]
    exact ⟨fun c h => absurd h (by simp [Str.empty]), by simp [Str.empty]⟩
  rw [if_neg h1]
  by_cases h2 : ((n : Int) == 1 || z.length == 0) = true
  · rw [if_pos h2]
    exact ⟨fun c h => h, Nat.le_mul_of_pos_right _ (by omega)⟩
  rw [if_neg h2]
  show (∀ c ∈ ((List.replicate (n : Int).toNat z.cps).foldl (· ++ ·) #[]).toList, c ∈ z.cps.toList) ∧ ((List.replicate (n : Int).toNat z.cps).foldl (· ++ ·) #[]).toList.length ≤ _
  rw [fold_app, Int.toNat_natCast, List.map_replicate]
  refine ⟨fun c h => ?_, ?_⟩
  · have h' : c ∈ (List.replicate n z.cps.toList).flatten := by simpa using h
    obtain ⟨l, hl, hc⟩ := List.mem_flatten.mp h'
    rw [(List.mem_replicate.mp hl).2] at hc
    exact hc
  · have e : ((#[] : Array Nat).toList ++ (List.replicate n z.cps.toList).flatten).length = n * z.cps.toList.length := by simp
    rw [e, Nat.mul_comm]
    exact Nat.le_refl _
def rMulS : R2 := fun x y H Q => ∃ (z : Str) (n : Nat), x = .str z ∧ y = .int (n : Int) ∧ n ≤ 1000 ∧ z.length ≤ sizeLine ∧ z.length * n ≤ sizeLine ∧ Q (.str (Txt.mul z (n : Int))) H
theorem op_mulS {X : Cx} : OpR X (binaryOp .Mult) rMulS := by
  intro pins s σ H x y v u Q I rx ry h
  obtain ⟨z, n, rfl, rfl, hn, hz0, hz1, q⟩ := h
  have hz : z.length ≤ 16777216 := hz0
  obtain ⟨t1, rfl⟩ := rx
  obtain ⟨t2, rfl⟩ := ry
  refine SB.mul (x := z) (n := (n : Int)) ⟨?_, fun h1 _ => ?_, fun h1 _ => ?_⟩ fun t' k => ⟨.str _, H, I.tok _, ⟨t', rfl⟩, q⟩
  · have a : decide ((n : Int) < -(2 ^ 63 : Int)) = false := decide_eq_false (by omega)
    have b : decide ((n : Int) ≥ 2 ^ 63) = false := decide_eq_false (by omega)
    rw [a, b]
    rfl
  · have h0 : (0 : Int) < (n : Int) := by omega
    have h3 : (16777216 : Int) ≤ (2 ^ 63 - 1) / (n : Int) := by
      rw [Int.le_ediv_iff_mul_le h0]
      omega
    omega
  · have le : z.length * (n : Int).toNat ≤ 16777216 := by
      rw [Int.toNat_natCast]
      exact hz1
    unfold Builtin.Str.tooLong
    exact decide_eq_false (by have : sizeLine = 16777216 := rfl; omega)
/-! a tuple turned about -/
theorem fm_congr {α β : Type} {f g : α → Option β} : ∀ {l : List α}, (∀ x ∈ l, f x = g x) → l.filterMap f = l.filterMap g
  | [], _ => rfl
  | x :: l, h => by
    rw [List.filterMap_cons, List.filterMap_cons, h x List.mem_cons_self, fm_congr fun y hy => h y (List.mem_cons_of_mem _ hy)]
section
variable {prog : Program} {w : World} {A : Around} {E : Value → Shared → Prop} {s : Shared}
theorem getItem_back {t sl : Addr} {its : Array Value} {vl vu vs : Value} {Q : Value → Shared → Prop} (ht : IsTup s.heap t its) (hz : its.size ≤ sizeLine) (hs : s.heap.IsSliceOf sl vl vu vs) (pl : IsPart vl none) (pu : IsPart vu none) (ps : IsPart vs (some (-1)))
    (h : Q (.ref s.heap.objs.size) { s with heap := s.heap.push { cls := .type "tuple", data := .seq its.toList.reverse.toArray } }) : wpAny (model prog w) A (getItem (.ref t) (.ref sl)) Q E s := by
  have htake : sizeOk (.seq its.toList.reverse.toArray) := by
    show its.toList.reverse.toArray.size ≤ sizeLine
    simpa using hz
  obtain ⟨os, hos, hcs, hds⟩ := id hs
  have hTs : s.TypeIs (.ref sl) "slice" := ⟨os, hos, hcs⟩
  unfold getItem
  try with_reducible refine wpAny_holding ?_
  first | refine wpAny_bind (wpAny_pure ?_) | skip
  refine wpAny_bind (wpAny_sequenceKey ht.typeIs (by decide) ?_)
  refine wpAny_bind (wpAny_callSpecial?_slot (name := Str.ofString "__getitem__") ht.typeIs PyProof.Rows.slot_tuple_getitem
    (wpAny_call_entry PyProof.Rows.slot_tuple_getitem ht.typeIs entry_tuple_getitem ?_ (args_tuple_getitem _ _)))
  show wpAny _ _ (Builtin.Tuple.tupleItemsOf (.ref t) >>= _) _ _ s
  refine wpAny_bind (tupleItemsOf_ ht ?_)
  refine wpAny_bind (wpAny_typeOf hTs ?_)
  rw [if_pos (by decide)]
  refine wpAny_bind ?_
  unfold Builtin.Slice.sliceApplied Builtin.Slice.sliceFields
  refine wpAny_bind (wpAny_bind (wpAny_field hos hds (x := vl) rfl (wpAny_bind (wpAny_field hos hds (x := vu) rfl (wpAny_bind (wpAny_field hos hds (x := vs) rfl (wpAny_pure ?_)))))))
  refine wpAny_bind (HT.slicePart_ ps ?_)
  show wpAny _ _ (if ((-1 : Int) == 0) = true then _ else _) _ _ s
  rw [if_neg (by decide)]
  refine wpAny_bind (HT.slicePart_ pl (wpAny_bind (HT.slicePart_ pu (wpAny_bind (wpAny_pure ?_)))))
  refine wpAny_pure ?_
  have en : Builtin.Slice.slicePlaces ((its.size : Int) - 1) (-1) (-1) = its.size := by
    unfold Builtin.Slice.slicePlaces
    simp only [show ¬ ((-1 : Int) > 0) by decide, if_false, show (- -1 : Int) = 1 by decide, Int.ediv_one]
    split <;> omega
  show wpAny _ _ (if ((((its.size : Int) - 1) == 0 && (-1 : Int) == 1 && Builtin.Slice.slicePlaces ((its.size : Int) - 1) (-1) (-1) == its.size) = true) then _ else _) _ _ s
  rw [if_neg (by simp)]
  generalize hA : (List.filterMap _ (List.range _)).toArray = arr
  have hA' : (List.filterMap (fun k : Nat => its[(((its.size : Int) - 1) + (k : Int) * (-1)).toNat]?) (List.range (Builtin.Slice.slicePlaces ((its.size : Int) - 1) (-1) (-1)))).toArray = arr := hA
  have eA : arr = its.toList.reverse.toArray := by
    rw [← hA', en]
    have e : List.filterMap (fun k : Nat => its[(((its.size : Int) - 1) + (k : Int) * (-1)).toNat]?) (List.range its.size) = List.filterMap (its[·]?) ((List.range its.size).map fun k => its.size - 1 - k) := by
      rw [List.filterMap_map]
      refine fm_congr fun k hk => ?_
      have := List.mem_range.mp hk
      show its[(((its.size : Int) - 1) + (k : Int) * (-1)).toNat]? = its[its.size - 1 - k]?
      have e2 : (((its.size : Int) - 1) + (k : Int) * (-1)).toNat = its.size - 1 - k := by omega
      rw [e2]
    rw [e, PySem.W.krv_range, List.filterMap_reverse, PySem.W.krv_all]
  subst eA
  show wpAny _ _ (Builtin.Tuple.tupleExact its.toList.reverse.toArray >>= fun v => ret v) _ _ s
  first
    | exact wpAny_bind (m := Builtin.Tuple.tupleExact _) (wpAny_newObj_type (wpAny_pure ⟨_, rfl, wpAny_pure h⟩) htake)
    | exact wpAny_bind (m := Builtin.Tuple.tupleExact _) (wpAny_newObj_type (wpAny_bind (wpAny_pure (wpAny_pure ⟨_, rfl, wpAny_pure h⟩))) htake)
end
section
variable {X : Cx}
def tRevT (K : PySem.W.Frag) (te : TE) : TE := fun σ H Q => te σ H fun x H1 => ∃ (a : Addr) (xs : List V), x = .ref a ∧ SqT K H1 a xs ∧ ∀ p, H1 p = none → Q (.ref p) (upd H1 p (.tup xs.reverse))
theorem pe_revT {e : Expr} {te : TE} {k : Nat} {p1 p2 p3 pos : Pos} (he : PE X e te) : PE X (.Subscript e (.Slice none none (some (.UnaryOp .USub (.Constant (.int 1) k p1) p2)) p3) pos) (tRevT X.K te) := by
  refine ⟨fun pins s σ H Q I h => ?_⟩
  refine Subscript_ (thn (he.run pins s σ H _ I h) fun v s1 ⟨x, H1, I1, r1, q1⟩ => ?_)
  obtain ⟨a, xs, ex, hx, q⟩ := q1
  subst ex
  cases r1
  have hst : PO X (some (.UnaryOp .USub (.Constant (.int 1) k p1) p2)) (tPart (tUn (rU fun i => .int (-i)) (tC (.int 1)))) := po_some (pe_un un_neg pe_int)
  refine wpAny_Slice (thn (po_none.run pins s1 σ H1 (fun o H2 => o = none ∧ H2 = H1) I1 ⟨rfl, rfl⟩) fun vl s2 ⟨l, H2, I2, pl, el, e2⟩ => ?_)
  subst el e2
  refine thn (po_none.run pins s2 σ H2 (fun o H3 => o = none ∧ H3 = H2) I2 ⟨rfl, rfl⟩) fun vu s3 ⟨u, H3, I3, pu, eu, e3⟩ => ?_
  subst eu e3
  refine thn (hst.run pins s3 σ H3 (fun o H4 => o = some (-1) ∧ H4 = H3) I3 ⟨1, rfl, -1, rfl, rfl, rfl⟩) fun vs s4 ⟨o, H4, I4, ps, eo, e4⟩ => ?_
  subst eo e4
  have I5 : Inv X pins σ H4 { s4 with heap := s4.heap.push { cls := .type "slice", data := .fields #[vl, vu, vs] } } := I4.kept (t' := s4.toks) fun b ob q => Heap.get?_push_of_some _ q
  obtain ⟨its, r, ht, hz⟩ := I5.tuple hx
  have lr := r.length
  show wpAny (model X.prog X.w) X.A (subscriptTail e (.Slice none none (some (.UnaryOp .USub (.Constant (.int 1) k p1) p2)) p3) (.ref a) (.ref s4.heap.objs.size)) (EP X pins σ Q) X.xe { s4 with heap := s4.heap.push { cls := .type "slice", data := .fields #[vl, vu, vs] } }
  refine tail_any (ops := [.ref a, .ref s4.heap.objs.size]) ht.typeIs (PyProof.Rows.slot_tuple_getitem.lookup) ?_ (by with_unfolding_all rfl)
  refine getItem_back ht (by rw [List.size_toArray]; omega) (Heap.IsSliceOf.new _ vl vu vs) pl pu ps ?_
  refine ⟨.ref _, _, I5.laid (t' := s4.toks) (o := .tup xs.reverse) (fun b ob q => Heap.get?_push_of_some _ q) (Nat.le_refl _) ?_, rfl, q _ (I5.hok.fresh (Nat.le_refl _))⟩
  exact ⟨by rw [List.length_reverse]; exact hz, its.reverse, r.reverse, IsTup.new _ _⟩
end
/-! a list == the empty list -/
def rEqL0 (K : PySem.W.Frag) : R2 := fun x y H Q => ∃ (a b : Addr) (xs : List V), x = .ref a ∧ y = .ref b ∧ SqL K H a xs ∧ SqL K H b [] ∧ Q (.bl xs.isEmpty) H
theorem op_eqL0 {X : Cx} (hu : X.A.units + 64 < cLine) : OpR X (compareOp .Eq) (rEqL0 X.K) := by
  intro pins s σ H x y v u Q I rx ry h
  obtain ⟨a, b, xs, rfl, rfl, ha, hb, q⟩ := h
  cases rx
  cases ry
  obtain ⟨is, r1, ⟨o1, n1, h1, c1, _, d1⟩, _⟩ := I.list ha
  obtain ⟨js, r2, ⟨o2, n2, h2, c2, _, d2⟩, _⟩ := I.list hb
  cases r2
  cases r1 with
  | nil => exact PySem.SeqAt.eq_listAt (e := fun _ => true) ⟨o1, h1, c1, n1, d1⟩ ⟨o2, h2, c2, n2, d2⟩ rfl (by omega) (fun j j1 _ => absurd j1 (Nat.not_lt_zero _)) ⟨.bl true, H, I, rfl, q⟩
  | cons r t => exact PySem.SeqAt.eq_list_lengthsAt ⟨o1, h1, c1, n1, d1⟩ ⟨o2, h2, c2, n2, d2⟩ (by simp) (by omega) ⟨.bl false, H, I, rfl, q⟩
end Kv

/-! enumerate of a tuple -/
namespace PySem
open Sem (wp)
open AutoSeq1 (wpAny_loadPart')
theorem enumT_new (l : Addr) (its : Array Value) :
    Meets (Builtin.«enumerate.__new__» ⟨[.type "enumerate", .ref l], []⟩) (fun _ R s => s.heap.IsTuple l its ∧
      R (.ok (.ret (.ref (s.heap.push { cls := .type "tuple_iterator", data := .fields #[.ref l, .int 0 0] }).objs.size)))
        { s with heap := (s.heap.push { cls := .type "tuple_iterator", data := .fields #[.ref l, .int 0 0] }).push { cls := .type "enumerate", data := .fields #[.none, .bool false, .ref s.heap.objs.size, rawInt 0, .none, .none] } }) :=
  .of_wp fun prog w A R s h => by
    obtain ⟨hp, g, d, tk, os⟩ := s
    obtain ⟨hT, h⟩ := h
    obtain ⟨o, ho, hc, n, hd⟩ := id hT
    have ff := sub_enumerate
    wp_walk using wpAny_loadPart' ho
    refine wpAny_stack_any fun st => wpAny_pure ?_
    split
    · rename_i c _ _ _ _ _
      cases (c == Value.type "enumerate")
      · wp_walk using wpAny_loadPart' ho, wpAny_pyIter_tuple hT
        exact ⟨_, rfl, h⟩
      · wp_walk using wpAny_loadPart' ho, wpAny_pyIter_tuple hT
        exact ⟨_, rfl, h⟩
    · wp_walk using wpAny_loadPart' ho, wpAny_pyIter_tuple hT
      exact ⟨_, rfl, h⟩
end PySem
namespace Kv
open PySem PySem.Spec PyProof.Rows L2 Kf
/-- the tuple at a, each item in a new pair -/
def IteT (K : PySem.W.Frag) (a : Addr) : It where
  go := fun i H => ∃ (xs : List V) (x : V), SqT K H a xs ∧ xs[i]? = some x
  yld := fun i H v G => ∃ T x, v = .ref T ∧ H T = none ∧ G = upd H T (.tup [.int (i : Nat), x]) ∧ ∀ xs, SqT K H a xs → xs[i]? = some x
  stop := fun i H => ∃ xs : List V, SqT K H a xs ∧ xs.length ≤ i
theorem turn_enumT {P : Program} {w : World} {K : PySem.W.Frag} {elts : List Expr} {kk : Nat} {tpos : Pos} (a e it : Addr) :
    Turn P w K (.Tuple elts kk tpos) (IteT K a) [e, it] e (fun i h => (∃ old, IsEnum h e it ((i : Nat) : Int) old) ∧ h.IsTupleIter it a i ∧ e ≠ it) where
  mem := by simp
  obj := by
    intro i h st b hb
    obtain ⟨⟨old, he⟩, ⟨o, ho, hc, hd⟩, _⟩ := st
    rcases (by simpa using hb : b = e ∨ b = it) with rfl | rfl
    · exact ⟨_, he, fun v q => nomatch q⟩
    · exact ⟨o, ho, fun v q => by rw [hd] at q; cases q⟩
  keep := fun i h h' st k => let ⟨⟨old, he⟩, hi, hne⟩ := st; ⟨⟨old, k e (by simp) _ he⟩, hi.at fun o q => k it (by simp) o q, hne⟩
  item := by
    intro X hP hw hK hc i pins s σ H E I hf st hg
    subst hP hw hK
    obtain ⟨⟨old, he⟩, hit, hne⟩ := st
    obtain ⟨xs, x, hq, hx⟩ := hg
    obtain ⟨its, rv, tp, hz⟩ := I.tuple hq
    obtain ⟨u, hu, ru⟩ := rv.get hx
    obtain ⟨oi, hoi, hci, hdi⟩ := id hit
    obtain ⟨ot, hot, hct, nt, hdt⟩ := id tp
    have lt : i < its.length := (List.getElem?_eq_some_iff.mp hu).1
    have ai : a ≠ it := fun z => by
      rw [z, hoi] at hot
      cases hot
      rw [hci] at hct
      exact absurd (Value.type.inj hct) (by decide)
    have ea : e ≠ a := fun z => by
      rw [← z, he] at hot
      cases hot
      exact absurd (Value.type.inj hct) (by decide)
    have hel : e < s.heap.objs.size := Heap.lt_size he
    have hil : it < s.heap.objs.size := Heap.lt_size hoi
    refine wpAny_pyNext_enum_itemD (Draws.tuple (A := X.A.in1) (I.ok.hd hc) it a ai its.toArray) he ⟨hit, ⟨ot, hot, hct, nt, hdt⟩⟩ (by simpa using lt) hne (by simp [hne, ea]) ?_
    intro u' h1 tk hu' ho hst hT hsz hk
    have eu : u' = u := by
      have z : its[i]? = some u' := by simpa using hu'
      rw [hu] at z
      exact (Option.some.inj z).symm
    subst eu
    refine ⟨_, rfl, wpAny_letOwnedTupleGo_enum (s := { s with heap := h1, toks := tk + 1 }) ho ?_⟩
    intro h2 he' sb
    have hT2 : h2.get? s.heap.objs.size = some { cls := .type "tuple", data := .seq #[.int i tk, u'] } := (sb.2 _ (Nat.ne_of_gt hel)).trans hT
    have new : ObjOk X.prog X.w (upd H s.heap.objs.size (.tup [.int (i : Nat), x])) h2 s.heap.objs.size (.tup [.int (i : Nat), x]) := ⟨by show 2 ≤ sizeLine; decide, [.int i tk, u'], .cons ⟨_, rfl⟩ (.cons ru .nil), ⟨_, hT2, rfl, _, rfl⟩⟩
    have J : Inv X pins σ (upd H s.heap.objs.size (.tup [.int (i : Nat), x])) { s with heap := h2, toks := tk + 1 } :=
      I.turnedNew (ch := [e, it]) (fun b ob hb q => (sb.2 b (fun z => hb (by simp [z]))).trans (hk b ob (fun z => hb (by simp [z])) (fun z => hb (by simp [z])) q)) hf (Nat.le_refl _) new
    refine ⟨.ref s.heap.objs.size, _, J, rfl, ⟨_, x, rfl, I.hok.fresh (Nat.le_refl _), rfl, fun ys hy => by rw [I.tuple_inj hy hq]; exact hx⟩, ⟨⟨u', ?_⟩, hst.1.at fun o q => (sb.2 it (Ne.symm hne)).trans q, hne⟩, fun b hb => ?_⟩
    · rw [show ((i + 1 : Nat) : Int) = (i : Int) + 1 by omega]
      exact he'
    · have lb : b < s.heap.objs.size := by
        rcases (by simpa using hb : b = e ∨ b = it) with rfl | rfl
        · exact hel
        · exact hil
      rw [upd_ne (Nat.ne_of_lt lb)]
      exact (hf b hb).1
  done := by
    intro X hP hw hK hc i pins s σ H E I hf st hg
    subst hP hw hK
    obtain ⟨⟨old, he⟩, hit, hne⟩ := st
    obtain ⟨xs, hq, hx⟩ := hg
    obtain ⟨its, rv, tp, hz⟩ := I.tuple hq
    obtain ⟨oi, hoi, hci, hdi⟩ := id hit
    obtain ⟨ot, hot, hct, nt, hdt⟩ := id tp
    have ai : a ≠ it := fun z => by
      rw [z, hoi] at hot
      cases hot
      rw [hci] at hct
      exact absurd (Value.type.inj hct) (by decide)
    obtain ⟨f0, f1, f2, f3, f4, f5⟩ := hf it (by simp)
    have hl := rv.length
    have none : its.toArray[i]? = none := by
      rw [List.getElem?_toArray]
      exact List.getElem?_eq_none (by omega)
    have D : Draws X.prog X.w X.A.in1 it [it, a] i (fun _ _ => True) (fun j h => j = i ∧ h.IsTupleIter it a i ∧ h.IsTuple a its.toArray) :=
      { live := fun _ _ st => let ⟨o, ho, _⟩ := st.2.1; ⟨o, ho⟩
        frame := fun _ _ _ st hk => ⟨st.1, st.2.1.at fun o e => hk it (by simp) o e, st.2.2.at fun o e => hk a (by simp) o e⟩
        item := fun j s Q E hj st _ => absurd st.1 (Nat.ne_of_lt hj)
        done := fun s Q E st hE => wpAny_nextOf_tuple_end (I.ok.hd hc) st.2.1 st.2.2 none hE }
    exact wpAny_pyNext_enum_endD D he ⟨rfl, hit, ⟨ot, hot, hct, nt, hdt⟩⟩ fun h1 eb => ⟨rfl, I.turned (t' := s.toks) (fun b o hb q => eb b o hb q) f0 f1 f3 f4 f5⟩
  self := fun A i s Q E st h => let ⟨⟨_, he⟩, _⟩ := st; wpAny_pyIter_enum he h
def iEnumT (K : PySem.W.Frag) (ta : TA) : TI := fun σ H R => ta σ H fun vs G => ∃ (a : Addr) (xs : List V), vs = [.ref a] ∧ SqT K G a xs ∧ R (IteT K a) G
theorem pi_enumT {X : Cx} {e : Expr} {ta : TA} {p pos tpos : Pos} {elts : List Expr} {kk : Nat} (hg : Gl X "enumerate") (hm : X.mg "enumerate" = none) (ha : PA X [e] ta) (hs : starEach [e] X.env = [(false, eval e X.env)] := by rfl) :
    PI X (.Tuple elts kk tpos) (.Call (.Name "enumerate" p) [e] [] pos) (iEnumT X.K ta) := by
  constructor
  intro pins s σ H R I h
  refine Call_ (ld_blt I hg hm boot_enumerate (PyProof.Rows.callWith_type1 (thn (ha.run pos pins s σ H _ I h) ?_) hs rfl))
  rintro us s1 ⟨vs, G, J, r, a, xs, rfl, hq, q⟩
  rw [Vals.ref1 r]
  obtain ⟨its, rv, tp, hz⟩ := J.tuple hq
  have IT : s1.heap.IsTuple a its.toArray := let ⟨o, ho, hc, n, hd⟩ := tp; ⟨o, ho, hc, n, hd⟩
  have sz1 : (s1.heap.push { cls := .type "tuple_iterator", data := .fields #[.ref a, .int 0 0] }).objs.size = s1.heap.objs.size + 1 := Heap.size_push ..
  refine callType_new F.called_enumerate (by decide) (F.typeCall_enumerate_1 _) (F.newCall_enumerate_1 _) (fun obj => F.args_object_init_2 obj _) F.entry_enumerate_new (enumT_new a its.toArray) ⟨IT, ?_⟩
  show _ ∧ _
  rw [sz1]
  have he := Heap.get?_push_size (s1.heap.push { cls := .type "tuple_iterator", data := .fields #[.ref a, .int 0 0] }) (o := { cls := .type "enumerate", data := .fields #[.none, .bool false, .ref s1.heap.objs.size, rawInt 0, .none, .none] }) rfl
  rw [sz1] at he
  refine ⟨⟨_, he, rfl⟩, wpAny_pyIter_enum he ?_⟩
  have J2 := J.kept (h' := (s1.heap.push { cls := .type "tuple_iterator", data := .fields #[.ref a, .int 0 0] }).push { cls := .type "enumerate", data := .fields #[.none, .bool false, .ref s1.heap.objs.size, rawInt 0, .none, .none] }) (t' := s1.toks) (fun b o x => Heap.get?_push_of_some _ (Heap.get?_push_of_some _ x))
  refine ⟨s1.heap.objs.size + 1, [s1.heap.objs.size + 1, s1.heap.objs.size], _, _, G, rfl, J2, turn_enumT a (s1.heap.objs.size + 1) s1.heap.objs.size, ⟨⟨.none, he⟩, ⟨_, Heap.get?_push_of_some _ (Heap.get?_push_size _ rfl), rfl, rfl⟩, Nat.succ_ne_self _⟩, fun b hb => ?_, q⟩
  have le : s1.heap.objs.size ≤ b := by
    rcases (by simpa using hb : b = s1.heap.objs.size + 1 ∨ b = s1.heap.objs.size) with rfl | rfl
    · exact Nat.le_add_right _ _
    · exact Nat.le_refl _
  exact J.fpOk le (J.hok.fresh le)
theorem walk_enumT {K : PySem.W.Frag} {a : Addr} {xs : List V} : Walk (IteT K a) xs.length (fun H => SqT K H a xs) (YPair (fun i => some (.int (i : Nat))) (fun i => xs[i]?)) := by
  refine ⟨fun i _ hi q => ⟨xs, xs[i], q, by simp [hi]⟩, fun _ q => ⟨xs, q, Nat.le_refl _⟩, fun i H v G _ q y => ?_⟩
  obtain ⟨T, x, h1, h2, h3, h4⟩ := y
  exact ⟨T, .int (i : Nat), x, h1, h2, h3, rfl, h4 xs q⟩
end Kv

/-! a thing of anything == a text -/
namespace PySem.SeqAt
theorem sub_str_dic : isSubtype (.type "str") (.type "dict") = pure false := by kernel_rfl
theorem dic_declines (l : Addr) (es : Array DictEntry) (n : Nat) (dd : Option Addr) (sl : Array (Option Value)) (b : Str) (u : Tok) :
    Meets (Builtin.«dict.__eq__» ⟨[.ref l, .str b u], []⟩) (fun _ R s => s.heap.get? l = some { cls := .type "dict", dict := dd, data := .dict es n, slots := sl } ∧ R (.ok (.ret .notImplemented)) s) :=
  .of_wp fun prog w A R s h => by
    obtain ⟨hp, g, d, tk, os⟩ := s
    obtain ⟨hl, h⟩ := h
    have f1 := sub_str_dic
    wp_walk using AutoSeq1.wpAny_loadPart' hl
    exact ⟨_, rfl, h⟩
theorem str_declines_dic (b : Str) (u : Tok) (l : Addr) (es : Array DictEntry) (n : Nat) (dd : Option Addr) (sl : Array (Option Value)) :
    Meets (Builtin.«str.__eq__» ⟨[.str b u, .ref l], []⟩) (fun _ R s => s.heap.get? l = some { cls := .type "dict", dict := dd, data := .dict es n, slots := sl } ∧ R (.ok (.ret .notImplemented)) s) :=
  .of_wp fun prog w A R s h => by
    obtain ⟨hp, g, d, tk, os⟩ := s
    obtain ⟨hl, h⟩ := h
    wp_walk using AutoSeq1.wpAny_loadPart' hl, wpAny_load hl
    exact ⟨_, rfl, h⟩
theorem dic_str {A : Around} {s : Shared} {l : Addr} {o : Obj} {es : Array DictEntry} {n : Nat} (b : Str) (u : Tok) (ho : s.heap.get? l = some o) (hc : o.cls = .type "dict") (hd : o.data = .dict es n) (hu : A.units < cLine) : RcAt A s (.ref l) (.str b u) false := fun prog w E Q h => by
  obtain ⟨cls, dd, data, sl⟩ := o
  simp only at hc hd
  subst hc hd
  exact rc_eq_decline_or (k := false) ⟨_, ho, rfl⟩ (typeIs_str s b u) (by decide) sub_str_dic F.slot_dict_eq F.slot_str_eq_refl
    (fun _ hq => call_meets F.slot_dict_eq ⟨_, ho, rfl⟩ F.entry_dict_eq (F.args_dict_eq_2 _ _) (dic_declines l es n dd sl b u) ⟨ho, hq⟩)
    (fun _ hq => call_meets F.slot_str_eq_refl (typeIs_str s b u) F.entry_str_eq (F.args_str_eq_2 _ _) (str_declines_dic b u l es n dd sl) ⟨ho, hq⟩)
    (fun _ hq => wpAny_of_eq (rfl : isSame (.ref l) (.str b u) = pure false) hq) (.inr hu) h
end PySem.SeqAt
namespace Kv
open PySem PySem.Spec PyProof.Rows L2 Kf
def Dt.isS (x : Dt) (z : Str) : Bool := match x with
  | .str y => decide (y = z)
  | _ => false
def rEqUS : R2 := fun x y H Q => ∃ (d : Dt) (z : Str), Dd Any H d x ∧ y = .str z ∧ Q (.bl (d.isS z)) H
theorem op_eqUS {X : Cx} (hu : X.A.units + 64 < cLine) : OpR X (compareOp .Eq) rEqUS := by
  intro pins s σ H x y v u Q I rx ry h
  obtain ⟨d, z, hd, rfl, q⟩ := h
  obtain ⟨t2, rfl⟩ := ry
  have no : d.isS z = false → EP X pins σ Q (.bool false) s := fun e => by
    rw [e] at q
    exact ⟨.bl false, H, I, rfl, q⟩
  cases hd with
  | non =>
    cases rx
    exact SeqAt.RcAt.none_str z t2 _ _ _ _ (no rfl)
  | bl b =>
    cases rx
    exact SeqAt.RcAt.bool_str b z t2 _ _ _ _ (no rfl)
  | int i =>
    obtain ⟨t1, rfl⟩ := rx
    exact SeqAt.RcAt.int_str i t1 z t2 _ _ _ _ (no rfl)
  | str y =>
    obtain ⟨t1, rfl⟩ := rx
    refine SeqAt.RcAt.str_str y t1 z t2 _ _ _ _ ?_
    have e : (y == z) = (Dt.str y).isS z := by
      show (y == z) = decide (y = z)
      by_cases c : y = z
      · subst c
        simp
      · rw [decide_eq_false c]
        exact beq_eq_false_iff_ne.mpr c
    rw [e]
    exact ⟨.bl _, H, I, rfl, q⟩
  | tup h t =>
    cases rx
    obtain ⟨its, rv, ⟨o, ho, hc, n, hd⟩, _⟩ := I.tuple (SqT.of h)
    exact SeqAt.RcAt.tuple_str z t2 ⟨o, ho, hc, n, hd⟩ (by omega) _ _ _ _ (no rfl)
  | lst _ h t =>
    cases rx
    obtain ⟨its, rv, ⟨o, n, ho, hc, _, hd⟩, _⟩ := I.list (SqL.of h)
    exact SeqAt.RcAt.list_str z t2 ⟨o, ho, hc, n, hd⟩ (by omega) _ _ _ _ (no rfl)
  | emp _ h =>
    cases rx
    obtain ⟨o, n, ho, hc, hd, _⟩ := emp_obj I h
    exact SeqAt.dic_str z t2 ho hc hd (by omega) _ _ _ _ (no rfl)
end Kv

/-! numbers and truths reckoned with; a thing is a truth; None among things -/
namespace Kv
open PySem PySem.Spec PyProof.Rows L2 Kf
/-- a number, or a truth as a number -/
def nu : V → Option Int
  | .int i => some i
  | .bl b => some (if b = true then (1 : Int) else 0)
  | _ => none
section
variable {X : Cx}
theorem op_addU : OpR X (binaryOp .Add) (fun x y H Q => ∃ i j, nu x = some i ∧ y = .int j ∧ Q (.int (i + j)) H) := by
  intro pins s σ H x y v u Q I rx ry h
  obtain ⟨i, j, hx, rfl, q⟩ := h
  obtain ⟨t2, rfl⟩ := ry
  cases x with
  | int a =>
    obtain ⟨t1, rfl⟩ := rx
    cases hx
    exact (op_add (X := X)) pins s σ H (.int i) (.int j) _ _ Q I ⟨t1, rfl⟩ ⟨t2, rfl⟩ ⟨i, j, rfl, rfl, q⟩
  | bl b =>
    cases rx
    cases hx
    exact PySem.IntBool.add_bool_int ⟨.int _, H, I.tok _, ⟨_, rfl⟩, q⟩
  | _ => cases hx
theorem op_subU : OpR X (binaryOp .Sub) (fun x y H Q => ∃ i j, nu x = some i ∧ y = .int j ∧ Q (.int (i - j)) H) := by
  intro pins s σ H x y v u Q I rx ry h
  obtain ⟨i, j, hx, rfl, q⟩ := h
  obtain ⟨t2, rfl⟩ := ry
  cases x with
  | int a =>
    obtain ⟨t1, rfl⟩ := rx
    cases hx
    exact (op_sub (X := X)) pins s σ H (.int i) (.int j) _ _ Q I ⟨t1, rfl⟩ ⟨t2, rfl⟩ ⟨i, j, rfl, rfl, q⟩
  | bl b =>
    cases rx
    cases hx
    exact PySem.IntBool.sub_bool_int ⟨.int _, H, I.tok _, ⟨_, rfl⟩, q⟩
  | _ => cases hx
theorem op_subV : OpR X (binaryOp .Sub) (fun x y H Q => ∃ i j, x = .int i ∧ nu y = some j ∧ Q (.int (i - j)) H) := by
  intro pins s σ H x y v u Q I rx ry h
  obtain ⟨i, j, rfl, hy, q⟩ := h
  obtain ⟨t1, rfl⟩ := rx
  cases y with
  | int a =>
    obtain ⟨t2, rfl⟩ := ry
    cases hy
    exact (op_sub (X := X)) pins s σ H (.int i) (.int j) _ _ Q I ⟨t1, rfl⟩ ⟨t2, rfl⟩ ⟨i, j, rfl, rfl, q⟩
  | bl b =>
    cases ry
    cases hy
    exact PySem.IntBool.sub_int_bool ⟨.int _, H, I.tok _, ⟨_, rfl⟩, q⟩
  | _ => cases hy
theorem op_eqU1 : OpR X (compareOp .Eq) (fun x y H Q => ∃ i j, nu x = some i ∧ y = .int j ∧ ∀ b : Bool, Q (.bl b) H) := by
  intro pins s σ H x y v u Q I rx ry h
  obtain ⟨i, j, hx, rfl, q⟩ := h
  obtain ⟨t2, rfl⟩ := ry
  cases x with
  | int a =>
    obtain ⟨t1, rfl⟩ := rx
    exact SeqAt.RcAt.int_int a t1 j t2 _ _ _ _ ⟨.bl _, H, I, rfl, q _⟩
  | bl b =>
    cases rx
    exact SeqAt.RcAt.bool_int b j t2 _ _ _ _ ⟨.bl _, H, I, rfl, q _⟩
  | _ => cases hx
theorem call_strU : CallR X (.type "str") (fun xs H Q => ∃ x i, xs = [x] ∧ nu x = some i ∧ i.natAbs < 10 ^ 45 ∧ ∀ z : Str, z.length ≤ 50 → (∀ c ∈ z.cps.toList, c < 16 ^ 8) → Q (.str z) H) := by
  intro pins s σ H xs us Q I r h
  obtain ⟨x, i, rfl, hx, hi, q⟩ := h
  obtain ⟨u, rfl, rx⟩ := vals1 r
  cases x with
  | int a =>
    obtain ⟨t, rfl⟩ := rx
    cases hx
    have hl : i.natAbs.log2 < 1920 := by
      by_cases z : i.natAbs = 0
      · rw [z]
        decide
      · have : i.natAbs.log2 < 150 := (Nat.log2_lt z).mpr (Nat.lt_of_lt_of_le hi (by decide))
        omega
    refine PySem.P.str_of_int hl ⟨.str _, H, I.tok _, ⟨_, rfl⟩, q _ ?_ ?_⟩
    · have z := int_text_length_le10 (a := i) (k := 45) (by decide) hi
      have e : (Str.ofString (toString i)).length = (toString i).length := PySem.ofString_length _
      show (Str.ofString (toString i)).length ≤ 50
      rw [e]
      omega
    · intro c hc
      have hc : c ∈ (Str.ofString (toString i)).cps.toList := hc
      rw [Str.ofString_eq_toList] at hc
      simp only [List.mem_map] at hc
      obtain ⟨ch, _, rfl⟩ := hc
      exact ch.val.toNat_lt
  | bl b =>
    cases rx
    refine PySem.P.str_of_bool ⟨.str _, H, I.tok _, ⟨_, rfl⟩, q _ ?_ ?_⟩
    · cases b <;> decide +kernel
    · cases b <;> decide +kernel
  | _ => cases hx
/-- a thing is this truth -/
def Dt.isB (x : Dt) (b : Bool) : Bool := match x with
  | .bl c => decide (c = b)
  | _ => false
theorem op_isU : OpR X (compareOp .Is) (fun x y H Q => ∃ (d : Dt) (b : Bool), Dd Any H d x ∧ y = .bl b ∧ Q (.bl (d.isB b)) H) := by
  intro pins s σ H x y v u Q I rx ry h
  obtain ⟨d, b, hd, rfl, q⟩ := h
  cases ry
  have no : d.isB b = false → EP X pins σ Q (.bool false) s := fun e => by
    rw [e] at q
    exact ⟨.bl false, H, I, rfl, q⟩
  cases hd with
  | non =>
    cases rx
    exact wpAny_is_other rfl (fun z => by cases z) (no rfl)
  | bl c =>
    cases rx
    by_cases e : c = b
    · subst e
      exact wpAny_is_self rfl ⟨.bl true, H, I, rfl, by simpa [Dt.isB] using q⟩
    · exact wpAny_is_other rfl (fun z => e (Value.bool.inj z)) (no (by simp [Dt.isB, e]))
  | int i =>
    obtain ⟨t1, rfl⟩ := rx
    exact wpAny_is_other rfl (fun z => by cases z) (no rfl)
  | str y =>
    obtain ⟨t1, rfl⟩ := rx
    exact wpAny_is_other rfl (fun z => by cases z) (no rfl)
  | tup h t =>
    cases rx
    exact wpAny_is_other rfl (fun z => by cases z) (no rfl)
  | lst _ h t =>
    cases rx
    exact wpAny_is_other rfl (fun z => by cases z) (no rfl)
  | emp _ h =>
    cases rx
    exact wpAny_is_other rfl (fun z => by cases z) (no rfl)
/-- None, a number, a truth, a tuple -/
def Plainy (H : Hp) (z : V) : Prop := z = .non ∨ (∃ i, z = .int i) ∨ (∃ b, z = .bl b) ∨ ∃ a xs, z = .ref a ∧ H a = some (.tup xs)
theorem isNone_pl {z : V} {u : Value} {H : Hp} (r : RelV z u) (f : Plainy H z) : PySem.Numpy.isNone u = isNon z := by
  rcases f with rfl | ⟨i, rfl⟩ | ⟨b, rfl⟩ | ⟨a, xs, rfl, _⟩
  · cases r; rfl
  · obtain ⟨t, rfl⟩ := r; rfl
  · cases r; rfl
  · cases r; rfl
theorem any_pl {H : Hp} : ∀ {xs : List V} {us : List Value}, Vals xs us → (∀ z ∈ xs, Plainy H z) → us.any PySem.Numpy.isNone = xs.any isNon
  | _, _, .nil, _ => rfl
  | y :: xs, u :: us, .cons r t, f => by
    rw [List.any_cons, List.any_cons, isNone_pl r (f y (List.mem_cons_self ..)), any_pl t fun z hz => f z (List.mem_cons_of_mem _ hz)]
theorem pl_eq {A : Around} {pins : List (Addr × Obj)} {σ : L2.St} {H : Hp} {s : Shared} (I : Inv X pins σ H s) (hu : A.units < cLine) {z : V} {u : Value} (r : RelV z u) (f : Plainy H z) : SeqAt.EqAt A s u .none (PySem.Numpy.isNone u) := by
  rcases f with rfl | ⟨i, rfl⟩ | ⟨b, rfl⟩ | ⟨a, xs, rfl, h⟩
  · cases r
    exact SeqAt.EqAt.same _
  · obtain ⟨t, rfl⟩ := r
    exact SeqAt.EqAt.int_none i t
  · cases r
    exact SeqAt.EqAt.bool_none b
  · cases r
    obtain ⟨its, rv, ⟨o, ho, hc, n, hd⟩, _⟩ := I.tuple (SqT.of h)
    exact SeqAt.EqAt.tuple_none ⟨o, ho, hc, n, hd⟩ hu
theorem mem_pl {A : Around} {pins : List (Addr × Obj)} {σ : L2.St} {H : Hp} {s : Shared} (I : Inv X pins σ H s) (hu : A.units < cLine) : ∀ {xs : List V} {us : List Value}, Vals xs us → (∀ z ∈ xs, Plainy H z) → ∀ u ∈ us, SeqAt.EqAt A s u .none (PySem.Numpy.isNone u)
  | _, _, .nil, _ => fun u hu' => by cases hu'
  | y :: xs, u :: us, .cons r t, f => fun u' hu' => by
    rcases List.mem_cons.mp hu' with e | hu'
    · subst e
      exact pl_eq I hu r (f y (List.mem_cons_self ..))
    · exact mem_pl I hu t (fun z hz => f z (List.mem_cons_of_mem _ hz)) u' hu'
def rNoneInU (K : PySem.W.Frag) : R2 := fun x y H Q => ∃ p xs, x = .non ∧ y = .ref p ∧ SqL K H p xs ∧ (∀ z ∈ xs, Plainy H z) ∧ Q (.bl (xs.any isNon)) H
theorem op_noneInU (hu : X.A.units + 64 < cLine) : OpR X (compareOp .In) (rNoneInU X.K) := by
  intro pins s σ H x y v u Q I rx ry h
  obtain ⟨p, xs, rfl, rfl, hq, f, q⟩ := h
  cases rx
  cases ry
  obtain ⟨its, rv, hl, _⟩ := I.list hq
  have hu1 : X.A.in1.units < cLine := by show X.A.units + 1 < cLine; omega
  refine SeqAt.in_listAt PySem.Numpy.isNone hl.isList (fun z hz => mem_pl I hu1 rv f z (by simpa using hz)) ⟨.bl _, H, I, rfl, ?_⟩
  rw [show its.toArray.any PySem.Numpy.isNone = its.any PySem.Numpy.isNone by simp, any_pl rv f]
  exact q
end
end Kv

/-! things of anything: how great they are -/
namespace Kv
open PySem PySem.Spec PyProof.Rows L2 Kf
mutual
def Dt.sz : Dt → Nat
  | .tup xs => 1 + Dt.szs xs
  | .lst xs => 1 + Dt.szs xs
  | _ => 1
def Dt.szs : List Dt → Nat
  | [] => 0
  | x :: xs => x.sz + Dt.szs xs
end
theorem sz_mem : ∀ {xs : List Dt} {x : Dt}, x ∈ xs → x.sz ≤ Dt.szs xs
  | y :: ys, x, h => by
    rcases List.mem_cons.mp h with rfl | h
    · exact Nat.le_add_right _ _
    · exact Nat.le_trans (sz_mem h) (Nat.le_add_left _ _)
theorem szs_app : ∀ (xs ys : List Dt), Dt.szs (xs ++ ys) = Dt.szs xs + Dt.szs ys
  | [], ys => by show _ = 0 + _; rw [Nat.zero_add]; rfl
  | x :: xs, ys => by
    show x.sz + Dt.szs (xs ++ ys) = x.sz + Dt.szs xs + Dt.szs ys
    rw [szs_app xs ys, Nat.add_assoc]
mutual
def Dt.dp : Dt → Nat
  | .tup xs => Dt.dps xs + 1
  | .lst xs => Dt.dps xs + 1
  | .emp => 1
  | _ => 0
def Dt.dps : List Dt → Nat
  | [] => 0
  | x :: xs => max x.dp (Dt.dps xs)
end
mutual
def Dt.wt : Dt → Nat
  | .non => 4
  | .bl _ => 5
  | .int _ => 52
  | .str x => 10 * x.length + 2
  | .tup xs => Dt.wts xs + 3
  | .lst xs => Dt.wts xs + 3
  | .emp => 2
def Dt.wts : List Dt → Nat
  | [] => 0
  | x :: xs => x.wt + 2 + Dt.wts xs
end
mutual
def Dt.fine (B : Nat) : Dt → Prop
  | .int i => i.natAbs < B
  | .str x => ∀ c ∈ x.cps.toList, c < 16 ^ 8
  | .tup xs => Dt.fines B xs
  | .lst xs => Dt.fines B xs
  | _ => True
def Dt.fines (B : Nat) : List Dt → Prop
  | [] => True
  | x :: xs => x.fine B ∧ Dt.fines B xs
end
mutual
theorem Dt.shw {B : Nat} (hB : B ≤ 10 ^ 45) : ∀ (x : Dt), x.fine B → x.toP.showable = true ∧ x.toP.depth = x.dp ∧ x.toP.shown.length ≤ x.wt
  | .non, _ => ⟨by simp [Dt.toP, PyData.showable], by simp [Dt.toP, PyData.depth, Dt.dp], by simp only [Dt.toP, PyData.shown, Dt.wt]; decide⟩
  | .bl b, _ => ⟨by simp [Dt.toP, PyData.showable], by simp [Dt.toP, PyData.depth, Dt.dp], by cases b <;> (simp only [Dt.toP, PyData.shown, Dt.wt]; decide)⟩
  | .int i, h => by
    have h : i.natAbs < B := by simpa only [Dt.fine] using h
    have h : i.natAbs < 10 ^ 45 := Nat.lt_of_lt_of_le h hB
    refine ⟨?_, by simp [Dt.toP, PyData.depth, Dt.dp], ?_⟩
    · simp only [Dt.toP, PyData.showable]
      refine decide_eq_true ?_
      by_cases z : i.natAbs = 0
      · rw [z]
        decide
      · have : i.natAbs.log2 < 150 := (Nat.log2_lt z).mpr (Nat.lt_of_lt_of_le h (by decide))
        omega
    · have z := int_text_length_le10 (a := i) (k := 45) (by decide) h
      simp only [Dt.toP, PyData.shown, Dt.wt]
      have e : (Str.ofString (toString i)).length = (toString i).length := PySem.ofString_length _
      rw [e]
      omega
  | .str x, h => by
    have h : ∀ c ∈ x.cps.toList, c < 16 ^ 8 := by simpa only [Dt.fine] using h
    exact ⟨by simp [Dt.toP, PyData.showable], by simp [Dt.toP, PyData.depth, Dt.dp], by simp only [Dt.toP, PyData.shown, Dt.wt]; exact PySem.StrLaws.reprText_len x h⟩
  | .tup xs, h => by
    obtain ⟨a, b, c⟩ := Dt.shws hB xs (by simpa only [Dt.fine] using h)
    refine ⟨by simpa only [Dt.toP, PyData.showable] using a, by simp only [Dt.toP, PyData.depth, Dt.dp]; omega, ?_⟩
    simp only [Dt.toP, PyData.shown, Dt.wt]
    have := tupleText_len_le (PyData.shownAll (Dt.toPs xs))
    omega
  | .lst xs, h => by
    obtain ⟨a, b, c⟩ := Dt.shws hB xs (by simpa only [Dt.fine] using h)
    refine ⟨by simpa only [Dt.toP, PyData.showable] using a, by simp only [Dt.toP, PyData.depth, Dt.dp]; omega, ?_⟩
    simp only [Dt.toP, PyData.shown, Dt.wt]
    have := listText_len_le (PyData.shownAll (Dt.toPs xs))
    omega
  | .emp, _ => ⟨by simp [Dt.toP, PyData.showable, PyData.showableKv], by simp [Dt.toP, PyData.depth, PyData.depthKv, Dt.dp], by simp only [Dt.toP, PyData.shown, PyData.shownKv, Dt.wt]; decide⟩
theorem Dt.shws {B : Nat} (hB : B ≤ 10 ^ 45) : ∀ (xs : List Dt), Dt.fines B xs → PyData.showableAll (Dt.toPs xs) = true ∧ PyData.depthAll (Dt.toPs xs) = Dt.dps xs ∧ ((PyData.shownAll (Dt.toPs xs)).map (·.length)).sum + 2 * (PyData.shownAll (Dt.toPs xs)).length ≤ Dt.wts xs
  | [], _ => ⟨by simp [Dt.toPs, PyData.showableAll], by simp [Dt.toPs, PyData.depthAll, Dt.dps], by simp [Dt.toPs, PyData.shownAll]⟩
  | x :: xs, h => by
    have h : x.fine B ∧ Dt.fines B xs := by simpa only [Dt.fines] using h
    obtain ⟨a, b, c⟩ := x.shw hB h.1
    obtain ⟨a', b', c'⟩ := Dt.shws hB xs h.2
    refine ⟨by simp [Dt.toPs, PyData.showableAll, a, a'], by simp [Dt.toPs, PyData.depthAll, Dt.dps, b, b'], ?_⟩
    simp only [Dt.toPs, PyData.shownAll, List.map_cons, List.sum_cons, List.length_cons, Dt.wts]
    omega
end
/-- it is fine, and within the bounds -/
structure Fine (B n W : Nat) (x : Dt) : Prop where
  ok : x.fine B
  dp : x.dp ≤ n
  wt : x.wt ≤ W
theorem Fine.shw {B n W : Nat} {x : Dt} (h : Fine B n W x) (hB : B ≤ 10 ^ 45) (hW : W ≤ sizeLine) : Shw n x := by
  obtain ⟨a, b, c⟩ := x.shw hB h.ok
  exact ⟨a, by rw [b]; exact h.dp, Nat.le_trans c (Nat.le_trans h.wt hW)⟩
mutual
theorem Dt.fine_up {B C : Nat} (h : B ≤ C) : ∀ {x : Dt}, x.fine B → x.fine C
  | .non, _ => by simp only [Dt.fine]
  | .bl _, _ => by simp only [Dt.fine]
  | .int i, f => by
    simp only [Dt.fine] at f ⊢
    omega
  | .str x, f => by
    simp only [Dt.fine] at f ⊢
    exact f
  | .tup xs, f => by
    simp only [Dt.fine] at f ⊢
    exact Dt.fines_up h f
  | .lst xs, f => by
    simp only [Dt.fine] at f ⊢
    exact Dt.fines_up h f
  | .emp, _ => by simp only [Dt.fine]
theorem Dt.fines_up {B C : Nat} (h : B ≤ C) : ∀ {xs : List Dt}, Dt.fines B xs → Dt.fines C xs
  | [], _ => by simp only [Dt.fines]
  | x :: xs, f => by
    simp only [Dt.fines] at f ⊢
    exact ⟨Dt.fine_up h f.1, Dt.fines_up h f.2⟩
end
theorem Fine.mono {A B n W m V : Nat} {x : Dt} (h : Fine A n W x) (ha : A ≤ B) (hn : n ≤ m) (hw : W ≤ V) : Fine B m V x := ⟨Dt.fine_up ha h.ok, Nat.le_trans h.dp hn, Nat.le_trans h.wt hw⟩
mutual
theorem Dt.sz_wt : ∀ x : Dt, x.sz ≤ x.wt
  | .non => by simp only [Dt.sz, Dt.wt]; omega
  | .bl _ => by simp only [Dt.sz, Dt.wt]; omega
  | .int _ => by simp only [Dt.sz, Dt.wt]; omega
  | .str _ => by simp only [Dt.sz, Dt.wt]; omega
  | .tup xs => by
    have := Dt.szs_wts xs
    simp only [Dt.sz, Dt.wt]
    omega
  | .lst xs => by
    have := Dt.szs_wts xs
    simp only [Dt.sz, Dt.wt]
    omega
  | .emp => by simp only [Dt.sz, Dt.wt]; omega
theorem Dt.szs_wts : ∀ xs : List Dt, Dt.szs xs ≤ Dt.wts xs
  | [] => by simp only [Dt.szs, Dt.wts]; omega
  | x :: xs => by
    have := x.sz_wt
    have := Dt.szs_wts xs
    simp only [Dt.szs, Dt.wts]
    omega
end
theorem len_szs : ∀ xs : List Dt, xs.length ≤ Dt.szs xs
  | [] => Nat.zero_le _
  | x :: xs => by
    have := len_szs xs
    have : 1 ≤ x.sz := by cases x <;> simp only [Dt.sz] <;> omega
    simp only [Dt.szs, List.length_cons]
    omega
theorem wts_app : ∀ (xs ys : List Dt), Dt.wts (xs ++ ys) = Dt.wts xs + Dt.wts ys
  | [], ys => by simp only [List.nil_append, Dt.wts]; omega
  | x :: xs, ys => by
    simp only [List.cons_append, Dt.wts]
    rw [wts_app xs ys]
    omega
theorem dps_app : ∀ (xs ys : List Dt), Dt.dps (xs ++ ys) = max (Dt.dps xs) (Dt.dps ys)
  | [], ys => by simp only [List.nil_append, Dt.dps]; omega
  | x :: xs, ys => by
    simp only [List.cons_append, Dt.dps]
    rw [dps_app xs ys]
    omega
theorem fines_app {B : Nat} : ∀ (xs ys : List Dt), Dt.fines B (xs ++ ys) ↔ Dt.fines B xs ∧ Dt.fines B ys
  | [], ys => by simp only [List.nil_append, Dt.fines, true_and]
  | x :: xs, ys => by
    simp only [List.cons_append, Dt.fines]
    rw [fines_app xs ys, and_assoc]
end Kv

/-! a thing of anything != a text -/
namespace PySem.SeqAt
theorem dic_declinesN (l : Addr) (es : Array DictEntry) (n : Nat) (dd : Option Addr) (sl : Array (Option Value)) (b : Str) (u : Tok) :
    Meets (Builtin.«dict.__ne__» ⟨[.ref l, .str b u], []⟩) (fun _ R s => s.heap.get? l = some { cls := .type "dict", dict := dd, data := .dict es n, slots := sl } ∧ R (.ok (.ret .notImplemented)) s) :=
  .of_wp fun prog w A R s h => by
    obtain ⟨hp, g, d, tk, os⟩ := s
    obtain ⟨hl, h⟩ := h
    have f1 := sub_str_dic
    wp_walk using AutoSeq1.wpAny_loadPart' hl
    exact ⟨_, rfl, h⟩
theorem str_declines_dicN (b : Str) (u : Tok) (l : Addr) (es : Array DictEntry) (n : Nat) (dd : Option Addr) (sl : Array (Option Value)) :
    Meets (Builtin.«str.__ne__» ⟨[.str b u, .ref l], []⟩) (fun _ R s => s.heap.get? l = some { cls := .type "dict", dict := dd, data := .dict es n, slots := sl } ∧ R (.ok (.ret .notImplemented)) s) :=
  .of_wp fun prog w A R s h => by
    obtain ⟨hp, g, d, tk, os⟩ := s
    obtain ⟨hl, h⟩ := h
    wp_walk using AutoSeq1.wpAny_loadPart' hl, wpAny_load hl
    exact ⟨_, rfl, h⟩
theorem dic_strN {A : Around} {s : Shared} {l : Addr} {o : Obj} {es : Array DictEntry} {n : Nat} (b : Str) (u : Tok) (ho : s.heap.get? l = some o) (hc : o.cls = .type "dict") (hd : o.data = .dict es n) (hu : A.units < cLine) : RcNeAt A s (.ref l) (.str b u) true := fun prog w E Q h => by
  obtain ⟨cls, dd, data, sl⟩ := o
  simp only at hc hd
  subst hc hd
  exact rc_ne_decline_or (k := false) ⟨_, ho, rfl⟩ (typeIs_str s b u) (by decide) sub_str_dic F.slot_dict_ne F.slot_str_ne_refl
    (fun _ hq => call_meets F.slot_dict_ne ⟨_, ho, rfl⟩ F.entry_dict_ne (F.args_dict_ne_2 _ _) (dic_declinesN l es n dd sl b u) ⟨ho, hq⟩)
    (fun _ hq => call_meets F.slot_str_ne_refl (typeIs_str s b u) F.entry_str_ne (F.args_str_ne_2 _ _) (str_declines_dicN b u l es n dd sl) ⟨ho, hq⟩)
    (fun _ hq => wpAny_of_eq (rfl : isSame (.ref l) (.str b u) = pure false) hq) (.inr hu) h
end PySem.SeqAt
namespace Kv
open PySem PySem.Spec PyProof.Rows L2 Kf
def rNeUS : R2 := fun x y H Q => ∃ (d : Dt) (z : Str), Dd Any H d x ∧ y = .str z ∧ Q (.bl (!d.isS z)) H
theorem op_neUS {X : Cx} (hu : X.A.units + 64 < cLine) : OpR X (compareOp .NotEq) rNeUS := by
  intro pins s σ H x y v u Q I rx ry h
  obtain ⟨d, z, hd, rfl, q⟩ := h
  obtain ⟨t2, rfl⟩ := ry
  have no : d.isS z = false → EP X pins σ Q (.bool true) s := fun e => by
    rw [e] at q
    exact ⟨.bl true, H, I, rfl, q⟩
  cases hd with
  | non =>
    cases rx
    exact SeqAt.RcNeAt.none_str z t2 _ _ _ _ (no rfl)
  | bl b =>
    cases rx
    exact SeqAt.RcNeAt.bool_str b z t2 _ _ _ _ (no rfl)
  | int i =>
    obtain ⟨t1, rfl⟩ := rx
    exact SeqAt.RcNeAt.int_str i t1 z t2 _ _ _ _ (no rfl)
  | str y =>
    obtain ⟨t1, rfl⟩ := rx
    refine SeqAt.RcNeAt.str_str y t1 z t2 _ _ _ _ ?_
    have e : (y == z) = (Dt.str y).isS z := by
      show (y == z) = decide (y = z)
      by_cases c : y = z
      · subst c
        simp
      · rw [decide_eq_false c]
        exact beq_eq_false_iff_ne.mpr c
    rw [e]
    exact ⟨.bl _, H, I, rfl, q⟩
  | tup h t =>
    cases rx
    obtain ⟨its, rv, ⟨o, ho, hc, n, hd⟩, _⟩ := I.tuple (SqT.of h)
    exact SeqAt.RcNeAt.tuple_str z t2 ⟨o, ho, hc, n, hd⟩ (by omega) _ _ _ _ (no rfl)
  | lst _ h t =>
    cases rx
    obtain ⟨its, rv, ⟨o, n, ho, hc, _, hd⟩, _⟩ := I.list (SqL.of h)
    exact SeqAt.RcNeAt.list_str z t2 ⟨o, ho, hc, n, hd⟩ (by omega) _ _ _ _ (no rfl)
  | emp _ h =>
    cases rx
    obtain ⟨o, n, ho, hc, hd, _⟩ := emp_obj I h
    exact SeqAt.dic_strN z t2 ho hc hd (by omega) _ _ _ _ (no rfl)
end Kv

/-! the end of a law whose defs show things -/
namespace Kf
open PySem PySem.Spec PyProof.Rows L2 LamX
/-- the heap at the law's call: the written part, the tables cs, the script -/
structure Beg (h : Heap) (K : PySem.W.Frag) (mg : Str → Option Value) (cs : List (Addr × Addr)) (a : Addr) (us : Array Value) : Prop where
  kin : K.In h
  gl : h.Ns mainGlobals mg
  bl : ∃ m, h.Ns builtinsNs m ∧ ∀ y : Str, y ≠ "__name__" → m y = bootBuiltins y
  nl : h.NoLimit
  tb : ∀ p ∈ cs, h.get? p.2 = some { cls := .none, data := .fields #[] }
  nk : ∀ p ∈ cs, K.lookup p.2 = none
  cd : ∀ p ∈ cs, PySem.W.CodeHd h p.1 p.2
  bm : ∃ (z : Addr) (q : Obj), mg "__builtins__" = some (.ref z) ∧ z ≠ builtinsNs ∧ h.get? z = some q ∧ q.cls = .type "module" ∧ q.dict = some builtinsNs ∧ q.data = .plain
  sc : h.get? a = some { cls := .type "list", data := .seq us }
/-- tracked are the tables, and perhaps the script -/
structure Fit (H : Hp) (K : PySem.W.Frag) (cs : List (Addr × Addr)) (a : Addr) : Prop where
  tb : ∀ p ∈ cs, H p.2 = some (.tbl #[])
  no : ∀ b u, H b = some u → (∃ p ∈ cs, p.2 = b ∧ u = .tbl #[]) ∨ (b = a ∧ K.lookup a = none ∧ ∃ o xs, u = .frz o (.lst xs))
section
variable {h : Heap} {K : PySem.W.Frag} {mg : Str → Option Value} {cs : List (Addr × Addr)} {a : Addr} {us : Array Value} {H : Hp}
theorem Fit.off (F : Fit H K cs a) (B : Beg h K mg cs a us) {b : Addr} {o : Obj} (e : h.get? b = some o) (n1 : ∀ vs n, o.data ≠ .seq vs n) (n2 : o.data ≠ .fields #[]) : H b = none := by
  match q : H b with
  | none => rfl
  | some u =>
    rcases F.no b u q with ⟨p, hp, rfl, _⟩ | ⟨rfl, _⟩
    · have z := (B.tb p hp).symm.trans e
      exact absurd (congrArg Obj.data (Option.some.inj z)).symm n2
    · have z := B.sc.symm.trans e
      exact absurd (congrArg Obj.data (Option.some.inj z)).symm (n1 _ _)
theorem Fit.dic (F : Fit H K cs a) (B : Beg h K mg cs a us) {b : Addr} {m : Str → Option Value} (N : h.Ns b m) : (hidT h H).Ns b m := by
  obtain ⟨o, es, n, e, d, r⟩ := N
  refine ⟨o, es, n, hidT_get e (F.off B e ?_ ?_), d, r⟩
  · intro vs k z
    rw [d] at z
    cases z
  · intro z
    rw [d] at z
    cases z
theorem Fit.kin (F : Fit H K cs a) (B : Beg h K mg cs a us) : K.In (hidT h H) := fun b o e => hidT_get (B.kin b o e) <| by
  match q : H b with
  | none => rfl
  | some u =>
    rcases F.no b u q with ⟨p, hp, rfl, _⟩ | ⟨rfl, n, _⟩
    · rw [B.nk p hp] at e
      cases e
    · rw [n] at e
      cases e
theorem Fit.mod (F : Fit H K cs a) (B : Beg h K mg cs a us) : L2.Mod K mg (hidT h H) := by
  obtain ⟨m, m1, m2⟩ := B.bl
  obtain ⟨c, c1, c2⟩ := B.nl
  exact ⟨F.kin B, F.dic B B.gl, ⟨m, F.dic B m1, m2⟩, ⟨c, F.dic B c1, c2⟩⟩
theorem Fit.tabs (F : Fit H K cs a) (B : Beg h K mg cs a us) : ∀ p ∈ cs, TabB (hidT h H) mg p.1 p.2 := by
  intro p hp
  have tp := B.tb p hp
  have gP : mainGlobals ≠ p.2 := by
    intro z
    obtain ⟨o, es, n, e, d, _⟩ := B.gl
    rw [z, tp] at e
    cases e
    cases d
  refine ⟨?_, ?_, gP⟩
  · obtain ⟨o, vs, fl, tf, fg, tg, iF, tx, tt, e, r1, r2, r3, r⟩ := B.cd p hp
    refine ⟨o, vs, fl, tf, fg, tg, iF, tx, tt, hidT_get e (F.off B e (fun vs n z => ?_) (fun z => ?_)), r1, r2, r3, r⟩
    · rw [r2] at z
      cases z
    · rw [r2] at z
      cases z
      simp at r3
  · obtain ⟨z, q, b1, b2, b3, b4, b5, b6⟩ := B.bm
    refine ⟨z, q, b1, b2, fun y => ?_, fun y => ?_, hidT_get b3 (F.off B b3 (fun vs n y => ?_) (fun y => ?_)), b4, b5, b6⟩
    · obtain ⟨o, es, n, e, d, _⟩ := B.gl
      rw [← y, b3] at e
      cases e
      rw [b6] at d
      cases d
    · rw [y, tp] at b3
      cases b3
      cases b6
    · rw [b6] at y
      cases y
    · rw [b6] at y
      cases y
/-- what stood stands, behind the call -/
theorem Fit.old (F : Fit H K cs a) (B : Beg h K mg cs a us) {P : Program} {w : World} {G : Hp} {h' : Heap} (U : Un [] [] H G h h') (o1 : HOk P w H h) (o2 : HOk P w G h') : OldK h h' := by
  have tab : ∀ p ∈ cs, ∃ m : Array Value, h'.get? p.2 = some { cls := .none, data := .fields m } := fun p hp => by
    obtain ⟨m, z⟩ := U.tbls p.2 #[] (F.tb p hp)
    exact ⟨_, o2 p.2 _ z⟩
  have rest : ∀ b o, h.get? b = some o → (∃ p ∈ cs, p.2 = b) ∨ h'.get? b = some o := fun b o e => by
    match q : H b with
    | none => exact .inr (U.keep b o e q (by simp) (by simp))
    | some u =>
      rcases F.no b u q with ⟨p, hp, z, _⟩ | ⟨_, _, ob, xs, rfl⟩
      · exact .inl ⟨p, hp, z⟩
      · have e1 := (o1 b _ q).1
        have e2 := (o2 b _ (U.frzs b ob _ q)).1
        rw [e] at e1
        cases e1
        exact .inr e2
  constructor
  · intro b o e
    rcases rest b o e with ⟨p, hp, rfl⟩ | z
    · obtain ⟨m, hm⟩ := tab p hp
      have tp := B.tb p hp
      rw [tp] at e
      cases e
      exact .inr (.inl ⟨((B.cd p hp).tab tp).isCodeTable, rfl, #[], m, rfl, by rw [Array.empty_append]; exact hm⟩)
    · exact .inl z
  · intro b o e
    rcases rest b o e with ⟨p, hp, rfl⟩ | z
    · obtain ⟨m, hm⟩ := tab p hp
      exact ⟨_, hm⟩
    · exact ⟨o, z⟩
end
/-- such a heap there is -/
theorem fit_of {h : Heap} {K : PySem.W.Frag} {mg : Str → Option Value} {cs : List (Addr × Addr)} {a : Addr} {vs : List Value} {ns : List Int} (P : Program) (w : World) (B : Beg h K mg cs a vs.toArray) (hi : IntsAre vs ns) (hl : ns.length ≤ sizeLine) :
    ∃ H : Hp, Fit H K cs a ∧ SqL K H a (ns.map V.int) ∧ HOk P w H h := by
  have lv := hi.length
  have isT : ∀ b, (∃ p ∈ cs, p.2 = b) → h.get? b = some { cls := .none, data := .fields #[] } := by
    rintro b ⟨p, hp, rfl⟩
    exact B.tb p hp
  have na : ¬ ∃ p ∈ cs, p.2 = a := fun z => by
    have y := congrArg Obj.data (Option.some.inj ((isT a z).symm.trans B.sc))
    cases y
  open Classical in
  let T : Hp := fun b => if ∃ p ∈ cs, p.2 = b then some (.tbl #[]) else none
  have Ty : ∀ p ∈ cs, T p.2 = some (.tbl #[]) := fun p hp => if_pos ⟨p, hp, rfl⟩
  have Tn : ∀ b u, T b = some u → (∃ p ∈ cs, p.2 = b) ∧ u = .tbl #[] := fun b u z => by
    by_cases c : ∃ p ∈ cs, p.2 = b
    · exact ⟨c, (Option.some.inj ((if_pos c).symm.trans z)).symm⟩
    · have y := (if_neg c).symm.trans z
      cases y
  match hk : K.lookup a with
  | some o =>
    have e := B.kin a o hk
    rw [B.sc] at e
    cases e
    refine ⟨T, ⟨Ty, fun b u z => ?_⟩, .inr ⟨_, vs.toArray, _, hk, rfl, rfl, rfl, by rw [List.size_toArray, lv]; exact hl, by simpa using vals_ints hi⟩, fun b u z => ?_⟩
    · obtain ⟨⟨p, hp, e⟩, e2⟩ := Tn b u z
      exact .inl ⟨p, hp, e, e2⟩
    · obtain ⟨c, rfl⟩ := Tn b u z
      exact isT b c
  | none =>
    refine ⟨upd T a (.frz { cls := .type "list", data := .seq vs.toArray } (.lst (ns.map V.int))), ⟨fun p hp => ?_, fun b u z => ?_⟩, .inl (.inr ⟨_, upd_same⟩), fun b u z => ?_⟩
    · rw [upd_ne (fun y => na ⟨p, hp, y⟩)]
      exact Ty p hp
    · by_cases c : b = a
      · subst c
        rw [upd_same] at z
        cases z
        exact .inr ⟨rfl, hk, _, _, rfl⟩
      · rw [upd_ne c] at z
        obtain ⟨⟨p, hp, e⟩, e2⟩ := Tn b u z
        exact .inl ⟨p, hp, e, e2⟩
    · by_cases c : b = a
      · subst c
        rw [upd_same] at z
        cases z
        exact ⟨B.sc, by rw [List.length_map]; exact hl, vs, _, vals_ints hi, B.sc⟩
      · rw [upd_ne c] at z
        obtain ⟨c, rfl⟩ := Tn b u z
        exact isT b c
/-- what is known of the law's promise at the head's heap -/
def LawG (l : PySem.W.OpenLaw) (w : World) (K : PySem.W.Frag) (CX : CXT) (k n : Nat) (x : Str) (mg : Str → Option Value) (fa : Addr) (h : Heap) : Prop :=
  ∃ (fd : FuncData) (cs : List (Addr × Addr)) (sp : Sp), (∀ p ∈ cs, h.get? p.2 = some { cls := .none, data := .fields #[] } ∧ K.lookup p.2 = none ∧ PySem.W.CodeHd h p.1 p.2) ∧ (∀ (s : Shared) (u : Value), BindsTo s fd ⟨[u], []⟩ [(x, u)]) ∧
    (∀ (H : Hp) (a : Addr) (ns : List Int), ns.length ≤ n → (∀ z ∈ ns, Builtin.Int.intBits z ≤ 1048576) → (∀ p ∈ cs, H p.2 = some (.tbl #[])) → SqL K H a (ns.map V.int) → sp [.ref a] H (fun v _ => v = .bl true) E0) ∧
    ∀ base : Heap, K.In base → base.Ns mainGlobals mg → (∀ p ∈ cs, TabB base mg p.1 p.2) → FnG l.prog w K mg base CX k fa fd [x] sp
/-- the end; names: the defs with generator expressions -/
theorem walk_ofG {l : PySem.W.OpenLaw} {n k : Nat} {q : Program} {loose : List Str} {XP : (Str → Option Value) → Heap → Prop} {YP : World → Heap → Prop} {d : DefRec} {K : Params → PySem.W.Frag} {CX : World → CXT} {x : Str}
    (hn : l.most = some n) (hz : n ≤ sizeLine) (hdf : d.params.defaults = []) (hr : Room k callerA) (hY : ∀ (w : World) (h : Heap), YP w h → (K w.params).In h)
    (F : ∀ (w : World) (mg : Str → Option Value) (fa : Addr) (h : Heap), YP w h → (K w.params).In h → h.Ns mainGlobals mg → mg d.name = some (.ref fa) →
      (∀ e ∈ recsOf q, ∃ (a : Addr) (o : Obj) (fd : FuncData) (c p : Addr), mg e.name = some (.ref a) ∧ h.get? a = some o ∧ o.data = .func fd ∧ fd.code = .ref c ∧ h.IsCode c p #[] ∧ h.TableAt c p #[]) → LawG l w (K w.params) (CX w) k n x mg fa h)
    (hX : ∀ (w : World) (H : Hp) (s : Shared) (e : Value) (t : Shared), CX w [] H s E0 e t → False) :
    PySem.W.WalkO q loose XP YP l.row.toRowW d [] (fun f vs => PySem.call f vs) := by
  refine Att.attach_callB hn hdf ?_
  intro w s₀ s mg mb fa o pm cd doc a vs ns G Y _ _ _ hmg ha hi hlen bits hg
  have KX := hY w _ Y
  obtain ⟨fd, cs, sp, tabs, bind, start, run⟩ := F w mg fa _ Y KX G.T.g hmg fun e he => G.T.tab e he
  have B : Beg s.heap (K w.params) mg cs a vs.toArray := ⟨KX, G.T.g, ⟨mb, G.T.b, G.T.builtins⟩, G.T.nolimit, fun p hp => (tabs p hp).1, fun p hp => (tabs p hp).2.1, fun p hp => (tabs p hp).2.2, G.T.bmain, ha⟩
  obtain ⟨H, Ft, sq, ok⟩ := fit_of l.prog w B hi (Nat.le_trans hlen hz)
  have e0 : Env0 l.prog w (K w.params) mg (hidT s.heap H) callerA [] s H := ⟨rfl, Ft.mod B, fun b u e => of_hidT e, Nat.le_of_eq (hidT_size _ _), trivial, by simp [frs], ok, .of_eq hg⟩
  refine codeAny_mono ((run _ (Ft.kin B) (Ft.dic B G.T.g) (Ft.tabs B)).go callerA [] s H ⟨[.ref a], []⟩ [.ref a] [.ref a] _ E0 rfl hr e0 (bind s (.ref a)) (.cons rfl .nil) (start H a ns hlen bits Ft.tb sq)) ?_
  intro r t z
  match r, z with
  | .error e, z => exact (hX w H s e t z).elim
  | .ok .next, z => exact z.elim
  | .ok .brk, z => exact z.elim
  | .ok .cont, z => exact z.elim
  | .ok (.ret u), ⟨v, G', os, bare, un, ok', rv, e⟩ =>
    have e : v = .bl true := e
    subst e
    obtain rfl : u = Value.bool true := rv
    exact ⟨rfl, Ft.old B un ok ok', os, bare⟩
end Kf

/-! the signs of a repr: texts of letters, tuples -/
namespace Kf
open PySem PySem.Spec PyProof.Rows L2 PySem.Builtin.Str
/-- of small letters alone -/
def Low (x : Str) : Prop := ∀ c ∈ x.cps.toList, 97 ≤ c ∧ c < 123
theorem ch_low : ∀ i : Fin 26, reprChar 39 (97 + i.val) = [97 + i.val] := by decide +kernel
theorem ch_low' {c : Nat} (h : 97 ≤ c ∧ c < 123) : reprChar 39 c = [c] := by
  have z := ch_low ⟨c - 97, by omega⟩
  have e : 97 + (c - 97) = c := by omega
  simp only [e] at z
  exact z
theorem fold_low : ∀ (l : List Nat) (acc : Array Nat), (∀ c ∈ l, 97 ≤ c ∧ c < 123) → (l.foldl (fun out c => out ++ (reprChar 39 c).toArray) acc).toList = acc.toList ++ l
  | [], acc, _ => by simp
  | c :: l, acc, h => by
    rw [List.foldl_cons, fold_low l _ fun d hd => h d (List.mem_cons_of_mem _ hd), ch_low' (h c List.mem_cons_self)]
    simp
theorem quote_low {x : Str} (h : Low x) : reprQuote x = 39 := by
  unfold reprQuote
  have e : x.cps.contains 39 = false := by
    rw [← Bool.not_eq_true]
    intro z
    have m : (39 : Nat) ∈ x.cps := by simpa using z
    have := h 39 (Array.mem_def.mp m)
    omega
  rw [e]
  rfl
theorem repr_low {x : Str} (h : Low x) : (reprText x).cps.toList = 39 :: (x.cps.toList ++ [39]) := by
  unfold reprText
  rw [quote_low h, ← Array.foldl_toList, Array.toList_push, fold_low _ _ h]
  rfl
theorem cnt_low {x : Str} (h : Low x) : cnt 40 (reprText x).cps.toList = 0 := by
  rw [repr_low h, cnt_cons, cnt_append]
  have z : ∀ l : List Nat, (∀ c ∈ l, 97 ≤ c ∧ c < 123) → cnt 40 l = 0 := by
    intro l
    induction l with
    | nil => intro _; rfl
    | cons c l ih =>
      intro h
      rw [cnt_cons, ih fun d hd => h d (List.mem_cons_of_mem _ hd)]
      have := h c List.mem_cons_self
      rw [if_neg (by omega)]
      rfl
  rw [z _ h]
  decide
theorem len_low {x : Str} (h : Low x) : (reprText x).length = x.cps.toList.length + 2 := by
  show (reprText x).cps.size = _
  rw [← Array.length_toList, repr_low h]
  simp
theorem cps_app (x y : Str) : (x ++ y).cps.toList = x.cps.toList ++ y.cps.toList := by
  show (x.cps ++ y.cps).toList = _
  rw [Array.toList_append]
theorem cnt_tup (ts : List Str) : cnt 40 (tupleText ts).cps.toList = 1 + (ts.map fun t => cnt 40 t.cps.toList).sum := by
  unfold tupleText
  rw [cps_app, cps_app, cnt_append, cnt_append, cnt_join_sum]
  have e1 : cnt 40 (("(" : Str)).cps.toList = 1 := by decide +kernel
  have e2 : cnt 40 ((", " : Str)).cps.toList = 0 := by decide +kernel
  have e3 : cnt 40 (((if ts.length == 1 then ",)" else ")" : String) : Str)).cps.toList = 0 := by split <;> decide +kernel
  rw [e1, e2, e3, Int.mul_zero]
  omega
theorem count_par (x : Str) : Txt.count x "(" = cnt 40 x.cps.toList := by
  have e : (("(" : String) : Str) = ⟨#[40]⟩ := by decide +kernel
  rw [e]
  exact count_cnt x 40
end Kf

/-! tuples put together and cut, wherever the answer stands -/
namespace Kv
open PySem PySem.Spec PyProof.Rows L2 Kf
theorem new_same {H : Hp} {p : Addr} {o : HO} (h : H p = none) : Same H (upd H p o) := fun b u e => by
  rw [upd_ne (ne_of_none e h)]
  exact e
def rCatU : R2 := fun x y H Q => ∃ (a b : Addr) (xs ys : List V), x = .ref a ∧ y = .ref b ∧ H a = some (.tup xs) ∧ H b = some (.tup ys) ∧ xs.length + ys.length ≤ sizeLine ∧ ∀ (p : Addr) (G : Hp), Same H G → G p = some (.tup (xs ++ ys)) → Q (.ref p) G
theorem op_catU {X : Cx} : OpR X (binaryOp .Add) rCatU := by
  intro pins s σ H x y v u Q I rx ry h
  obtain ⟨a, b, xs, ys, rfl, rfl, ha, hb, hz, q⟩ := h
  refine op_catA pins s σ H _ _ v u Q I rx ry ⟨a, b, xs, ys, rfl, rfl, SqT.of ha, SqT.of hb, hz, fun e => ?_, fun _ e => ?_, fun _ _ p np => q p _ (new_same np) upd_same⟩
  · subst e
    exact q b H (Same.refl H) hb
  · subst e
    exact q a H (Same.refl H) (by rw [List.append_nil]; exact ha)
def rSlU : V → Option Int → Option Int → Hp → VK → Prop := fun x lo hi H Q => ∃ (a : Addr) (xs : List V), x = .ref a ∧ H a = some (.tup xs) ∧ ∀ (p : Addr) (G : Hp), Same H G → G p = some (.tup (cutV xs lo hi)) → Q (.ref p) G
theorem sl_tupU {X : Cx} : SlR X rSlU := by
  intro pins s σ H x v vl vu lo hi sl Q I rx hs pl pu h
  obtain ⟨a, xs, rfl, ha, q⟩ := h
  refine sl_tupA pins s σ H _ v vl vu lo hi sl Q I rx hs pl pu ⟨a, xs, rfl, SqT.of ha, fun e => q a H (Same.refl H) ?_, fun _ p np => q p _ (new_same np) upd_same⟩
  rw [ha]
  unfold cutV
  rw [e.1, e.2, List.drop_zero, Nat.sub_zero, List.take_length]
theorem cut_take (xs : List V) (n : Nat) : cutV xs none (some (n : Int)) = xs.take n := by
  unfold cutV
  rw [HT.sIx_none, HT.sIx_nat, List.drop_zero, Nat.sub_zero]
  by_cases h : n ≤ xs.length
  · rw [Nat.min_eq_left h]
  · rw [Nat.min_eq_right (by omega), List.take_length, List.take_of_length_le (by omega)]
theorem cut_drop (xs : List V) (n : Nat) : cutV xs (some (n : Int)) none = xs.drop n := by
  unfold cutV
  rw [HT.sIx_none, HT.sIx_nat]
  by_cases h : n ≤ xs.length
  · rw [Nat.min_eq_left h, ← List.length_drop, List.take_length]
  · rw [Nat.min_eq_right (by omega), List.drop_length, List.drop_of_length_le (by omega)]
    simp
theorem cut_mid (xs : List V) (n m : Nat) : cutV xs (some (n : Int)) (some (m : Int)) = (xs.drop n).take (m - n) := by
  unfold cutV
  rw [HT.sIx_nat, HT.sIx_nat]
  by_cases h : n ≤ xs.length
  · rw [Nat.min_eq_left h]
    by_cases h2 : m ≤ xs.length
    · rw [Nat.min_eq_left h2]
    · rw [Nat.min_eq_right (by omega), ← List.length_drop, List.take_length, List.take_of_length_le (by rw [List.length_drop]; omega)]
  · have e1 : xs.drop n = [] := List.drop_of_length_le (by omega)
    have e2 : xs.drop (min n xs.length) = [] := List.drop_of_length_le (by omega)
    rw [e1, e2]
    simp
/-! places in things -/
def Dt.at? : Dt → List Nat → Option Dt
  | x, [] => some x
  | .tup xs, i :: p => match xs[i]? with
    | some y => y.at? p
    | none => none
  | _, _ :: _ => none
end Kv

namespace Kq
open PySem PySem.Spec PyProof.Rows L2
/-! the program's defs, by their places -/
def tp (i : Nat) : Stmt := PySem.Challenge.pw_kindalone_k04_what_is_a_worth.main.body.getD i (.Pass ⟨0, 0, 0, 0⟩)
abbrev tMixed : Stmt := tp 41
abbrev tDraw : Stmt := tp 42
/-! heaps -/
theorem newS {H : Hp} {p : Addr} {o : HO} (h : H p = none) : Same H (upd H p o) := fun b u e => by
  rw [upd_ne (ne_of_none e h)]
  exact e
/-- but for d and c all that stood stands -/
def Kp (d c : Addr) (H G : Hp) : Prop := ∀ b o, b ≠ d → b ≠ c → H b = some o → G b = some o
theorem Kp.rfl {d c : Addr} {H : Hp} : Kp d c H H := fun _ _ _ _ e => e
theorem Kp.trans {d c : Addr} {H G F : Hp} (a : Kp d c H G) (b : Kp d c G F) : Kp d c H F := fun x o h1 h2 e => b x o h1 h2 (a x o h1 h2 e)
theorem Kp.of {d c : Addr} {H G : Hp} (a : Same H G) : Kp d c H G := fun x o _ _ e => a x o e
theorem Kp.at1 {d c : Addr} {H : Hp} {o : HO} : Kp d c H (upd H d o) := fun x u h1 _ e => by rw [upd_ne h1]; exact e
theorem Kp.at2 {d c : Addr} {H : Hp} {o : HO} : Kp d c H (upd H c o) := fun x u _ h2 e => by rw [upd_ne h2]; exact e
/-- the deck of drawn cells -/
structure Dk (H : Hp) (d c : Addr) : Prop where
  ne : d ≠ c
  dd : ∃ seed k : Int, H d = some (.lst [.ref c, .int seed, .int k])
  cc : ∃ ns : List Int, H c = some (.lst (ns.map V.int)) ∧ ns.length ≤ 63
theorem Dk.same {H G : Hp} {d c : Addr} (x : Dk H d c) (s : Same H G) : Dk G d c := by
  obtain ⟨n, ⟨a, b, e⟩, ⟨ns, f, l⟩⟩ := x
  exact ⟨n, ⟨a, b, s _ _ e⟩, ⟨ns, s _ _ f, l⟩⟩
theorem sz {n : Nat} (h : n ≤ 1000) : n ≤ sizeLine := Nat.le_of_lt (small1000 h)
section
variable {P : Program} {w : World} {K : PySem.W.Frag} {mg : Str → Option Value} {base : Heap}
/-! _law_mixed -/
theorem scMixed : FnScope ["_law_cell", "_law_k", "_law_number"] ["_law_cell", "_law_k"] (defScope tMixed) := ⟨rfl, rfl, rfl, by decide +kernel, rfl, by decide +kernel, by decide +kernel⟩
def spMixed : Sp := fun vs H Q _ => ∃ a b : Int, vs = [.int a, .int b] ∧ ∀ r : Int, Q (.int r) H
theorem okMixed {f : Addr} {fd : FuncData} {k : Nat} (F : Fun K "_law_mixed" "_law_mixed" tMixed f fd) : FnOk P w K mg base CX0 (k + 1) f fd ["_law_cell", "_law_k"] spMixed := by
  refine F.ok scMixed (fun vs H Q E h => ?_) (fun cdv A outer s H vs Q E hr h => ?_)
  · obtain ⟨a, b, rfl, _⟩ := h
    rfl
  obtain ⟨a, b, rfl, q⟩ := h
  refine ⟨_, pss_cons (ps_set (i := 2) scMixed.nd rfl (.inl rfl) (pe_op op_mod (pe_op op_mul (pe_op op_add (pe_op op_add (pe_op op_mod (pv 0) pe_int) (pe_op op_mul pe_int (pv 1))) pe_int) pe_int) pe_int))
    (pss_cons (ps_set (i := 2) scMixed.nd rfl (.inl rfl) (pe_op op_mod (pe_op op_add (pe_op op_add (pe_op op_mul (pv 2) (pv 2)) (pe_op op_mul pe_int (pv 1))) pe_int) pe_int))
    (pss_one (ps_ret (pe_op op_fdiv (pe_op op_mod (pe_op op_mul (pv 2) (pe_op op_add (pe_op op_fdiv (pv 2) pe_int) pe_int)) pe_int) pe_int)))), ?_⟩
  refine ⟨_, rfl, _, _, rfl, rfl, (by show (0 : Int) < 2147483629; decide), _, rfl, _, _, rfl, rfl, .inl ⟨by decide, by decide⟩, _, _, rfl, rfl, _, _, rfl, rfl, _, _, rfl, rfl, .inr ⟨by decide, by decide⟩, _, _, rfl, rfl, (by show (0 : Int) < 2147483647; decide), ?_⟩
  generalize hx : (a % 2147483629 + 104729 * b + 1) * 48271 % 2147483647 = x
  have x0 : 0 ≤ x := by rw [← hx]; exact Int.emod_nonneg _ (by decide)
  have x1 : x < 2147483647 := by rw [← hx]; exact Int.emod_lt_of_pos _ (by decide)
  refine ⟨_, rfl, _, rfl, _, _, rfl, rfl, .inl ⟨by omega, by omega⟩, _, rfl, _, _, rfl, rfl, .inl ⟨by decide, by decide⟩, _, _, rfl, rfl, _, _, rfl, rfl, _, _, rfl, rfl, (by show (0 : Int) < 2147483587; decide), ?_⟩
  generalize hy : (x * x + 69621 * b + 7) % 2147483587 = y
  have y0 : 0 ≤ y := by rw [← hy]; exact Int.emod_nonneg _ (by decide)
  have y1 : y < 2147483587 := by rw [← hy]; exact Int.emod_lt_of_pos _ (by decide)
  refine ⟨_, rfl, _, rfl, _, _, rfl, rfl, ⟨by decide, by decide⟩, _, _, rfl, rfl, _, _, rfl, rfl, .inl ⟨by omega, by omega⟩, _, _, rfl, rfl, (by show (0 : Int) < 2305843009213693951; decide), _, _, rfl, rfl, ⟨by decide, by decide⟩, q _⟩
/-! _law_draw -/
theorem scDraw : FnScope ["_law_deck_here", "_law_most", "_law_cell"] ["_law_deck_here", "_law_most"] (defScope tDraw) := ⟨rfl, rfl, rfl, by decide +kernel, rfl, by decide +kernel, by decide +kernel⟩
def spDraw : Sp := fun vs H Q _ => ∃ (d c : Addr) (m : Int), vs = [.ref d, .int m] ∧ Dk H d c ∧ 0 < m ∧ m < 1125899906842624 ∧ ∀ (r : Int) (G : Hp), 0 ≤ r → r < m → Kp d c H G → Dk G d c → Q (.int r) G
theorem dpInts (K : PySem.W.Frag) (H : Hp) : ∀ ns : List Int, DpAll K H (ns.map V.int) (ns.map PyData.int)
  | [] => .nil
  | n :: ns => .cons (.int n) (dpInts K H ns)
theorem okDraw {f fM : Addr} {fd fdM : FuncData} {k : Nat} (F : Fun K "_law_draw" "_law_draw" tDraw f fd) (FM : Fun K "_law_mixed" "_law_mixed" tMixed fM fdM) (bM : Binds K fdM ["_law_cell", "_law_k"] []) (gM : mg "_law_mixed" = some (.ref fM)) :
    FnOk P w K mg base CX0 (k + 2) f fd ["_law_deck_here", "_law_most"] spDraw := by
  have GM : FnOk P w K mg base CX0 (k + 1) fM fdM ["_law_cell", "_law_k"] spMixed := okMixed FM
  refine F.ok scDraw (fun vs H Q E h => ?_) (fun cdv A outer s H vs Q E hr h => ?_)
  · obtain ⟨d, c, m, rfl, _⟩ := h
    rfl
  obtain ⟨d, c, m, rfl, ⟨ndc, ⟨seed, k0, hd⟩, ⟨ns, hc, hl⟩⟩, m0, m1, q⟩ := h
  refine ⟨_, pss_cons (ps_asg (pe_op op_add (pe_ix ix_list (pv 0) pe_int (fun _ _ => rfl)) pe_int) (pg_sub (pv 0) pe_int set_list))
    (pss_cons (ps_if (pt_cmpR (op_eqD hr.units) (pe_ix ix_list (pv 0) pe_int (fun _ _ => rfl)) (pe_lst pa_nil) (nomark _))
      (pss_one (ps_ret (pe_op op_mod (pe_call GM hr (by rfl) gM FM.kp bM .nil pass0 (pa_cons (pe_ix ix_list (pv 0) pe_int (fun _ _ => rfl)) (pa_cons (pe_ix ix_list (pv 0) pe_int (fun _ _ => rfl)) pa_nil))) (pv 1)))) pss_nil)
    (pss_cons (ps_set (i := 2) scDraw.nd rfl (.inl rfl) (pe_bm0 PySem.F.plainAttrs_list PySem.F.slot_list_pop PySem.F.type_list_pop mt_pop (pe_ix ix_list (pv 0) pe_int (fun _ _ => rfl))))
    (pss_cons (ps_if (pt_cmpR op_lt (pv 2) (pe_op op_pow pe_int pe_int) (nomark _))
      (pss_one (ps_ret (pe_op op_mod (pe_call GM hr (by rfl) gM FM.kp bM .nil pass0 (pa_cons (pv 2) (pa_cons (pe_ix ix_list (pv 0) pe_int (fun _ _ => rfl)) pa_nil))) (pv 1)))) pss_nil)
    (pss_cons (ps_expr (pe_bm PySem.F.plainAttrs_list PySem.F.slot_list_append PySem.F.type_list_append mt_append (pe_ix ix_list (pv 0) pe_int (fun _ _ => rfl)) (pa_cons (pe_op op_fdivW (pv 2) (pv 1)) pa_nil)))
    (pss_one (ps_ret (pe_op op_mod (pv 2) (pv 1)))))))), ?_⟩
  -- the count
  refine ⟨_, rfl, d, _, _, _, rfl, rfl, SqL.of hd, atI_nat (j := 2) rfl, _, _, rfl, rfl, _, rfl, d, _, _, 2, rfl, rfl, hd, rfl, ?_⟩
  generalize hH1 : upd H d _ = H1
  have d1 : H1 d = some (.lst [.ref c, .int seed, .int (k0 + 1)]) := by rw [← hH1, upd_same]; rfl
  have c1 : H1 c = some (.lst (ns.map V.int)) := by rw [← hH1, upd_ne ndc.symm]; exact hc
  have p1 : Kp d c H H1 := by rw [← hH1]; exact Kp.at1
  clear hH1
  -- no cell left?
  refine ⟨_, rfl, d, _, _, _, rfl, rfl, SqL.of d1, atI_nat (j := 0) rfl, Nat.zero_le _, fun p np => ?_⟩
  have sp : Same H1 (upd H1 p (.lst [])) := newS np
  have d2 := sp _ _ d1
  have c2 := sp _ _ c1
  have p2 : Kp d c H (upd H1 p (.lst [])) := p1.trans (.of sp)
  refine ⟨.list (ns.map PyData.int), .list [], .lst (SqL.of c2) (dpInts K _ ns), .lst (SqL.of upd_same) .nil, PySem.W.ke_shaped_ints ns, rfl, _, rfl, ?_⟩
  generalize upd H1 p (.lst []) = H2 at d2 c2 p2
  refine ite2 (fun _ => ?_) (fun hne => ?_)
  · refine ⟨_, rfl, d, _, _, _, rfl, rfl, SqL.of d2, atI_nat (j := 1) rfl, _, rfl, d, _, _, _, rfl, rfl, SqL.of d2, atI_nat (j := 2) rfl, _, _, rfl, fun r => ?_⟩
    exact ⟨_, rfl, _, _, rfl, rfl, m0, q _ _ (Int.emod_nonneg _ (by omega)) (Int.emod_lt_of_pos _ m0) p2 ⟨ndc, ⟨_, _, d2⟩, ⟨ns, c2, hl⟩⟩⟩
  · have nn : ns ≠ [] := fun z => hne (by rw [z]; rfl)
    obtain ⟨n, hn⟩ : ∃ n, (ns.map V.int)[(ns.map V.int).length - 1]? = some (.int n) := by
      have h0 : 0 < ns.length := List.length_pos_iff.mpr nn
      rw [List.length_map, List.getElem?_map, List.getElem?_eq_getElem (by omega)]
      exact ⟨_, rfl⟩
    have ed : (ns.map V.int).dropLast = ns.dropLast.map V.int := by rw [List.map_dropLast]
    refine ⟨_, rfl, d, _, _, _, rfl, rfl, SqL.of d2, atI_nat (j := 0) rfl, .inl ⟨rfl, _, SqL.of c2⟩, c, _, _, rfl, rfl, c2, hn, ?_⟩
    rw [ed]
    generalize hH3 : upd H2 c _ = H3
    have d3 : H3 d = some (.lst [.ref c, .int seed, .int (k0 + 1)]) := by rw [← hH3, upd_ne ndc]; exact d2
    have c3 : H3 c = some (.lst (ns.dropLast.map V.int)) := by rw [← hH3, upd_same]
    have p3 : Kp d c H H3 := by rw [← hH3]; exact p2.trans Kp.at2
    have l3 : ns.dropLast.length ≤ 62 := by rw [List.length_dropLast]; omega
    clear hH3
    refine ⟨_, rfl, _, _, rfl, rfl, ⟨by decide, by decide, by decide⟩, _, _, rfl, rfl, _, rfl, ite2 (fun _ => ?_) (fun _ => ?_)⟩
    · refine ⟨_, rfl, _, rfl, d, _, _, _, rfl, rfl, SqL.of d3, atI_nat (j := 2) rfl, _, _, rfl, fun r => ?_⟩
      exact ⟨_, rfl, _, _, rfl, rfl, m0, q _ _ (Int.emod_nonneg _ (by omega)) (Int.emod_lt_of_pos _ m0) p3 ⟨ndc, ⟨_, _, d3⟩, ⟨_, c3, by omega⟩⟩⟩
    · refine ⟨_, rfl, d, _, _, _, rfl, rfl, SqL.of d3, atI_nat (j := 0) rfl, .inl ⟨rfl, _, SqL.of c3⟩, _, rfl, _, rfl, _, _, rfl, rfl, wide_div (b := 51) m0 (by show m.natAbs < 2251799813685248; omega) (by decide) (by decide), c, _, _, rfl, rfl, c3, (by rw [List.length_map]; exact small1000 (by omega)), ?_⟩
      refine ⟨_, rfl, _, rfl, _, _, rfl, rfl, m0, q _ _ (Int.emod_nonneg _ (by omega)) (Int.emod_lt_of_pos _ m0) (p3.trans Kp.at2) ⟨ndc, ⟨seed, k0 + 1, (by rw [upd_ne ndc]; exact d3)⟩, ⟨ns.dropLast ++ [n / m], ?_, ?_⟩⟩⟩
      · rw [upd_same, List.map_append]
        rfl
      · rw [List.length_append, List.length_singleton]
        omega
end
end Kq

namespace Kq
open PySem PySem.Spec PyProof.Rows L2
abbrev tDeck : Stmt := tp 40
abbrev tNames : Stmt := tp 43
theorem Kp.mk {d c p : Addr} {H G : Hp} {o : HO} (a : Kp d c H G) (h : H p = none) : Kp d c H (upd G p o) := fun b u h1 h2 e => by
  rw [upd_ne (ne_of_none e h)]
  exact a b u h1 h2 e
theorem Dk.put {G : Hp} {d c p : Addr} {o : HO} (x : Dk G d c) (h : p ≠ d) (h' : p ≠ c) : Dk (upd G p o) d c := by
  obtain ⟨n, ⟨a, b, e⟩, ⟨ns, f, l⟩⟩ := x
  exact ⟨n, ⟨a, b, by rw [upd_ne h.symm]; exact e⟩, ⟨ns, by rw [upd_ne h'.symm]; exact f, l⟩⟩
theorem Dk.off {H : Hp} {d c p : Addr} (x : Dk H d c) (h : H p = none) : p ≠ d ∧ p ≠ c := by
  obtain ⟨n, ⟨a, b, e⟩, ⟨ns, f, l⟩⟩ := x
  exact ⟨(ne_of_none e h).symm, (ne_of_none f h).symm⟩
/-! texts of letters -/
def lets : Str := "abcdefghijklmnopqrstuvwxyz"
def sg (i : Nat) : Str := ⟨#[97 + i]⟩
theorem lets_at : ∀ i : Fin 26, lets.cps.toList[i.val]? = some (97 + i.val) := by decide +kernel
theorem lets_ix : ∀ i : Fin 26, Builtin.Str.occurrences lets (sg i.val) 0 lets.length 1 = [i.val] := by decide +kernel
structure Nm (x : Str) : Prop where
  low : ∀ c ∈ x.cps.toList, 97 ≤ c ∧ c < 123
  few : x.cps.toList.length ≤ 8
  one : 1 ≤ x.cps.toList.length
theorem app_cps (x y : Str) : (x ++ y).cps.toList = x.cps.toList ++ y.cps.toList := by
  show (x.cps ++ y.cps).toList = _
  rw [Array.toList_append]
theorem join_low : ∀ ks : List Nat, (∀ k ∈ ks, k < 26) → (∀ c ∈ (Txt.join (Str.ofString "") (ks.map sg)).cps.toList, 97 ≤ c ∧ c < 123) ∧ (Txt.join (Str.ofString "") (ks.map sg)).cps.toList.length = ks.length := by
  intro ks h
  rw [show ∀ a b, Txt.join a b = Str.join a b from TL.join_eq]
  induction ks with
  | nil => exact ⟨fun c z => absurd z (by simp [Str.join, Str.empty]), by simp [Str.join, Str.empty]⟩
  | cons k ks ih =>
    have hk := h k List.mem_cons_self
    have ih := ih fun j hj => h j (List.mem_cons_of_mem _ hj)
    cases ks with
    | nil =>
      refine ⟨fun c z => ?_, rfl⟩
      have e : c = 97 + k := by simpa [Str.join, sg] using z
      omega
    | cons j r =>
      have e : Str.join (Str.ofString "") ((k :: j :: r).map sg) = sg k ++ Str.ofString "" ++ Str.join (Str.ofString "") ((j :: r).map sg) := rfl
      rw [e, app_cps, app_cps]
      have e0 : (Str.ofString "").cps.toList = [] := by decide
      rw [e0, List.append_nil]
      refine ⟨fun c z => ?_, ?_⟩
      · rcases List.mem_append.mp z with z | z
        · have e : c = 97 + k := by simpa [sg] using z
          omega
        · exact ih.1 c z
      · rw [List.length_append, ih.2]
        show 1 + _ = _
        simp only [List.length_cons]
        omega
theorem join_nm {ks : List Nat} (h : ∀ k ∈ ks, k < 26) (h1 : 1 ≤ ks.length) (h8 : ks.length ≤ 8) : Nm (Txt.join (Str.ofString "") (ks.map sg)) := by
  obtain ⟨a, b⟩ := join_low ks h
  exact ⟨a, by omega, by omega⟩
theorem cutTo {xs : List V} {j : Nat} (h : j ≤ xs.length) : cutV xs none (some (j : Int)) = xs.take j := by
  unfold cutV
  rw [HT.sIx_nat, HT.sIx_none, Nat.min_eq_left h]
  rfl
section
variable {P : Program} {w : World} {K : PySem.W.Frag} {mg : Str → Option Value} {base : Heap}
/-! _law_deck -/
theorem scDeck : FnScope ["_law_script", "_law_cells", "_law_seed", "_law_cell"] ["_law_script"] (defScope tDeck) := ⟨rfl, rfl, rfl, by decide +kernel, rfl, by decide +kernel, by decide +kernel⟩
def spDeck (K : PySem.W.Frag) : Sp := fun vs H Q _ => ∃ (a : Addr) (ns : List Int), vs = [.ref a] ∧ SqL K H a (ns.map V.int) ∧ ns.length ≤ 63 ∧ ∀ (d c : Addr) (G : Hp), Same H G → Dk G d c → Q (.ref d) G
theorem okDeck {f : Addr} {fd : FuncData} {k : Nat} (F : Fun K "_law_deck" "_law_deck" tDeck f fd) (ml : mg "list" = none) (mr : mg "reversed" = none) : FnOk P w K mg base CX0 (k + 1) f fd ["_law_script"] (spDeck K) := by
  refine F.ok scDeck (fun vs H Q E h => ?_) (fun cdv A outer s H vs Q E hr h => ?_)
  · obtain ⟨a, ns, rfl, _⟩ := h
    rfl
  obtain ⟨a, ns, rfl, hS, hl, q⟩ := h
  refine ⟨_, pss_cons (ps_set (i := 1) scDeck.nd rfl (.inl rfl) (Kr.pe_listRev rfl (by rfl) ml (by rfl) mr (pe_slice sl_list (pv 0) po_none (po_some pe_int))))
    (pss_cons (ps_set (i := 2) scDeck.nd rfl (.inl rfl) pe_int)
    (pss_cons (ps_for PassesOwn.never rfl (pi_list (pv 1)) (pg_name (i := 3) scDeck.nd rfl (.inl rfl))
      (pss_one (ps_set (i := 2) scDeck.nd rfl (.inl rfl) (pe_op op_mod (pe_op op_add (pe_op op_add (pe_op op_mul (pv 2) pe_int) (pe_op op_mod (pv 3) pe_int)) pe_int) pe_int))))
    (pss_one (ps_ret (pe_lst (pa_cons (pv 1) (pa_cons (pv 2) (pa_cons pe_int pa_nil)))))))), ?_⟩
  refine ⟨_, rfl, 63, rfl, a, _, rfl, hS, fun p np => ?_⟩
  refine ⟨p, _, rfl, SqL.of upd_same, fun c nc => ?_⟩
  have e0 : cutV (ns.map V.int) none (some 63) = (ns.take 63).map V.int := by
    rw [List.take_of_length_le hl]
    unfold cutV
    rw [HT.sIx_none, show HT.sIx (ns.map V.int).length (ns.map V.int).length (some 63) = min 63 (ns.map V.int).length from HT.sIx_nat _ _ 63, List.drop_zero, List.take_of_length_le]
    rw [List.length_map]
    omega
  rw [e0, ← List.map_reverse]
  generalize hm : (ns.take 63).reverse = ms
  have lm : ms.length ≤ 63 := by rw [← hm, List.length_reverse, List.length_take]; omega
  generalize hG : upd (upd H p _) c (.lst (ms.map V.int)) = G
  have gc : G c = some (.lst (ms.map V.int)) := by rw [← hG, upd_same]
  have sG : Same H G := by
    rw [← hG]
    rw [e0] at nc
    exact (newS np).trans (newS nc)
  refine ⟨_, rfl, c, rfl, ⟨_, SqL.of gc⟩, for_list (xs := ms.map V.int) (fun i σ F => F = G ∧ ∃ (sd : Int) (y : Option V), σ = [some (.ref a), some (.ref c), some (.int sd), y]) ⟨rfl, _, none, rfl⟩ (fun i σ F _ z => by rw [z.1]; exact SqL.of gc) (fun i x σ F hx z => ?_) (fun σ F z => ?_)⟩
  · obtain ⟨rfl, sd, y, rfl⟩ := z
    obtain ⟨n, rfl⟩ : ∃ n, x = .int n := by
      rw [List.getElem?_map] at hx
      cases hq : ms[i]? with
      | none => rw [hq] at hx; cases hx
      | some n => rw [hq] at hx; exact ⟨n, (Option.some.inj hx).symm⟩
    exact ⟨_, rfl, _, _, rfl, rfl, .inr ⟨by decide, by decide⟩, _, rfl, _, _, rfl, rfl, (by show (0 : Int) < 1000000007; decide), _, _, rfl, rfl, _, _, rfl, rfl, _, _, rfl, rfl, (by show (0 : Int) < 2147483629; decide), rfl, _, _, rfl⟩
  · obtain ⟨rfl, sd, y, rfl⟩ := z
    refine ⟨_, rfl, _, rfl, (by show 3 ≤ sizeLine; decide), fun d nd => q d c _ (sG.trans (newS nd)) ⟨(ne_of_none gc nd).symm, ⟨_, _, upd_same⟩, ⟨ms, ?_, lm⟩⟩⟩
    rw [upd_ne (ne_of_none gc nd)]
    exact gc
end
end Kq

namespace Kq
open PySem PySem.Spec PyProof.Rows L2
theorem Kp.free {d c p : Addr} {H G : Hp} (a : Kp d c H G) (k : Dk G d c) (h : G p = none) : H p = none := by
  obtain ⟨h1, h2⟩ := k.off h
  cases e : H p with
  | none => rfl
  | some o =>
    rw [a p o h1 h2 e] at h
    cases h
theorem sg_len (ks : List Nat) : ((ks.map sg).map (·.length)).sum = ks.length := by
  induction ks with
  | nil => rfl
  | cons k ks ih =>
    rw [List.map_cons, List.map_cons, List.sum_cons, ih, List.length_cons]
    show 1 + ks.length = _
    omega
theorem lets_get {r : Int} (h0 : 0 ≤ r) (h1 : r < 26) : atI lets.cps.toList r = some (97 + r.toNat) := by
  have e : r = ((r.toNat : Nat) : Int) := by omega
  have q := atI_nat (lets_at ⟨r.toNat, by omega⟩)
  rw [← show r = (((⟨r.toNat, by omega⟩ : Fin 26).val : Nat) : Int) from e] at q
  exact q
theorem cutKs {ks : List Nat} {j : Nat} (h : j ≤ ks.length) : cutV ((ks.map sg).map V.str) none (some (j : Int)) = ((ks.take j).map sg).map V.str := by
  rw [cutTo (by rw [List.length_map, List.length_map]; exact h), List.map_take, List.map_take]
theorem lets_len : lets.length ≤ sizeLine := by decide
/-! rules for the inside of a comprehension, the written part named -/
theorem slK {X : Cx} (K : PySem.W.Frag) (h : X.K = K) : SlR X (rSlL K) := by
  subst h
  exact sl_list
def rJn (K : PySem.W.Frag) : V → List V → Hp → VK → Prop := fun x xs H Q => ∃ a p, ∃ ys : List Str, x = .str a ∧ xs = [.ref p] ∧ (SqL K H p (ys.map V.str) ∨ SqT K H p (ys.map V.str)) ∧ (ys.map (·.length)).sum + ys.length * a.length ≤ 16777216 ∧ Q (.str (Txt.join a ys)) H
theorem pe_joinK {X : Cx} (K : PySem.W.Frag) (h : X.K = K) {o e : Expr} {apos pos : Pos} {to te : TE} (ho : PE X o to) (he : PE X e te) (hbase : attributeBase o "join" X.env (eval o X.env) = eval o X.env := by rfl) (hline : (apos.endLine == pos.line) = true := by rfl)
    (hs : starEach [e] X.env = [(false, eval e X.env)] := by rfl) : PE X (.Call (.Attribute o "join" apos) [e] [] pos) (tM1 (rJn K) to te) := by
  subst h
  exact pe_join ho he hs hbase hline
theorem join_cps : ∀ ks : List Nat, (Txt.join (Str.ofString "") (ks.map sg)).cps.toList = ks.map (97 + ·) := by
  intro ks
  rw [show ∀ a b, Txt.join a b = Str.join a b from TL.join_eq]
  induction ks with
  | nil => rfl
  | cons k ks ih =>
    cases ks with
    | nil => rfl
    | cons j r =>
      have e : Str.join (Str.ofString "") ((k :: j :: r).map sg) = sg k ++ Str.ofString "" ++ Str.join (Str.ofString "") ((j :: r).map sg) := rfl
      rw [e, app_cps, app_cps, ih]
      rfl
theorem nodupR {f : Nat → Str} : ∀ n, (∀ i j, i < n → j < n → f i = f j → i = j) → ((List.range n).map f).Nodup
  | 0, _ => List.nodup_nil
  | n + 1, h => by
    rw [List.range_succ, List.map_append]
    refine List.nodup_append.mpr ⟨nodupR n fun i j hi hj e => h i j (by omega) (by omega) e, (by simp), fun x hx y hy e => ?_⟩
    obtain ⟨i, hi, rfl⟩ := List.mem_map.mp hx
    have ey : y = f n := List.mem_singleton.mp hy
    rw [ey] at e
    have hi := List.mem_range.mp hi
    have := h i n (by omega) (by omega) e
    omega
/-- the beginnings of a word -/
def nmPre (ks : List Nat) (j : Nat) : Str := Txt.join (Str.ofString "") ((ks.take (j + 1)).map sg)
theorem nmPre_inj {ks : List Nat} {n i j : Nat} (hn : n ≤ ks.length) (hi : i < n) (hj : j < n) (h : nmPre ks i = nmPre ks j) : i = j := by
  have e : (ks.take (i + 1)).map (97 + ·) = (ks.take (j + 1)).map (97 + ·) := by
    rw [← join_cps, ← join_cps]
    exact congrArg (fun s : Str => s.cps.toList) h
  have e2 := congrArg List.length e
  rw [List.length_map, List.length_map, List.length_take, List.length_take] at e2
  omega
/-- a word with another letter at a place -/
def nmAt (ls : List Nat) (a k j : Nat) : Str := Txt.join (Str.ofString "") ((ls.set a ((((k : Nat) : Int) + (0 + (j : Int))) % 26).toNat).map sg)
theorem nmAt_inj {ls : List Nat} {a k i j : Nat} (ha : a < ls.length) (hi : i < 26) (hj : j < 26) (h : nmAt ls a k i = nmAt ls a k j) : i = j := by
  have e : (ls.set a ((((k : Nat) : Int) + (0 + (i : Int))) % 26).toNat).map (97 + ·) = (ls.set a ((((k : Nat) : Int) + (0 + (j : Int))) % 26).toNat).map (97 + ·) := by
    rw [← join_cps, ← join_cps]
    exact congrArg (fun s : Str => s.cps.toList) h
  have e2 := congrArg (fun l => l[a]?) e
  simp only [List.getElem?_map, List.getElem?_set_self ha, Option.map_some] at e2
  have e3 := Option.some.inj e2
  omega
section
variable {P : Program} {w : World} {K : PySem.W.Frag} {mg : Str → Option Value} {base : Heap}
abbrev nNames : List Str := ["_law_deck_here", "_law_many", "_law_letters", "_law_k", "_law_word", "_law_long", "_law_at_here", "_law_found", "_law_one"]
theorem scNames : FnScope nNames ["_law_deck_here", "_law_many"] (defScope tNames) := ⟨rfl, rfl, rfl, by decide +kernel, rfl, by decide +kernel, by decide +kernel⟩
def spNames : Sp := fun vs H Q _ => ∃ (d c : Addr) (m : Int), vs = [.ref d, .int m] ∧ Dk H d c ∧ 0 ≤ m ∧ m ≤ 26 ∧
  ∀ (l : Addr) (xs : List Str) (G : Hp), Kp d c H G → Dk G d c → H l = none → G l = some (.lst (xs.map V.str)) → xs.length = m.toNat → (∀ x ∈ xs, Nm x) → xs.Nodup → Q (.ref l) G
theorem okNames {f fD : Addr} {fd fdD : FuncData} {k : Nat} (F : Fun K "_law_names" "_law_names" tNames f fd) (GD : FnOk P w K mg base CX0 (k + 2) fD fdD ["_law_deck_here", "_law_most"] spDraw) (bD : Binds K fdD ["_law_deck_here", "_law_most"] []) (gD : mg "_law_draw" = some (.ref fD)) (kD : PySem.W.keepIn K (.ref fD) = true)
    (ml : mg "list" = none) (mr : mg "range" = none) : FnOk P w K mg base CX0 (k + 3) f fd ["_law_deck_here", "_law_many"] spNames := by
  refine F.ok scNames (fun vs H Q E h => ?_) (fun cdv A outer s H vs Q E hr h => ?_)
  · obtain ⟨d, c, m, rfl, _⟩ := h
    rfl
  obtain ⟨d, c, m, rfl, dk, m0, m1, q⟩ := h
  refine ⟨_, pss_cons (ps_set (i := 2) scNames.nd rfl (.inr rfl) pe_str)
    (pss_cons (ps_set (i := 4) scNames.nd rfl (.inr rfl) (pe_lc (own := [("_law_k", 3)]) (g := gName 3) (by rfl) scNames.nd (pi_range1 (by rfl) mr (pa_cons pe_int pa_nil)) (blkOk_by (own := [("_law_k", 3)]) (N := nNames) (sc := defScope tNames) (by decide +kernel))
        (fun _ _ _ _ _ => pg_name (i := 3) scNames.nd rfl (.inl rfl)) (fun _ _ _ _ _ => pts_nil)
        (fun _ _ _ _ _ => pe_ix ix_str (pv 2) (pe_call GD hr (by rfl) gD kD bD .nil pass0 (pa_cons (pv 0) (pa_cons pe_int pa_nil))) (fun _ _ => rfl))))
    (pss_cons (ps_set (i := 5) scNames.nd rfl (.inl rfl) (pe_op op_add pe_int (pe_call GD hr (by rfl) gD kD bD .nil pass0 (pa_cons (pv 0) (pa_cons pe_int pa_nil)))))
    (pss_cons (ps_set (i := 6) scNames.nd rfl (.inl rfl) (pe_call GD hr (by rfl) gD kD bD .nil pass0 (pa_cons (pv 0) (pa_cons (pv 5) pa_nil))))
    (pss_cons (ps_if (PW.pt (pw_and (pt_cmpR op_eq (pe_call GD hr (by rfl) gD kD bD .nil pass0 (pa_cons (pv 0) (pa_cons pe_int pa_nil))) pe_int (nomark _)) (pw_and1 (pt_cmpR op_lt (pv 1) pe_int (nomark _)))))
      (pss_one (ps_ret (pe_lc (own := [("_law_k", 3)]) (g := gName 3) (by rfl) scNames.nd (pi_range1 (by rfl) mr (pa_cons (pv 1) pa_nil)) (blkOk_by (own := [("_law_k", 3)]) (N := nNames) (sc := defScope tNames) (by decide +kernel))
        (fun _ _ _ _ _ => pg_name (i := 3) scNames.nd rfl (.inl rfl)) (fun _ _ _ _ _ => pts_nil)
        (fun _ _ _ _ _ => pe_joinK K rfl pe_str (pe_slice (slK K rfl) (pv 4) po_none (po_some (pe_op op_add pe_int (pv 3)))))))) pss_nil)
    (pss_cons (ps_set (i := 7) scNames.nd rfl (.inl rfl) (pe_lst pa_nil))
    (pss_cons (ps_for PassesOwn.never rfl (pi_range1 (by rfl) mr (pa_cons (pv 1) pa_nil)) (pg_name (i := 3) scNames.nd rfl (.inl rfl))
      (pss_cons (ps_set (i := 8) scNames.nd rfl (.inl rfl) (pe_callTy call_list_of (by rfl) ml boot_list (pa_cons (pe_slice sl_list (pv 4) po_none (po_some (pv 5))) pa_nil)))
      (pss_cons (ps_asg (pe_ix ix_str (pv 2) (pe_op op_mod (pe_op op_add (pe_bm PySem.F.plainAttrs_str PySem.F.slot_str_index PySem.F.type_str_index mt_sindex (pv 2) (pa_cons (pe_ix ix_list (pv 4) (pv 6) (fun _ _ => rfl)) pa_nil)) (pv 3)) pe_int) (fun _ _ => rfl)) (pg_sub (pv 8) (pv 6) set_list))
      (pss_one (ps_expr (pe_bm PySem.F.plainAttrs_list PySem.F.slot_list_append PySem.F.type_list_append mt_append (pv 7) (pa_cons (pe_join pe_str (pv 8)) pa_nil)))))))
    (pss_one (ps_ret (pv 7))))))))), ?_⟩
  -- the word
  refine ⟨8, rfl, by decide, by decide, fun W nW => lc_range (lo := 0) (n := 8) (fun i G => Kp d c H G ∧ Dk G d c ∧ ∃ ks : List Nat, ks.length = i ∧ (∀ k ∈ ks, k < 26) ∧ G W = some (.lst ((ks.map sg).map V.str)))
    ⟨(Kp.rfl).mk nW, dk.put (dk.off nW).1 (dk.off nW).2, [], rfl, (fun _ z => nomatch z), upd_same⟩ (fun i G hi z => ?_) (fun G z => ?_)⟩
  · obtain ⟨kp, dk1, ks, lk, hk, gW⟩ := z
    refine ⟨rfl, _, rfl, _, rfl, d, c, 26, rfl, dk1, by decide, by decide, fun r G1 r0 r1 kp1 dk2 => ?_⟩
    have off := dk.off nW
    have gW1 := kp1 W _ off.1 off.2 gW
    refine ⟨_, r, 97 + r.toNat, rfl, rfl, lets_len, lets_get r0 r1, _, gW1, ?_, (kp.trans kp1).mk nW, dk2.put off.1 off.2, ks ++ [r.toNat], ?_, ?_, ?_⟩
    · rw [List.length_map, List.length_map]
      exact small1000 (by omega)
    · rw [List.length_append, lk]
      rfl
    · intro j hj
      rcases List.mem_append.mp hj with hj | hj
      · exact hk j hj
      · rw [List.mem_singleton.mp hj]
        omega
    · rw [upd_same, List.map_append, List.map_append]
      rfl
  obtain ⟨kp, dk1, ks, lk, hk, gW⟩ := z
  have off := dk.off nW
  -- long, at
  refine ⟨_, rfl, d, c, 8, rfl, dk1, by decide, by decide, fun r5 G5 a0 a1 kp5 dk5 => ⟨_, _, rfl, rfl, ?_⟩⟩
  refine ⟨_, rfl, _, rfl, d, c, _, rfl, dk5, by omega, by omega, fun r6 G6 b0 b1 kp6 dk6 => ?_⟩
  refine ⟨_, rfl, d, c, 4, rfl, dk6, by decide, by decide, fun r7 G7 c0 c1 kp7 dk7 => ?_⟩
  have kpW : Kp d c G G7 := kp5.trans (kp6.trans kp7)
  have gW7 := kpW W _ off.1 off.2 gW
  have kp7' : Kp d c H G7 := kp.trans kpW
  clear kp5 kp6 kp7 dk5 dk6 gW kp dk1 kpW
  refine ⟨rfl, _, rfl, (fun h2 => ite2 (fun _ => ⟨_, rfl, _, _, rfl, rfl, _, rfl, ite2 (fun c9 => ?b1) (fun _ => h2)⟩) (fun _ => iteF h2)) ?b2⟩
  case b1 =>
    have m9 : m < 9 := of_decide_eq_true c9
    refine ⟨_, rfl, m, rfl, by omega, by omega, fun D nD => lc_range (lo := 0) (n := m.toNat) (fun i G => Kp d c H G ∧ Dk G d c ∧ G W = some (.lst ((ks.map sg).map V.str)) ∧ ∃ xs : List Str, xs.length = i ∧ (∀ x ∈ xs, Nm x) ∧ G D = some (.lst (xs.map V.str)) ∧ xs = (List.range i).map (nmPre ks)) ?_ (fun i G hi z => ?_) (fun G z => ?_)⟩
    · exact ⟨kp7'.mk (kp7'.free dk7 nD), dk7.put (dk7.off nD).1 (dk7.off nD).2, by rw [upd_ne (ne_of_none gW7 nD)]; exact gW7, [], rfl, (fun _ z => nomatch z), upd_same, rfl⟩
    · obtain ⟨kpi, dki, gWi, xs, lx, hx, gD', exs⟩ := z
      refine ⟨rfl, ⟨_, rfl⟩, _, rfl, _, rfl, _, _, rfl, rfl, ((i + 1 : Nat) : Int), congrArg V.int (by omega), W, _, rfl, SqL.of gWi, fun p np => ?_⟩
      rw [cutKs (ks := ks) (j := i + 1) (by omega)]
      have lt : (ks.take (i + 1)).length = i + 1 := by rw [List.length_take]; omega
      refine ⟨_, p, (ks.take (i + 1)).map sg, rfl, rfl, .inl (SqL.of upd_same), ?_, xs.map V.str, ?_, ?_, ?_⟩
      · rw [sg_len, List.length_map, lt]
        show i + 1 + (i + 1) * 0 ≤ 16777216
        omega
      · rw [upd_ne (ne_of_none gD' np)]
        exact gD'
      · rw [List.length_map]
        exact small1000 (by omega)
      · have hD : H D = none := kp7'.free dk7 nD
        refine ⟨(kpi.mk (kpi.free dki np)).mk hD, (dki.put (dki.off np).1 (dki.off np).2).put (dk7.off nD).1 (dk7.off nD).2, ?_, xs ++ [Txt.join (Str.ofString "") ((ks.take (i + 1)).map sg)], ?_, ?_, ?_, ?_⟩
        · rw [upd_ne (ne_of_none gW7 nD), upd_ne (ne_of_none gWi np)]
          exact gWi
        · rw [List.length_append, lx]
          rfl
        · intro x hx'
          rcases List.mem_append.mp hx' with z | z
          · exact hx x z
          · rw [List.mem_singleton.mp z]
            exact join_nm (fun j hj => hk j (List.mem_of_mem_take hj)) (by omega) (by omega)
        · rw [upd_same, List.map_append]
          rfl
        · rw [exs, List.range_succ, List.map_append]
          rfl
    · obtain ⟨kpi, dki, gWi, xs, lx, hx, gD', exs⟩ := z
      refine q D xs G kpi dki (kp7'.free dk7 nD) gD' lx hx ?_
      rw [exs]
      exact nodupR _ fun i j hi hj e => nmPre_inj (ks := ks) (n := m.toNat) (by omega) hi hj e
  case b2 =>
    refine ⟨Nat.zero_le _, fun Fd nF => ?_⟩
    have hF : H Fd = none := kp7'.free dk7 nF
    have offF := dk7.off nF
    have nFW : W ≠ Fd := ne_of_none gW7 nF
    refine ⟨_, rfl, m, rfl, by omega, by omega, for_range (lo := 0) (n := m.toNat) (fun i σ G => ∃ y3 y8, σ = [some (.ref d), some (.int m), some (.str lets), y3, some (.ref W), some (.int (1 + r5)), some (.int r6), some (.ref Fd), y8] ∧
      Kp d c H G ∧ Dk G d c ∧ G W = some (.lst ((ks.map sg).map V.str)) ∧ ∃ xs : List Str, xs.length = i ∧ (∀ x ∈ xs, Nm x) ∧ G Fd = some (.lst (xs.map V.str)) ∧ xs = (List.range i).map (nmAt (ks.take (1 + r5).toNat) r6.toNat (ks.getD r6.toNat 0))) ?_ (fun i σ G hi z => ?_) (fun σ G z => ?_)⟩
    · exact ⟨_, _, rfl, kp7'.mk hF, dk7.put offF.1 offF.2, by rw [upd_ne nFW]; exact gW7, [], rfl, (fun _ z => nomatch z), upd_same, rfl⟩
    · obtain ⟨y3, y8, rfl, kpi, dki, gWi, xs, lx, hx, gF, exs⟩ := z
      refine ⟨_, rfl, _, rfl, (((1 + r5).toNat : Nat) : Int), congrArg V.int (by omega), W, _, rfl, SqL.of gWi, fun p np => ?_⟩
      rw [cutKs (ks := ks) (j := (1 + r5).toNat) (by omega)]
      refine ⟨p, _, rfl, .inl (SqL.of upd_same), fun o no => ?_⟩
      have kp1 : Same G (upd (upd G p (.lst (((ks.take (1 + r5).toNat).map sg).map V.str))) o (.lst (((ks.take (1 + r5).toNat).map sg).map V.str))) := (newS np).trans (newS no)
      have gW1 := kp1 _ _ gWi
      have gF1 := kp1 _ _ gF
      have oG : G o = none := (newS np).free no
      generalize hG1 : upd (upd G p _) o (.lst (((ks.take (1 + r5).toNat).map sg).map V.str)) = G1 at kp1 gW1 gF1
      have gO : G1 o = some (.lst (((ks.take (1 + r5).toNat).map sg).map V.str)) := by rw [← hG1, upd_same]
      clear hG1
      have hat : r6.toNat < ks.length := by omega
      have h26 : ks[r6.toNat] < 26 := hk _ (List.getElem_mem hat)
      have e6 : r6 = ((r6.toNat : Nat) : Int) := by omega
      have gat : atI ((ks.map sg).map V.str) r6 = some (.str (sg ks[r6.toNat])) := by
        have z := atI_nat (xs := (ks.map sg).map V.str) (j := r6.toNat) (v := .str (sg ks[r6.toNat])) (by rw [List.getElem?_map, List.getElem?_map, List.getElem?_eq_getElem hat]; rfl)
        rw [← e6] at z
        exact z
      have occ : Builtin.Str.occurrences lets (sg ks[r6.toNat]) 0 lets.length 1 = [ks[r6.toNat]] := lets_ix ⟨ks[r6.toNat], h26⟩
      generalize hv : (((ks[r6.toNat] : Nat) : Int) + (0 + (i : Int))) % 26 = v
      have v0 : 0 ≤ v := by rw [← hv]; exact Int.emod_nonneg _ (by decide)
      have v1 : v < 26 := by rw [← hv]; exact Int.emod_lt_of_pos _ (by decide)
      refine ⟨_, rfl, _, rfl, rfl, _, rfl, _, rfl, W, _, _, _, rfl, rfl, SqL.of gW1, gat, lets, _, _, _, rfl, rfl, occ, _, rfl, _, _, rfl, rfl, _, _, rfl, rfl, (by show (0 : Int) < 26; decide), _, v, 97 + v.toNat, rfl, congrArg V.int hv, lets_len, lets_get v0 v1, ?_⟩
      have lq : ((ks.take (1 + r5).toNat).map sg).length = (1 + r5).toNat := by rw [List.length_map, List.length_take]; omega
      have eix : ixN (((ks.take (1 + r5).toNat).map sg).map V.str).length r6 = some r6.toNat := by
        unfold ixN
        rw [List.length_map, lq, if_pos b0, if_pos (by omega)]
      refine ⟨_, rfl, _, rfl, o, _, _, r6.toNat, rfl, rfl, gO, eix, ?_⟩
      have eset : ((((ks.take (1 + r5).toNat).map sg).map V.str).set r6.toNat (.str ⟨#[97 + v.toNat]⟩)) = ((((ks.take (1 + r5).toNat).set r6.toNat v.toNat).map sg).map V.str) := by
        rw [List.map_set, List.map_set]
        rfl
      rw [eset]
      generalize hls : (ks.take (1 + r5).toNat).set r6.toNat v.toNat = ls
      have ll : ls.length = (1 + r5).toNat := by rw [← hls, List.length_set, List.length_take]; omega
      have hls2 : ∀ k ∈ ls, k < 26 := fun j hj => by
        rw [← hls] at hj
        rcases List.mem_or_eq_of_mem_set hj with z | z
        · exact hk j (List.mem_of_mem_take z)
        · rw [z]
          omega
      have nFo : Fd ≠ o := fun z => by
        rw [z] at gF
        rw [gF] at oG
        cases oG
      have nWo : W ≠ o := fun z => by
        rw [z] at gWi
        rw [gWi] at oG
        cases oG
      have gF2 : (upd G1 o (.lst ((ls.map sg).map V.str))) Fd = some (.lst (xs.map V.str)) := by
        rw [upd_ne nFo]
        exact gF1
      refine ⟨_, rfl, .inl ⟨rfl, _, SqL.of gF2⟩, ⟨_, rfl⟩, _, rfl, _, o, ls.map sg, rfl, rfl, .inl (SqL.of upd_same), ?_, Fd, _, _, rfl, rfl, gF2, ?_, ?_⟩
      · rw [sg_len, List.length_map, ll]
        show (1 + r5).toNat + (1 + r5).toNat * 0 ≤ 16777216
        omega
      · rw [List.length_map]
        exact small1000 (by omega)
      · have oH : H o = none := kpi.free dki oG
        have offo := dki.off oG
        refine ⟨_, _, rfl, ((kpi.trans (Kp.of kp1)).mk oH).mk hF, ((dki.same kp1).put offo.1 offo.2).put offF.1 offF.2, ?_, xs ++ [Txt.join (Str.ofString "") (ls.map sg)], ?_, ?_, ?_, ?_⟩
        · rw [upd_ne nFW, upd_ne nWo]
          exact gW1
        · rw [List.length_append, lx]
          rfl
        · intro x hx'
          rcases List.mem_append.mp hx' with z | z
          · exact hx x z
          · rw [List.mem_singleton.mp z]
            exact join_nm hls2 (by omega) (by omega)
        · rw [upd_same, List.map_append]
          rfl
        · rw [exs, List.range_succ, List.map_append, ← hls, ← hv]
          have eg : ks.getD r6.toNat 0 = ks[r6.toNat] := by simp [List.getD, List.getElem?_eq_getElem hat]
          rw [eg]
          rfl
    · obtain ⟨y3, y8, rfl, kpi, dki, gWi, xs, lx, hx, gF, exs⟩ := z
      refine ⟨_, rfl, q Fd xs G kpi dki hF gF lx hx ?_⟩
      rw [exs]
      exact nodupR _ fun i j hi hj e => nmAt_inj (by rw [List.length_take]; omega) (by omega) (by omega) e
end
end Kq

namespace Kq
open PySem PySem.Spec PyProof.Rows L2
/-! kinds as trees -/
inductive Kd where
  | opn (x : Str)
  | num
  | tru
  | pair (a b : Kd)
  | eith (a b : Kd)
  | lst (a : Kd)
  | fn (a b : Kd)
namespace Kd
def word : Kd → Str
  | opn _ => "open"
  | num => "num"
  | tru => "truth"
  | pair _ _ => "pair"
  | eith _ _ => "either"
  | lst _ => "list"
  | fn _ _ => "fun"
def kids : Kd → List Kd
  | pair a b => [a, b]
  | eith a b => [a, b]
  | lst a => [a]
  | fn a b => [a, b]
  | _ => []
def isFn : Kd → Bool
  | fn _ _ => true
  | _ => false
/-- no function anywhere -/
def data : Kd → Bool
  | pair a b => a.data && b.data
  | eith a b => a.data && b.data
  | lst a => a.data
  | fn _ _ => false
  | _ => true
def isOp : Kd → Bool
  | opn _ => true
  | _ => false
def nodes : Kd → List Kd
  | opn x => [opn x]
  | num => [num]
  | tru => [tru]
  | pair a b => pair a b :: (nodes a ++ nodes b)
  | eith a b => eith a b :: (nodes a ++ nodes b)
  | lst a => lst a :: nodes a
  | fn a b => fn a b :: (nodes a ++ nodes b)
def size (t : Kd) : Nat := t.nodes.length
def dp : Kd → Nat
  | pair a b => max a.dp b.dp + 1
  | eith a b => max a.dp b.dp + 1
  | lst a => a.dp + 1
  | fn a b => max a.dp b.dp + 1
  | _ => 0
def opens : Kd → List Str
  | opn x => [x]
  | num => []
  | tru => []
  | pair a b => opens a ++ opens b
  | eith a b => opens a ++ opens b
  | lst a => opens a
  | fn a b => opens a ++ opens b
def args : Kd → List Kd
  | fn a b => a :: args b
  | _ => []
def res : Kd → Kd
  | fn _ b => res b
  | t => t
def ledTo (ts : List Kd) (t : Kd) : Kd := ts.foldr fn t
theorem nodes_eq (t : Kd) : t.nodes = t :: t.kids.flatMap nodes := by
  cases t <;> simp [nodes, kids]
theorem isFn_word (t : Kd) : decide (V.str t.word = V.str "fun") = t.isFn := by
  cases t <;> rfl
theorem isOp_word (t : Kd) : decide (V.str t.word = V.str "open") = t.isOp := by
  cases t <;> rfl
end Kd
/-- the tuples stay -/
def Tk (H G : Hp) : Prop := ∀ b xs, H b = some (.tup xs) → G b = some (.tup xs)
theorem Tk.of {H G : Hp} (s : Same H G) : Tk H G := fun b xs e => s b _ e
theorem Tk.rfl {H : Hp} : Tk H H := fun _ _ e => e
theorem Tk.trans {H G F : Hp} (a : Tk H G) (b : Tk G F) : Tk H F := fun x o e => b x o (a x o e)
theorem Tk.kp {H G : Hp} {d c : Addr} (a : Kp d c H G) (k : Dk H d c) : Tk H G := fun b xs e => by
  obtain ⟨n, ⟨s, k0, hd⟩, ⟨ns, hc, _⟩⟩ := k
  refine a b _ (fun z => ?_) (fun z => ?_) e
  · rw [z, hd] at e
    cases e
  · rw [z, hc] at e
    cases e
theorem Tk.put {H G : Hp} {p : Addr} {o : HO} (a : Tk H G) (h : ∀ xs, H p ≠ some (.tup xs)) : Tk H (upd G p o) := fun b xs e => by
  rw [upd_ne (fun z => h xs (by rw [← z]; exact e))]
  exact a b xs e
/-- the tree stands at v -/
def Rp (H : Hp) : Kd → V → Prop
  | .opn x, v => ∃ a, v = .ref a ∧ H a = some (.tup [.str "open", .str x])
  | .num, v => ∃ a, v = .ref a ∧ H a = some (.tup [.str "num"])
  | .tru, v => ∃ a, v = .ref a ∧ H a = some (.tup [.str "truth"])
  | .pair s t, v => ∃ a x y, v = .ref a ∧ H a = some (.tup [.str "pair", x, y]) ∧ Rp H s x ∧ Rp H t y
  | .eith s t, v => ∃ a x y, v = .ref a ∧ H a = some (.tup [.str "either", x, y]) ∧ Rp H s x ∧ Rp H t y
  | .lst s, v => ∃ a x, v = .ref a ∧ H a = some (.tup [.str "list", x]) ∧ Rp H s x
  | .fn s t, v => ∃ a x y, v = .ref a ∧ H a = some (.tup [.str "fun", x, y]) ∧ Rp H s x ∧ Rp H t y
def RpL (H : Hp) : List Kd → List V → Prop
  | [], [] => True
  | t :: ts, v :: vs => Rp H t v ∧ RpL H ts vs
  | _, _ => False
theorem Rp.tk {H G : Hp} (k : Tk H G) : ∀ {t : Kd} {v : V}, Rp H t v → Rp G t v := by
  intro t
  induction t with
  | opn x => exact fun ⟨a, e, h⟩ => ⟨a, e, k _ _ h⟩
  | num => exact fun ⟨a, e, h⟩ => ⟨a, e, k _ _ h⟩
  | tru => exact fun ⟨a, e, h⟩ => ⟨a, e, k _ _ h⟩
  | pair s t i j => exact fun ⟨a, x, y, e, h, p, q⟩ => ⟨a, x, y, e, k _ _ h, i p, j q⟩
  | eith s t i j => exact fun ⟨a, x, y, e, h, p, q⟩ => ⟨a, x, y, e, k _ _ h, i p, j q⟩
  | lst s i => exact fun ⟨a, x, e, h, p⟩ => ⟨a, x, e, k _ _ h, i p⟩
  | fn s t i j => exact fun ⟨a, x, y, e, h, p, q⟩ => ⟨a, x, y, e, k _ _ h, i p, j q⟩
theorem RpL.tk {H G : Hp} (k : Tk H G) : ∀ {ts : List Kd} {vs : List V}, RpL H ts vs → RpL G ts vs
  | [], [], _ => trivial
  | _ :: _, _ :: _, h => ⟨h.1.tk k, RpL.tk k h.2⟩
  | [], _ :: _, h => h.elim
  | _ :: _, [], h => h.elim
theorem RpL.len {H : Hp} : ∀ {ts : List Kd} {vs : List V}, RpL H ts vs → ts.length = vs.length
  | [], [], _ => rfl
  | _ :: _, _ :: _, h => congrArg (· + 1) (RpL.len h.2)
  | [], _ :: _, h => h.elim
  | _ :: _, [], h => h.elim
theorem RpL.app {H : Hp} : ∀ {ts us : List Kd} {vs ws : List V}, RpL H ts vs → RpL H us ws → RpL H (ts ++ us) (vs ++ ws)
  | [], _, [], _, _, h => h
  | _ :: _, _, _ :: _, _, h, k => ⟨h.1, RpL.app h.2 k⟩
  | [], _, _ :: _, _, h, _ => h.elim
  | _ :: _, _, [], _, h, _ => h.elim
theorem RpL.get {H : Hp} : ∀ {ts : List Kd} {vs : List V} {i : Nat} {v : V}, RpL H ts vs → vs[i]? = some v → ∃ t, ts[i]? = some t ∧ Rp H t v
  | [], [], i, v, _, e => by simp at e
  | t :: _, w :: _, 0, v, h, e => ⟨t, rfl, by rw [← show w = v from Option.some.inj e]; exact h.1⟩
  | _ :: ts, _ :: vs, i + 1, v, h, e => RpL.get (ts := ts) (vs := vs) (i := i) h.2 e
  | [], _ :: _, _, _, h, _ => h.elim
  | _ :: _, [], _, _, h, _ => h.elim
theorem RpL.last {H : Hp} : ∀ {ts : List Kd} {vs : List V}, RpL H ts vs → vs ≠ [] → ∃ us u ws w, ts = us ++ [u] ∧ vs = ws ++ [w] ∧ RpL H us ws ∧ Rp H u w
  | [t], [v], h, _ => ⟨[], t, [], v, rfl, rfl, trivial, h.1⟩
  | t :: t' :: ts, v :: v' :: vs, h, _ => by
    obtain ⟨us, u, ws, w, e1, e2, k, r⟩ := RpL.last (ts := t' :: ts) (vs := v' :: vs) h.2 (by simp)
    exact ⟨t :: us, u, v :: ws, w, by rw [e1]; rfl, by rw [e2]; rfl, ⟨h.1, k⟩, r⟩
  | [], [], _, n => absurd rfl n
  | [], _ :: _, h, _ => h.elim
  | _ :: _, [], h, _ => h.elim
  | [_], _ :: _ :: _, h, _ => h.2.elim
  | _ :: _ :: _, [_], h, _ => h.2.elim
/-- the tuple at v: the word, and the rest -/
theorem Rp.see {H : Hp} {t : Kd} {v : V} (h : Rp H t v) : ∃ a vs, v = .ref a ∧ H a = some (.tup (.str t.word :: vs)) ∧ ((t.isOp = false ∧ RpL H t.kids vs) ∨ ∃ x, t = .opn x ∧ vs = [.str x]) := by
  cases t with
  | opn x =>
    obtain ⟨a, e, g⟩ := h
    exact ⟨a, _, e, g, .inr ⟨x, rfl, rfl⟩⟩
  | num =>
    obtain ⟨a, e, g⟩ := h
    exact ⟨a, [], e, g, .inl ⟨rfl, trivial⟩⟩
  | tru =>
    obtain ⟨a, e, g⟩ := h
    exact ⟨a, [], e, g, .inl ⟨rfl, trivial⟩⟩
  | pair s t =>
    obtain ⟨a, x, y, e, g, p, q⟩ := h
    exact ⟨a, _, e, g, .inl ⟨rfl, p, q, trivial⟩⟩
  | eith s t =>
    obtain ⟨a, x, y, e, g, p, q⟩ := h
    exact ⟨a, _, e, g, .inl ⟨rfl, p, q, trivial⟩⟩
  | lst s =>
    obtain ⟨a, x, e, g, p⟩ := h
    exact ⟨a, _, e, g, .inl ⟨rfl, p, trivial⟩⟩
  | fn s t =>
    obtain ⟨a, x, y, e, g, p, q⟩ := h
    exact ⟨a, _, e, g, .inl ⟨rfl, p, q, trivial⟩⟩
theorem cutFrom1 (x : V) (vs : List V) : cutV (x :: vs) (some 1) none = vs := by
  unfold cutV
  rw [show HT.sIx (x :: vs).length 0 (some 1) = min 1 (x :: vs).length from HT.sIx_nat _ _ 1, HT.sIx_none, List.length_cons, Nat.min_eq_left (by omega)]
  show (vs.take (vs.length + 1 - 1)) = vs
  rw [Nat.add_sub_cancel, List.take_length]
theorem notWhole (x : V) (vs : List V) : ¬ (HT.sIx (x :: vs).length 0 (some 1) = 0 ∧ HT.sIx (x :: vs).length (x :: vs).length none = (x :: vs).length) := by
  rw [show HT.sIx (x :: vs).length 0 (some 1) = min 1 (x :: vs).length from HT.sIx_nat _ _ 1, List.length_cons, Nat.min_eq_left (by omega)]
  rintro ⟨h, _⟩
  cases h
theorem smk {H G : Hp} {p : Addr} {o : HO} (a : Same H G) (h : H p = none) : Same H (upd G p o) := fun b u e => by
  rw [upd_ne (ne_of_none e h)]
  exact a b u e
end Kq

namespace Kq
open PySem PySem.Spec PyProof.Rows L2
namespace Kd
theorem size_fn (a b : Kd) : (fn a b).size = a.size + b.size + 1 := by
  show (a.nodes ++ b.nodes).length + 1 = _
  rw [List.length_append]
  rfl
theorem size_pos (t : Kd) : 1 ≤ t.size := by
  unfold size
  rw [nodes_eq]
  exact Nat.succ_le_succ (Nat.zero_le _)
theorem args_le : ∀ t : Kd, t.args.length ≤ t.size
  | fn a b => by
    have := args_le b
    rw [size_fn]
    show b.args.length + 1 ≤ _
    omega
  | opn _ => Nat.zero_le _
  | num => Nat.zero_le _
  | tru => Nat.zero_le _
  | pair _ _ => Nat.zero_le _
  | eith _ _ => Nat.zero_le _
  | lst _ => Nat.zero_le _
def nm? : Kd → Option Str
  | opn x => some x
  | _ => none
theorem opens_nodes : ∀ t : Kd, t.nodes.filterMap nm? = t.opens
  | opn _ => rfl
  | num => rfl
  | tru => rfl
  | pair a b => by
    show ((a.nodes ++ b.nodes).filterMap nm?) = a.opens ++ b.opens
    rw [List.filterMap_append, opens_nodes a, opens_nodes b]
  | eith a b => by
    show ((a.nodes ++ b.nodes).filterMap nm?) = a.opens ++ b.opens
    rw [List.filterMap_append, opens_nodes a, opens_nodes b]
  | lst a => by
    show (a.nodes.filterMap nm?) = a.opens
    exact opens_nodes a
  | fn a b => by
    show ((a.nodes ++ b.nodes).filterMap nm?) = a.opens ++ b.opens
    rw [List.filterMap_append, opens_nodes a, opens_nodes b]
end Kd
theorem ixTK {X : Cx} (K : PySem.W.Frag) (h : X.K = K) : IxR X (rIxT K) := by
  subst h
  exact ix_tup
-- abbrev tOpens : Stmt := tp 6
end Kq

namespace Kq
open PySem PySem.Spec PyProof.Rows L2
theorem Nm.ok {x : Str} (h : Nm x) : PyData.strOk x = true := by
  unfold PyData.strOk
  rw [← Array.all_toList, List.all_eq_true]
  intro c hc
  have := (h.low c hc).2
  exact decide_eq_true (by omega)
theorem dpStrs (K : PySem.W.Frag) (H : Hp) : ∀ xs : List Str, DpAll K H (xs.map V.str) (xs.map PyData.str)
  | [] => .nil
  | x :: xs => .cons (.str x) (dpStrs K H xs)
theorem layStrs : ∀ xs : List Str, (∀ x ∈ xs, Nm x) → PyData.canLayAll0 (xs.map PyData.str) = true ∧ PyData.depthAll (xs.map PyData.str) = 0
  | [], _ => ⟨by simp [PyData.canLayAll0], by simp [PyData.depthAll]⟩
  | x :: xs, h => by
    obtain ⟨a, b⟩ := layStrs xs fun y hy => h y (List.mem_cons_of_mem _ hy)
    have c := (h x List.mem_cons_self).ok
    exact ⟨by simp [PyData.canLayAll0, PyData.canLay0, a, c], by simp [PyData.depthAll, PyData.depth, b]⟩
theorem shStrs {xs : List Str} (h : ∀ x ∈ xs, Nm x) : SeqAt.shaped (.list (xs.map PyData.str)) = true := by
  obtain ⟨a, b⟩ := layStrs xs h
  simp [SeqAt.shaped, PyData.canLay0, PyData.depth, a, b]
theorem eqvNil (xs : List Str) : PyData.eqv (.list (xs.map PyData.str)) (.list []) = xs.isEmpty := by
  cases xs <;> simp [PyData.eqv, PyData.eqvAll]
def sb : Nat → Nat
  | 0 => 1
  | n + 1 => 2 * sb n + 1
theorem sb_pos (n : Nat) : 1 ≤ sb n := by
  cases n with
  | zero => exact Nat.le_refl _
  | succ n =>
    show 1 ≤ 2 * sb n + 1
    omega
structure Dta (g : Nat) (t : Kd) : Prop where
  nf : t.data = true
  dp : t.dp ≤ g
  sz : t.size ≤ sb g
  nm : ∀ x ∈ t.opens, Nm x
namespace Kd
theorem size2 (a b : Kd) : (pair a b).size = a.size + b.size + 1 ∧ (eith a b).size = a.size + b.size + 1 ∧ (lst a).size = a.size + 1 := by
  refine ⟨?_, ?_, rfl⟩
  · show (a.nodes ++ b.nodes).length + 1 = _
    rw [List.length_append]
    rfl
  · show (a.nodes ++ b.nodes).length + 1 = _
    rw [List.length_append]
    rfl
theorem opens_le (t : Kd) : t.opens.length ≤ t.size := by
  rw [← opens_nodes]
  exact List.length_filterMap_le _ _
theorem kids_size (t : Kd) : t.size = 1 + (t.kids.map size).sum := by
  cases t with
  | opn x => rfl
  | num => rfl
  | tru => rfl
  | pair a b =>
    rw [(size2 a b).1]
    show _ = 1 + (a.size + (b.size + 0))
    omega
  | eith a b =>
    rw [(size2 a b).2.1]
    show _ = 1 + (a.size + (b.size + 0))
    omega
  | lst a =>
    rw [(size2 a a).2.2]
    show _ = 1 + (a.size + 0)
    omega
  | fn a b =>
    rw [size_fn]
    show _ = 1 + (a.size + (b.size + 0))
    omega
theorem kids_opens {t : Kd} (h : t.isOp = false) : t.opens = t.kids.flatMap opens := by
  cases t <;> simp_all [opens, kids, isOp]
theorem kids_dp {t u : Kd} (h : u ∈ t.kids) : u.dp + 1 ≤ t.dp := by
  cases t with
  | opn x => cases h
  | num => cases h
  | tru => cases h
  | pair a b =>
    have : u = a ∨ u = b := by simpa [kids] using h
    rcases this with rfl | rfl <;> simp only [dp] <;> omega
  | eith a b =>
    have : u = a ∨ u = b := by simpa [kids] using h
    rcases this with rfl | rfl <;> simp only [dp] <;> omega
  | lst a =>
    have : u = a := by simpa [kids] using h
    subst this
    simp only [dp]
    omega
  | fn a b =>
    have : u = a ∨ u = b := by simpa [kids] using h
    rcases this with rfl | rfl <;> simp only [dp] <;> omega
theorem kids_le (t : Kd) : t.kids.length ≤ 2 := by
  cases t <;> simp [kids]
end Kd
theorem isiK {X : Cx} (K : PySem.W.Frag) (h : X.K = K) : CallR X (.builtin "isinstance") (rIsi K) := by
  subst h
  exact call_isi
abbrev tData : Stmt := tp 44
-- abbrev tLOpens : Stmt := tp 14
-- abbrev tArgument : Stmt := tp 15
abbrev psData : List Str := ["_law_deck_here", "_law_opens", "_law_deep"]
section
variable {P : Program} {w : World} {K : PySem.W.Frag} {mg : Str → Option Value} {base : Heap}
/-! _law_data -/
theorem scData : FnScope ["_law_deck_here", "_law_opens", "_law_deep", "_law_way"] psData (defScope tData) := ⟨rfl, rfl, rfl, by decide +kernel, rfl, by decide +kernel, by decide +kernel⟩
def spData (n : Nat) : Sp := fun vs H Q _ => ∃ (d c o : Addr) (xs : List Str) (g : Nat), vs = [.ref d, .ref o, .int (g : Int)] ∧ g + 1 ≤ n ∧ Dk H d c ∧ H o = some (.lst (xs.map V.str)) ∧ o ≠ d ∧ o ≠ c ∧ xs.length ≤ 26 ∧ (∀ x ∈ xs, Nm x) ∧
  ∀ (v : V) (t : Kd) (G : Hp), Kp d c H G → Dk G d c → Rp G t v → Dta g t → Q v G
theorem okData1 {f fD : Addr} {fd fdD : FuncData} {n : Nat} (F : Fun K "_law_data" "_law_data" tData f fd) (bF : Binds K fd psData []) (gF : mg "_law_data" = some (.ref f))
    (GD : FnOk P w K mg base CX0 (n + 2) fD fdD ["_law_deck_here", "_law_most"] spDraw) (bD : Binds K fdD ["_law_deck_here", "_law_most"] []) (gD : mg "_law_draw" = some (.ref fD)) (kD : PySem.W.keepIn K (.ref fD) = true) (ml : mg "len" = none)
    (GI : FnOk P w K mg base CX0 (n + 2) f fd psData (spData n)) : FnOk P w K mg base CX0 (n + 3) f fd psData (spData (n + 1)) := by
  refine F.ok scData (fun vs H Q E h => ?_) (fun cdv A outer s H vs Q E hr h => ?_)
  · obtain ⟨d, c, o, xs, g, rfl, _⟩ := h
    rfl
  obtain ⟨d, c, o, xs, g, rfl, hg, dk, ho, od, oc, lx, hx, q⟩ := h
  refine ⟨_, pss_cons (ps_set (i := 3) scData.nd rfl (.inl rfl) (pe_call GD hr (by rfl) gD kD bD .nil pass0 (pa_cons (pv 0) (pa_cons pe_int pa_nil))))
    (C8.pss_cut (ps_if (PW.pt (pw_and (pt_cmpR op_lt (pv 3) pe_int (nomark _)) (pw_and1 (pt_cmpR (op_neD hr.units) (pv 1) (pe_lst pa_nil) (nomark _)))))
      (pss_one (ps_ret (pe_tup (pa_cons pe_str (pa_cons (pe_ix ix_list (pv 1) (pe_call GD hr (by rfl) gD kD bD .nil pass0 (pa_cons (pv 0) (pa_cons (pe_callB call_len_seq (by rfl) ml PySem.boot_len (pa_cons (pv 1) pa_nil)) pa_nil))) (fun _ _ => rfl)) pa_nil))))) pss_nil)
    (pss_cons (ps_if (PW.pt (pw_or (pt_cmpR op_eq (pv 2) pe_int (nomark _)) (pw_or1 (pt_cmpR op_lt (pv 3) pe_int (nomark _)))))
      (pss_one (ps_ret (pe_ix ix_list (pe_lst (pa_cons (pe_tup (pa_cons pe_str pa_nil)) (pa_cons (pe_tup (pa_cons pe_str pa_nil)) (pa_cons (pe_tup (pa_cons pe_str pa_nil)) pa_nil)))) (pe_call GD hr (by rfl) gD kD bD .nil pass0 (pa_cons (pv 0) (pa_cons pe_int pa_nil))) (fun _ _ => rfl)))) pss_nil)
    (pss_cons (ps_if (pt_cmpR op_eq (pv 3) pe_int (nomark _))
      (pss_one (ps_ret (pe_tup (pa_cons pe_str (pa_cons (pe_call GI hr (by rfl) gF F.kp bF .nil pass0 (pa_cons (pv 0) (pa_cons (pv 1) (pa_cons (pe_op op_sub (pv 2) pe_int) pa_nil)))) (pa_cons (pe_call GI hr (by rfl) gF F.kp bF .nil pass0 (pa_cons (pv 0) (pa_cons (pv 1) (pa_cons (pe_op op_sub (pv 2) pe_int) pa_nil)))) pa_nil)))))) pss_nil)
    (pss_cons (ps_if (pt_cmpR op_eq (pv 3) pe_int (nomark _))
      (pss_one (ps_ret (pe_tup (pa_cons pe_str (pa_cons (pe_call GI hr (by rfl) gF F.kp bF .nil pass0 (pa_cons (pv 0) (pa_cons (pv 1) (pa_cons (pe_op op_sub (pv 2) pe_int) pa_nil)))) (pa_cons (pe_call GI hr (by rfl) gF F.kp bF .nil pass0 (pa_cons (pv 0) (pa_cons (pv 1) (pa_cons (pe_op op_sub (pv 2) pe_int) pa_nil)))) pa_nil)))))) pss_nil)
    (pss_one (ps_ret (pe_tup (pa_cons pe_str (pa_cons (pe_call GI hr (by rfl) gF F.kp bF .nil pass0 (pa_cons (pv 0) (pa_cons (pv 1) (pa_cons (pe_op op_sub (pv 2) pe_int) pa_nil)))) pa_nil))))))))), ?_⟩
  refine ⟨_, rfl, d, c, 10, rfl, dk, by decide, by decide, fun way G1 w0 w1 kp1 dk1 => ?_⟩
  have ho1 := kp1 o _ od oc ho
  refine ⟨fun σ G => σ = [some (.ref d), some (.ref o), some (.int g), some (.int way)] ∧ Kp d c H G ∧ Dk G d c ∧ G o = some (.lst (xs.map V.str)), ?_, ?b2⟩
  refine ⟨_, rfl, _, _, rfl, rfl, _, rfl, ?_⟩
  refine ite2 (fun _ => ⟨_, rfl, Nat.zero_le _, fun e ne => ⟨.list (xs.map PyData.str), .list [], .lst (SqL.of (newS ne _ _ ho1)) (dpStrs K _ xs), .lst (SqL.of upd_same) .nil, shStrs hx, rfl, _, rfl, ite2 (fun c1 => ?b1) (fun _ => ⟨rfl, kp1.trans (Kp.of (newS ne)), dk1.same (newS ne), newS ne _ _ ho1⟩)⟩⟩) (fun _ => iteF ⟨rfl, kp1, dk1, ho1⟩)
  case b1 =>
    have ho2 := newS (o := .lst []) ne _ _ ho1
    have dk2 := dk1.same (newS (o := .lst []) ne)
    have kp2 : Kp d c H (upd G1 e (.lst [])) := kp1.trans (Kp.of (newS ne))
    rw [eqvNil] at c1
    have l0 : 0 < xs.length := by
      cases xs with
      | nil => cases c1
      | cons x r => exact Nat.succ_pos _
    refine ⟨_, rfl, _, rfl, _, rfl, o, _, rfl, .inl (SqL.of ho2), d, c, _, rfl, dk2, ?_, ?_, fun r G3 r0 r1 kp3 dk3 => ?_⟩
    · rw [List.length_map]
      omega
    · rw [List.length_map]
      omega
    rw [List.length_map] at r1
    have lr : r.toNat < xs.length := by omega
    have er : r = ((r.toNat : Nat) : Int) := by omega
    have gat : atI (xs.map V.str) r = some (.str xs[r.toNat]) := by
      have z := atI_nat (xs := xs.map V.str) (j := r.toNat) (v := .str xs[r.toNat]) (by rw [List.getElem?_map, List.getElem?_eq_getElem lr]; rfl)
      rw [← er] at z
      exact z
    refine ⟨o, _, _, _, rfl, rfl, SqL.of (kp3 o _ od oc ho2), gat, (by show 2 ≤ sizeLine; decide), fun p np => ?_⟩
    refine q (.ref p) (.opn xs[r.toNat]) _ ((kp2.trans kp3).trans (Kp.of (newS np))) (dk3.same (newS np)) ⟨p, rfl, upd_same⟩ ⟨rfl, Nat.zero_le _, sb_pos g, fun x hx' => ?_⟩
    rw [List.mem_singleton.mp hx']
    exact hx _ (List.getElem_mem lr)
  case b2 =>
    rintro σ G ⟨rfl, kp, dkG, hoG⟩
    have leaf : ∀ (r : Int) (G2 : Hp) (p1 p2 p3 l : Addr), 0 ≤ r → r < 3 → Kp d c H G2 → Dk G2 d c → G2 p1 = some (.tup [.str "num"]) → G2 p2 = some (.tup [.str "truth"]) → G2 p3 = some (.tup [.str "truth"]) → ∃ v : V, atI [V.ref p1, .ref p2, .ref p3] r = some v ∧ Q v G2 := fun r G2 p1 p2 p3 l r0 r1 kp2 dk2 g1 g2 g3 => by
      have er : r = 0 ∨ r = 1 ∨ r = 2 := by omega
      rcases er with rfl | rfl | rfl
      · exact ⟨.ref p1, rfl, q _ .num _ kp2 dk2 ⟨p1, rfl, g1⟩ ⟨rfl, Nat.zero_le _, sb_pos g, fun x z => (nomatch z)⟩⟩
      · exact ⟨.ref p2, rfl, q _ .tru _ kp2 dk2 ⟨p2, rfl, g2⟩ ⟨rfl, Nat.zero_le _, sb_pos g, fun x z => (nomatch z)⟩⟩
      · exact ⟨.ref p3, rfl, q _ .tru _ kp2 dk2 ⟨p3, rfl, g3⟩ ⟨rfl, Nat.zero_le _, sb_pos g, fun x z => (nomatch z)⟩⟩
    refine ⟨_, rfl, rfl, _, rfl, (fun h3 => ite2 (fun _ => iteT h3) (fun hdeep => ⟨_, rfl, _, _, rfl, rfl, _, rfl, ite2 (fun _ => h3) (fun _ => ?deep)⟩)) ?leaf⟩
    case leaf =>
      refine ⟨(by show 1 ≤ sizeLine; decide), fun p1 n1 => ⟨(by show 1 ≤ sizeLine; decide), fun p2 n2 => ⟨(by show 1 ≤ sizeLine; decide), fun p3 n3 => ⟨(by show 3 ≤ sizeLine; decide), fun l nl => ?_⟩⟩⟩⟩
      have s1 := newS (o := .tup [.str "num"]) n1
      have s2 := newS (o := .tup [.str "truth"]) n2
      have s3 := newS (o := .tup [.str "truth"]) n3
      have s4 := newS (o := .lst [V.ref p1, .ref p2, .ref p3]) nl
      have s14 := s1.trans (s2.trans (s3.trans s4))
      have g1 := s4 _ _ (s3 _ _ (s2 p1 _ upd_same))
      have g2 := s4 _ _ (s3 p2 _ upd_same)
      have g3 := s4 p3 _ upd_same
      refine ⟨_, rfl, d, c, 3, rfl, dkG.same s14, by decide, by decide, fun r G3 r0 r1 kp3 dk3 => ?_⟩
      have tk := Tk.kp kp3 (dkG.same s14)
      obtain ⟨v, e1, e2⟩ := leaf r G3 p1 p2 p3 l r0 r1 ((kp.trans (Kp.of s14)).trans kp3) dk3 (tk _ _ g1) (tk _ _ g2) (tk _ _ g3)
      have off := (dkG.same (s1.trans (s2.trans s3))).off nl
      exact ⟨l, _, _, v, rfl, rfl, SqL.of (kp3 l _ off.1 off.2 upd_same), e1, e2⟩
    case deep =>
      obtain ⟨j, rfl⟩ : ∃ j, g = j + 1 := by
        cases g with
        | zero => exact absurd (decide_eq_true rfl) hdeep
        | succ j => exact ⟨j, rfl⟩
      have ej : ((j + 1 : Nat) : Int) - 1 = ((j : Nat) : Int) := by omega
      have eL : [V.ref d, V.ref o, V.int (((j + 1 : Nat) : Int) - 1)] = [V.ref d, V.ref o, V.int ((j : Nat) : Int)] := by rw [ej]
      have both : ∀ (a b : Kd) (va vb : V) (G2 : Hp) (p : Addr) (wd : Str) (mk : Kd → Kd → Kd), Kp d c H G2 → Dk G2 d c → Rp G2 a va → Rp G2 b vb → Dta j a → Dta j b → G2 p = none → (∀ F x y pp, F pp = some (.tup [.str wd, x, y]) → Rp F a x → Rp F b y → Rp F (mk a b) (.ref pp)) →
          (mk a b).data = (a.data && b.data) → (mk a b).dp = max a.dp b.dp + 1 → (mk a b).size = a.size + b.size + 1 → (mk a b).opens = a.opens ++ b.opens → Q (.ref p) (upd G2 p (.tup [.str wd, va, vb])) := fun a b va vb G2 p wd mk kp2 dk2 ra rb da db np hmk m1 m2 m3 m4 => by
        have s := newS (o := .tup [.str wd, va, vb]) np
        refine q _ (mk a b) _ (kp2.trans (Kp.of s)) (dk2.same s) (hmk _ _ _ p upd_same (ra.tk (Tk.of s)) (rb.tk (Tk.of s))) ⟨by rw [m1, da.nf, db.nf]; rfl, ?_, ?_, fun x hx' => ?_⟩
        · have := da.dp
          have := db.dp
          omega
        · have := da.sz
          have := db.sz
          rw [m3]
          show _ ≤ 2 * sb j + 1
          omega
        · rw [m4] at hx'
          rcases List.mem_append.mp hx' with z | z
          · exact da.nm x z
          · exact db.nm x z
      refine ⟨_, rfl, rfl, _, rfl, ite2 (fun _ => ?_) (fun _ => ⟨_, rfl, rfl, _, rfl, ite2 (fun _ => ?_) (fun _ => ?_)⟩)⟩
      · refine ⟨_, rfl, _, rfl, _, rfl, _, _, rfl, rfl, d, c, o, xs, j, eL, by omega, dkG, hoG, od, oc, lx, hx, fun va a G3 kp3 dk3 ra da => ?_⟩
        refine ⟨_, rfl, _, rfl, _, rfl, _, _, rfl, rfl, d, c, o, xs, j, eL, by omega, dk3, kp3 o _ od oc hoG, od, oc, lx, hx, fun vb b G4 kp4 dk4 rb db => ?_⟩
        exact ⟨(by show 3 ≤ sizeLine; decide), fun p np => both a b va vb G4 p "pair" .pair ((kp.trans kp3).trans kp4) dk4 (ra.tk (Tk.kp kp4 dk3)) rb da db np (fun F x y pp h1 h2 h3 => ⟨pp, x, y, rfl, h1, h2, h3⟩) rfl rfl (Kd.size2 a b).1 rfl⟩
      · refine ⟨_, rfl, _, rfl, _, rfl, _, _, rfl, rfl, d, c, o, xs, j, eL, by omega, dkG, hoG, od, oc, lx, hx, fun va a G3 kp3 dk3 ra da => ?_⟩
        refine ⟨_, rfl, _, rfl, _, rfl, _, _, rfl, rfl, d, c, o, xs, j, eL, by omega, dk3, kp3 o _ od oc hoG, od, oc, lx, hx, fun vb b G4 kp4 dk4 rb db => ?_⟩
        exact ⟨(by show 3 ≤ sizeLine; decide), fun p np => both a b va vb G4 p "either" .eith ((kp.trans kp3).trans kp4) dk4 (ra.tk (Tk.kp kp4 dk3)) rb da db np (fun F x y pp h1 h2 h3 => ⟨pp, x, y, rfl, h1, h2, h3⟩) rfl rfl (Kd.size2 a b).2.1 rfl⟩
      · refine ⟨_, rfl, _, rfl, _, rfl, _, _, rfl, rfl, d, c, o, xs, j, eL, by omega, dkG, hoG, od, oc, lx, hx, fun va a G3 kp3 dk3 ra da => ?_⟩
        refine ⟨(by show 2 ≤ sizeLine; decide), fun p np => ?_⟩
        have s := newS (o := .tup [.str "list", va]) np
        refine q _ (.lst a) _ ((kp.trans kp3).trans (Kp.of s)) (dk3.same s) ⟨p, va, rfl, upd_same, ra.tk (Tk.of s)⟩ ⟨da.nf, ?_, ?_, da.nm⟩
        · have := da.dp
          show a.dp + 1 ≤ j + 1
          omega
        · have := da.sz
          rw [(Kd.size2 a a).2.2]
          show _ ≤ 2 * sb j + 1
          omega
theorem noFn {f : Addr} {fd : FuncData} {ps : List Str} {sp : Sp} {k : Nat} (no : ∀ vs H Q E, ¬ sp vs H Q E) : FnOk P w K mg base CX0 k f fd ps sp :=
  ⟨fun vs H Q E h => absurd h (no vs H Q E), fun A outer s H args us vs Q E _ _ _ _ h => absurd h (no vs H Q E)⟩
theorem okData {f fD fM : Addr} {fd fdD fdM : FuncData} (F : Fun K "_law_data" "_law_data" tData f fd) (bF : Binds K fd psData []) (gF : mg "_law_data" = some (.ref f))
    (FD : Fun K "_law_draw" "_law_draw" tDraw fD fdD) (bD : Binds K fdD ["_law_deck_here", "_law_most"] []) (gD : mg "_law_draw" = some (.ref fD)) (FM : Fun K "_law_mixed" "_law_mixed" tMixed fM fdM) (bM : Binds K fdM ["_law_cell", "_law_k"] []) (gM : mg "_law_mixed" = some (.ref fM)) (ml : mg "len" = none) :
    ∀ n, FnOk P w K mg base CX0 (n + 2) f fd psData (spData n)
  | 0 => noFn fun vs H Q E h => by
    obtain ⟨d, c, o, xs, g, _, hg, _⟩ := h
    omega
  | n + 1 => okData1 F bF gF (okDraw FD FM bM gM) bD gD FD.kp ml (okData F bF gF FD bD gD FM bM gM ml n)
end
end Kq

namespace Kq
open PySem PySem.Spec PyProof.Rows L2 Kf Kg Kv GxR
/-! worths -/
def numD : Dt → Bool
  | .int i => decide (0 ≤ i)
  | _ => false
def look (sz : List (Str × Int)) (n : Str) : Int := match sz.find? (fun p => decide (p.1 = n)) with
  | some p => p.2
  | none => 0
/-- this word and so many parts behind it -/
def tagD (x : Dt) (z : Str) (m : Nat) : Bool := match x with
  | .tup (y :: ys) => decide (ys.length = m) && y.isS z
  | _ => false
/-- a part of a tuple -/
def pt (x : Dt) (i : Nat) : Dt := match x with
  | .tup xs => xs.getD i .non
  | _ => .non
def its : Dt → List Dt
  | .tup xs => xs
  | _ => []
def numB (m : Int) : Dt → Bool
  | .int i => decide (0 ≤ i) && decide (i < m)
  | _ => false
def wth (sz : List (Str × Int)) : Kd → Dt → Bool
  | .opn n, x => tagD x "thing" 2 && ((pt x 1).isS n && numB (look sz n) (pt x 2))
  | .num, x => numD x
  | .tru, x => x.isBl
  | .pair a b, x => tagD x "pair" 2 && (wth sz a (pt x 1) && wth sz b (pt x 2))
  | .eith a b, x => if tagD x "left" 1 then wth sz a (pt x 1) else tagD x "right" 1 && wth sz b (pt x 1)
  | .lst a, x => tagD x "list" 1 && ((pt x 1).isTup && (its (pt x 1)).all (wth sz a))
  | .fn _ _, _ => false
/-- the sizes stand at p -/
def Sz (H : Hp) (p : Addr) (sz : List (Str × Int)) : Prop := ∃ (o : Obj) (ps : List Addr), H p = some (.frz o (.tup (ps.map V.ref))) ∧ o.dict = none ∧ o.cls = .type "tuple" ∧ Paired (fun q (kv : Str × Int) => H q = some (.tup [.str kv.1, .int kv.2])) ps sz
theorem Paired.mono {α β : Type} {R S : α → β → Prop} (h : ∀ a b, R a b → S a b) : ∀ {l : List α} {m : List β}, Paired R l m → Paired S l m
  | _, _, .nil => .nil
  | _, _, .cons r t => .cons (h _ _ r) (Paired.mono h t)
theorem Paired.snoc {α β : Type} {R : α → β → Prop} : ∀ {l : List α} {m : List β} {a : α} {b : β}, Paired R l m → R a b → Paired R (l ++ [a]) (m ++ [b])
  | _, _, _, _, .nil, h => .cons h .nil
  | _, _, _, _, .cons h t, k => .cons h (Paired.snoc t k)
theorem Paired.len {α β : Type} {R : α → β → Prop} : ∀ {l : List α} {m : List β}, Paired R l m → l.length = m.length
  | _, _, .nil => rfl
  | _, _, .cons _ t => congrArg (· + 1) (Paired.len t)
theorem Paired.at {α β : Type} {R : α → β → Prop} : ∀ {l : List α} {m : List β} {i : Nat} {a : α}, Paired R l m → l[i]? = some a → ∃ b, m[i]? = some b ∧ R a b
  | _, _, _, _, .nil, e => by simp at e
  | _, _, 0, _, .cons (b := b) h t, e => ⟨b, rfl, by rw [← Option.some.inj e]; exact h⟩
  | _, _, i + 1, _, .cons h t, e => Paired.at (i := i) t e
theorem Sz.at {H G : Hp} {p : Addr} {sz : List (Str × Int)} (h : Sz H p sz) (k : ∀ b o, (∀ xs, o ≠ .lst xs) → (∀ xs, o ≠ .tbl xs) → H b = some o → G b = some o) : Sz G p sz := by
  obtain ⟨o, ps, h1, h2, h3, h4⟩ := h
  exact ⟨o, ps, k _ _ (fun _ z => by cases z) (fun _ z => by cases z) h1, h2, h3, Paired.mono (fun _ _ e => k _ _ (fun _ z => by cases z) (fun _ z => by cases z) e) h4⟩
theorem Sz.same {H G : Hp} {p : Addr} {sz : List (Str × Int)} (h : Sz H p sz) (s : Same H G) : Sz G p sz := h.at fun b o _ _ e => s b o e
theorem Sz.sm {T : List Addr} {H G : Hp} {p : Addr} {sz : List (Str × Int)} (h : Sz H p sz) (t : TbS T H) (s : Sm T H G) : Sz G p sz := h.at fun b o _ n e => s.at t e n
theorem Sz.kp {d c : Addr} {H G : Hp} {p : Addr} {sz : List (Str × Int)} (h : Sz H p sz) (k : Kp d c H G) (x : Dk H d c) : Sz G p sz := h.at fun b o n _ e => by
  obtain ⟨_, ⟨_, _, hd⟩, ⟨_, hc, _⟩⟩ := x
  refine k b o (fun z => ?_) (fun z => ?_) e
  · rw [z, hd] at e
    exact n _ (Option.some.inj e).symm
  · rw [z, hc] at e
    exact n _ (Option.some.inj e).symm
theorem Sz.put {H : Hp} {p q : Addr} {o : HO} {sz : List (Str × Int)} {xs : List V} (h : Sz H p sz) (hq : H q = some (.lst xs)) : Sz (upd H q o) p sz := h.at fun b u n _ e => by
  rw [upd_ne (fun z => by rw [z, hq] at e; exact n _ (Option.some.inj e).symm)]
  exact e
abbrev tTruth : Stmt := tp 4
abbrev tWhole : Stmt := tp 5
abbrev tNumber : Stmt := tp 6
abbrev tTagged : Stmt := tp 7
abbrev tThings : Stmt := tp 28
theorem _root_.Kv.Dd.tupS {N : Addr → Prop} {H : Hp} {xs : List Dt} {v : V} (h : Dd N H (.tup xs) v) : ∃ a vs, v = .ref a ∧ H a = some (.tup vs) ∧ DdL N H xs vs := by
  cases h with
  | tup h t => exact ⟨_, _, rfl, h, t⟩
theorem _root_.Kv.DdL.see {N : Addr → Prop} {H : Hp} {xs : List Dt} {vs : List V} (h : DdL N H xs vs) : (xs = [] ∧ vs = []) ∨ ∃ y ys w ws, xs = y :: ys ∧ vs = w :: ws ∧ Dd N H y w ∧ DdL N H ys ws := by
  cases h with
  | nil => exact .inl ⟨rfl, rfl⟩
  | cons h t => exact .inr ⟨_, _, _, _, rfl, rfl, h, t⟩
section
variable {P : Program} {w : World} {K : PySem.W.Frag} {mg : Str → Option Value} {base : Heap}
def spYesS (p : Dt → Bool) : Sp := fun vs H Q _ => ∃ (v : V) (x : Dt), vs = [v] ∧ Dd Any H x v ∧ Q (.bl (p x)) H
theorem scTruth : FnScope ["thing"] ["thing"] (defScope tTruth) := ⟨rfl, rfl, rfl, by decide +kernel, rfl, by decide +kernel, by decide +kernel⟩
theorem okTruth {f : Addr} {fd : FuncData} {k : Nat} (F : Fun K "is_truth" "is_truth" tTruth f fd) (mi : mg "isinstance" = none) (mb : mg "bool" = none) : FnOk P w K mg base CX0 (k + 1) f fd ["thing"] (spYesS Dt.isBl) := by
  refine F.ok scTruth (fun vs H Q E h => ?_) (fun cdv A outer s H vs Q E hr h => ?_)
  · obtain ⟨v, x, rfl, _⟩ := h
    rfl
  obtain ⟨v, x, rfl, hd, q⟩ := h
  refine ⟨_, pss_one (ps_ret (pe_callB (isiK K rfl) (by rfl) mi PyProof.Rows.boot_isinstance (pa_cons (pv 0) (pa_cons (pe_bltn (v := .ty "bool") (by rfl) mb PyProof.Rows.boot_bool rfl) pa_nil)))), ?_⟩
  exact ⟨_, rfl, _, _, _, _, x.isBl, rfl, .ty "bool", hd.ty, kBl K x, q⟩
def whlD : Dt → Bool
  | .int _ => true
  | _ => false
theorem scWhole : FnScope ["thing"] ["thing"] (defScope tWhole) := ⟨rfl, rfl, rfl, by decide +kernel, rfl, by decide +kernel, by decide +kernel⟩
theorem okWhole {f : Addr} {fd : FuncData} {k : Nat} (F : Fun K "is_whole" "is_whole" tWhole f fd) (mi : mg "isinstance" = none) (mb : mg "bool" = none) (mn : mg "int" = none) : FnOk P w K mg base CX0 (k + 1) f fd ["thing"] (spYesS whlD) := by
  refine F.ok scWhole (fun vs H Q E h => ?_) (fun cdv A outer s H vs Q E hr h => ?_)
  · obtain ⟨v, x, rfl, _⟩ := h
    rfl
  obtain ⟨v, x, rfl, hd, q⟩ := h
  refine ⟨_, pss_one (ps_ret (pe_and (pe_callB (isiK K rfl) (by rfl) mi PyProof.Rows.boot_isinstance (pa_cons (pv 0) (pa_cons (pe_bltn (v := .ty "int") (by rfl) mn (by decide +kernel) rfl) pa_nil)))
    (pe_one (pe_not (pe_callB (isiK K rfl) (by rfl) mi PyProof.Rows.boot_isinstance (pa_cons (pv 0) (pa_cons (pe_bltn (v := .ty "bool") (by rfl) mb PyProof.Rows.boot_bool rfl) pa_nil))))))), ?_⟩
  refine ⟨_, rfl, _, _, _, _, x.isInt, rfl, .ty "int", hd.ty, kInt K x, _, rfl, ite2 (fun e => ?_) (fun e => ?_)⟩
  · refine ⟨_, rfl, _, _, _, _, x.isBl, rfl, .ty "bool", hd.ty, kBl K x, _, rfl, ?_⟩
    have e1 : (!x.isBl) = whlD x := by
      cases x <;> first | rfl | cases e
    rw [e1]
    exact q
  · have e1 : whlD x = false := by
      cases x <;> first | rfl | exact absurd rfl e
    rw [e1] at q
    exact q
theorem scNumber : FnScope ["thing"] ["thing"] (defScope tNumber) := ⟨rfl, rfl, rfl, by decide +kernel, rfl, by decide +kernel, by decide +kernel⟩
theorem okNumber {f fW : Addr} {fd fdW : FuncData} {k : Nat} (F : Fun K "is_number" "is_number" tNumber f fd)
    (GW : FnOk P w K mg base CX0 (k + 1) fW fdW ["thing"] (spYesS whlD)) (bW : Binds K fdW ["thing"] []) (gW : mg "is_whole" = some (.ref fW)) (kW : PySem.W.keepIn K (.ref fW) = true) : FnOk P w K mg base CX0 (k + 2) f fd ["thing"] (spYesS numD) := by
  refine F.ok scNumber (fun vs H Q E h => ?_) (fun cdv A outer s H vs Q E hr h => ?_)
  · obtain ⟨v, x, rfl, _⟩ := h
    rfl
  obtain ⟨v, x, rfl, hd, q⟩ := h
  refine ⟨_, pss_one (ps_ret (pe_and (pe_call GW hr (by rfl) gW kW bW .nil pass0 (pa_cons (pv 0) pa_nil)) (pe_one (pe_cmpR op_ge (pv 0) pe_int (nomark _))))), ?_⟩
  refine ⟨_, rfl, v, x, rfl, hd, _, rfl, ite2 (fun e => ?_) (fun e => ?_)⟩
  · obtain ⟨i, rfl⟩ : ∃ i, x = .int i := by
      cases x with
      | int i => exact ⟨i, rfl⟩
      | _ => cases e
    cases hd
    exact ⟨_, rfl, _, _, rfl, rfl, q⟩
  · have e1 : numD x = false := by
      cases x <;> first | rfl | exact absurd rfl e
    rw [e1] at q
    exact q
/-! is_tagged -/
theorem scTagged : FnScope ["thing", "word", "many"] ["thing", "word", "many"] (defScope tTagged) := ⟨rfl, rfl, rfl, by decide +kernel, rfl, by decide +kernel, by decide +kernel⟩
def spTagged : Sp := fun vs H Q _ => ∃ (v : V) (x : Dt) (z : Str) (m : Nat), vs = [v, .str z, .int (m : Int)] ∧ Dd Any H x v ∧ Q (.bl (tagD x z m)) H
theorem okTagged {f : Addr} {fd : FuncData} {k : Nat} (F : Fun K "is_tagged" "is_tagged" tTagged f fd) (mi : mg "isinstance" = none) (mt : mg "tuple" = none) (ml : mg "len" = none) : FnOk P w K mg base CX0 (k + 1) f fd ["thing", "word", "many"] spTagged := by
  refine F.ok scTagged (fun vs H Q E h => ?_) (fun cdv A outer s H vs Q E hr h => ?_)
  · obtain ⟨v, x, z, m, rfl, _⟩ := h
    rfl
  obtain ⟨v, x, z, m, rfl, hd, q⟩ := h
  refine ⟨_, pss_one (ps_ret (pe_and (pe_callB (isiK K rfl) (by rfl) mi PyProof.Rows.boot_isinstance (pa_cons (pv 0) (pa_cons (pe_bltn (v := .ty "tuple") (by rfl) mt PyProof.Rows.boot_tuple rfl) pa_nil)))
    (pe_and (pe_cmpR op_eq (pe_callB call_len_seq (by rfl) ml PySem.boot_len (pa_cons (pv 0) pa_nil)) (pe_op op_add (pv 2) pe_int) (nomark _))
    (pe_one (pe_cmpR (op_eqUS hr.units) (pe_ix ix_tup (pv 0) pe_int (fun _ _ => rfl)) (pv 1) (nomark _)))))), ?_⟩
  refine ⟨_, rfl, _, _, _, _, x.isTup, rfl, .ty "tuple", hd.ty, kTup K x, _, rfl, ite2 (fun e => ?_) (fun e => ?_)⟩
  rotate_left
  · have e1 : tagD x z m = false := by
      cases x <;> first | rfl | exact absurd rfl e
    rw [e1] at q
    exact q
  obtain ⟨xs, rfl⟩ : ∃ xs, x = .tup xs := by
    cases x with
    | tup xs => exact ⟨xs, rfl⟩
    | _ => cases e
  obtain ⟨a, us, rfl, ha, hL⟩ := Kv.Dd.tupS hd
  have ll := hL.len
  refine ⟨_, rfl, a, us, rfl, .inr (SqT.of ha), _, rfl, _, _, rfl, rfl, rfl, _, rfl, ite2 (fun e => ?_) (fun e => ?_)⟩
  · have e1 : (us.length : Int) = (m : Int) + 1 := V.int.inj (of_decide_eq_true e)
    rcases Kv.DdL.see hL with ⟨rfl, rfl⟩ | ⟨y, ys, w, ws, rfl, rfl, h, t⟩
    · have : ((0 : Nat) : Int) = (m : Int) + 1 := e1
      omega
    · refine ⟨_, rfl, a, _, _, _, rfl, rfl, SqT.of ha, atI_nat (j := 0) rfl, _, rfl, y, z, h, rfl, ?_⟩
      have l2 := t.len
      have e2 : tagD (.tup (y :: ys)) z m = y.isS z := by
        show (decide (ys.length = m) && _) = _
        rw [List.length_cons] at e1
        rw [decide_eq_true (by omega), Bool.true_and]
      rw [e2] at q
      exact q
  · have e1 : ¬ (us.length : Int) = (m : Int) + 1 := fun z => e (decide_eq_true (by rw [z]))
    have e2 : tagD (.tup xs) z m = false := by
      cases xs with
      | nil => rfl
      | cons y ys =>
        show (decide (ys.length = m) && _) = _
        rw [List.length_cons] at ll
        rw [decide_eq_false (by omega), Bool.false_and]
    rw [e2] at q
    exact q
/-! things_of -/
theorem scThings : FnScope ["sizes", "name", "sized", "many"] ["sizes", "name"] (defScope tThings) := ⟨rfl, rfl, rfl, by decide +kernel, rfl, by decide +kernel, by decide +kernel⟩
def spThings : Sp := fun vs H Q _ => ∃ (p : Addr) (sz : List (Str × Int)) (n : Str), vs = [.ref p, .str n] ∧ Sz H p sz ∧ Q (.int (look sz n)) H
theorem okThings {f : Addr} {fd : FuncData} {k : Nat} (F : Fun K "things_of" "things_of" tThings f fd) : FnOk P w K mg base CX0 (k + 1) f fd ["sizes", "name"] spThings := by
  refine F.ok scThings (fun vs H Q E h => ?_) (fun cdv A outer s H vs Q E hr h => ?_)
  · obtain ⟨p, sz, n, rfl, _⟩ := h
    rfl
  obtain ⟨p, sz, n, rfl, ⟨o, ps, hp, _, _, pr⟩, q⟩ := h
  refine ⟨_, pss_cons (ps_for PassesOwn.never rfl (pi_tup (pv 0)) (pg_tup rfl (pgs_cons (pg_name (i := 2) scThings.nd rfl (.inl rfl)) (pgs_cons (pg_name (i := 3) scThings.nd rfl (.inl rfl)) pgs_nil)))
      (pss_one (ps_if (pt_cmpR op_eq (pv 2) (pv 1) (nomark _)) (pss_one (ps_ret (pv 3))) pss_nil)))
    (pss_one (ps_ret pe_int)), ?_⟩
  have hs : SqT K H p (ps.map V.ref) := .inl (.inr ⟨o, hp⟩)
  have lp := Paired.len pr
  refine ⟨_, rfl, p, rfl, ⟨_, hs⟩, for_tup (xs := ps.map V.ref) (fun i σ G => G = H ∧ (∃ y2 y3, σ = [some (.ref p), some (.str n), y2, y3]) ∧ (sz.take i).find? (fun kv => decide (kv.1 = n)) = none) ⟨rfl, ⟨_, _, rfl⟩, rfl⟩ (fun i σ G _ z => by rw [z.1]; exact hs) (fun i x σ G hx z => ?_) (fun σ G z => ?_)⟩
  · obtain ⟨rfl, ⟨y2, y3, rfl⟩, hf⟩ := z
    rw [List.getElem?_map] at hx
    cases hq : ps[i]? with
    | none => rw [hq] at hx; cases hx
    | some r =>
      rw [hq] at hx
      obtain rfl := Option.some.inj hx
      obtain ⟨kv, hkv, hr2⟩ := Paired.at pr hq
      have et : sz.take (i + 1) = sz.take i ++ [kv] := by rw [List.take_add_one, hkv]; rfl
      refine ⟨r, _, rfl, SqT.of hr2, rfl, _, _, rfl, _, _, rfl, rfl, ?_⟩
      refine ⟨_, rfl, _, rfl, rfl, _, rfl, ite2 (fun e => ?_) (fun e => ?_)⟩
      · have e1 : kv.1 = n := V.str.inj (of_decide_eq_true e)
        have e2 : look sz n = kv.2 := by
          have z : sz.find? (fun kv => decide (kv.1 = n)) = some kv := by
            have li := (List.getElem?_eq_some_iff.mp hkv).1
            rw [← List.take_append_drop i sz, List.find?_append, hf, List.drop_eq_getElem_cons li, (List.getElem?_eq_some_iff.mp hkv).2]
            simp [e1]
          unfold look
          rw [z]
        rw [e2] at q
        exact ⟨_, rfl, q⟩
      · have e1 : ¬ kv.1 = n := fun z => e (decide_eq_true (by rw [z]))
        refine ⟨rfl, ⟨_, _, rfl⟩, ?_⟩
        rw [et, List.find?_append, hf]
        simp [e1]
  · obtain ⟨rfl, ⟨y2, y3, rfl⟩, hf⟩ := z
    rw [List.length_map, lp, List.take_length] at hf
    have e2 : look sz n = 0 := by
      unfold look
      rw [hf]
    rw [e2] at q
    exact q
end
end Kq

namespace Kq
open PySem PySem.Spec PyProof.Rows L2 Kf Kg Kv GxR
abbrev tIsWorth : Stmt := tp 18
abbrev tIsThing : Stmt := tp 19
abbrev tIsNum : Stmt := tp 20
abbrev tIsYes : Stmt := tp 21
abbrev tIsPair : Stmt := tp 22
abbrev tIsSide : Stmt := tp 23
abbrev tIsList : Stmt := tp 24
abbrev psW : List Str := ["kind", "sizes", "thing"]
/-- the parts of what has this word -/
theorem tag_see {N : Addr → Prop} {H : Hp} {x : Dt} {z : Str} {m : Nat} {v : V} (h : tagD x z m = true) (hd : Dd N H x v) : ∃ y ys a w ws, x = .tup (y :: ys) ∧ ys.length = m ∧ v = .ref a ∧ H a = some (.tup (w :: ws)) ∧ Dd N H y w ∧ DdL N H ys ws := by
  unfold tagD at h
  split at h
  · rename_i y ys
    obtain ⟨h1, _⟩ := Bool.and_eq_true_iff.mp h
    obtain ⟨a, vs, rfl, ha, hL⟩ := Kv.Dd.tupS hd
    cases hL with
    | cons h t => exact ⟨y, ys, a, _, _, rfl, of_decide_eq_true h1, rfl, ha, h, t⟩
  · cases h
theorem tag_see1 {N : Addr → Prop} {H : Hp} {x : Dt} {z : Str} {v : V} (h : tagD x z 1 = true) (hd : Dd N H x v) : ∃ y y1 a w w1, x = .tup [y, y1] ∧ v = .ref a ∧ H a = some (.tup [w, w1]) ∧ Dd N H y w ∧ Dd N H y1 w1 := by
  obtain ⟨y, ys, a, w, ws, rfl, l, rfl, ha, hy, hL⟩ := tag_see h hd
  rcases Kv.DdL.see hL with ⟨rfl, rfl⟩ | ⟨y1, ys1, w1, ws1, rfl, rfl, h1, hL1⟩
  · cases l
  rcases Kv.DdL.see hL1 with ⟨rfl, rfl⟩ | ⟨y2, ys2, w2, ws2, rfl, rfl, h2, hL2⟩
  · exact ⟨y, y1, a, w, w1, rfl, rfl, ha, hy, h1⟩
  · simp at l
theorem tag_see2 {N : Addr → Prop} {H : Hp} {x : Dt} {z : Str} {v : V} (h : tagD x z 2 = true) (hd : Dd N H x v) : ∃ y y1 y2 a w w1 w2, x = .tup [y, y1, y2] ∧ v = .ref a ∧ H a = some (.tup [w, w1, w2]) ∧ Dd N H y w ∧ Dd N H y1 w1 ∧ Dd N H y2 w2 := by
  obtain ⟨y, ys, a, w, ws, rfl, l, rfl, ha, hy, hL⟩ := tag_see h hd
  rcases Kv.DdL.see hL with ⟨rfl, rfl⟩ | ⟨y1, ys1, w1, ws1, rfl, rfl, h1, hL1⟩
  · cases l
  rcases Kv.DdL.see hL1 with ⟨rfl, rfl⟩ | ⟨y2, ys2, w2, ws2, rfl, rfl, h2, hL2⟩
  · simp at l
  rcases Kv.DdL.see hL2 with ⟨rfl, rfl⟩ | ⟨y3, ys3, w3, ws3, rfl, rfl, h3, hL3⟩
  · exact ⟨y, y1, y2, a, w, w1, w2, rfl, rfl, ha, hy, h1, h2⟩
  · simp at l
theorem take_allL {α : Type} {f : α → Bool} {xs : List α} {i : Nat} {x : α} (hx : xs[i]? = some x) (h : (xs.take i).all f = true) (e : f x = true) : (xs.take (i + 1)).all f = true := by
  rw [List.take_add_one, hx, List.all_append, h]
  simp [e]
theorem not_allL {α : Type} {f : α → Bool} {xs : List α} {i : Nat} {x : α} (hx : xs[i]? = some x) (e : f x = false) : xs.all f = false := by
  rw [← Bool.not_eq_true, List.all_eq_true]
  intro z
  rw [z x (List.mem_of_getElem? hx)] at e
  cases e
theorem Tk.sm {T : List Addr} {H G : Hp} (t : TbS T H) (s : Sm T H G) : Tk H G := fun b xs e => s.at t e fun _ z => by cases z
section
variable {P : Program} {w : World} {K : PySem.W.Frag} {mg : Str → Option Value} {base : Heap}
/-- is_worth of kinds of this sort -/
def spW (T : List Addr) (S : Kd → Prop) : Sp := fun vs H Q _ => ∃ (vk : V) (p : Addr) (vx : V) (t : Kd) (sz : List (Str × Int)) (x : Dt), vs = [vk, .ref p, vx] ∧ S t ∧ t.data = true ∧ Rp H t vk ∧ Sz H p sz ∧ Dd Any H x vx ∧ TbS T H ∧ ∀ G : Hp, Sm T H G → Q (.bl (wth sz t x)) G
def sOpn (t : Kd) : Prop := ∃ n, t = .opn n
def sNum (t : Kd) : Prop := t = .num
def sTru (t : Kd) : Prop := t = .tru
def sDp (n : Nat) (t : Kd) : Prop := t.dp + 1 ≤ n
def sPair (n : Nat) (t : Kd) : Prop := ∃ a b, t = .pair a b ∧ t.dp ≤ n
def sEith (n : Nat) (t : Kd) : Prop := ∃ a b, t = .eith a b ∧ t.dp ≤ n
def sLst (n : Nat) (t : Kd) : Prop := ∃ a, t = .lst a ∧ t.dp ≤ n
theorem scIsThing : FnScope psW psW (defScope tIsThing) := ⟨rfl, rfl, rfl, by decide +kernel, rfl, by decide +kernel, by decide +kernel⟩
theorem okIsThing {f fT fN fO : Addr} {fd fdT fdN fdO : FuncData} {k : Nat} {T : List Addr} (F : Fun K "is_thing" "is_thing" tIsThing f fd)
    (GT : FnOk P w K mg base CX0 (k + 2) fT fdT ["thing", "word", "many"] spTagged) (bT : Binds K fdT ["thing", "word", "many"] []) (gT : mg "is_tagged" = some (.ref fT)) (kT : PySem.W.keepIn K (.ref fT) = true)
    (GN : FnOk P w K mg base CX0 (k + 2) fN fdN ["thing"] (spYesS numD)) (bN : Binds K fdN ["thing"] []) (gN : mg "is_number" = some (.ref fN)) (kN : PySem.W.keepIn K (.ref fN) = true)
    (GO : FnOk P w K mg base CX0 (k + 2) fO fdO ["sizes", "name"] spThings) (bO : Binds K fdO ["sizes", "name"] []) (gO : mg "things_of" = some (.ref fO)) (kO : PySem.W.keepIn K (.ref fO) = true) : FnOk P w K mg base CX0 (k + 3) f fd psW (spW T sOpn) := by
  refine F.ok scIsThing (fun vs H Q E h => ?_) (fun cdv A outer s H vs Q E hr h => ?_)
  · obtain ⟨vk, p, vx, t, sz, x, rfl, _⟩ := h
    rfl
  obtain ⟨vk, p, vx, t, sz, x, rfl, ⟨n, rfl⟩, _, rk, hz, hd, tb, q⟩ := h
  obtain ⟨ka, rfl, hk⟩ := rk
  refine ⟨_, pss_cons (ps_if (PW.pt (pw_or (pt_not (pt_val (pe_call GT hr (by rfl) gT kT bT .nil pass0 (pa_cons (pv 2) (pa_cons pe_str (pa_cons pe_int pa_nil))))))
      (pw_or1 (pt_cmpR (op_neUS hr.units) (pe_ix ix_tup (pv 2) pe_int (fun _ _ => rfl)) (pe_ix ix_tup (pv 0) pe_int (fun _ _ => rfl)) (nomark _)))))
      (pss_one (ps_ret pe_bl)) pss_nil)
    (pss_one (ps_ret (pe_and (pe_call GN hr (by rfl) gN kN bN .nil pass0 (pa_cons (pe_ix ix_tup (pv 2) pe_int (fun _ _ => rfl)) pa_nil))
      (pe_one (pe_cmpR op_lt (pe_ix ix_tup (pv 2) pe_int (fun _ _ => rfl)) (pe_call GO hr (by rfl) gO kO bO .nil pass0 (pa_cons (pv 1) (pa_cons (pe_ix ix_tup (pv 0) pe_int (fun _ _ => rfl)) pa_nil))) (nomark _)))))), ?_⟩
  have q := q H (Sm.refl tb)
  have no : wth sz (.opn n) x = false → Q (.bl false) H := fun e => by
    rw [e] at q
    exact q
  refine ⟨_, rfl, vx, x, "thing", 2, rfl, hd, _, rfl, ite2 (fun e => iteT (no ?_)) (fun e => ?_)⟩
  · simp only [wth]
    rw [show tagD x "thing" 2 = false by simpa using e]
    rfl
  have ht : tagD x "thing" 2 = true := by simpa using e
  obtain ⟨y, y1, y2, a, w0, w1, w2, rfl, rfl, ha, h0, h1, h2⟩ := tag_see2 ht hd
  have ew : wth sz (.opn n) (.tup [y, y1, y2]) = (y1.isS n && numB (look sz n) y2) := by
    simp only [wth]
    rw [ht]
    rfl
  refine ⟨_, rfl, a, _, _, _, rfl, rfl, SqT.of ha, atI_nat (j := 1) rfl, _, rfl, ka, _, _, _, rfl, rfl, SqT.of hk, atI_nat (j := 1) rfl, y1, n, h1, rfl, _, rfl, ite2 (fun e => no ?_) (fun e => ?_)⟩
  · rw [ew, show y1.isS n = false by simpa using e]
    rfl
  rw [ew, show y1.isS n = true by simpa using e, Bool.true_and] at q
  refine ⟨_, rfl, a, _, _, _, rfl, rfl, SqT.of ha, atI_nat (j := 2) rfl, w2, y2, rfl, h2, _, rfl, ite2 (fun e => ?_) (fun e => ?_)⟩
  · obtain ⟨i, rfl⟩ : ∃ i, y2 = .int i := by
      cases y2 with
      | int i => exact ⟨i, rfl⟩
      | _ => cases e
    cases h2
    refine ⟨_, rfl, a, _, _, _, rfl, rfl, SqT.of ha, atI_nat (j := 2) rfl, _, rfl, _, rfl, ka, _, _, _, rfl, rfl, SqT.of hk, atI_nat (j := 1) rfl, p, sz, n, rfl, hz, _, _, rfl, rfl, ?_⟩
    have e1 : numB (look sz n) (.int i) = decide (i < look sz n) := by
      show (decide (0 ≤ i) && _) = _
      rw [show decide (0 ≤ i) = true from e, Bool.true_and]
    rw [e1] at q
    exact q
  · have e1 : numB (look sz n) y2 = false := by
      cases y2 with
      | int i =>
        show (decide (0 ≤ i) && _) = _
        cases hh : decide (0 ≤ i) with
        | true => exact absurd hh e
        | false => rfl
      | _ => rfl
    rw [e1] at q
    exact q
theorem scIsNum : FnScope psW psW (defScope tIsNum) := ⟨rfl, rfl, rfl, by decide +kernel, rfl, by decide +kernel, by decide +kernel⟩
theorem okIsNum {f fN : Addr} {fd fdN : FuncData} {k : Nat} {T : List Addr} (F : Fun K "is_num" "is_num" tIsNum f fd)
    (GN : FnOk P w K mg base CX0 (k + 2) fN fdN ["thing"] (spYesS numD)) (bN : Binds K fdN ["thing"] []) (gN : mg "is_number" = some (.ref fN)) (kN : PySem.W.keepIn K (.ref fN) = true) : FnOk P w K mg base CX0 (k + 3) f fd psW (spW T sNum) := by
  refine F.ok scIsNum (fun vs H Q E h => ?_) (fun cdv A outer s H vs Q E hr h => ?_)
  · obtain ⟨vk, p, vx, t, sz, x, rfl, _⟩ := h
    rfl
  obtain ⟨vk, p, vx, t, sz, x, rfl, rfl, _, rk, hz, hd, tb, q⟩ := h
  exact ⟨_, pss_one (ps_ret (pe_call GN hr (by rfl) gN kN bN .nil pass0 (pa_cons (pv 2) pa_nil))), _, rfl, vx, x, rfl, hd, q H (Sm.refl tb)⟩
theorem scIsYes : FnScope psW psW (defScope tIsYes) := ⟨rfl, rfl, rfl, by decide +kernel, rfl, by decide +kernel, by decide +kernel⟩
theorem okIsYes {f fN : Addr} {fd fdN : FuncData} {k : Nat} {T : List Addr} (F : Fun K "is_yes_or_no" "is_yes_or_no" tIsYes f fd)
    (GN : FnOk P w K mg base CX0 (k + 2) fN fdN ["thing"] (spYesS Dt.isBl)) (bN : Binds K fdN ["thing"] []) (gN : mg "is_truth" = some (.ref fN)) (kN : PySem.W.keepIn K (.ref fN) = true) : FnOk P w K mg base CX0 (k + 3) f fd psW (spW T sTru) := by
  refine F.ok scIsYes (fun vs H Q E h => ?_) (fun cdv A outer s H vs Q E hr h => ?_)
  · obtain ⟨vk, p, vx, t, sz, x, rfl, _⟩ := h
    rfl
  obtain ⟨vk, p, vx, t, sz, x, rfl, rfl, _, rk, hz, hd, tb, q⟩ := h
  exact ⟨_, pss_one (ps_ret (pe_call GN hr (by rfl) gN kN bN .nil pass0 (pa_cons (pv 2) pa_nil))), _, rfl, vx, x, rfl, hd, q H (Sm.refl tb)⟩
theorem scIsPair : FnScope psW psW (defScope tIsPair) := ⟨rfl, rfl, rfl, by decide +kernel, rfl, by decide +kernel, by decide +kernel⟩
theorem okIsPair {f fT fW : Addr} {fd fdT fdW : FuncData} {k n : Nat} {T : List Addr} (F : Fun K "is_pair" "is_pair" tIsPair f fd)
    (GT : FnOk P w K mg base CX0 k fT fdT ["thing", "word", "many"] spTagged) (bT : Binds K fdT ["thing", "word", "many"] []) (gT : mg "is_tagged" = some (.ref fT)) (kT : PySem.W.keepIn K (.ref fT) = true)
    (GW : FnOk P w K mg base CX0 k fW fdW psW (spW T (sDp n))) (bW : Binds K fdW psW []) (gW : mg "is_worth" = some (.ref fW)) (kW : PySem.W.keepIn K (.ref fW) = true) : FnOk P w K mg base CX0 (k + 1) f fd psW (spW T (sPair n)) := by
  refine F.ok scIsPair (fun vs H Q E h => ?_) (fun cdv A outer s H vs Q E hr h => ?_)
  · obtain ⟨vk, p, vx, t, sz, x, rfl, _⟩ := h
    rfl
  obtain ⟨vk, p, vx, t, sz, x, rfl, ⟨ta, tb', rfl, hn⟩, hdt, rk, hz, hd, tb, q⟩ := h
  obtain ⟨ka, u1, u2, rfl, hk, r1, r2⟩ := rk
  obtain ⟨d1, d2⟩ := Bool.and_eq_true_iff.mp hdt
  have hn : max ta.dp tb'.dp + 1 ≤ n := hn
  refine ⟨_, pss_one (ps_ret (pe_and (pe_call GT hr (by rfl) gT kT bT .nil pass0 (pa_cons (pv 2) (pa_cons pe_str (pa_cons pe_int pa_nil))))
    (pe_and (pe_call GW hr (by rfl) gW kW bW .nil pass0 (pa_cons (pe_ix ix_tup (pv 0) pe_int (fun _ _ => rfl)) (pa_cons (pv 1) (pa_cons (pe_ix ix_tup (pv 2) pe_int (fun _ _ => rfl)) pa_nil))))
    (pe_one (pe_call GW hr (by rfl) gW kW bW .nil pass0 (pa_cons (pe_ix ix_tup (pv 0) pe_int (fun _ _ => rfl)) (pa_cons (pv 1) (pa_cons (pe_ix ix_tup (pv 2) pe_int (fun _ _ => rfl)) pa_nil)))))))), ?_⟩
  have no : ∀ G, Sm T H G → wth sz (.pair ta tb') x = false → Q (.bl false) G := fun G sG e => by
    have z := q G sG
    rw [e] at z
    exact z
  refine ⟨_, rfl, vx, x, "pair", 2, rfl, hd, _, rfl, ite2 (fun ht => ?_) (fun e => no _ (Sm.refl tb) ?_)⟩
  rotate_left
  · simp only [wth]
    rw [show tagD x "pair" 2 = false by simpa using e]
    rfl
  obtain ⟨y, y1, y2, a, w0, w1, w2, rfl, rfl, ha, h0, h1, h2⟩ := tag_see2 ht hd
  have ew : wth sz (.pair ta tb') (.tup [y, y1, y2]) = (wth sz ta y1 && wth sz tb' y2) := by
    simp only [wth]
    rw [ht]
    rfl
  refine ⟨_, rfl, ka, _, _, _, rfl, rfl, SqT.of hk, atI_nat (j := 1) rfl, _, rfl, _, rfl, a, _, _, _, rfl, rfl, SqT.of ha, atI_nat (j := 1) rfl, u1, p, w1, ta, sz, y1, rfl, by show ta.dp + 1 ≤ n; omega, d1, r1, hz, h1, tb, fun G sG => ⟨_, rfl, ite2 (fun e => ?_) (fun e => no _ sG ?_)⟩⟩
  rotate_left
  · rw [ew, show wth sz ta y1 = false by simpa using e]
    rfl
  have ha' := sG.at tb ha (fun _ z => by cases z)
  have hk' := sG.at tb hk (fun _ z => by cases z)
  refine ⟨_, rfl, ka, _, _, _, rfl, rfl, SqT.of hk', atI_nat (j := 2) rfl, _, rfl, _, rfl, a, _, _, _, rfl, rfl, SqT.of ha', atI_nat (j := 2) rfl, u2, p, w2, tb', sz, y2, rfl, by show tb'.dp + 1 ≤ n; omega, d2, r2.tk (Tk.sm tb sG), hz.sm tb sG, h2.kn (sG.kn tb), sG.2, fun G2 s2 => ?_⟩
  have z := q _ (sG.trans s2)
  rw [ew, e, Bool.true_and] at z
  exact z
theorem scIsSide : FnScope psW psW (defScope tIsSide) := ⟨rfl, rfl, rfl, by decide +kernel, rfl, by decide +kernel, by decide +kernel⟩
theorem okIsSide {f fT fW : Addr} {fd fdT fdW : FuncData} {k n : Nat} {T : List Addr} (F : Fun K "is_side" "is_side" tIsSide f fd)
    (GT : FnOk P w K mg base CX0 k fT fdT ["thing", "word", "many"] spTagged) (bT : Binds K fdT ["thing", "word", "many"] []) (gT : mg "is_tagged" = some (.ref fT)) (kT : PySem.W.keepIn K (.ref fT) = true)
    (GW : FnOk P w K mg base CX0 k fW fdW psW (spW T (sDp n))) (bW : Binds K fdW psW []) (gW : mg "is_worth" = some (.ref fW)) (kW : PySem.W.keepIn K (.ref fW) = true) : FnOk P w K mg base CX0 (k + 1) f fd psW (spW T (sEith n)) := by
  refine F.ok scIsSide (fun vs H Q E h => ?_) (fun cdv A outer s H vs Q E hr h => ?_)
  · obtain ⟨vk, p, vx, t, sz, x, rfl, _⟩ := h
    rfl
  obtain ⟨vk, p, vx, t, sz, x, rfl, ⟨ta, tb', rfl, hn⟩, hdt, rk, hz, hd, tb, q⟩ := h
  obtain ⟨ka, u1, u2, rfl, hk, r1, r2⟩ := rk
  obtain ⟨d1, d2⟩ := Bool.and_eq_true_iff.mp hdt
  have hn : max ta.dp tb'.dp + 1 ≤ n := hn
  refine ⟨_, pss_cons (ps_if (pt_val (pe_call GT hr (by rfl) gT kT bT .nil pass0 (pa_cons (pv 2) (pa_cons pe_str (pa_cons pe_int pa_nil)))))
      (pss_one (ps_ret (pe_call GW hr (by rfl) gW kW bW .nil pass0 (pa_cons (pe_ix ix_tup (pv 0) pe_int (fun _ _ => rfl)) (pa_cons (pv 1) (pa_cons (pe_ix ix_tup (pv 2) pe_int (fun _ _ => rfl)) pa_nil)))))) pss_nil)
    (pss_one (ps_ret (pe_and (pe_call GT hr (by rfl) gT kT bT .nil pass0 (pa_cons (pv 2) (pa_cons pe_str (pa_cons pe_int pa_nil))))
      (pe_one (pe_call GW hr (by rfl) gW kW bW .nil pass0 (pa_cons (pe_ix ix_tup (pv 0) pe_int (fun _ _ => rfl)) (pa_cons (pv 1) (pa_cons (pe_ix ix_tup (pv 2) pe_int (fun _ _ => rfl)) pa_nil)))))))), ?_⟩
  refine ⟨_, rfl, vx, x, "left", 1, rfl, hd, _, rfl, ite2 (fun ht => ?_) (fun e => ?_)⟩
  · obtain ⟨y, y1, a, w0, w1, rfl, rfl, ha, h0, h1⟩ := tag_see1 ht hd
    have ew : wth sz (.eith ta tb') (.tup [y, y1]) = wth sz ta y1 := by
      simp only [wth]
      rw [ht]
      rfl
    refine ⟨_, rfl, ka, _, _, _, rfl, rfl, SqT.of hk, atI_nat (j := 1) rfl, _, rfl, _, rfl, a, _, _, _, rfl, rfl, SqT.of ha, atI_nat (j := 1) rfl, u1, p, w1, ta, sz, y1, rfl, by show ta.dp + 1 ≤ n; omega, d1, r1, hz, h1, tb, fun G sG => ?_⟩
    have z := q _ sG
    rw [ew] at z
    exact z
  have nl : tagD x "left" 1 = false := by simpa using e
  refine ⟨_, rfl, vx, x, "right", 1, rfl, hd, _, rfl, ite2 (fun ht => ?_) (fun e => ?_)⟩
  · obtain ⟨y, y1, a, w0, w1, rfl, rfl, ha, h0, h1⟩ := tag_see1 ht hd
    have ew : wth sz (.eith ta tb') (.tup [y, y1]) = wth sz tb' y1 := by
      simp only [wth]
      rw [nl, ht]
      rfl
    refine ⟨_, rfl, ka, _, _, _, rfl, rfl, SqT.of hk, atI_nat (j := 2) rfl, _, rfl, _, rfl, a, _, _, _, rfl, rfl, SqT.of ha, atI_nat (j := 1) rfl, u2, p, w1, tb', sz, y1, rfl, by show tb'.dp + 1 ≤ n; omega, d2, r2, hz, h1, tb, fun G sG => ?_⟩
    have z := q _ sG
    rw [ew] at z
    exact z
  · have z := q _ (Sm.refl tb)
    have ew : wth sz (.eith ta tb') x = false := by
      simp only [wth]
      rw [nl, show tagD x "right" 1 = false by simpa using e]
      rfl
    rw [ew] at z
    exact z
theorem scIsList : FnScope psW psW (defScope tIsList) := ⟨rfl, rfl, rfl, by decide +kernel, rfl, by decide +kernel, by decide +kernel⟩
theorem okIsList {f c p fT fW : Addr} {fd fdT fdW : FuncData} {k n : Nat} {T : List Addr} (F : FunC K "is_list" "is_list" tIsList f fd c) (TB : TabB base mg c p) (hp : p ∈ T)
    (GT : FnOk P w K mg base CX0 (k + 3) fT fdT ["thing", "word", "many"] spTagged) (bT : Binds K fdT ["thing", "word", "many"] []) (gT : mg "is_tagged" = some (.ref fT)) (kT : PySem.W.keepIn K (.ref fT) = true)
    (GW : FnOk P w K mg base CX0 k fW fdW psW (spW T (sDp n))) (bW : Binds K fdW psW []) (gW : mg "is_worth" = some (.ref fW)) (kW : PySem.W.keepIn K (.ref fW) = true)
    (ma : mg "all" = none) (mi : mg "isinstance" = none) (mt : mg "tuple" = none) : FnOk P w K mg base CX0 (k + 4) f fd psW (spW T (sLst n)) := by
  refine F.ok scIsList (fun vs H Q E h => ?_) (fun A outer s H vs Q E hr h => ?_)
  · obtain ⟨vk, p, vx, t, sz, x, rfl, _⟩ := h
    rfl
  obtain ⟨vk, ps, vx, t, sz, x, rfl, ⟨ta, rfl, hn⟩, hdt, rk, hz, hd, tb, q⟩ := h
  obtain ⟨ka, u1, rfl, hk, r1⟩ := rk
  have hdt : ta.data = true := hdt
  have hn : ta.dp + 1 ≤ n := hn
  refine ⟨_, pss_cons (ps_if (PW.pt (pw_or (pt_not (pt_val (pe_call GT hr (by rfl) gT kT bT .nil pass0 (pa_cons (pv 2) (pa_cons pe_str (pa_cons pe_int pa_nil))))))
      (pw_or1 (pt_not (pt_val (pe_callB (isiK K rfl) (by rfl) mi PyProof.Rows.boot_isinstance (pa_cons (pe_ix ix_tup (pv 2) pe_int (fun _ _ => rfl)) (pa_cons (pe_bltn (v := .ty "tuple") (by rfl) mt PyProof.Rows.boot_tuple rfl) pa_nil))))))))
      (pss_one (ps_ret pe_bl)) pss_nil)
    (pss_one (ps_ret (pe_allG (c := c) (P := p) (own := ["item"]) (caps := [("kind", 0), ("sizes", 1)]) (vs := [0]) (g := gName 0) hr (by rfl) ma TB rfl
      (gxS_by (N := psW) (sc := defScope tIsList) (by decide +kernel)) (pi_tup (pe_ix ix_tup (pv 2) pe_int (fun _ _ => rfl)))
      (fun _ _ _ _ _ => pg_name (i := 0) (show (["item", "kind", "sizes"] : List Str).Nodup by decide +kernel) rfl (.inl rfl))
      (fun _ _ _ _ _ => pe_call GW (Room.deeper hr.in1.in1 _) (by rfl) gW kW bW .nil pass0 (pa_cons (pe_ix (ixTK K rfl) (pv 1) pe_int (fun _ _ => rfl)) (pa_cons (pv 2) (pa_cons (pv 0) pa_nil))))))), ?_⟩
  have no : wth sz (.lst ta) x = false → Q (.bl false) H := fun e => by
    have z := q H (Sm.refl tb)
    rw [e] at z
    exact z
  refine ⟨_, rfl, vx, x, "list", 1, rfl, hd, _, rfl, ite2 (fun e => iteT (no ?_)) (fun e => ?_)⟩
  · simp only [wth]
    rw [show tagD x "list" 1 = false by simpa using e]
    rfl
  have ht : tagD x "list" 1 = true := by simpa using e
  obtain ⟨y, y1, a, w0, w1, rfl, rfl, ha, h0, h1⟩ := tag_see1 ht hd
  have ew : wth sz (.lst ta) (.tup [y, y1]) = (y1.isTup && (its y1).all (wth sz ta)) := by
    simp only [wth]
    rw [ht]
    rfl
  refine ⟨_, rfl, a, _, _, _, rfl, rfl, SqT.of ha, atI_nat (j := 1) rfl, _, _, _, _, y1.isTup, rfl, .ty "tuple", h1.ty, kTup K y1, _, rfl, ite2 (fun e => no ?_) (fun e => ?_)⟩
  · rw [ew, show y1.isTup = false by simpa using e]
    rfl
  obtain ⟨xs, rfl⟩ : ∃ xs, y1 = .tup xs := by
    cases y1 with
    | tup xs => exact ⟨xs, rfl⟩
    | _ => exact absurd rfl e
  obtain ⟨b, us, rfl, hb, hL⟩ := Kv.Dd.tupS h1
  have ew : wth sz (.lst ta) (.tup [y, .tup xs]) = xs.all (wth sz ta) := ew
  refine ⟨_, rfl, a, _, _, _, rfl, rfl, SqT.of ha, atI_nat (j := 1) rfl, b, rfl, ⟨_, SqT.of hb⟩, tb p hp, fun H2 htab => ?_⟩
  have s2 : Sm T H H2 := Sm.tab hp tb htab
  refine all_tup (xs := us) (fun i F => Sm T H F ∧ (xs.take i).all (wth sz ta) = true) ⟨s2, rfl⟩ (fun i F _ z => SqT.of (z.1.at tb hb fun _ z => by cases z)) (fun i u F hu z => ?_) (fun F z => ?_)
  · obtain ⟨sF, al⟩ := z
    obtain ⟨d, hd', rd⟩ := hL.get hu
    refine ⟨rfl, _, rfl, ka, _, _, _, rfl, rfl, SqT.of (sF.at tb hk fun _ z => by cases z), atI_nat (j := 1) rfl, _, rfl, _, rfl, u1, ps, u, ta, sz, d, rfl, hn, hdt, r1.tk (Tk.sm tb sF), hz.sm tb sF, rd.kn (sF.kn tb), sF.2, fun F2 s3 => ⟨_, rfl, ?_⟩⟩
    have sF2 := sF.trans s3
    refine ite2 (fun e => ⟨sF2, take_allL hd' al e⟩) (fun e => ?_)
    have z := q _ sF2
    rw [ew, not_allL hd' (by simpa using e)] at z
    exact z
  · obtain ⟨sF, al⟩ := z
    rw [← hL.len, List.take_length] at al
    have z := q _ sF
    rw [ew, al] at z
    exact z
end
end Kq

namespace Kq
open PySem PySem.Spec PyProof.Rows L2 Kf Kg Kv GxR
/-- the table of checks -/
structure Chk (K : PySem.W.Frag) (w : World) (dA f1 f2 f3 f4 f5 f6 : Addr) (es : Array DictEntry) (n : Nat) : Prop where
  dict : KDict K w dA es n
  h1 : PySem.W.nsIn K dA "open" = some (some (.ref f1))
  h2 : PySem.W.nsIn K dA "num" = some (some (.ref f2))
  h3 : PySem.W.nsIn K dA "truth" = some (some (.ref f3))
  h4 : PySem.W.nsIn K dA "pair" = some (some (.ref f4))
  h5 : PySem.W.nsIn K dA "either" = some (some (.ref f5))
  h6 : PySem.W.nsIn K dA "list" = some (some (.ref f6))
section
variable {P : Program} {w : World} {K : PySem.W.Frag} {mg : Str → Option Value} {base : Heap}
abbrev nIsWorth : List Str := ["kind", "sizes", "thing", "check"]
theorem scIsWorth : FnScope nIsWorth psW (defScope tIsWorth) := ⟨rfl, rfl, rfl, by decide +kernel, rfl, by decide +kernel, by decide +kernel⟩
theorem okIsWorth1 {f dA f1 f2 f3 f4 f5 f6 : Addr} {fd fd1 fd2 fd3 fd4 fd5 fd6 : FuncData} {k n m : Nat} {es : Array DictEntry} {T : List Addr} (F : Fun K "is_worth" "is_worth" tIsWorth f fd)
    (gD : mg "CHECKS" = some (.ref dA)) (hD : Chk K w dA f1 f2 f3 f4 f5 f6 es m)
    (G1 : FnOk P w K mg base CX0 k f1 fd1 psW (spW T sOpn)) (b1 : Binds K fd1 psW []) (k1 : PySem.W.keepIn K (.ref f1) = true)
    (G2 : FnOk P w K mg base CX0 k f2 fd2 psW (spW T sNum)) (b2 : Binds K fd2 psW []) (k2 : PySem.W.keepIn K (.ref f2) = true)
    (G3 : FnOk P w K mg base CX0 k f3 fd3 psW (spW T sTru)) (b3 : Binds K fd3 psW []) (k3 : PySem.W.keepIn K (.ref f3) = true)
    (G4 : FnOk P w K mg base CX0 k f4 fd4 psW (spW T (sPair n))) (b4 : Binds K fd4 psW []) (k4 : PySem.W.keepIn K (.ref f4) = true)
    (G5 : FnOk P w K mg base CX0 k f5 fd5 psW (spW T (sEith n))) (b5 : Binds K fd5 psW []) (k5 : PySem.W.keepIn K (.ref f5) = true)
    (G6 : FnOk P w K mg base CX0 k f6 fd6 psW (spW T (sLst n))) (b6 : Binds K fd6 psW []) (k6 : PySem.W.keepIn K (.ref f6) = true) :
    FnOk P w K mg base CX0 (k + 1) f fd psW (spW T (sDp (n + 1))) := by
  refine F.ok scIsWorth (fun vs H Q E h => ?_) (fun cdv A outer s H vs Q E hr h => ?_)
  · obtain ⟨vk, p, vx, t, sz, x, rfl, _⟩ := h
    rfl
  obtain ⟨vk, p, vx, t, sz, x, rfl, hn, hdt, rk, hz, hd, tb, q⟩ := h
  have hn : t.dp ≤ n := by
    have : t.dp + 1 ≤ n + 1 := hn
    omega
  have go : ∀ {g : Addr} {gd : FuncData} {S : Kd → Prop} (G : FnOk P w K mg base CX0 k g gd psW (spW T S)) (b : Binds K gd psW []) (kg : PySem.W.keepIn K (.ref g) = true), S t → PySem.W.nsIn K dA t.word = some (some (.ref g)) →
      ∃ u, PSs (cxOf CX0 P w K mg base nIsWorth "is_worth" (defScope tIsWorth) f cdv A outer s H E).nox (defBody tIsWorth) u ∧ u { nx := fun _ H' => Q .non H', rt := Q } (start nIsWorth [vk, .ref p, vx]) H := by
    intro g gd S G b kg hS hw
    obtain ⟨ka, us, rfl, hk, _⟩ := rk.see
    refine ⟨_, pss_cons (ps_set (i := 3) scIsWorth.nd rfl (.inl rfl) (pe_ix ix_kdict (pe_glob (v := .ref dA) (by rfl) gD rfl) (pe_ix ix_tup (pv 0) pe_int (fun _ _ => rfl)) (fun _ _ => rfl)))
      (pss_one (ps_ret (ItX.pe_callV (i := 3) (G.raw b .nil) hr kg pass0 rfl (Or.inl rfl) (pa_cons (pv 0) (pa_cons (pv 1) (pa_cons (pv 2) pa_nil)))))), ?_⟩
    refine ⟨_, rfl, ka, _, _, _, rfl, rfl, SqT.of hk, atI_nat (j := 0) rfl, dA, t.word, .ref g, rfl, rfl, ⟨es, m, _, hD.dict.at_, hD.dict.lit, hw, rfl⟩, rfl, _, rfl, _, rfl, _, rfl, ?_⟩
    exact ⟨_, p, vx, t, sz, x, rfl, hS, hdt, rk, hz, hd, tb, q⟩
  cases t with
  | opn y => exact go G1 b1 k1 ⟨y, rfl⟩ hD.h1
  | num => exact go G2 b2 k2 rfl hD.h2
  | tru => exact go G3 b3 k3 rfl hD.h3
  | pair a b => exact go G4 b4 k4 ⟨a, b, rfl, hn⟩ hD.h4
  | eith a b => exact go G5 b5 k5 ⟨a, b, rfl, hn⟩ hD.h5
  | lst a => exact go G6 b6 k6 ⟨a, rfl, hn⟩ hD.h6
  | fn a b => cases hdt
/-- the whole family -/
theorem okIsWorth {f dA f1 f2 f3 f4 f5 f6 fT fN fO fR c p : Addr} {fd fd1 fd2 fd3 fd4 fd5 fd6 fdT fdN fdO fdR : FuncData} {m : Nat} {es : Array DictEntry} {T : List Addr} (F : Fun K "is_worth" "is_worth" tIsWorth f fd) (b : Binds K fd psW []) (g : mg "is_worth" = some (.ref f))
    (gD : mg "CHECKS" = some (.ref dA)) (hD : Chk K w dA f1 f2 f3 f4 f5 f6 es m)
    (F1 : Fun K "is_thing" "is_thing" tIsThing f1 fd1) (b1 : Binds K fd1 psW []) (F2 : Fun K "is_num" "is_num" tIsNum f2 fd2) (b2 : Binds K fd2 psW []) (F3 : Fun K "is_yes_or_no" "is_yes_or_no" tIsYes f3 fd3) (b3 : Binds K fd3 psW [])
    (F4 : Fun K "is_pair" "is_pair" tIsPair f4 fd4) (b4 : Binds K fd4 psW []) (F5 : Fun K "is_side" "is_side" tIsSide f5 fd5) (b5 : Binds K fd5 psW [])
    (F6 : FunC K "is_list" "is_list" tIsList f6 fd6 c) (TB : TabB base mg c p) (hp : p ∈ T) (b6 : Binds K fd6 psW []) (k6 : PySem.W.keepIn K (.ref f6) = true)
    (GT : ∀ k, FnOk P w K mg base CX0 (k + 1) fT fdT ["thing", "word", "many"] spTagged) (bT : Binds K fdT ["thing", "word", "many"] []) (gT : mg "is_tagged" = some (.ref fT)) (kT : PySem.W.keepIn K (.ref fT) = true)
    (GN : ∀ k, FnOk P w K mg base CX0 (k + 2) fN fdN ["thing"] (spYesS numD)) (bN : Binds K fdN ["thing"] []) (gN : mg "is_number" = some (.ref fN)) (kN : PySem.W.keepIn K (.ref fN) = true)
    (GO : ∀ k, FnOk P w K mg base CX0 (k + 1) fO fdO ["sizes", "name"] spThings) (bO : Binds K fdO ["sizes", "name"] []) (gO : mg "things_of" = some (.ref fO)) (kO : PySem.W.keepIn K (.ref fO) = true)
    (GR : ∀ k, FnOk P w K mg base CX0 (k + 1) fR fdR ["thing"] (spYesS Dt.isBl)) (bR : Binds K fdR ["thing"] []) (gR : mg "is_truth" = some (.ref fR)) (kR : PySem.W.keepIn K (.ref fR) = true)
    (ma : mg "all" = none) (mi : mg "isinstance" = none) (mt : mg "tuple" = none) : ∀ n, FnOk P w K mg base CX0 (5 * n + 3) f fd psW (spW T (sDp n))
  | 0 => noFn fun vs H Q E h => by
    obtain ⟨vk, p, vx, t, sz, x, _, hn, _⟩ := h
    have : t.dp + 1 ≤ 0 := hn
    omega
  | n + 1 => by
    have I := okIsWorth F b g gD hD F1 b1 F2 b2 F3 b3 F4 b4 F5 b5 F6 TB hp b6 k6 GT bT gT kT GN bN gN kN GO bO gO kO GR bR gR kR ma mi mt n
    have U : ∀ {j i : Nat} {g : Addr} {gd : FuncData} {ps : List Str} {sp : Sp}, FnOk P w K mg base CX0 j g gd ps sp → j ≤ i → FnOk P w K mg base CX0 i g gd ps sp := fun F h => ⟨F.len, fun A outer s H args us vs Q E hr => F.run A outer s H args us vs Q E (hr.mono h)⟩
    have e : 5 * (n + 1) + 3 = (5 * n + 3 + 4) + 1 := by omega
    rw [e]
    exact okIsWorth1 F gD hD (okIsThing (k := 5 * n + 4) F1 (GT _) bT gT kT (GN _) bN gN kN (GO _) bO gO kO) b1 F1.kp (okIsNum (k := 5 * n + 4) F2 (GN _) bN gN kN) b2 F2.kp (okIsYes (k := 5 * n + 4) F3 (GR _) bR gR kR) b3 F3.kp
      (okIsPair (k := 5 * n + 6) F4 (GT _) bT gT kT (U I (by omega)) b g F.kp) b4 F4.kp (okIsSide (k := 5 * n + 6) F5 (GT _) bT gT kT (U I (by omega)) b g F.kp) b5 F5.kp
      (okIsList (k := 5 * n + 3) F6 TB hp (GT _) bT gT kT I b g F.kp ma mi mt) b6 k6
end
end Kq

namespace Kq
open PySem PySem.Spec PyProof.Rows L2 Kf Kg Kv GxR
abbrev tLNumber : Stmt := tp 47
abbrev tLWorth : Stmt := tp 48
theorem take_all_no {α : Type} {f : α → Bool} {xs : List α} {i : Nat} {x : α} (hx : xs[i]? = some x) (e : f x = false) : (xs.take (i + 1)).all f = false := by
  rw [List.take_add_one, hx, List.all_append]
  simp [e]
theorem take_all_yes {α : Type} {f : α → Bool} {xs : List α} {i : Nat} {x : α} (hx : xs[i]? = some x) (e : f x = true) : (xs.take (i + 1)).all f = (xs.take i).all f := by
  rw [List.take_add_one, hx, List.all_append]
  simp [e]
theorem app_ne {α : Type} (xs : List α) (x : α) : (xs ++ [x]).isEmpty = false := by
  cases xs <;> rfl
theorem wts_mem : ∀ {xs : List Dt} {x : Dt}, x ∈ xs → x.wt + 2 ≤ Dt.wts xs
  | y :: ys, x, h => by
    simp only [Dt.wts]
    rcases List.mem_cons.mp h with rfl | h
    · omega
    · have := wts_mem h
      omega
/-! dict(sizes).get(name, 0) -/
theorem merge_val (k : Key) : ∀ (kvs acc : List (Key × V)), (kvs.map (·.1)).Nodup → valV (mergeK acc kvs) k = (valV kvs k).or (valV acc k)
  | [], acc, _ => by
    show valV acc k = _
    rw [valV_nil]
    rfl
  | kv :: r, acc, h => by
    rw [List.map_cons, List.nodup_cons] at h
    show valV (mergeK (putK acc kv.1 kv.2) r) k = _
    rw [merge_val k r _ h.2, valV_put]
    by_cases e : kv.1 = k
    · have e2 : valV r k = none := by
        cases c : valV r k with
        | none => rfl
        | some v =>
          have hs : (valV r k).isSome = true := by rw [c]; rfl
          rw [← valV_any] at hs
          obtain ⟨y, hy, ey⟩ := List.any_eq_true.mp hs
          exact absurd (List.mem_map.mpr ⟨y, hy, (of_decide_eq_true ey).trans e.symm⟩) h.1
      rw [e2, if_pos e.symm, valV_pos e]
      rfl
    · rw [if_neg (Ne.symm e), valV_neg e]
def szK (sz : List (Str × Int)) : List (Key × V) := sz.map fun kv => (.inr kv.1, .int kv.2)
theorem szK_val (n : Str) : ∀ sz : List (Str × Int), (valV (szK sz) (.inr n)).getD (.int 0) = .int (look sz n)
  | [] => rfl
  | kv :: r => by
    by_cases e : kv.1 = n
    · have e1 : valV (szK (kv :: r)) (.inr n) = some (.int kv.2) := valV_pos (p := (Sum.inr kv.1, V.int kv.2)) (congrArg Sum.inr e)
      rw [e1]
      unfold look
      rw [List.find?_cons, decide_eq_true e]
      rfl
    · have e1 : valV (szK (kv :: r)) (.inr n) = valV (szK r) (.inr n) := valV_neg (p := (Sum.inr kv.1, V.int kv.2)) (fun z => e (Sum.inr.inj z))
      have e2 : look (kv :: r) n = look r n := by
        unfold look
        rw [List.find?_cons, decide_eq_false e]
      rw [e1, e2]
      exact szK_val n r
theorem szK_nd {sz : List (Str × Int)} (h : (sz.map (·.1)).Nodup) : ((szK sz).map (·.1)).Nodup := by
  have e : (szK sz).map (·.1) = (sz.map (·.1)).map (Sum.inr : Str → Key) := by
    unfold szK
    rw [List.map_map, List.map_map]
    rfl
  rw [e]
  exact h.map (f := (Sum.inr : Str → Key)) (fun a b n z => n (Sum.inr.inj z))
theorem szK_get {sz : List (Str × Int)} (h : (sz.map (·.1)).Nodup) (n : Str) : (valV (mergeK [] (szK sz)) (.inr n)).getD (.int 0) = .int (look sz n) := by
  rw [merge_val _ _ _ (szK_nd h), valV_nil, Option.or_none]
  exact szK_val n sz
theorem szK_pairs {K : PySem.W.Frag} {H : Hp} : ∀ {ps : List Addr} {sz : List (Str × Int)}, Paired (fun q (kv : Str × Int) => H q = some (.tup [.str kv.1, .int kv.2])) ps sz → Paired (fun p (kv : Key × V) => SqT K H p [kV kv.1, kv.2]) ps (szK sz)
  | _, _, .nil => .nil
  | _, _, .cons h t => .cons (SqT.of h) (szK_pairs t)
/-! lists that are empty, texts among texts -/
theorem notInK {X : Cx} (K : PySem.W.Frag) (h : X.K = K) : OpR X (compareOp .NotIn) (rIn K true) := by
  subst h
  exact op_notIn_seq
theorem in2 (z : Str) : inV (V.str z) [V.str "left", V.str "right"] = (decide (z = "left") || decide (z = "right")) := by
  show ((("left" : Str) == z) || ((("right" : Str) == z) || false)) = _
  rw [Bool.or_false]
  have e : ∀ a : Str, (a == z) = decide (z = a) := fun a => by
    by_cases h : z = a
    · subst h
      simp
    · rw [decide_eq_false h]
      exact beq_eq_false_iff_ne.mpr (Ne.symm h)
  rw [e, e]
theorem wne {a b : Str} (h : ¬ a = b) {d : Decidable (V.str a = V.str b)} : ¬ @decide _ d = true := fun e => h (V.str.inj (@of_decide_eq_true _ d e))
theorem neI_t {a b : Int} (e : (!decide (V.int a = V.int b)) = true) : a ≠ b := fun z => by
  rw [z, decide_eq_true rfl] at e
  cases e
theorem neI_f {a b : Int} (e : ¬ (!decide (V.int a = V.int b)) = true) : a = b := by
  by_cases z : a = b
  · exact z
  · refine absurd ?_ e
    rw [decide_eq_false (fun h => z (V.int.inj h))]
    rfl
theorem neS_t {a b : Str} (e : (!decide (V.str a = V.str b)) = true) : ¬ a = b := fun z => by
  rw [z, decide_eq_true rfl] at e
  cases e
theorem neS_f {a b : Str} (e : ¬ (!decide (V.str a = V.str b)) = true) : a = b := by
  by_cases z : a = b
  · exact z
  · refine absurd ?_ e
    rw [decide_eq_false (fun h => z (V.str.inj h))]
    rfl
theorem tag_str (wd z : Str) (ys : List Dt) (m : Nat) : tagD (.tup (.str wd :: ys)) z m = (decide (ys.length = m) && decide (wd = z)) := rfl
theorem tag_no {x : Dt} {z : Str} {m : Nat} (h : ∀ z ys, x ≠ .tup (.str z :: ys)) : tagD x z m = false := by
  unfold tagD
  split
  · rename_i y ys
    cases y with
    | str w => exact absurd rfl (h w ys)
    | _ => exact Bool.and_false _
  · rfl
theorem wth_no {sz : List (Str × Int)} {t : Kd} {x : Dt} (h1 : t ≠ .num) (h2 : t ≠ .tru) (h : ∀ z ys, x ≠ .tup (.str z :: ys)) : wth sz t x = false := by
  cases t with
  | num => exact absurd rfl h1
  | tru => exact absurd rfl h2
  | fn _ _ => rfl
  | opn y => simp only [wth]; rw [tag_no h]; rfl
  | pair a b => simp only [wth]; rw [tag_no h]; rfl
  | lst a => simp only [wth]; rw [tag_no h]; rfl
  | eith a b => simp only [wth]; rw [tag_no h, tag_no h]; rfl
theorem word_num {t : Kd} (h : t.word = "num") : t = .num := by
  cases t <;> first | rfl | (exfalso; revert h; simp only [Kd.word]; decide +kernel)
theorem word_tru {t : Kd} (h : t.word = "truth") : t = .tru := by
  cases t <;> first | rfl | (exfalso; revert h; simp only [Kd.word]; decide +kernel)
theorem dd_two {N : Addr → Prop} {H : Hp} {ys : List Dt} {ws : List V} (h : DdL N H ys ws) (l : ws.length = 2) : ∃ y1 y2 w1 w2, ys = [y1, y2] ∧ ws = [w1, w2] ∧ Dd N H y1 w1 ∧ Dd N H y2 w2 := by
  rcases Kv.DdL.see h with ⟨rfl, rfl⟩ | ⟨y1, ys1, w1, ws1, rfl, rfl, h1, hL1⟩
  · cases l
  rcases Kv.DdL.see hL1 with ⟨rfl, rfl⟩ | ⟨y2, ys2, w2, ws2, rfl, rfl, h2, hL2⟩
  · simp at l
  rcases Kv.DdL.see hL2 with ⟨rfl, rfl⟩ | ⟨y3, ys3, w3, ws3, rfl, rfl, h3, hL3⟩
  · exact ⟨y1, y2, w1, w2, rfl, rfl, h1, h2⟩
  · simp at l
theorem dd_one {N : Addr → Prop} {H : Hp} {ys : List Dt} {ws : List V} (h : DdL N H ys ws) (l : ws.length = 1) : ∃ y1 w1, ys = [y1] ∧ ws = [w1] ∧ Dd N H y1 w1 := by
  rcases Kv.DdL.see h with ⟨rfl, rfl⟩ | ⟨y1, ys1, w1, ws1, rfl, rfl, h1, hL1⟩
  · cases l
  rcases Kv.DdL.see hL1 with ⟨rfl, rfl⟩ | ⟨y2, ys2, w2, ws2, rfl, rfl, h2, hL2⟩
  · exact ⟨y1, w1, rfl, rfl, h1⟩
  · simp at l
section
variable {P : Program} {w : World} {K : PySem.W.Frag} {mg : Str → Option Value} {base : Heap}
theorem scLNumber : FnScope ["_law_thing"] ["_law_thing"] (defScope tLNumber) := ⟨rfl, rfl, rfl, by decide +kernel, rfl, by decide +kernel, by decide +kernel⟩
theorem okLNumber {f : Addr} {fd : FuncData} {k : Nat} (F : Fun K "_law_is_number" "_law_is_number" tLNumber f fd) (mi : mg "isinstance" = none) (mb : mg "bool" = none) (mn : mg "int" = none) : FnOk P w K mg base CX0 (k + 1) f fd ["_law_thing"] (spYesS numD) := by
  refine F.ok scLNumber (fun vs H Q E h => ?_) (fun cdv A outer s H vs Q E hr h => ?_)
  · obtain ⟨v, x, rfl, _⟩ := h
    rfl
  obtain ⟨v, x, rfl, hd, q⟩ := h
  refine ⟨_, pss_one (ps_ret (pe_and (pe_callB (isiK K rfl) (by rfl) mi PyProof.Rows.boot_isinstance (pa_cons (pv 0) (pa_cons (pe_bltn (v := .ty "int") (by rfl) mn (by decide +kernel) rfl) pa_nil)))
    (pe_and (pe_not (pe_callB (isiK K rfl) (by rfl) mi PyProof.Rows.boot_isinstance (pa_cons (pv 0) (pa_cons (pe_bltn (v := .ty "bool") (by rfl) mb PyProof.Rows.boot_bool rfl) pa_nil))))
    (pe_one (pe_cmpR op_ge (pv 0) pe_int (nomark _)))))), ?_⟩
  have no : numD x = false → Q (.bl false) H := fun e => by
    rw [e] at q
    exact q
  refine ⟨_, rfl, _, _, _, _, x.isInt, rfl, .ty "int", hd.ty, kInt K x, _, rfl, ite2 (fun e => ?_) (fun e => no ?_)⟩
  rotate_left
  · cases x <;> first | rfl | exact absurd rfl e
  refine ⟨_, rfl, _, _, _, _, x.isBl, rfl, .ty "bool", hd.ty, kBl K x, _, rfl, _, rfl, ite2 (fun e2 => ?_) (fun e2 => no ?_)⟩
  rotate_left
  · cases x <;> first | rfl | exact absurd rfl e2
  obtain ⟨i, rfl⟩ : ∃ i, x = .int i := by
    cases x with
    | int i => exact ⟨i, rfl⟩
    | bl b => cases e2
    | _ => cases e
  cases hd
  exact ⟨_, rfl, _, _, rfl, rfl, q⟩
abbrev psLW : List Str := ["_law_kind", "_law_sizes_here", "_law_thing"]
abbrev nLW : List Str := ["_law_kind", "_law_sizes_here", "_law_thing", "_law_item"]
theorem scLWorth : FnScope nLW psLW (defScope tLWorth) := ⟨rfl, rfl, rfl, by decide +kernel, rfl, by decide +kernel, by decide +kernel⟩
def spLW (n : Nat) : Sp := fun vs H Q _ => ∃ (vk : V) (p : Addr) (vx : V) (t : Kd) (sz : List (Str × Int)) (x : Dt), vs = [vk, .ref p, vx] ∧ t.dp + 1 ≤ n ∧ t.data = true ∧ Rp H t vk ∧ Sz H p sz ∧ (sz.map (·.1)).Nodup ∧ Dd Any H x vx ∧ x.wt ≤ sizeLine ∧ ∀ G : Hp, Same H G → Q (.bl (wth sz t x)) G
theorem okLWorth1 {f fN : Addr} {fd fdN : FuncData} {n : Nat} (F : Fun K "_law_is_worth" "_law_is_worth" tLWorth f fd) (bF : Binds K fd psLW []) (gF : mg "_law_is_worth" = some (.ref f))
    (GN : FnOk P w K mg base CX0 (n + 2) fN fdN ["_law_thing"] (spYesS numD)) (bN : Binds K fdN ["_law_thing"] []) (gN : mg "_law_is_number" = some (.ref fN)) (kN : PySem.W.keepIn K (.ref fN) = true)
    (mi : mg "isinstance" = none) (mt : mg "tuple" = none) (ms : mg "str" = none) (ml : mg "len" = none) (mn : mg "int" = none) (md : mg "dict" = none)
    (GI : FnOk P w K mg base CX0 (n + 2) f fd psLW (spLW n)) : FnOk P w K mg base CX0 (n + 3) f fd psLW (spLW (n + 1)) := by
  refine F.ok scLWorth (fun vs H Q E h => ?_) (fun cdv A outer s H vs Q E hr h => ?_)
  · obtain ⟨vk, p, vx, t, sz, x, rfl, _⟩ := h
    rfl
  obtain ⟨vk, p, vx, t, sz, x, rfl, hn, hdt, rk, hz, hnd, hd, hw, q⟩ := h
  obtain ⟨ka, us, rfl, hk, hks⟩ := rk.see
  have hu1 : (cxOf CX0 P w K mg base nLW "_law_is_worth" (defScope tLWorth) f cdv A outer s H E).nox.A.units + 1 < cLine := hu_of hr
  refine ⟨_, pss_cons (ps_if (pt_cmpR (op_eqTT hr.units) (pv 0) (pe_tup (pa_cons pe_str pa_nil)) (nomark _)) (pss_one (ps_ret (pe_call GN hr (by rfl) gN kN bN .nil pass0 (pa_cons (pv 2) pa_nil)))) pss_nil)
    (pss_cons (ps_if (pt_cmpR (op_eqTT hr.units) (pv 0) (pe_tup (pa_cons pe_str pa_nil)) (nomark _)) (pss_one (ps_ret (pe_or (pe_cmpR op_isU (pv 2) pe_bl (nomark _)) (pe_one (pe_cmpR op_isU (pv 2) pe_bl (nomark _)))))) pss_nil)
    (pss_cons (ps_if (PW.pt (pw_or (pt_not (pt_val (pe_callB (isiK K rfl) (by rfl) mi PyProof.Rows.boot_isinstance (pa_cons (pv 2) (pa_cons (pe_bltn (v := .ty "tuple") (by rfl) mt PyProof.Rows.boot_tuple rfl) pa_nil)))))
      (pw_or (pt_cmpR (op_eqTT hr.units) (pv 2) (pe_tup pa_nil) (nomark _))
      (pw_or1 (pt_not (pt_val (pe_callB (isiK K rfl) (by rfl) mi PyProof.Rows.boot_isinstance (pa_cons (pe_ix ix_tup (pv 2) pe_int (fun _ _ => rfl)) (pa_cons (pe_bltn (v := .ty "str") (by rfl) ms PyProof.Rows.boot_str rfl) pa_nil)))))))))
      (pss_one (ps_ret pe_bl)) pss_nil)
    (pss_cons (ps_if (pt_cmpR op_eq (pe_ix ix_tup (pv 0) pe_int (fun _ _ => rfl)) pe_str (nomark _))
      (pss_cons (ps_if (PW.pt (pw_or (pt_cmpR op_ne (pe_callB call_len_seq (by rfl) ml PySem.boot_len (pa_cons (pv 2) pa_nil)) pe_int (nomark _))
        (pw_or (pt_cmpR op_ne (pe_ix ix_tup (pv 2) pe_int (fun _ _ => rfl)) pe_str (nomark _))
        (pw_or (pt_not (pt_val (pe_callB (isiK K rfl) (by rfl) mi PyProof.Rows.boot_isinstance (pa_cons (pe_ix ix_tup (pv 2) pe_int (fun _ _ => rfl)) (pa_cons (pe_bltn (v := .ty "str") (by rfl) ms PyProof.Rows.boot_str rfl) pa_nil)))))
        (pw_or1 (pt_cmpR op_ne (pe_ix ix_tup (pv 2) pe_int (fun _ _ => rfl)) (pe_ix ix_tup (pv 0) pe_int (fun _ _ => rfl)) (nomark _)))))))
        (pss_one (ps_ret pe_bl)) pss_nil)
      (pss_one (ps_ret (pe_and (pe_call GN hr (by rfl) gN kN bN .nil pass0 (pa_cons (pe_ix ix_tup (pv 2) pe_int (fun _ _ => rfl)) pa_nil))
        (pe_one (pe_cmpR op_lt (pe_ix ix_tup (pv 2) pe_int (fun _ _ => rfl)) (pe_dget2 hu1 (pe_callTy (Kt.call_dictF rfl) (by rfl) md PyProof.Rows.boot_dict (pa_cons (pv 1) pa_nil)) (pe_ix ix_tup (pv 0) pe_int (fun _ _ => rfl)) pe_int ⟨by rfl, by rfl, by rfl, by rfl⟩) (nomark _))))))) pss_nil)
    (pss_cons (ps_if (pt_cmpR op_eq (pe_ix ix_tup (pv 0) pe_int (fun _ _ => rfl)) pe_str (nomark _))
      (pss_cons (ps_if (PW.pt (pw_or (pt_cmpR op_ne (pe_callB call_len_seq (by rfl) ml PySem.boot_len (pa_cons (pv 2) pa_nil)) pe_int (nomark _))
        (pw_or (pt_cmpR op_ne (pe_ix ix_tup (pv 2) pe_int (fun _ _ => rfl)) pe_str (nomark _))
        (pw_or1 (pt_not (pt_val (pe_callB (isiK K rfl) (by rfl) mi PyProof.Rows.boot_isinstance (pa_cons (pe_ix ix_tup (pv 2) pe_int (fun _ _ => rfl)) (pa_cons (pe_bltn (v := .ty "tuple") (by rfl) mt PyProof.Rows.boot_tuple rfl) pa_nil)))))))))
        (pss_one (ps_ret pe_bl)) pss_nil)
      (pss_one (ps_ret (pe_cmpR (op_eqL0 hr.units) (pe_lc (own := [("_law_item", 3)]) (g := gName 3) (by rfl) scLWorth.nd (pi_tup (pe_ix ix_tup (pv 2) pe_int (fun _ _ => rfl))) (blkOk_by (own := [("_law_item", 3)]) (N := nLW) (sc := defScope tLWorth) (by decide +kernel))
        (fun _ _ _ _ _ => pg_name (i := 3) scLWorth.nd rfl (.inl rfl)) (fun _ _ _ _ _ => pts_one (pt_not (pt_val (pe_call GI hr (by rfl) gF F.kp bF .nil pass0 (pa_cons (pe_ix (ixTK K rfl) (pv 0) pe_int (fun _ _ => rfl)) (pa_cons (pv 1) (pa_cons (pv 3) pa_nil))))))) (fun _ _ _ _ _ => pv 3)) (pe_lst pa_nil) (nomark _))))) pss_nil)
    (pss_cons (ps_if (pt_cmpR op_eq (pe_ix ix_tup (pv 0) pe_int (fun _ _ => rfl)) pe_str (nomark _))
      (pss_cons (ps_if (PW.pt (pw_or (pt_cmpR op_ne (pe_callB call_len_seq (by rfl) ml PySem.boot_len (pa_cons (pv 2) pa_nil)) pe_int (nomark _))
        (pw_or1 (pt_cmpR op_ne (pe_ix ix_tup (pv 2) pe_int (fun _ _ => rfl)) pe_str (nomark _)))))
        (pss_one (ps_ret pe_bl)) pss_nil)
      (pss_one (ps_ret (pe_and (pe_call GI hr (by rfl) gF F.kp bF .nil pass0 (pa_cons (pe_ix ix_tup (pv 0) pe_int (fun _ _ => rfl)) (pa_cons (pv 1) (pa_cons (pe_ix ix_tup (pv 2) pe_int (fun _ _ => rfl)) pa_nil))))
        (pe_one (pe_call GI hr (by rfl) gF F.kp bF .nil pass0 (pa_cons (pe_ix ix_tup (pv 0) pe_int (fun _ _ => rfl)) (pa_cons (pv 1) (pa_cons (pe_ix ix_tup (pv 2) pe_int (fun _ _ => rfl)) pa_nil))))))))) pss_nil)
    (pss_cons (ps_if (PW.pt (pw_or (pt_cmpR op_ne (pe_callB call_len_seq (by rfl) ml PySem.boot_len (pa_cons (pv 2) pa_nil)) pe_int (nomark _))
        (pw_or1 (pt_cmpR (notInK K rfl) (pe_ix ix_tup (pv 2) pe_int (fun _ _ => rfl)) (pe_tup (pa_cons pe_str (pa_cons pe_str pa_nil))) rfl))))
        (pss_one (ps_ret pe_bl)) pss_nil)
    (pss_one (ps_ret (pe_call GI hr (by rfl) gF F.kp bF .nil pass0 (pa_cons (pe_ix ix_tup (pv 0) (pe_op op_add pe_int (pe_callTy call_int1 (by rfl) mn (by decide +kernel) (pa_cons (pe_cmpR op_eq (pe_ix ix_tup (pv 2) pe_int (fun _ _ => rfl)) pe_str (nomark _)) pa_nil))) (fun _ _ => rfl)) (pa_cons (pv 1) (pa_cons (pe_ix ix_tup (pv 2) pe_int (fun _ _ => rfl)) pa_nil)))))))))))), ?_⟩
  have fin : ∀ (b : Bool) (G : Hp), Same H G → wth sz t x = b → Q (.bl b) G := fun b G sG e => by
    have z := q _ sG
    rw [e] at z
    exact z
  have bt : ∀ (z0 z : Str) (ws : List V), BothTxt (V.str z0 :: ws) [V.str z] := fun z0 z ws i u v h1 h2 => by
    cases i with
    | zero => exact ⟨z0, z, (Option.some.inj h1).symm, (Option.some.inj h2).symm⟩
    | succ i => cases h2
  refine ⟨_, rfl, (by show 1 ≤ sizeLine; decide), fun p1 np1 => ⟨ka, p1, _, _, rfl, rfl, SqT.of (newS np1 _ _ hk), SqT.of upd_same, bt _ _ _, _, rfl, ite2 (fun e => ?_) (fun n1 => ?_)⟩⟩
  · have e1 : t.word = "num" := V.str.inj (List.cons.inj (of_decide_eq_true e)).1
    have e2 := word_num e1
    subst e2
    have s1 := newS (o := .tup [.str "num"]) np1
    exact ⟨_, rfl, vx, x, rfl, hd.same s1, fin _ _ s1 rfl⟩
  have n1 : t ≠ .num := fun z => by
    subst z
    refine n1 (decide_eq_true ?_)
    rcases hks with ⟨_, h⟩ | ⟨y, h, _⟩
    · cases us with
      | nil => rfl
      | cons a b => exact h.elim
    · cases h
  have s1 := newS (o := .tup [.str "num"]) np1
  generalize upd H p1 (.tup [.str "num"]) = H1 at s1
  have hk1 := s1 _ _ hk
  refine ⟨_, rfl, (by show 1 ≤ sizeLine; decide), fun p2 np2 => ⟨ka, p2, _, _, rfl, rfl, SqT.of (newS np2 _ _ hk1), SqT.of upd_same, bt _ _ _, _, rfl, ite2 (fun e => ?_) (fun n2 => ?_)⟩⟩
  · have e1 : t.word = "truth" := V.str.inj (List.cons.inj (of_decide_eq_true e)).1
    have e2 := word_tru e1
    subst e2
    have s2 := s1.trans (newS (o := .tup [.str "truth"]) np2)
    refine ⟨_, rfl, x, true, hd.same s2, rfl, _, rfl, ite2 (fun e => fin _ _ s2 ?_) (fun e => ⟨_, rfl, x, false, hd.same s2, rfl, fin _ _ s2 ?_⟩)⟩
    · cases x <;> first | rfl | cases e
    · cases x with
      | bl b =>
        cases b with
        | true => exact absurd rfl e
        | false => rfl
      | _ => rfl
  have n2 : t ≠ .tru := fun z => by
    subst z
    refine n2 (decide_eq_true ?_)
    rcases hks with ⟨_, h⟩ | ⟨y, h, _⟩
    · cases us with
      | nil => rfl
      | cons a b => exact h.elim
    · cases h
  have s2 := s1.trans (newS (o := .tup [.str "truth"]) np2)
  generalize upd H1 p2 (.tup [.str "truth"]) = H2 at s2
  have hd2 := hd.same s2
  refine ⟨_, rfl, _, _, _, _, x.isTup, rfl, .ty "tuple", hd2.ty, kTup K x, _, rfl, ite2 (fun e => iteT (fin _ _ s2 (wth_no n1 n2 fun z ys ex => ?_))) (fun e => ?_)⟩
  · subst ex
    cases e
  obtain ⟨xs, rfl⟩ : ∃ xs, x = .tup xs := by
    cases x with
    | tup xs => exact ⟨xs, rfl⟩
    | _ => exact absurd rfl e
  obtain ⟨a, ws, rfl, ha, hL⟩ := Kv.Dd.tupS hd2
  refine ⟨_, rfl, Nat.zero_le _, fun p3 np3 => ?_⟩
  have s3 := newS (o := .tup []) np3
  refine ⟨a, p3, ws, [], rfl, rfl, SqT.of (s3 _ _ ha), SqT.of upd_same, (fun i u v _ z => by cases z), _, rfl, ite2 (fun e => iteT (fin _ _ (s2.trans s3) (wth_no n1 n2 fun z ys ex => ?_))) (fun e => ?_)⟩
  · have ew : ws = [] := of_decide_eq_true e
    subst ew
    cases hL
    cases ex
  have s3 := s2.trans s3
  have ha := newS (o := .tup []) np3 _ _ ha
  have hL := hL.same (newS (o := .tup []) np3)
  generalize upd H2 p3 (.tup []) = H3 at s3 ha hL
  rcases Kv.DdL.see hL with ⟨rfl, rfl⟩ | ⟨y, ys, u0, ws, rfl, rfl, hy, hys⟩
  · exact absurd (decide_eq_true rfl) e
  have hix : atI (u0 :: ws) 0 = some u0 := atI_nat (j := 0) rfl
  refine ⟨_, rfl, a, _, _, _, rfl, rfl, SqT.of ha, hix, _, _, _, _, y.isStr, rfl, .ty "str", hy.ty, kStr K y, _, rfl, ite2 (fun e => fin _ _ s3 (wth_no n1 n2 fun z ys ex => ?_)) (fun e => ?_)⟩
  · obtain rfl : y = .str z := (List.cons.inj (Dt.tup.inj ex)).1
    cases e
  obtain ⟨wd, rfl⟩ : ∃ z, y = .str z := by
    cases y with
    | str z => exact ⟨z, rfl⟩
    | _ => exact absurd rfl e
  cases hy
  have ly := hys.len
  have hk3 := s3 _ _ hk
  have rk3 := rk.tk (Tk.of s3)
  have hz3 := hz.same s3
  have hsz := Dt.szs_wts ys
  have hlz := len_szs ys
  have hwt : (Dt.tup (.str wd :: ys)).wt = (Dt.str wd).wt + 2 + Dt.wts ys + 3 := by simp only [Dt.wt, Dt.wts]
  refine ⟨_, rfl, ka, _, _, _, rfl, rfl, SqT.of hk3, atI_nat (j := 0) rfl, rfl, _, rfl, ?_⟩
  cases t with
  | num => exact absurd rfl n1
  | tru => exact absurd rfl n2
  | fn _ _ => cases hdt
  | opn y =>
    refine ite2 (fun _ => ?_) (fun e => absurd (decide_eq_true rfl) e)
    obtain ⟨ka', ek, hk4⟩ := rk3
    obtain rfl : ka = ka' := V.ref.inj ek
    refine ⟨_, rfl, a, _, rfl, .inr (SqT.of ha), rfl, _, rfl, ite2 (fun e => iteT (fin _ _ s3 ?_)) (fun e => ?_)⟩
    · have := neI_t e
      rw [List.length_cons] at this
      simp only [wth]
      rw [tag_str, decide_eq_false (by omega)]
      rfl
    have l3 := neI_f e
    rw [List.length_cons] at l3
    refine ⟨_, rfl, a, _, _, _, rfl, rfl, SqT.of ha, hix, rfl, _, rfl, ite2 (fun e => iteT (fin _ _ s3 ?_)) (fun e => ?_)⟩
    · simp only [wth]
      rw [tag_str, decide_eq_false (neS_t e), Bool.and_false]
      rfl
    obtain rfl := neS_f e
    obtain ⟨y1, y2, w1, w2, rfl, rfl, h1, h2⟩ := dd_two hys (by omega)
    refine ⟨_, rfl, a, _, _, _, rfl, rfl, SqT.of ha, atI_nat (j := 1) rfl, _, _, _, _, y1.isStr, rfl, .ty "str", h1.ty, kStr K y1, _, rfl, ite2 (fun e => iteT (fin _ _ s3 ?_)) (fun e => ?_)⟩
    · have : y1.isS y = false := by cases y1 <;> first | rfl | cases e
      simp only [wth]
      show (_ && (y1.isS y && _)) = false
      rw [this, Bool.false_and, Bool.and_false]
    obtain ⟨z1, rfl⟩ : ∃ z, y1 = .str z := by
      cases y1 with
      | str z => exact ⟨z, rfl⟩
      | _ => exact absurd rfl e
    cases h1
    refine ⟨_, rfl, a, _, _, _, rfl, rfl, SqT.of ha, atI_nat (j := 1) rfl, _, rfl, ka, _, _, _, rfl, rfl, SqT.of hk4, atI_nat (j := 1) rfl, rfl, _, rfl, ite2 (fun e => fin _ _ s3 ?_) (fun e => ?_)⟩
    · simp only [wth]
      show (_ && (decide (z1 = y) && _)) = false
      rw [decide_eq_false (neS_t e), Bool.false_and, Bool.and_false]
    obtain rfl := neS_f e
    have ew : wth sz (.opn z1) (.tup [.str "thing", .str z1, y2]) = numB (look sz z1) y2 := by
      simp only [wth]
      show ((decide ([Dt.str z1, y2].length = 2) && decide (("thing" : Str) = "thing")) && (decide (z1 = z1) && _)) = _
      rw [decide_eq_true rfl, decide_eq_true rfl]
      rfl
    refine ⟨_, rfl, a, _, _, _, rfl, rfl, SqT.of ha, atI_nat (j := 2) rfl, w2, y2, rfl, h2, _, rfl, ite2 (fun e9 => ?_) (fun e => fin _ _ s3 ?_)⟩
    · obtain ⟨i, rfl⟩ : ∃ i, y2 = .int i := by
        cases y2 with
        | int i => exact ⟨i, rfl⟩
        | _ => cases e9
      cases h2
      obtain ⟨o, ps, hp, od, oc, pr⟩ := hz3
      refine ⟨_, rfl, a, _, _, _, rfl, rfl, SqT.of ha, atI_nat (j := 2) rfl, _, rfl, p, o, ps, szK sz, rfl, hp, od, oc, szK_pairs pr, fun dA ndA => ?_⟩
      have s4 := newS (o := .dK (mergeK [] (szK sz))) ndA
      refine ⟨dA, rfl, .inl ⟨_, .inl upd_same⟩, _, rfl, ka, _, _, _, rfl, rfl, SqT.of (s4 _ _ hk4), atI_nat (j := 1) rfl, _, DGet.k (k := .inr z1) upd_same, i, look sz z1, rfl, szK_get hnd z1, fin _ _ (s3.trans s4) ?_⟩
      rw [ew]
      show (decide (0 ≤ i) && _) = _
      rw [show decide (0 ≤ i) = true from e9, Bool.true_and]
    · rw [ew]
      cases y2 with
      | int i =>
        show (decide (0 ≤ i) && _) = _
        cases hh : decide (0 ≤ i) with
        | true => exact absurd hh e
        | false => rfl
      | _ => rfl
  | lst ta =>
    refine ite2 (fun e => absurd e (wne (by simp only [Kd.word]; decide +kernel))) (fun _ => ?_)
    refine ⟨_, rfl, ka, _, _, _, rfl, rfl, SqT.of hk3, atI_nat (j := 0) rfl, rfl, _, rfl, ite2 (fun _ => ?_) (fun e => absurd (decide_eq_true rfl) e)⟩
    obtain ⟨ka', kx, ek, hk4, rka⟩ := rk3
    obtain rfl : ka = ka' := V.ref.inj ek
    refine ⟨_, rfl, a, _, rfl, .inr (SqT.of ha), rfl, _, rfl, ite2 (fun e => iteT (fin _ _ s3 ?_)) (fun e => ?_)⟩
    · have := neI_t e
      rw [List.length_cons] at this
      simp only [wth]
      rw [tag_str, decide_eq_false (by omega)]
      rfl
    have l3 := neI_f e
    rw [List.length_cons] at l3
    refine ⟨_, rfl, a, _, _, _, rfl, rfl, SqT.of ha, hix, rfl, _, rfl, ite2 (fun e => iteT (fin _ _ s3 ?_)) (fun e => ?_)⟩
    · simp only [wth]
      rw [tag_str, decide_eq_false (neS_t e), Bool.and_false]
      rfl
    obtain rfl := neS_f e
    obtain ⟨y1, w1, rfl, rfl, h1⟩ := dd_one hys (by omega)
    have ew : wth sz (.lst ta) (.tup [.str "list", y1]) = (y1.isTup && (its y1).all (wth sz ta)) := by
      simp only [wth]
      rw [tag_str]
      rfl
    refine ⟨_, rfl, a, _, _, _, rfl, rfl, SqT.of ha, atI_nat (j := 1) rfl, _, _, _, _, y1.isTup, rfl, .ty "tuple", h1.ty, kTup K y1, _, rfl, ite2 (fun e => fin _ _ s3 ?_) (fun e => ?_)⟩
    · rw [ew, show y1.isTup = false by simpa using e]
      rfl
    obtain ⟨xs, rfl⟩ : ∃ xs, y1 = .tup xs := by
      cases y1 with
      | tup xs => exact ⟨xs, rfl⟩
      | _ => exact absurd rfl e
    obtain ⟨b, us, rfl, hb, hLx⟩ := Kv.Dd.tupS h1
    have ew : wth sz (.lst ta) (.tup [.str "list", .tup xs]) = xs.all (wth sz ta) := ew
    have hwx : Dt.wts [Dt.tup xs] = (Dt.tup xs).wt + 2 := by simp only [Dt.wts, Nat.add_zero]
    have hwx2 : (Dt.tup xs).wt = Dt.wts xs + 3 := by simp only [Dt.wt]
    have l1 := len_szs xs
    have l2 := Dt.szs_wts xs
    have hlx := hLx.len
    have hn2 : ta.dp + 1 + 1 ≤ n + 1 := hn
    refine ⟨_, rfl, a, _, _, _, rfl, rfl, SqT.of ha, atI_nat (j := 1) rfl, b, rfl, ⟨_, SqT.of hb⟩, fun D nD => ?_⟩
    have hbD : b ≠ D := ne_of_none hb nD
    have hD : H D = none := s3.free nD
    refine lc_tup (xs := us) (fun i F => Same H3 F ∧ ∃ zs, F D = some (.lst zs) ∧ zs.length ≤ i ∧ zs.isEmpty = (xs.take i).all (wth sz ta)) ?_ (fun i F _ z => SqT.of (z.1 _ _ hb)) (fun i u F hu z => ?_) (fun F z => ?_)
    · exact ⟨newS nD, [], upd_same, Nat.zero_le _, rfl⟩
    · obtain ⟨sF, zs, gD, lz, al⟩ := z
      obtain ⟨d, hd', rd⟩ := hLx.get hu
      have md := wts_mem (List.mem_of_getElem? hd')
      have li := (List.getElem?_eq_some_iff.mp hu).1
      refine ⟨rfl, _, rfl, ka, _, _, _, rfl, rfl, SqT.of (sF _ _ hk4), atI_nat (j := 1) rfl, _, rfl, _, rfl, kx, p, u, ta, sz, d, rfl, by omega, hdt, rka.tk (Tk.of sF), hz3.same sF, hnd, rd.same sF, by omega, fun F2 sF2 => ⟨_, rfl, ite2 (fun e => ?_) (fun e => ?_)⟩⟩
      · refine ⟨_, rfl, zs, sF2 _ _ gD, by omega, smk (sF.trans sF2) nD, _, upd_same, ?_, ?_⟩
        · rw [List.length_append, List.length_singleton]
          omega
        · rw [take_all_no hd' (by simpa using e), app_ne]
      · exact ⟨sF.trans sF2, zs, sF2 _ _ gD, by omega, by rw [al, take_all_yes hd' (by simpa using e)]⟩
    · obtain ⟨sF, zs, gD, lz, al⟩ := z
      rw [← hlx, List.take_length] at al
      refine ⟨Nat.zero_le _, fun e ne => ⟨D, e, zs, rfl, rfl, SqL.of (newS ne _ _ gD), SqL.of upd_same, fin _ _ ((s3.trans sF).trans (newS (o := .lst []) ne)) ?_⟩⟩
      rw [ew, al]
  | pair ta tb =>
    refine ite2 (fun e => absurd e (wne (by simp only [Kd.word]; decide +kernel))) (fun _ => ?_)
    refine ⟨_, rfl, ka, _, _, _, rfl, rfl, SqT.of hk3, atI_nat (j := 0) rfl, rfl, _, rfl, ite2 (fun e => absurd e (wne (by simp only [Kd.word]; decide +kernel))) (fun _ => ?_)⟩
    refine ⟨_, rfl, ka, _, _, _, rfl, rfl, SqT.of hk3, atI_nat (j := 0) rfl, rfl, _, rfl, ite2 (fun _ => ?_) (fun e => absurd (decide_eq_true rfl) e)⟩
    obtain ⟨ka', kx, ky, ek, hk4, rka, rkb⟩ := rk3
    obtain rfl : ka = ka' := V.ref.inj ek
    obtain ⟨d1, d2⟩ := Bool.and_eq_true_iff.mp hdt
    have hn2 : max ta.dp tb.dp + 1 + 1 ≤ n + 1 := hn
    refine ⟨_, rfl, a, _, rfl, .inr (SqT.of ha), rfl, _, rfl, ite2 (fun e => iteT (fin _ _ s3 ?_)) (fun e => ?_)⟩
    · have := neI_t e
      rw [List.length_cons] at this
      simp only [wth]
      rw [tag_str, decide_eq_false (by omega)]
      rfl
    have l3 := neI_f e
    rw [List.length_cons] at l3
    refine ⟨_, rfl, a, _, _, _, rfl, rfl, SqT.of ha, hix, rfl, _, rfl, ite2 (fun e => fin _ _ s3 ?_) (fun e => ?_)⟩
    · simp only [wth]
      rw [tag_str, decide_eq_false (neS_t e), Bool.and_false]
      rfl
    obtain rfl := neS_f e
    obtain ⟨y1, y2, w1, w2, rfl, rfl, h1, h2⟩ := dd_two hys (by omega)
    have hw2 : Dt.wts [y1, y2] = y1.wt + 2 + (y2.wt + 2) := by simp only [Dt.wts, Nat.add_zero]
    have ew : wth sz (.pair ta tb) (.tup [.str "pair", y1, y2]) = (wth sz ta y1 && wth sz tb y2) := by
      simp only [wth]
      rw [tag_str]
      rfl
    refine ⟨_, rfl, ka, _, _, _, rfl, rfl, SqT.of hk4, atI_nat (j := 1) rfl, _, rfl, _, rfl, a, _, _, _, rfl, rfl, SqT.of ha, atI_nat (j := 1) rfl, kx, p, w1, ta, sz, y1, rfl, by omega, d1, rka, hz3, hnd, h1, by omega, fun G sG => ⟨_, rfl, ite2 (fun e => ?_) (fun e => fin _ _ (s3.trans sG) ?_)⟩⟩
    · refine ⟨_, rfl, ka, _, _, _, rfl, rfl, SqT.of (sG _ _ hk4), atI_nat (j := 2) rfl, _, rfl, _, rfl, a, _, _, _, rfl, rfl, SqT.of (sG _ _ ha), atI_nat (j := 2) rfl, ky, p, w2, tb, sz, y2, rfl, by omega, d2, rkb.tk (Tk.of sG), hz3.same sG, hnd, h2.same sG, by omega, fun G2 s2' => fin _ _ ((s3.trans sG).trans s2') ?_⟩
      rw [ew, e, Bool.true_and]
    · rw [ew, show wth sz ta y1 = false by simpa using e]
      rfl
  | eith ta tb =>
    refine ite2 (fun e => absurd e (wne (by simp only [Kd.word]; decide +kernel))) (fun _ => ?_)
    refine ⟨_, rfl, ka, _, _, _, rfl, rfl, SqT.of hk3, atI_nat (j := 0) rfl, rfl, _, rfl, ite2 (fun e => absurd e (wne (by simp only [Kd.word]; decide +kernel))) (fun _ => ?_)⟩
    refine ⟨_, rfl, ka, _, _, _, rfl, rfl, SqT.of hk3, atI_nat (j := 0) rfl, rfl, _, rfl, ite2 (fun e => absurd e (wne (by simp only [Kd.word]; decide +kernel))) (fun _ => ?_)⟩
    obtain ⟨ka', kx, ky, ek, hk4, rka, rkb⟩ := rk3
    obtain rfl : ka = ka' := V.ref.inj ek
    obtain ⟨d1, d2⟩ := Bool.and_eq_true_iff.mp hdt
    have hn2 : max ta.dp tb.dp + 1 + 1 ≤ n + 1 := hn
    refine ⟨_, rfl, a, _, rfl, .inr (SqT.of ha), rfl, _, rfl, ite2 (fun e => iteT (fin _ _ s3 ?_)) (fun e => ?_)⟩
    · have := neI_t e
      rw [List.length_cons] at this
      simp only [wth]
      rw [tag_str, tag_str, decide_eq_false (by omega)]
      rfl
    have l3 := neI_f e
    rw [List.length_cons] at l3
    obtain ⟨y1, w1, rfl, rfl, h1⟩ := dd_one hys (by omega)
    have hw2 : Dt.wts [y1] = y1.wt + 2 := by simp only [Dt.wts, Nat.add_zero]
    have ew : wth sz (.eith ta tb) (.tup [.str wd, y1]) = if wd = "left" then wth sz ta y1 else decide (wd = "right") && wth sz tb y1 := by
      simp only [wth]
      rw [tag_str, tag_str]
      by_cases c : wd = "left"
      · rw [if_pos c, decide_eq_true c]
        rfl
      · rw [if_neg c, decide_eq_false c]
        rfl
    refine ⟨_, rfl, a, _, _, _, rfl, rfl, SqT.of ha, hix, (by show 2 ≤ sizeLine; decide), fun p4 np4 => ⟨p4, _, rfl, .inr (SqT.of upd_same), rfl, rfl, _, rfl, ?_⟩⟩
    have s4 := newS (o := .tup [V.str "left", V.str "right"]) np4
    have ha4 := s4 _ _ ha
    have hk5 := s4 _ _ hk4
    have hz4 := hz3.same s4
    have h14 := h1.same s4
    have rka4 := rka.tk (Tk.of s4)
    have rkb4 := rkb.tk (Tk.of s4)
    have s34 := s3.trans s4
    generalize upd H3 p4 (.tup [V.str "left", V.str "right"]) = H4 at ha4 hk5 hz4 h14 rka4 rkb4 s34
    show if (!inV (V.str wd) [V.str "left", V.str "right"]) = true then _ else _
    rw [in2]
    refine ite2 (fun e => fin _ _ s34 ?_) (fun e => ?_)
    · have e2 : decide (wd = "left") = false ∧ decide (wd = "right") = false := by simpa using e
      rw [ew, if_neg (of_decide_eq_false e2.1), e2.2]
      rfl
    refine ⟨_, rfl, _, rfl, a, _, _, _, rfl, rfl, SqT.of ha4, hix, rfl, .inr ⟨_, rfl, _, _, rfl, rfl, ?_⟩⟩
    by_cases c : wd = "left"
    · subst c
      refine ⟨ka, _, _, kx, rfl, rfl, SqT.of hk5, rfl, _, rfl, _, rfl, a, _, _, _, rfl, rfl, SqT.of ha4, atI_nat (j := 1) rfl, kx, p, w1, ta, sz, y1, rfl, by omega, d1, rka4, hz4, hnd, h14, by omega, fun G sG => fin _ _ (s34.trans sG) ?_⟩
      rw [ew, if_pos rfl]
    · have c2 : wd = "right" := by
        by_cases c2 : wd = "right"
        · exact c2
        · exact absurd (by simp [c, c2]) e
      subst c2
      refine ⟨ka, _, _, ky, rfl, rfl, SqT.of hk5, rfl, _, rfl, _, rfl, a, _, _, _, rfl, rfl, SqT.of ha4, atI_nat (j := 1) rfl, ky, p, w1, tb, sz, y1, rfl, by omega, d2, rkb4, hz4, hnd, h14, by omega, fun G sG => fin _ _ (s34.trans sG) ?_⟩
      rw [ew, if_neg c, decide_eq_true rfl, Bool.true_and]
theorem okLWorth {f fN : Addr} {fd fdN : FuncData} (F : Fun K "_law_is_worth" "_law_is_worth" tLWorth f fd) (bF : Binds K fd psLW []) (gF : mg "_law_is_worth" = some (.ref f))
    (FN : Fun K "_law_is_number" "_law_is_number" tLNumber fN fdN) (bN : Binds K fdN ["_law_thing"] []) (gN : mg "_law_is_number" = some (.ref fN))
    (mi : mg "isinstance" = none) (mb : mg "bool" = none) (mt : mg "tuple" = none) (ms : mg "str" = none) (ml : mg "len" = none) (mn : mg "int" = none) (md : mg "dict" = none) : ∀ n, FnOk P w K mg base CX0 (n + 2) f fd psLW (spLW n)
  | 0 => noFn fun vs H Q E h => by
    obtain ⟨vk, p, vx, t, sz, x, _, hn, _⟩ := h
    omega
  | n + 1 => okLWorth1 F bF gF (okLNumber FN mi mb mn) bN gN FN.kp mi mt ms ml mn md (okLWorth F bF gF FN bN gN mi mb mt ms ml mn md n)
end
end Kq

namespace Kq
open PySem PySem.Spec PyProof.Rows L2 Kf Kg Kv GxR
abbrev tSizes : Stmt := tp 45
abbrev psSizes : List Str := ["_law_deck_here", "_law_opens", "_law_most"]
abbrev nSizes : List Str := ["_law_deck_here", "_law_opens", "_law_most", "_law_found", "_law_name", "_law_many"]
/-- sizes of names, each within bounds -/
structure SzB (sz : List (Str × Int)) : Prop where
  nd : (sz.map (·.1)).Nodup
  lo : ∀ kv ∈ sz, 0 ≤ kv.2
  hi : ∀ kv ∈ sz, kv.2 < 1125899906842624
theorem look_in (sz : List (Str × Int)) (n : Str) : look sz n = 0 ∨ ∃ kv ∈ sz, look sz n = kv.2 := by
  unfold look
  cases e : sz.find? (fun p => decide (p.1 = n)) with
  | none => exact .inl rfl
  | some kv => exact .inr ⟨kv, List.mem_of_find?_eq_some e, rfl⟩
theorem SzB.look {sz : List (Str × Int)} (h : SzB sz) (n : Str) : 0 ≤ Kq.look sz n ∧ Kq.look sz n < 1125899906842624 := by
  rcases look_in sz n with e | ⟨kv, hm, e⟩
  · rw [e]
    decide
  · rw [e]
    exact ⟨h.lo kv hm, h.hi kv hm⟩
section
variable {P : Program} {w : World} {K : PySem.W.Frag} {mg : Str → Option Value} {base : Heap}
theorem scSizes : FnScope nSizes psSizes (defScope tSizes) := ⟨rfl, rfl, rfl, by decide +kernel, rfl, by decide +kernel, by decide +kernel⟩
def spSizes : Sp := fun vs H Q _ => ∃ (d c o : Addr) (xs : List Str) (m : Int), vs = [.ref d, .ref o, .int m] ∧ Dk H d c ∧ H o = some (.lst (xs.map V.str)) ∧ o ≠ d ∧ o ≠ c ∧ xs.length ≤ 26 ∧ xs.Nodup ∧ 0 ≤ m ∧ m ≤ 1000 ∧
  ∀ (p : Addr) (sz : List (Str × Int)) (G : Hp), Kp d c H G → Dk G d c → Sz G p sz → SzB sz → Q (.ref p) G
theorem okSizes {f fD : Addr} {fd fdD : FuncData} {k : Nat} (F : Fun K "_law_sizes" "_law_sizes" tSizes f fd)
    (GD : FnOk P w K mg base CX0 (k + 2) fD fdD ["_law_deck_here", "_law_most"] spDraw) (bD : Binds K fdD ["_law_deck_here", "_law_most"] []) (gD : mg "_law_draw" = some (.ref fD)) (kD : PySem.W.keepIn K (.ref fD) = true)
    (ms : mg "sorted" = none) (mt : mg "tuple" = none) (mn : mg "int" = none) : FnOk P w K mg base CX0 (k + 3) f fd psSizes spSizes := by
  refine F.ok scSizes (fun vs H Q E h => ?_) (fun cdv A outer s H vs Q E hr h => ?_)
  · obtain ⟨d, c, o, xs, m, rfl, _⟩ := h
    rfl
  obtain ⟨d, c, o, xs, m, rfl, dk, ho, od, oc, lx, nx, m0, m1, q⟩ := h
  refine ⟨_, pss_cons (ps_set (i := 3) scSizes.nd rfl (.inl rfl) (pe_lst pa_nil))
    (pss_cons (ps_for PassesOwn.never rfl (pi_list (pe_callB cr_sortedS (by rfl) ms PyProof.Rows.boot_sorted (pa_cons (pv 1) pa_nil))) (pg_name (i := 4) scSizes.nd rfl (.inl rfl))
      (pss_cons (ps_set (i := 5) scSizes.nd rfl (.inl rfl) (pe_ix ix_list (pe_lst (pa_cons (pe_call GD hr (by rfl) gD kD bD .nil pass0 (pa_cons (pv 0) (pa_cons (pe_op op_add (pv 2) pe_int) pa_nil)))
          (pa_cons (pe_op op_add (pe_op op_pow pe_int pe_int) (pe_call GD hr (by rfl) gD kD bD .nil pass0 (pa_cons (pv 0) (pa_cons pe_int pa_nil)))) pa_nil)))
        (pe_callTy call_int1 (by rfl) mn (by decide +kernel) (pa_cons (pe_cmpR op_eq (pe_call GD hr (by rfl) gD kD bD .nil pass0 (pa_cons (pv 0) (pa_cons pe_int pa_nil))) pe_int (nomark _)) pa_nil)) (fun _ _ => rfl)))
      (pss_one (ps_if (pt_cmpR op_gt (pe_call GD hr (by rfl) gD kD bD .nil pass0 (pa_cons (pv 0) (pa_cons pe_int pa_nil))) pe_int (nomark _))
        (pss_one (ps_expr (pe_bm PySem.F.plainAttrs_list PySem.F.slot_list_append PySem.F.type_list_append mt_append (pv 3) (pa_cons (pe_tup (pa_cons (pv 4) (pa_cons (pv 5) pa_nil))) pa_nil)))) pss_nil))))
    (pss_one (ps_ret (pe_callTy Kt.call_tupleF (by rfl) mt PyProof.Rows.boot_tuple (pa_cons (pv 3) pa_nil))))), ?_⟩
  refine ⟨Nat.zero_le _, fun L nL => ?_⟩
  have sL := newS (o := .lst []) nL
  have offL := dk.off nL
  refine ⟨_, rfl, o, xs, rfl, SqL.of (sL _ _ ho), by omega, fun ys S pm hs nS => ⟨S, rfl, ⟨_, SqL.of upd_same⟩, ?_⟩⟩
  have sS := newS (o := .lst (ys.map V.str)) nS
  have dkS := dk.same (sL.trans sS)
  have offS := (dk.same sL).off nS
  have LS : L ≠ S := ne_of_none upd_same nS
  have hS : H S = none := sL.free nS
  have yn : ys.Nodup := pm.nodup_iff.mpr nx
  have ly : ys.length = xs.length := pm.length_eq
  refine for_list (xs := ys.map V.str) (fun i σ G => ∃ (y4 y5 : Option V) (ps : List Addr) (sz : List (Str × Int)), σ = [some (.ref d), some (.ref o), some (.int m), some (.ref L), y4, y5] ∧ Kp d c H G ∧ Dk G d c ∧ G S = some (.lst (ys.map V.str)) ∧
      G L = some (.lst (ps.map V.ref)) ∧ Paired (fun q (kv : Str × Int) => G q = some (.tup [.str kv.1, .int kv.2])) ps sz ∧ (sz.map (·.1)).Sublist (ys.take i) ∧ ∀ kv ∈ sz, 0 ≤ kv.2 ∧ kv.2 < 1125899906842624) ?_ (fun i σ G _ z => ?_) (fun i x σ G hx z => ?_) (fun σ G z => ?_)
  · exact ⟨none, none, [], [], rfl, Kp.of (sL.trans sS), dkS, upd_same, sS L _ upd_same, .nil, List.nil_sublist _, fun kv z => (nomatch z)⟩
  · obtain ⟨_, _, _, _, _, _, _, gS, _⟩ := z
    exact SqL.of gS
  · obtain ⟨y4, y5, ps, sz, rfl, kpG, dkG, gS, gL, pr, sub, hb⟩ := z
    rw [List.getElem?_map] at hx
    cases hy : ys[i]? with
    | none => rw [hy] at hx; cases hx
    | some y =>
      rw [hy] at hx
      obtain rfl := Option.some.inj hx
      have tk : ys.take (i + 1) = ys.take i ++ [y] := by rw [List.take_add_one, hy]; rfl
      refine ⟨_, rfl, _, rfl, _, _, rfl, rfl, d, c, m + 1, rfl, dkG, by omega, by omega, fun r1 G1 a0 a1 kp1 dk1 => ?_⟩
      refine ⟨_, _, rfl, rfl, ⟨by decide, by decide, by decide⟩, _, rfl, d, c, 9, rfl, dk1, by decide, by decide, fun r2 G2 b0 b1 kp2 dk2 => ⟨_, _, rfl, rfl, (by show 2 ≤ sizeLine; decide), fun l nl => ?_⟩⟩
      have sl := newS (o := .lst [.int r1, .int (10 ^ 12 + r2)]) nl
      have offl := dk2.off nl
      refine ⟨_, rfl, d, c, 8, rfl, dk2.same sl, by decide, by decide, fun r3 G3 c0 c1 kp3 dk3 => ⟨rfl, .inr ⟨_, rfl, ?_⟩⟩⟩
      have gl : G3 l = some (.lst [.int r1, .int (10 ^ 12 + r2)]) := kp3 l _ offl.1 offl.2 upd_same
      obtain ⟨mm, hm, mlo, mhi⟩ : ∃ mm : Int, atI [V.int r1, V.int (10 ^ 12 + r2)] (if decide (V.int r3 = V.int 5) = true then 1 else 0) = some (.int mm) ∧ 0 ≤ mm ∧ mm < 1125899906842624 := by
        cases decide (V.int r3 = V.int 5) with
        | true => exact ⟨10 ^ 12 + r2, rfl, by omega, by omega⟩
        | false => exact ⟨r1, rfl, a0, by omega⟩
      refine ⟨l, _, _, _, rfl, rfl, SqL.of gl, hm, ?_⟩
      have kpA : Kp d c G G3 := ((kp1.trans kp2).trans (Kp.of sl)).trans kp3
      have tkA : Tk G G3 := (((Tk.kp kp1 dkG).trans (Tk.kp kp2 dk1)).trans (Tk.of sl)).trans (Tk.kp kp3 (dk2.same sl))
      refine ⟨_, rfl, d, c, 6, rfl, dk3, by decide, by decide, fun r4 G4 d0 d1 kp4 dk4 => ⟨_, _, rfl, rfl, _, rfl, ?_⟩⟩
      have kpB := kpA.trans kp4
      have tkB := tkA.trans (Tk.kp kp4 dk3)
      have gS4 := kpB S _ offS.1 offS.2 gS
      have gL4 := kpB L _ offL.1 offL.2 gL
      have pr4 : Paired (fun q (kv : Str × Int) => G4 q = some (.tup [.str kv.1, .int kv.2])) ps sz := Paired.mono (fun _ _ e => tkB _ _ e) pr
      refine ite2 (fun _ => ?_) (fun _ => ⟨_, _, ps, sz, rfl, kpG.trans kpB, dk4, gS4, gL4, pr4, by rw [tk]; exact sub.trans (List.sublist_append_left _ _), hb⟩)
      refine ⟨_, rfl, .inl ⟨rfl, _, SqL.of gL4⟩, _, rfl, _, rfl, (by show 2 ≤ sizeLine; decide), fun T nT => ?_⟩
      have sT := newS (o := .tup [.str y, .int mm]) nT
      have gLT := sT _ _ gL4
      have lps := Paired.len pr
      have lsz := sub.length_le
      rw [List.length_map, List.length_take] at lsz
      refine ⟨L, _, _, rfl, rfl, gLT, ?_, _, _, ps ++ [T], sz ++ [(y, mm)], rfl, ((kpG.trans kpB).trans (Kp.of sT)).mk (Kp.free Kp.rfl dk nL), (dk4.same sT).put offL.1 offL.2, ?_, ?_, ?_, ?_, ?_⟩
      · rw [List.length_map]
        exact small1000 (by omega)
      · rw [upd_ne LS.symm]
        exact sT _ _ gS4
      · rw [upd_same, List.map_append]
        rfl
      · have kT : Tk (upd G4 T (.tup [.str y, .int mm])) (upd (upd G4 T (.tup [.str y, .int mm])) L (.lst (ps.map V.ref ++ [.ref T]))) := Tk.rfl.put (fun _ z => by rw [gLT] at z; cases z)
        exact Paired.snoc (Paired.mono (fun _ _ e => kT _ _ (sT _ _ e)) pr4) (kT _ _ upd_same)
      · rw [tk, List.map_append]
        exact List.Sublist.append sub (List.Sublist.refl _)
      · intro kv hkv
        rcases List.mem_append.mp hkv with z | z
        · exact hb kv z
        · rw [List.mem_singleton.mp z]
          exact ⟨mlo, mhi⟩
  · obtain ⟨y4, y5, ps, sz, rfl, kpG, dkG, gS, gL, pr, sub, hb⟩ := z
    rw [List.length_map, List.take_length] at sub
    refine ⟨_, rfl, L, _, rfl, SqL.of gL, fun l ob nl od oc => ?_⟩
    have sl := newS (o := .frz ob (.tup (ps.map V.ref))) nl
    exact q l sz _ (kpG.trans (Kp.of sl)) (dkG.same sl) ⟨ob, ps, upd_same, od, oc, Paired.mono (fun _ _ e => sl _ _ e) pr⟩ ⟨yn.sublist sub, fun kv h => (hb kv h).1, fun kv h => (hb kv h).2⟩
end
end Kq

namespace Kq
open PySem PySem.Spec PyProof.Rows L2 Kf Kg Kv GxR
abbrev tLWo : Stmt := tp 46
abbrev psLWo : List Str := ["_law_deck_here", "_law_kind", "_law_sizes_here", "_law_most"]
abbrev nLWo : List Str := ["_law_deck_here", "_law_kind", "_law_sizes_here", "_law_most", "_law_word", "_law_many", "_law_at_here", "_law_k", "_law_items", "_law_way", "_law_one", "_law_other"]
abbrev Non : Addr → Prop := fun _ => False
theorem _root_.Kv.Kn.tk {H G : Hp} (k : Tk H G) : Kn Non H G := ⟨k, fun _ _ n _ => n.elim, fun _ _ n _ => n.elim⟩
def wb (m : Nat) : Nat → Nat
  | 0 => 200
  | n + 1 => (m + 2) * (wb m n + 2) + 100
theorem wb_ge (m : Nat) : ∀ n, 200 ≤ wb m n
  | 0 => Nat.le_refl _
  | n + 1 => by
    have := wb_ge m n
    show 200 ≤ (m + 2) * (wb m n + 2) + 100
    have : 2 * (wb m n + 2) ≤ (m + 2) * (wb m n + 2) := Nat.mul_le_mul_right _ (by omega)
    omega
theorem wb_up (m : Nat) {a b : Nat} (h : a ≤ b) : wb m a ≤ wb m b := by
  induction h with
  | refl => exact Nat.le_refl _
  | step _ ih =>
    refine Nat.le_trans ih ?_
    rename_i n _
    show wb m n ≤ (m + 2) * (wb m n + 2) + 100
    have : 1 * (wb m n + 2) ≤ (m + 2) * (wb m n + 2) := Nat.mul_le_mul_right _ (by omega)
    omega
/-- the bound of numbers -/
abbrev BN : Nat := 10 ^ 40
/-- a worth of the kind, or none; not too great -/
structure Wo (m : Nat) (sz : List (Str × Int)) (t : Kd) (x : Dt) : Prop where
  is : x = .non ∨ wth sz t x = true
  ok : x.fine BN
  dp : x.dp ≤ 2 * t.dp + 1
  wt : x.wt ≤ wb m t.dp
def okS (z : Str) : Prop := ∀ c ∈ z.cps.toList, c < 16 ^ 8
theorem len_cps (z : Str) : z.cps.toList.length = z.length := by
  rw [Array.length_toList]
  rfl
theorem Nm.okS {x : Str} (h : Nm x) : okS x := fun c hc => by
  have := (h.low c hc).2
  omega
theorem okLit {x : Str} (h : (x.cps.toList.all fun c => decide (c < 16 ^ 8)) = true) : okS x := fun c hc => of_decide_eq_true (List.all_eq_true.mp h c hc)
theorem wl : ("thing" : Str).length = 5 ∧ ("pair" : Str).length = 4 ∧ ("left" : Str).length = 4 ∧ ("right" : Str).length = 5 ∧ ("list" : Str).length = 4 := by decide +kernel
theorem wo : okS "thing" ∧ okS "pair" ∧ okS "left" ∧ okS "right" ∧ okS "list" := ⟨okLit (by decide +kernel), okLit (by decide +kernel), okLit (by decide +kernel), okLit (by decide +kernel), okLit (by decide +kernel)⟩
theorem Wo.non {m : Nat} {sz : List (Str × Int)} {t : Kd} : Wo m sz t .non := by
  refine ⟨.inl rfl, by simp only [Dt.fine], by simp only [Dt.dp]; omega, ?_⟩
  have := wb_ge m t.dp
  simp only [Dt.wt]
  omega
theorem Wo.int {m : Nat} {sz : List (Str × Int)} {i : Int} (h0 : 0 ≤ i) (h1 : i.natAbs < BN) : Wo m sz .num (.int i) := by
  refine ⟨.inr (by simp only [wth, numD]; exact decide_eq_true h0), by simp only [Dt.fine]; exact h1, by simp only [Dt.dp]; omega, ?_⟩
  have := wb_ge m (Kd.num.dp)
  simp only [Dt.wt]
  omega
theorem Wo.bl {m : Nat} {sz : List (Str × Int)} {b : Bool} : Wo m sz .tru (.bl b) := by
  refine ⟨.inr (by simp only [wth, Dt.isBl]), by simp only [Dt.fine], by simp only [Dt.dp]; omega, ?_⟩
  have := wb_ge m (Kd.tru.dp)
  simp only [Dt.wt]
  omega
theorem Wo.thing {m : Nat} {sz : List (Str × Int)} {n : Str} {i : Int} (hn : Nm n) (hb : SzB sz) (h0 : 0 ≤ i) (h1 : i < look sz n) : Wo m sz (.opn n) (.tup [.str "thing", .str n, .int i]) := by
  obtain ⟨l1, _⟩ := wl
  obtain ⟨o1, _⟩ := wo
  have n8 := hn.few
  rw [len_cps] at n8
  have hl := (hb.look n).2
  refine ⟨.inr ?_, ?_, by simp only [Dt.dp, Dt.dps]; omega, ?_⟩
  · simp only [wth]
    rw [tag_str]
    show ((decide ([Dt.str n, .int i].length = 2) && decide (("thing" : Str) = "thing")) && (decide (n = n) && (decide (0 ≤ i) && decide (i < look sz n)))) = true
    rw [decide_eq_true h0, decide_eq_true h1]
    simp
  · simp only [Dt.fine, Dt.fines, and_true]
    refine ⟨o1, hn.okS, ?_⟩
    show i.natAbs < 10000000000000000000000000000000000000000
    omega
  · have := wb_ge m (Kd.opn n).dp
    simp only [Dt.wt, Dt.wts, l1]
    omega
theorem Wo.two {m : Nat} {sz : List (Str × Int)} {a b : Kd} {x y : Dt} (hx : Wo m sz a x) (hy : Wo m sz b y) (nx : x ≠ .non) (ny : y ≠ .non) : Wo m sz (.pair a b) (.tup [.str "pair", x, y]) := by
  obtain ⟨_, l1, _⟩ := wl
  obtain ⟨_, o1, _⟩ := wo
  obtain ⟨i1, f1, d1, w1⟩ := hx
  obtain ⟨i2, f2, d2, w2⟩ := hy
  have i1 := i1.resolve_left nx
  have i2 := i2.resolve_left ny
  have e : (Kd.pair a b).dp = max a.dp b.dp + 1 := rfl
  have u1 := wb_up m (show a.dp ≤ max a.dp b.dp by omega)
  have u2 := wb_up m (show b.dp ≤ max a.dp b.dp by omega)
  refine ⟨.inr ?_, ?_, ?_, ?_⟩
  · simp only [wth]
    rw [tag_str]
    show ((decide ([x, y].length = 2) && decide (("pair" : Str) = "pair")) && (wth sz a x && wth sz b y)) = true
    rw [i1, i2]
    simp
  · simp only [Dt.fine, Dt.fines, and_true]
    exact ⟨o1, f1, f2⟩
  · simp only [Dt.dp, Dt.dps, e]
    omega
  · rw [e]
    show _ ≤ (m + 2) * (wb m (max a.dp b.dp) + 2) + 100
    have : 2 * (wb m (max a.dp b.dp) + 2) ≤ (m + 2) * (wb m (max a.dp b.dp) + 2) := Nat.mul_le_mul_right _ (by omega)
    simp only [Dt.wt, Dt.wts, l1]
    omega
theorem Wo.left {m : Nat} {sz : List (Str × Int)} {a b : Kd} {x : Dt} (hx : Wo m sz a x) (nx : x ≠ .non) : Wo m sz (.eith a b) (.tup [.str "left", x]) := by
  obtain ⟨_, _, l1, _⟩ := wl
  obtain ⟨_, _, o1, _⟩ := wo
  obtain ⟨i1, f1, d1, w1⟩ := hx
  have i1 := i1.resolve_left nx
  have e : (Kd.eith a b).dp = max a.dp b.dp + 1 := rfl
  have u1 := wb_up m (show a.dp ≤ max a.dp b.dp by omega)
  refine ⟨.inr ?_, ?_, ?_, ?_⟩
  · simp only [wth]
    rw [tag_str]
    show (if (decide ([x].length = 1) && decide (("left" : Str) = "left")) = true then wth sz a x else _) = true
    rw [if_pos (by simp)]
    exact i1
  · simp only [Dt.fine, Dt.fines, and_true]
    exact ⟨o1, f1⟩
  · simp only [Dt.dp, Dt.dps, e]
    omega
  · rw [e]
    show _ ≤ (m + 2) * (wb m (max a.dp b.dp) + 2) + 100
    have : 2 * (wb m (max a.dp b.dp) + 2) ≤ (m + 2) * (wb m (max a.dp b.dp) + 2) := Nat.mul_le_mul_right _ (by omega)
    simp only [Dt.wt, Dt.wts, l1]
    omega
theorem Wo.right {m : Nat} {sz : List (Str × Int)} {a b : Kd} {x : Dt} (hx : Wo m sz b x) (nx : x ≠ .non) : Wo m sz (.eith a b) (.tup [.str "right", x]) := by
  obtain ⟨_, _, _, l1, _⟩ := wl
  obtain ⟨_, _, _, o1, _⟩ := wo
  obtain ⟨i1, f1, d1, w1⟩ := hx
  have i1 := i1.resolve_left nx
  have e : (Kd.eith a b).dp = max a.dp b.dp + 1 := rfl
  have u1 := wb_up m (show b.dp ≤ max a.dp b.dp by omega)
  refine ⟨.inr ?_, ?_, ?_, ?_⟩
  · simp only [wth]
    rw [tag_str, tag_str]
    have c : decide (("right" : Str) = "left") = false := by decide +kernel
    show (if (decide ([x].length = 1) && decide (("right" : Str) = "left")) = true then _ else ((decide ([x].length = 1) && decide (("right" : Str) = "right")) && wth sz b x)) = true
    rw [c, i1]
    simp
  · simp only [Dt.fine, Dt.fines, and_true]
    exact ⟨o1, f1⟩
  · simp only [Dt.dp, Dt.dps, e]
    omega
  · rw [e]
    show _ ≤ (m + 2) * (wb m (max a.dp b.dp) + 2) + 100
    have : 2 * (wb m (max a.dp b.dp) + 2) ≤ (m + 2) * (wb m (max a.dp b.dp) + 2) := Nat.mul_le_mul_right _ (by omega)
    simp only [Dt.wt, Dt.wts, l1]
    omega
theorem fines_of {B : Nat} : ∀ {xs : List Dt}, (∀ x ∈ xs, x.fine B) → Dt.fines B xs
  | [], _ => by simp only [Dt.fines]
  | x :: xs, h => by
    simp only [Dt.fines]
    exact ⟨h x List.mem_cons_self, fines_of fun y hy => h y (List.mem_cons_of_mem _ hy)⟩
theorem dps_le {ys : List Dt} {n : Nat} (h : ∀ y ∈ ys, y.dp ≤ n) : Dt.dps ys ≤ n := by
  induction ys with
  | nil => simp only [Dt.dps]; omega
  | cons y ys ih =>
    have := h y List.mem_cons_self
    have := ih fun z hz => h z (List.mem_cons_of_mem _ hz)
    simp only [Dt.dps]
    omega
theorem wts_le {n : Nat} : ∀ {ys : List Dt}, (∀ y ∈ ys, y.wt ≤ n) → Dt.wts ys ≤ ys.length * (n + 2)
  | [], _ => by simp only [Dt.wts]; omega
  | y :: ys, h => by
    have := h y List.mem_cons_self
    have := wts_le (n := n) (ys := ys) fun z hz => h z (List.mem_cons_of_mem _ hz)
    simp only [Dt.wts, List.length_cons, Nat.add_mul]
    omega
theorem Wo.list {m : Nat} {sz : List (Str × Int)} {a : Kd} {xs : List Dt} (h : ∀ x ∈ xs, Wo m sz a x ∧ x ≠ .non) (hl : xs.length ≤ m) : Wo m sz (.lst a) (.tup [.str "list", .tup xs]) := by
  obtain ⟨_, _, _, _, l1⟩ := wl
  obtain ⟨_, _, _, _, o1⟩ := wo
  have e : (Kd.lst a).dp = a.dp + 1 := rfl
  refine ⟨.inr ?_, ?_, ?_, ?_⟩
  · simp only [wth]
    rw [tag_str]
    show ((decide ([Dt.tup xs].length = 1) && decide (("list" : Str) = "list")) && (true && xs.all (wth sz a))) = true
    have : xs.all (wth sz a) = true := List.all_eq_true.mpr fun x hx => (h x hx).1.is.resolve_left (h x hx).2
    rw [this]
    simp
  · simp only [Dt.fine, Dt.fines, and_true]
    exact ⟨o1, fines_of fun x hx => (h x hx).1.ok⟩
  · have := dps_le (n := 2 * a.dp + 1) fun x hx => (h x hx).1.dp
    simp only [Dt.dp, Dt.dps, e]
    omega
  · rw [e]
    show _ ≤ (m + 2) * (wb m a.dp + 2) + 100
    have h1 := wts_le (n := wb m a.dp) fun x hx => (h x hx).1.wt
    have h2 : xs.length * (wb m a.dp + 2) ≤ m * (wb m a.dp + 2) := Nat.mul_le_mul_right _ hl
    have h3 : (m + 2) * (wb m a.dp + 2) = m * (wb m a.dp + 2) + 2 * (wb m a.dp + 2) := Nat.add_mul _ _ _
    simp only [Dt.wt, Dt.wts, l1]
    omega
theorem Wo.pl {m : Nat} {sz : List (Str × Int)} {t : Kd} {x : Dt} {H : Hp} {v : V} (h : Wo m sz t x) (hd : Dd Non H x v) : Plainy H v := by
  cases hd with
  | non => exact .inl rfl
  | bl b => exact .inr (.inr (.inl ⟨b, rfl⟩))
  | int i => exact .inr (.inl ⟨i, rfl⟩)
  | tup h9 _ => exact .inr (.inr (.inr ⟨_, _, rfl, h9⟩))
  | lst n _ _ => exact n.elim
  | emp n _ => exact n.elim
  | str y =>
    have z := h.is.resolve_left (fun z => by cases z)
    cases t <;> cases z
theorem dd_non {H : Hp} {x : Dt} {v : V} (hd : Dd Non H x v) : decide (v = .non) = true ↔ x = .non := by
  constructor
  · intro e
    have e := of_decide_eq_true e
    subst e
    cases hd
    rfl
  · intro e
    subst e
    cases hd
    rfl
end Kq

namespace Kq
open PySem PySem.Spec PyProof.Rows L2 Kf Kg Kv GxR
theorem noneInK {X : Cx} (K : PySem.W.Frag) (h : X.K = K) (hu : X.A.units + 64 < cLine) : OpR X (compareOp .In) (rNoneInU K) := by
  subst h
  exact op_noneInU hu
section
variable {P : Program} {w : World} {K : PySem.W.Frag} {mg : Str → Option Value} {base : Heap}
theorem scLWo : FnScope nLWo psLWo (defScope tLWo) := ⟨rfl, rfl, rfl, by decide +kernel, rfl, by decide +kernel, by decide +kernel⟩
def spLWo (n : Nat) : Sp := fun vs H Q _ => ∃ (d c : Addr) (vk : V) (p : Addr) (m : Nat) (t : Kd) (sz : List (Str × Int)), vs = [.ref d, vk, .ref p, .int (m : Int)] ∧ Dk H d c ∧ t.dp + 1 ≤ n ∧ t.data = true ∧ (∀ x ∈ t.opens, Nm x) ∧ Rp H t vk ∧ Sz H p sz ∧ SzB sz ∧ m ≤ 20 ∧
  ∀ (v : V) (x : Dt) (G : Hp), Kp d c H G → Dk G d c → Dd Non G x v → Wo m sz t x → Q v G
theorem okLWo1 {f fD : Addr} {fd fdD : FuncData} {n : Nat} (F : Fun K "_law_worth" "_law_worth" tLWo f fd) (bF : Binds K fd psLWo []) (gF : mg "_law_worth" = some (.ref f))
    (GD : FnOk P w K mg base CX0 (n + 2) fD fdD ["_law_deck_here", "_law_most"] spDraw) (bD : Binds K fdD ["_law_deck_here", "_law_most"] []) (gD : mg "_law_draw" = some (.ref fD)) (kD : PySem.W.keepIn K (.ref fD) = true)
    (md : mg "dict" = none) (mr : mg "range" = none) (mt : mg "tuple" = none)
    (GI : FnOk P w K mg base CX0 (n + 2) f fd psLWo (spLWo n)) : FnOk P w K mg base CX0 (n + 3) f fd psLWo (spLWo (n + 1)) := by
  refine F.ok scLWo (fun vs H Q E h => ?_) (fun cdv A outer s H vs Q E hr h => ?_)
  · obtain ⟨d, c, vk, p, m, t, sz, rfl, _⟩ := h
    rfl
  obtain ⟨d, c, vk, p, m, t, sz, rfl, dk, hn, hdt, hnm, rk, hz, hb, hm, q⟩ := h
  have hu1 : (cxOf CX0 P w K mg base nLWo "_law_worth" (defScope tLWo) f cdv A outer s H E).nox.A.units + 1 < cLine := hu_of hr
  refine ⟨_, pss_cons (ps_set (i := 4) scLWo.nd rfl (.inl rfl) (pe_ix ix_tup (pv 1) pe_int (fun _ _ => rfl)))
    (pss_cons (ps_if (pt_cmpR op_eq (pv 4) pe_str (nomark _))
      (pss_cons (ps_set (i := 5) scLWo.nd rfl (.inl rfl) (pe_dget2 hu1 (pe_callTy (Kt.call_dictF rfl) (by rfl) md PyProof.Rows.boot_dict (pa_cons (pv 2) pa_nil)) (pe_ix ix_tup (pv 1) pe_int (fun _ _ => rfl)) pe_int ⟨by rfl, by rfl, by rfl, by rfl⟩))
      (pss_cons (ps_if (pt_cmpR op_eq (pv 5) pe_int (nomark _)) (pss_one (ps_ret pe_non)) pss_nil)
      (pss_cons (ps_set (i := 6) scLWo.nd rfl (.inl rfl) (pe_ix ix_list (pe_lst (pa_cons (pe_call GD hr (by rfl) gD kD bD .nil pass0 (pa_cons (pv 0) (pa_cons (pv 5) pa_nil))) (pa_cons (pe_op op_sub (pv 5) pe_int) pa_nil))) (pe_call GD hr (by rfl) gD kD bD .nil pass0 (pa_cons (pv 0) (pa_cons pe_int pa_nil))) (fun _ _ => rfl)))
      (pss_one (ps_ret (pe_tup (pa_cons pe_str (pa_cons (pe_ix ix_tup (pv 1) pe_int (fun _ _ => rfl)) (pa_cons (pv 6) pa_nil))))))))) pss_nil)
    (pss_cons (ps_if (pt_cmpR op_eq (pv 4) pe_str (nomark _))
      (pss_one (ps_ret (pe_ix ix_list (pe_lst (pa_cons pe_int (pa_cons pe_int (pa_cons pe_int (pa_cons (pe_call GD hr (by rfl) gD kD bD .nil pass0 (pa_cons (pv 0) (pa_cons (pe_op op_add (pe_op op_pow pe_int pe_int) pe_int) pa_nil))) (pa_cons (pe_op op_sub (pe_op op_pow pe_int pe_int) (pe_call GD hr (by rfl) gD kD bD .nil pass0 (pa_cons (pv 0) (pa_cons pe_int pa_nil)))) pa_nil)))))) (pe_call GD hr (by rfl) gD kD bD .nil pass0 (pa_cons (pv 0) (pa_cons pe_int pa_nil))) (fun _ _ => rfl)))) pss_nil)
    (pss_cons (ps_if (pt_cmpR op_eq (pv 4) pe_str (nomark _))
      (pss_one (ps_ret (pe_cmpR op_eq (pe_call GD hr (by rfl) gD kD bD .nil pass0 (pa_cons (pv 0) (pa_cons pe_int pa_nil))) pe_int (nomark _)))) pss_nil)
    (pss_cons (ps_if (pt_cmpR op_eq (pv 4) pe_str (nomark _))
      (pss_cons (ps_setLc (i := 8) (own := [("_law_k", 7)]) (g := gName 7) (by rfl) scLWo.nd rfl rfl (sw_true rfl rfl rfl (by decide +kernel)) (pi_range1 (by rfl) mr (pa_cons (pe_call GD hr (by rfl) gD kD bD .nil pass0 (pa_cons (pv 0) (pa_cons (pe_op op_add (pv 3) pe_int) pa_nil))) pa_nil)) (blkOk_by (own := [("_law_k", 7)]) (N := nLWo) (sc := defScope tLWo) (by decide +kernel))
        (fun _ _ _ _ _ => pg_name (i := 7) scLWo.nd rfl (.inl rfl)) (fun _ _ _ _ _ => pts_nil) (fun _ _ _ _ _ => pe_call GI hr (by rfl) gF F.kp bF .nil pass0 (pa_cons (pv 0) (pa_cons (pe_ix (ixTK K rfl) (pv 1) pe_int (fun _ _ => rfl)) (pa_cons (pv 2) (pa_cons (pv 3) pa_nil))))))
      (pss_one (ps_ret (pe_ifExp (pt_cmpR (noneInK K rfl hr.units) pe_non (pv 8) rfl) (pe_tup (pa_cons pe_str (pa_cons (pe_tup pa_nil) pa_nil))) (pe_tup (pa_cons pe_str (pa_cons (pe_callTy call_tuple_of (by rfl) mt PyProof.Rows.boot_tuple (pa_cons (pv 8) pa_nil)) pa_nil))))))) pss_nil)
    (pss_cons (ps_set (i := 9) scLWo.nd rfl (.inl rfl) (pe_call GD hr (by rfl) gD kD bD .nil pass0 (pa_cons (pv 0) (pa_cons pe_int pa_nil))))
    (pss_cons (ps_set (i := 10) scLWo.nd rfl (.inl rfl) (pe_call GI hr (by rfl) gF F.kp bF .nil pass0 (pa_cons (pv 0) (pa_cons (pe_ix ix_tup (pv 1) pe_int (fun _ _ => rfl)) (pa_cons (pv 2) (pa_cons (pv 3) pa_nil))))))
    (pss_cons (ps_set (i := 11) scLWo.nd rfl (.inl rfl) (pe_call GI hr (by rfl) gF F.kp bF .nil pass0 (pa_cons (pv 0) (pa_cons (pe_ix ix_tup (pv 1) pe_int (fun _ _ => rfl)) (pa_cons (pv 2) (pa_cons (pv 3) pa_nil))))))
    (pss_cons (ps_if (pt_cmpR op_eq (pv 4) pe_str (nomark _))
      (pss_one (ps_ret (pe_ifExp (PW.pt (pw_or (pt_cmpR op_isN (pv 10) pe_non (nomark _)) (pw_or1 (pt_cmpR op_isN (pv 11) pe_non (nomark _))))) pe_non (pe_tup (pa_cons pe_str (pa_cons (pv 10) (pa_cons (pv 11) pa_nil))))))) pss_nil)
    (C8.pss_cut (ps_if (pt_cmpR op_isN (pe_ix ix_list (pe_lst (pa_cons (pv 10) (pa_cons (pv 11) pa_nil))) (pv 9) (fun _ _ => rfl)) pe_non (nomark _)) (pss_one (ps_set (i := 9) scLWo.nd rfl (.inl rfl) (pe_op op_sub pe_int (pv 9)))) pss_nil)
    (pss_cons (ps_if (pt_cmpR op_isN (pe_ix ix_list (pe_lst (pa_cons (pv 10) (pa_cons (pv 11) pa_nil))) (pv 9) (fun _ _ => rfl)) pe_non (nomark _)) (pss_one (ps_ret pe_non)) pss_nil)
    (pss_one (ps_ret (pe_tup (pa_cons (pe_ix ix_list (pe_lst (pa_cons pe_str (pa_cons pe_str pa_nil))) (pv 9) (fun _ _ => rfl)) (pa_cons (pe_ix ix_list (pe_lst (pa_cons (pv 10) (pa_cons (pv 11) pa_nil))) (pv 9) (fun _ _ => rfl)) pa_nil))))))))))))))), ?_⟩
  obtain ⟨ka, us, rfl, hk, _⟩ := rk.see
  refine ⟨_, rfl, ka, _, _, _, rfl, rfl, SqT.of hk, atI_nat (j := 0) rfl, ?_⟩
  cases t with
  | fn _ _ => cases hdt
  | opn y =>
    refine ⟨_, rfl, rfl, _, rfl, ite2 (fun _ => ?_) (fun e => absurd (decide_eq_true rfl) e)⟩
    obtain ⟨ka', ek, hk4⟩ := rk
    obtain rfl : ka = ka' := V.ref.inj ek
    obtain ⟨o, ps, hp, od, oc, pr⟩ := hz
    have hy : Nm y := hnm y (by simp [Kd.opens])
    refine ⟨_, rfl, p, o, ps, szK sz, rfl, hp, od, oc, szK_pairs pr, fun dA ndA => ?_⟩
    have s4 := newS (o := .dK (mergeK [] (szK sz))) ndA
    refine ⟨dA, rfl, .inl ⟨_, .inl upd_same⟩, _, rfl, ka, _, _, _, rfl, rfl, SqT.of (s4 _ _ hk4), atI_nat (j := 1) rfl, _, DGet.k (k := .inr y) upd_same, ?_⟩
    rw [szK_get hb.nd y]
    have dk4 := dk.same s4
    have hk5 := s4 _ _ hk4
    have kp4 : Kp d c H _ := Kp.of s4
    generalize upd H dA (.dK (mergeK [] (szK sz))) = H4 at dk4 hk5 kp4
    obtain ⟨l0, l1⟩ := hb.look y
    refine ⟨_, rfl, rfl, _, rfl, ite2 (fun e => q .non .non H4 kp4 dk4 .non Wo.non) (fun e => ?_)⟩
    have lp : 0 < look sz y := by
      have : ¬ look sz y = 0 := fun z => e (decide_eq_true (by rw [z]))
      omega
    refine ⟨_, rfl, _, rfl, d, c, look sz y, rfl, dk4, lp, l1, fun r1 G1 a0 a1 kp1 dk1 => ⟨_, rfl, _, _, rfl, rfl, (by show 2 ≤ sizeLine; decide), fun l nl => ?_⟩⟩
    have sl := newS (o := .lst [.int r1, .int (look sz y - 1)]) nl
    have offl := dk1.off nl
    refine ⟨_, rfl, d, c, 2, rfl, dk1.same sl, by decide, by decide, fun r2 G2 b0 b1 kp2 dk2 => ?_⟩
    obtain ⟨mm, hm2, mlo, mhi⟩ : ∃ mm : Int, atI [V.int r1, V.int (look sz y - 1)] r2 = some (.int mm) ∧ 0 ≤ mm ∧ mm < look sz y := by
      have er : r2 = 0 ∨ r2 = 1 := by omega
      rcases er with rfl | rfl
      · exact ⟨r1, rfl, a0, a1⟩
      · exact ⟨look sz y - 1, rfl, by omega, by omega⟩
    have gl : G2 l = some (.lst [.int r1, .int (look sz y - 1)]) := kp2 l _ offl.1 offl.2 upd_same
    have kpA : Kp d c H G2 := ((kp4.trans kp1).trans (Kp.of sl)).trans kp2
    refine ⟨l, _, _, _, rfl, rfl, SqL.of gl, hm2, ?_⟩
    refine ⟨_, rfl, ka, _, _, _, rfl, rfl, SqT.of (Tk.kp kpA dk _ _ hk4), atI_nat (j := 1) rfl, _, rfl, (by show 3 ≤ sizeLine; decide), fun T nT => ?_⟩
    have sT := newS (o := .tup [.str "thing", .str y, .int mm]) nT
    exact q (.ref T) (.tup [.str "thing", .str y, .int mm]) _ (kpA.trans (Kp.of sT)) (dk2.same sT) (.tup upd_same (.cons (.str _) (.cons (.str _) (.cons (.int _) .nil)))) (Wo.thing hy hb mlo mhi)
  | num =>
    refine ⟨_, rfl, rfl, _, rfl, ite2 (fun e => absurd e (wne (by simp only [Kd.word]; decide +kernel))) (fun _ => ?_)⟩
    refine ⟨_, rfl, rfl, _, rfl, ite2 (fun _ => ?_) (fun e => absurd (decide_eq_true rfl) e)⟩
    refine ⟨_, rfl, _, _, rfl, rfl, ⟨by decide, by decide, by decide⟩, _, _, rfl, rfl, d, c, _, rfl, dk, by decide, by decide, fun r1 G1 a0 a1 kp1 dk1 => ?_⟩
    refine ⟨_, _, rfl, rfl, ⟨by decide, by decide, by decide⟩, _, rfl, d, c, 9, rfl, dk1, by decide, by decide, fun r2 G2 b0 b1 kp2 dk2 => ⟨_, _, rfl, rfl, (by show 5 ≤ sizeLine; decide), fun l nl => ?_⟩⟩
    have a1 : r1 < 1000000001 := a1
    have sl := newS (o := .lst [.int 0, .int 1, .int 2, .int r1, .int ((10 : Int) ^ (39 : Int).toNat - r2)]) nl
    have offl := dk2.off nl
    refine ⟨_, rfl, d, c, 5, rfl, dk2.same sl, by decide, by decide, fun r3 G3 c0 c1 kp3 dk3 => ?_⟩
    obtain ⟨mm, hm2, mlo, mhi⟩ : ∃ mm : Int, atI [V.int 0, V.int 1, V.int 2, V.int r1, V.int ((10 : Int) ^ (39 : Int).toNat - r2)] r3 = some (.int mm) ∧ 0 ≤ mm ∧ mm < 10000000000000000000000000000000000000000 := by
      have e39 : (10 : Int) ^ (39 : Int).toNat = 1000000000000000000000000000000000000000 := by decide +kernel
      rw [e39]
      have er : r3 = 0 ∨ r3 = 1 ∨ r3 = 2 ∨ r3 = 3 ∨ r3 = 4 := by omega
      rcases er with rfl | rfl | rfl | rfl | rfl
      · exact ⟨_, rfl, by decide, by decide⟩
      · exact ⟨_, rfl, by decide, by decide⟩
      · exact ⟨_, rfl, by decide, by decide⟩
      · exact ⟨_, rfl, by omega, by omega⟩
      · exact ⟨_, rfl, by omega, by omega⟩
    exact ⟨l, _, _, _, rfl, rfl, SqL.of (kp3 l _ offl.1 offl.2 upd_same), hm2, q (.int mm) (.int mm) _ (((kp1.trans kp2).trans (Kp.of sl)).trans kp3) dk3 (.int _) (Wo.int mlo (by show mm.natAbs < 10000000000000000000000000000000000000000; omega))⟩
  | tru =>
    refine ⟨_, rfl, rfl, _, rfl, ite2 (fun e => absurd e (wne (by simp only [Kd.word]; decide +kernel))) (fun _ => ?_)⟩
    refine ⟨_, rfl, rfl, _, rfl, ite2 (fun e => absurd e (wne (by simp only [Kd.word]; decide +kernel))) (fun _ => ?_)⟩
    refine ⟨_, rfl, rfl, _, rfl, ite2 (fun _ => ?_) (fun e => absurd (decide_eq_true rfl) e)⟩
    exact ⟨_, rfl, d, c, 2, rfl, dk, by decide, by decide, fun r1 G1 a0 a1 kp1 dk1 => ⟨rfl, q _ (.bl _) _ kp1 dk1 (.bl _) Wo.bl⟩⟩
  | lst ta =>
    refine ⟨_, rfl, rfl, _, rfl, ite2 (fun e => absurd e (wne (by simp only [Kd.word]; decide +kernel))) (fun _ => ?_)⟩
    refine ⟨_, rfl, rfl, _, rfl, ite2 (fun e => absurd e (wne (by simp only [Kd.word]; decide +kernel))) (fun _ => ?_)⟩
    refine ⟨_, rfl, rfl, _, rfl, ite2 (fun e => absurd e (wne (by simp only [Kd.word]; decide +kernel))) (fun _ => ?_)⟩
    refine ⟨_, rfl, rfl, _, rfl, ite2 (fun _ => ?_) (fun e => absurd (decide_eq_true rfl) e)⟩
    obtain ⟨ka', kx, ek, hk4, rka⟩ := rk
    obtain rfl : ka = ka' := V.ref.inj ek
    have hn2 : ta.dp + 1 + 1 ≤ n + 1 := hn
    refine ⟨_, rfl, _, rfl, _, _, rfl, rfl, d, c, (m : Int) + 1, rfl, dk, by omega, by omega, fun r1 G1 a0 a1 kp1 dk1 => ⟨r1, rfl, by omega, by omega, fun D nD => ?_⟩⟩
    have offD := dk1.off nD
    have hD : H D = none := kp1.free dk1 nD
    refine lc_range (lo := 0) (n := r1.toNat) (fun i G => Kp d c H G ∧ Dk G d c ∧ ∃ xs vs, xs.length = i ∧ G D = some (.lst vs) ∧ DdL Non G xs vs ∧ ∀ x ∈ xs, Wo m sz ta x) ?_ (fun i G hi z => ?_) (fun G z => ?_)
    · exact ⟨kp1.mk hD, dk1.put offD.1 offD.2, [], [], rfl, upd_same, .nil, fun x z => (nomatch z)⟩
    · obtain ⟨kpi, dki, xs, vs, lx, gD', hL, ho⟩ := z
      refine ⟨rfl, _, rfl, _, rfl, ka, _, _, _, rfl, rfl, SqT.of (Tk.kp kpi dk _ _ hk4), atI_nat (j := 1) rfl, _, rfl, _, rfl, d, c, kx, p, m, ta, sz, rfl, dki, by omega, hdt, hnm, rka.tk (Tk.kp kpi dk), hz.kp kpi dk, hb, hm, fun v x G2 kp2 dk2 hd hw => ?_⟩
      have gD2 := kp2 D _ offD.1 offD.2 gD'
      have t1 : Tk G (upd G2 D (.lst (vs ++ [v]))) := (Tk.kp kp2 dki).put (fun _ z => by rw [gD'] at z; cases z)
      have t2 : Tk G2 (upd G2 D (.lst (vs ++ [v]))) := Tk.rfl.put (fun _ z => by rw [gD2] at z; cases z)
      refine ⟨_, gD2, ?_, (kpi.trans kp2).mk hD, dk2.put offD.1 offD.2, xs ++ [x], vs ++ [v], ?_, upd_same, (hL.kn (Kn.tk t1)).app (.cons (hd.kn (Kn.tk t2)) .nil), fun y hy => ?_⟩
      · rw [← hL.len, lx]
        exact small1000 (by omega)
      · rw [List.length_append, lx]
        rfl
      · rcases List.mem_append.mp hy with z | z
        · exact ho y z
        · rw [List.mem_singleton.mp z]
          exact hw
    obtain ⟨kpi, dki, xs, vs, lx, gD', hL, ho⟩ := z
    refine ⟨_, rfl, D, vs, rfl, rfl, SqL.of gD', fun z hz' => ?_, _, rfl, ite2 (fun e => ?_) (fun e => ?_)⟩
    · obtain ⟨i, hi, ez⟩ := List.getElem_of_mem hz'
      obtain ⟨x, hx, rx⟩ := hL.get (i := i) (v := z) (by rw [List.getElem?_eq_getElem hi, ez])
      exact (ho x (List.mem_of_getElem? hx)).pl rx
    · refine ⟨Nat.zero_le _, fun t0 n0 => ⟨(by show 2 ≤ sizeLine; decide), fun t1 n1 => ?_⟩⟩
      have u0 := newS (o := .tup []) n0
      have u1 := newS (o := .tup [.str "list", .ref t0]) n1
      exact q (.ref t1) (.tup [.str "list", .tup []]) _ (kpi.trans (Kp.of (u0.trans u1))) (dki.same (u0.trans u1)) (.tup upd_same (.cons (.str _) (.cons (.tup (u1 t0 _ upd_same) .nil) .nil))) (Wo.list (fun x hx => by cases hx) (Nat.zero_le _))
    · refine ⟨_, rfl, D, vs, rfl, .inl ⟨SqL.of gD', fun t0 n0 => ⟨(by show 2 ≤ sizeLine; decide), fun t1 n1 => ?_⟩⟩⟩
      have u0 := newS (o := .tup vs) n0
      have u1 := newS (o := .tup [.str "list", .ref t0]) n1
      refine q (.ref t1) (.tup [.str "list", .tup xs]) _ (kpi.trans (Kp.of (u0.trans u1))) (dki.same (u0.trans u1)) (.tup upd_same (.cons (.str _) (.cons (.tup (u1 t0 _ upd_same) (hL.same (u0.trans u1))) .nil))) (Wo.list (fun x hx => ⟨ho x hx, fun z => e ?_⟩) (by omega))
      obtain ⟨i, hi, ez⟩ := List.getElem_of_mem hx
      obtain ⟨v, hv, rv⟩ := hL.get' (i := i) (x := x) (by rw [List.getElem?_eq_getElem hi, ez])
      rw [z] at rv
      refine List.any_eq_true.mpr ⟨v, List.mem_of_getElem? hv, ?_⟩
      cases rv
      rfl
  | pair ta tb =>
    refine ⟨_, rfl, rfl, _, rfl, ite2 (fun e => absurd e (wne (by simp only [Kd.word]; decide +kernel))) (fun _ => ?_)⟩
    refine ⟨_, rfl, rfl, _, rfl, ite2 (fun e => absurd e (wne (by simp only [Kd.word]; decide +kernel))) (fun _ => ?_)⟩
    refine ⟨_, rfl, rfl, _, rfl, ite2 (fun e => absurd e (wne (by simp only [Kd.word]; decide +kernel))) (fun _ => ?_)⟩
    refine ⟨_, rfl, rfl, _, rfl, ite2 (fun e => absurd e (wne (by simp only [Kd.word]; decide +kernel))) (fun _ => ?_)⟩
    obtain ⟨ka', kx, ky, ek, hk4, rka, rkb⟩ := rk
    obtain rfl : ka = ka' := V.ref.inj ek
    obtain ⟨d1, d2⟩ := Bool.and_eq_true_iff.mp hdt
    have hn2 : max ta.dp tb.dp + 1 + 1 ≤ n + 1 := hn
    have nm1 : ∀ x ∈ ta.opens, Nm x := fun x hx => hnm x (List.mem_append_left _ hx)
    have nm2 : ∀ x ∈ tb.opens, Nm x := fun x hx => hnm x (List.mem_append_right _ hx)
    refine ⟨_, rfl, d, c, 2, rfl, dk, by decide, by decide, fun wy G1 w0 w1 kp1 dk1 => ?_⟩
    refine ⟨_, rfl, _, rfl, ka, _, _, _, rfl, rfl, SqT.of (Tk.kp kp1 dk _ _ hk4), atI_nat (j := 1) rfl, _, rfl, _, rfl, d, c, kx, p, m, ta, sz, rfl, dk1, by omega, d1, nm1, rka.tk (Tk.kp kp1 dk), hz.kp kp1 dk, hb, hm, fun v1 x1 G2 kp2 dk2 h1 o1 => ?_⟩
    have kp12 := kp1.trans kp2
    refine ⟨_, rfl, _, rfl, ka, _, _, _, rfl, rfl, SqT.of (Tk.kp kp12 dk _ _ hk4), atI_nat (j := 2) rfl, _, rfl, _, rfl, d, c, ky, p, m, tb, sz, rfl, dk2, by omega, d2, nm2, rkb.tk (Tk.kp kp12 dk), hz.kp kp12 dk, hb, hm, fun v2 x2 G3 kp3 dk3 h2 o2 => ?_⟩
    have kp13 := kp12.trans kp3
    have h1 := h1.kn (Kn.tk (Tk.kp kp3 dk2))
    refine ⟨_, rfl, rfl, _, rfl, ite2 (fun _ => ?_) (fun e => absurd (decide_eq_true rfl) e)⟩
    refine ⟨_, rfl, rfl, _, rfl, ite2 (fun e => iteT (q .non .non _ kp13 dk3 .non Wo.non)) (fun e1 => ⟨_, rfl, rfl, _, rfl, ite2 (fun e => q .non .non _ kp13 dk3 .non Wo.non) (fun e2 => ?_)⟩)⟩
    refine ⟨_, rfl, _, rfl, (by show 3 ≤ sizeLine; decide), fun T nT => ?_⟩
    have sT := newS (o := .tup [.str "pair", v1, v2]) nT
    exact q (.ref T) (.tup [.str "pair", x1, x2]) _ (kp13.trans (Kp.of sT)) (dk3.same sT) (.tup upd_same (.cons (.str _) (.cons (h1.same sT) (.cons (h2.same sT) .nil)))) (Wo.two o1 o2 (fun z => e1 ((dd_non h1).mpr z)) (fun z => e2 ((dd_non h2).mpr z)))
  | eith ta tb =>
    refine ⟨_, rfl, rfl, _, rfl, ite2 (fun e => absurd e (wne (by simp only [Kd.word]; decide +kernel))) (fun _ => ?_)⟩
    refine ⟨_, rfl, rfl, _, rfl, ite2 (fun e => absurd e (wne (by simp only [Kd.word]; decide +kernel))) (fun _ => ?_)⟩
    refine ⟨_, rfl, rfl, _, rfl, ite2 (fun e => absurd e (wne (by simp only [Kd.word]; decide +kernel))) (fun _ => ?_)⟩
    refine ⟨_, rfl, rfl, _, rfl, ite2 (fun e => absurd e (wne (by simp only [Kd.word]; decide +kernel))) (fun _ => ?_)⟩
    obtain ⟨ka', kx, ky, ek, hk4, rka, rkb⟩ := rk
    obtain rfl : ka = ka' := V.ref.inj ek
    obtain ⟨d1, d2⟩ := Bool.and_eq_true_iff.mp hdt
    have hn2 : max ta.dp tb.dp + 1 + 1 ≤ n + 1 := hn
    have nm1 : ∀ x ∈ ta.opens, Nm x := fun x hx => hnm x (List.mem_append_left _ hx)
    have nm2 : ∀ x ∈ tb.opens, Nm x := fun x hx => hnm x (List.mem_append_right _ hx)
    refine ⟨_, rfl, d, c, 2, rfl, dk, by decide, by decide, fun wy G1 w0 w1 kp1 dk1 => ?_⟩
    refine ⟨_, rfl, _, rfl, ka, _, _, _, rfl, rfl, SqT.of (Tk.kp kp1 dk _ _ hk4), atI_nat (j := 1) rfl, _, rfl, _, rfl, d, c, kx, p, m, ta, sz, rfl, dk1, by omega, d1, nm1, rka.tk (Tk.kp kp1 dk), hz.kp kp1 dk, hb, hm, fun v1 x1 G2 kp2 dk2 h1 o1 => ?_⟩
    have kp12 := kp1.trans kp2
    refine ⟨_, rfl, _, rfl, ka, _, _, _, rfl, rfl, SqT.of (Tk.kp kp12 dk _ _ hk4), atI_nat (j := 2) rfl, _, rfl, _, rfl, d, c, ky, p, m, tb, sz, rfl, dk2, by omega, d2, nm2, rkb.tk (Tk.kp kp12 dk), hz.kp kp12 dk, hb, hm, fun v2 x2 G3 kp3 dk3 h2 o2 => ?_⟩
    have kp13 := kp12.trans kp3
    have h1 := h1.kn (Kn.tk (Tk.kp kp3 dk2))
    refine ⟨_, rfl, rfl, _, rfl, ite2 (fun e => absurd e (wne (by simp only [Kd.word]; decide +kernel))) (fun _ => ?_)⟩
    have two : ∀ r : Int, r = 0 ∨ r = 1 → ∃ v x, atI [v1, v2] r = some v ∧ (∀ G : Hp, Dd Non G x1 v1 → Dd Non G x2 v2 → Dd Non G x v) ∧ ((r = 0 ∧ x = x1) ∨ (r = 1 ∧ x = x2)) := fun r h => by
      rcases h with rfl | rfl
      · exact ⟨v1, x1, rfl, fun _ a _ => a, .inl ⟨rfl, rfl⟩⟩
      · exact ⟨v2, x2, rfl, fun _ _ a => a, .inr ⟨rfl, rfl⟩⟩
    refine ⟨fun σ G => ∃ r : Int, (r = 0 ∨ r = 1) ∧ (∃ y5 y6 y7 y8, σ = [some (.ref d), some (.ref ka), some (.ref p), some (.int (m : Int)), some (.str (Kd.eith ta tb).word), y5, y6, y7, y8, some (.int r), some v1, some v2]) ∧ Kp d c H G ∧ Dk G d c ∧ Dd Non G x1 v1 ∧ Dd Non G x2 v2, ?_, fun σ G z => ?_⟩
    · obtain ⟨v, x, ev, _, _⟩ := two wy (by omega)
      refine ⟨_, rfl, _, rfl, (by show 2 ≤ sizeLine; decide), fun l nl => ?_⟩
      have sl := newS (o := .lst [v1, v2]) nl
      have fin : ∀ r : Int, r = 0 ∨ r = 1 → ∃ r' : Int, (r' = 0 ∨ r' = 1) ∧ (∃ y5 y6 y7 y8, [some (.ref d), some (.ref ka), some (.ref p), some (.int (m : Int)), some (.str (Kd.eith ta tb).word), none, none, none, none, some (.int r), some v1, some v2] = [some (.ref d), some (.ref ka), some (.ref p), some (.int (m : Int)), some (.str (Kd.eith ta tb).word), y5, y6, y7, y8, some (.int r'), some v1, some v2]) ∧ Kp d c H (upd G3 l (.lst [v1, v2])) ∧ Dk (upd G3 l (.lst [v1, v2])) d c ∧ Dd Non (upd G3 l (.lst [v1, v2])) x1 v1 ∧ Dd Non (upd G3 l (.lst [v1, v2])) x2 v2 := fun r hr => ⟨r, hr, ⟨_, _, _, _, rfl⟩, kp13.trans (Kp.of sl), dk3.same sl, h1.same sl, h2.same sl⟩
      refine ⟨_, rfl, l, _, _, v, rfl, rfl, SqL.of upd_same, ev, rfl, _, rfl, ite2 (fun _ => ⟨_, rfl, _, _, rfl, rfl, fin (1 - wy) (by omega)⟩) (fun _ => fin wy (by omega))⟩
    obtain ⟨r, hr, ⟨y5, y6, y7, y8, rfl⟩, kpG, dkG, g1, g2⟩ := z
    obtain ⟨v, x, ev, hv, hx⟩ := two r hr
    refine ⟨_, rfl, _, rfl, (by show 2 ≤ sizeLine; decide), fun l nl => ?_⟩
    have sl := newS (o := .lst [v1, v2]) nl
    refine ⟨_, rfl, l, _, _, v, rfl, rfl, SqL.of upd_same, ev, rfl, _, rfl, ite2 (fun _ => q .non .non _ (kpG.trans (Kp.of sl)) (dkG.same sl) .non Wo.non) (fun e => ?_)⟩
    have kpL := kpG.trans (Kp.of sl)
    have dkL := dkG.same sl
    have g1 := g1.same sl
    have g2 := g2.same sl
    generalize upd G (l : Addr) (.lst [v1, v2]) = G4 at kpL dkL g1 g2
    refine ⟨(by show 2 ≤ sizeLine; decide), fun l2 nl2 => ?_⟩
    have sl2 := newS (o := .lst [.str "left", .str "right"]) nl2
    obtain ⟨wd, ewd, hwd⟩ : ∃ wd : Str, atI [V.str "left", V.str "right"] r = some (.str wd) ∧ ((r = 0 ∧ wd = "left") ∨ (r = 1 ∧ wd = "right")) := by
      rcases hr with rfl | rfl
      · exact ⟨_, rfl, .inl ⟨rfl, rfl⟩⟩
      · exact ⟨_, rfl, .inr ⟨rfl, rfl⟩⟩
    refine ⟨_, rfl, l2, _, _, _, rfl, rfl, SqL.of upd_same, ewd, _, rfl, _, rfl, (by show 2 ≤ sizeLine; decide), fun l3 nl3 => ⟨_, rfl, l3, _, _, v, rfl, rfl, SqL.of upd_same, ev, (by show 2 ≤ sizeLine; decide), fun T nT => ?_⟩⟩
    have sl3 := newS (o := .lst [v1, v2]) nl3
    have sT := newS (o := .tup [.str wd, v]) nT
    have sA := (sl2.trans sl3).trans sT
    have gx := hv _ (g1.same sA) (g2.same sA)
    have nx : x ≠ .non := fun z => e ((dd_non gx).mpr z)
    refine q (.ref T) (.tup [.str wd, x]) _ (kpL.trans (Kp.of sA)) (dkL.same sA) (.tup upd_same (.cons (.str _) (.cons gx .nil))) ?_
    rcases hx with ⟨e0, rfl⟩ | ⟨e0, rfl⟩ <;> rcases hwd with ⟨e1, rfl⟩ | ⟨e1, rfl⟩
    · exact o1.left nx
    · omega
    · omega
    · exact o2.right nx
theorem okLWo {f fD : Addr} {fd fdD : FuncData} (F : Fun K "_law_worth" "_law_worth" tLWo f fd) (bF : Binds K fd psLWo []) (gF : mg "_law_worth" = some (.ref f))
    (GD : ∀ k, FnOk P w K mg base CX0 (k + 2) fD fdD ["_law_deck_here", "_law_most"] spDraw) (bD : Binds K fdD ["_law_deck_here", "_law_most"] []) (gD : mg "_law_draw" = some (.ref fD)) (kD : PySem.W.keepIn K (.ref fD) = true)
    (md : mg "dict" = none) (mr : mg "range" = none) (mt : mg "tuple" = none) : ∀ n, FnOk P w K mg base CX0 (n + 2) f fd psLWo (spLWo n)
  | 0 => noFn fun vs H Q E h => by
    obtain ⟨d, c, vk, p, m, t, sz, _, _, hn, _⟩ := h
    omega
  | n + 1 => okLWo1 F bF gF (GD n) bD gD kD md mr mt (okLWo F bF gF GD bD gD kD md mr mt n)
end
end Kq

namespace Kq
open PySem PySem.Spec PyProof.Rows L2 Kf Kg Kv GxR
abbrev tSpots : Stmt := tp 49
abbrev tAt : Stmt := tp 50
abbrev tWith : Stmt := tp 51
theorem dps_mem : ∀ {xs : List Dt} {x : Dt}, x ∈ xs → x.dp ≤ Dt.dps xs
  | y :: ys, x, h => by
    simp only [Dt.dps]
    rcases List.mem_cons.mp h with rfl | h
    · omega
    · have := dps_mem h
      omega
theorem szs1 (x : Dt) : Dt.szs [x] = x.sz := by simp only [Dt.szs, Nat.add_zero]
theorem wts1 (x : Dt) : Dt.wts [x] = x.wt + 2 := by simp only [Dt.wts, Nat.add_zero]
theorem sz_pos : ∀ x : Dt, 1 ≤ x.sz := fun x => by cases x <;> simp only [Dt.sz] <;> omega
theorem at_tup (xs : List Dt) (i : Nat) (p : List Nat) (y : Dt) (h : xs[i]? = some y) : (Dt.tup xs).at? (i :: p) = y.at? p := by
  simp only [Dt.at?, h]
theorem at_inv {x : Dt} {i : Nat} {p : List Nat} {z : Dt} (h : x.at? (i :: p) = some z) : ∃ xs y, x = .tup xs ∧ xs[i]? = some y ∧ y.at? p = some z := by
  cases x with
  | tup xs =>
    simp only [Dt.at?] at h
    split at h
    · rename_i y e
      exact ⟨xs, y, rfl, e, h⟩
    · cases h
  | _ => cases h
theorem at_len : ∀ {p : List Nat} {x z : Dt}, x.at? p = some z → p.length ≤ x.dp
  | [], _, _, _ => Nat.zero_le _
  | i :: p, x, z, h => by
    obtain ⟨xs, y, rfl, e, h2⟩ := at_inv h
    have := at_len h2
    have := dps_mem (List.mem_of_getElem? e)
    simp only [Dt.dp, List.length_cons]
    omega
def iV (p : List Nat) : List V := p.map fun (i : Nat) => V.int (i : Int)
/-- u is a place of x -/
def Pth (G : Hp) (x : Dt) (u : V) : Prop := ∃ a p z, u = .ref a ∧ G a = some (.tup (iV p)) ∧ x.at? p = some z
theorem Pth.tk {G F : Hp} {x : Dt} {u : V} (h : Pth G x u) (k : Tk G F) : Pth F x u := by
  obtain ⟨a, p, z, e, g, hz⟩ := h
  exact ⟨a, p, z, e, k _ _ g, hz⟩
mutual
theorem _root_.Kv.Dt.dp_wt : ∀ x : Dt, x.dp ≤ x.wt
  | .non => by simp only [Dt.dp, Dt.wt]; omega
  | .bl _ => by simp only [Dt.dp, Dt.wt]; omega
  | .int _ => by simp only [Dt.dp, Dt.wt]; omega
  | .str _ => by simp only [Dt.dp, Dt.wt]; omega
  | .tup xs => by
    have := dps_wts xs
    simp only [Dt.dp, Dt.wt]
    omega
  | .lst xs => by
    have := dps_wts xs
    simp only [Dt.dp, Dt.wt]
    omega
  | .emp => by simp only [Dt.dp, Dt.wt]; omega
theorem dps_wts : ∀ xs : List Dt, Dt.dps xs ≤ Dt.wts xs
  | [] => by simp only [Dt.dps, Dt.wts]; omega
  | x :: xs => by
    have := Kv.Dt.dp_wt x
    have := dps_wts xs
    simp only [Dt.dps, Dt.wts]
    omega
end
section
variable {P : Program} {w : World} {K : PySem.W.Frag} {mg : Str → Option Value} {base : Heap}
/-! _law_at -/
theorem scAt : FnScope ["_law_thing", "_law_spot", "_law_at_here"] ["_law_thing", "_law_spot"] (defScope tAt) := ⟨rfl, rfl, rfl, by decide +kernel, rfl, by decide +kernel, by decide +kernel⟩
def spAt (N : Addr → Prop) : Sp := fun vs H Q _ => ∃ (v : V) (x : Dt) (a : Addr) (p : List Nat) (z : Dt), vs = [v, .ref a] ∧ Dd N H x v ∧ H a = some (.tup (iV p)) ∧ x.at? p = some z ∧ ∀ u, Dd N H z u → Q u H
theorem at_drop : ∀ {p : List Nat} {i j : Nat} {x z y : Dt}, x.at? (p.take i) = some y → y.at? (p.drop i) = some z → p[i]? = some j → ∃ xs w, y = .tup xs ∧ xs[j]? = some w ∧ w.at? (p.drop (i + 1)) = some z := by
  intro p i j x z y _ h2 hj
  have li := (List.getElem?_eq_some_iff.mp hj).1
  rw [List.drop_eq_getElem_cons li, (List.getElem?_eq_some_iff.mp hj).2] at h2
  obtain ⟨xs, w, e1, e2, e3⟩ := at_inv h2
  exact ⟨xs, w, e1, e2, e3⟩
theorem okAt {f : Addr} {fd : FuncData} {k : Nat} {N : Addr → Prop} (F : Fun K "_law_at" "_law_at" tAt f fd) : FnOk P w K mg base CX0 (k + 1) f fd ["_law_thing", "_law_spot"] (spAt N) := by
  refine F.ok scAt (fun vs H Q E h => ?_) (fun cdv A outer s H vs Q E hr h => ?_)
  · obtain ⟨v, x, a, p, z, rfl, _⟩ := h
    rfl
  obtain ⟨v, x, a, p, z, rfl, hd, ha, hz, q⟩ := h
  refine ⟨_, pss_cons (ps_for PassesOwn.never rfl (pi_tup (pv 1)) (pg_name (i := 2) scAt.nd rfl (.inl rfl))
      (pss_one (ps_set (i := 0) scAt.nd rfl (.inl rfl) (pe_ix ix_tup (pv 0) (pv 2) (fun _ _ => rfl)))))
    (pss_one (ps_ret (pv 0))), ?_⟩
  refine ⟨_, rfl, a, rfl, ⟨_, SqT.of ha⟩, for_tup (xs := iV p) (fun i σ G => ∃ u y y2, σ = [some u, some (.ref a), y2] ∧ G = H ∧ Dd N H y u ∧ y.at? (p.drop i) = some z) ⟨v, x, none, rfl, rfl, hd, hz⟩ (fun i σ G _ z => ?_) (fun i u0 σ G hx z => ?_) (fun σ G z => ?_)⟩
  · obtain ⟨_, _, _, _, rfl, _⟩ := z
    exact SqT.of ha
  · obtain ⟨u, y, y2, rfl, rfl, hy, hat⟩ := z
    obtain ⟨j, hj, rfl⟩ : ∃ j, p[i]? = some j ∧ u0 = .int (j : Int) := by
      unfold iV at hx
      rw [List.getElem?_map] at hx
      cases e : p[i]? with
      | none =>
        rw [e] at hx
        cases hx
      | some j =>
        rw [e] at hx
        exact ⟨j, rfl, (Option.some.inj hx).symm⟩
    have li := (List.getElem?_eq_some_iff.mp hj).1
    rw [List.drop_eq_getElem_cons li, (List.getElem?_eq_some_iff.mp hj).2] at hat
    obtain ⟨xs, y1, rfl, e2, e3⟩ := at_inv hat
    obtain ⟨b, ws, rfl, hb, hL⟩ := Dd.tupS hy
    obtain ⟨u1, eu, hu⟩ := hL.get' e2
    exact ⟨_, rfl, _, rfl, b, _, _, _, rfl, rfl, SqT.of hb, atI_nat eu, u1, y1, _, rfl, rfl, hu, e3⟩
  · obtain ⟨u, y, y2, rfl, rfl, hy, hat⟩ := z
    have el : (iV p).length = p.length := by simp [iV]
    rw [el, List.drop_length] at hat
    have e : y = z := Option.some.inj hat
    subst e
    exact ⟨_, rfl, q u hy⟩
/-! _law_spots -/
theorem scSpots : FnScope ["_law_thing", "_law_found", "_law_at_here", "_law_part", "_law_spot"] ["_law_thing"] (defScope tSpots) := ⟨rfl, rfl, rfl, by decide +kernel, rfl, by decide +kernel, by decide +kernel⟩
def spSpots (n : Nat) : Sp := fun vs H Q _ => ∃ (v : V) (x : Dt), vs = [v] ∧ x.dp + 1 ≤ n ∧ Dd Any H x v ∧ x.wt ≤ sizeLine ∧ ∀ (l : Addr) (us : List V) (G : Hp), Same H G → G l = some (.lst us) → us ≠ [] → us.length ≤ x.sz → (∀ u ∈ us, Pth G x u) → Q (.ref l) G
theorem okSpots1 {f : Addr} {fd : FuncData} {n : Nat} (F : Fun K "_law_spots" "_law_spots" tSpots f fd) (bF : Binds K fd ["_law_thing"] []) (gF : mg "_law_spots" = some (.ref f)) (mi : mg "isinstance" = none) (mt : mg "tuple" = none) (me : mg "enumerate" = none)
    (GI : FnOk P w K mg base CX0 (n + 1) f fd ["_law_thing"] (spSpots n)) : FnOk P w K mg base CX0 (n + 2) f fd ["_law_thing"] (spSpots (n + 1)) := by
  refine F.ok scSpots (fun vs H Q E h => ?_) (fun cdv A outer s H vs Q E hr h => ?_)
  · obtain ⟨v, x, rfl, _⟩ := h
    rfl
  obtain ⟨v, x, rfl, hn, hd, hw, q⟩ := h
  refine ⟨_, pss_cons (ps_set (i := 1) scSpots.nd rfl (.inl rfl) (pe_lst (pa_cons (pe_tup pa_nil) pa_nil)))
    (pss_cons (ps_if (pt_val (pe_callB (isiK K rfl) (by rfl) mi PyProof.Rows.boot_isinstance (pa_cons (pv 0) (pa_cons (pe_bltn (v := .ty "tuple") (by rfl) mt PyProof.Rows.boot_tuple rfl) pa_nil))))
      (pss_one (ps_for PassesOwn.never rfl (pi_enumT (by rfl) me (pa_cons (pv 0) pa_nil)) (pg_tup rfl (pgs_cons (pg_name (i := 2) scSpots.nd rfl (.inr rfl)) (pgs_cons (pg_name (i := 3) scSpots.nd rfl (.inl rfl)) pgs_nil)))
        (pss_one (ps_set (i := 1) scSpots.nd rfl (.inl rfl) (pe_op op_cat (pv 1) (pe_lc (own := [("_law_spot", 4)]) (g := gName 4) (by rfl) scSpots.nd (pi_list (pe_call GI hr (by rfl) gF F.kp bF .nil pass0 (pa_cons (pv 3) pa_nil))) (blkOk_by (own := [("_law_spot", 4)]) (N := ["_law_thing", "_law_found", "_law_at_here", "_law_part", "_law_spot"]) (sc := defScope tSpots) (by decide +kernel))
          (fun _ _ _ _ _ => pg_name (i := 4) scSpots.nd rfl (.inl rfl)) (fun _ _ _ _ _ => pts_nil) (fun _ _ _ _ _ => pe_op op_catU (pe_tup (pa_cons (pv 2) pa_nil)) (pv 4)))))))) pss_nil)
    (pss_one (ps_ret (pv 1)))), ?_⟩
  refine ⟨Nat.zero_le _, fun p0 np0 => ⟨(by show 1 ≤ sizeLine; decide), fun l0 nl0 => ?_⟩⟩
  have s0 : Same H (upd (upd H p0 (.tup [])) l0 (.lst [.ref p0])) := (newS np0).trans (newS nl0)
  have gl0 : (upd (upd H p0 (.tup [])) l0 (.lst [.ref p0])) l0 = some (.lst [.ref p0]) := upd_same
  have gp0 : (upd (upd H p0 (.tup [])) l0 (.lst [.ref p0])) p0 = some (.tup []) := newS nl0 _ _ upd_same
  generalize upd (upd H p0 (.tup [])) l0 (.lst [.ref p0]) = H0 at s0 gl0 gp0
  have pt0 : ∀ u ∈ [V.ref p0], Pth H0 x u := fun u hu => by
    rw [List.mem_singleton.mp hu]
    exact ⟨p0, [], x, rfl, gp0, by cases x <;> rfl⟩
  have hd0 := hd.same s0
  refine ⟨_, rfl, _, _, _, _, x.isTup, rfl, .ty "tuple", hd0.ty, kTup K x, _, rfl, ite2 (fun e => ?_) (fun e => ⟨_, rfl, q l0 _ H0 s0 gl0 (by simp) (by have := sz_pos x; simpa using this) pt0⟩)⟩
  obtain ⟨xs, rfl⟩ : ∃ xs, x = .tup xs := by
    cases x with
    | tup xs => exact ⟨xs, rfl⟩
    | _ => cases e
  obtain ⟨a, us, rfl, ha, hL⟩ := Dd.tupS hd0
  have ll := hL.len
  have hsz : (Dt.tup xs).sz = 1 + Dt.szs xs := by simp only [Dt.sz]
  have hdp : (Dt.tup xs).dp = Dt.dps xs + 1 := by simp only [Dt.dp]
  have hwt : (Dt.tup xs).wt = Dt.wts xs + 3 := by simp only [Dt.wt]
  have hsw := Dt.szs_wts xs
  refine ⟨_, rfl, a, us, rfl, SqT.of ha, for_it (walk_enumT (xs := us)) (fun i σ G => ∃ l y2 y3 zs, σ = [some (.ref a), some (.ref l), y2, y3, none] ∧ Same H0 G ∧ G l = some (.lst zs) ∧ zs ≠ [] ∧ zs.length ≤ 1 + Dt.szs (xs.take i) ∧ ∀ u ∈ zs, Pth G (.tup xs) u)
    ⟨l0, none, none, _, rfl, Same.refl H0, gl0, by simp, by simp [Dt.szs], pt0⟩ (fun i σ G _ z => ?_) (fun i v0 σ G G' hi z yy => ?_) (fun σ G z => ?_)⟩
  · obtain ⟨_, _, _, _, _, sG, _⟩ := z
    exact SqT.of (sG _ _ ha)
  · obtain ⟨l, y2, y3, zs, rfl, sG, gl, nz, lz, pz⟩ := z
    obtain ⟨T, x0, u0, rfl, nT, rfl, ex, hu0⟩ := yy
    obtain rfl : x0 = .int (i : Int) := (Option.some.inj ex).symm
    obtain ⟨y, hy, ry⟩ := hL.get hu0
    have my := List.mem_of_getElem? hy
    have d1 := dps_mem my
    have w1 := wts_mem my
    have s1 : Same H0 (upd G T (.tup [.int (i : Int), u0])) := sG.trans (newS nT)
    refine ⟨T, _, rfl, SqT.of upd_same, rfl, _, _, rfl, _, _, rfl, rfl, ?_⟩
    refine ⟨_, rfl, _, rfl, u0, y, rfl, by omega, (ry.same s1), by omega, fun l2 us2 G2 s2 gl2 nz2 lz2 pz2 => ⟨l2, rfl, ⟨_, SqL.of gl2⟩, fun D nD => ?_⟩⟩
    have s12 := (newS (o := .tup [.int (i : Int), u0]) nT).trans s2
    have l2D : l2 ≠ D := ne_of_none gl2 nD
    have glG2 := s12 _ _ gl
    have lD : l ≠ D := ne_of_none glG2 nD
    refine lc_list (xs := us2) (fun j F => Same G2 F ∧ F l2 = some (.lst us2) ∧ ∃ ws, F D = some (.lst ws) ∧ ws.length = j ∧ ∀ u ∈ ws, Pth F (.tup xs) u) ?_ (fun j F _ z => SqL.of z.2.1) (fun j u F hx z => ?_) (fun F z => ?_)
    · exact ⟨newS nD, by rw [upd_ne l2D]; exact gl2, [], upd_same, rfl, fun u hu => (nomatch hu)⟩
    · obtain ⟨sF, gF, ws, gD, lw, pw⟩ := z
      obtain ⟨b, p, z, rfl, gb, hz⟩ := pz2 _ (List.mem_of_getElem? hx)
      have lp := at_len hz
      refine ⟨rfl, _, rfl, (by show 1 ≤ sizeLine; decide), fun t nt => ⟨_, rfl, t, b, _, _, rfl, rfl, upd_same, newS nt _ _ (sF _ _ gb), ?_, fun p2 F2 s3 g2 => ?_⟩⟩
      · have : sizeLine = 16777216 := rfl
        have hd1 := Dt.dp_wt y
        simp only [iV, List.length_map, List.length_singleton]
        omega
      have s4 : Same F F2 := (newS (o := .tup [.int (i : Int)]) nt).trans s3
      have gD2 := s4 _ _ gD
      have k5 : Tk F (upd F2 D (.lst (ws ++ [.ref p2]))) := (Tk.of s4).put (fun _ z => by rw [gD] at z; cases z)
      have k6 : Tk F2 (upd F2 D (.lst (ws ++ [.ref p2]))) := Tk.rfl.put (fun _ z => by rw [gD2] at z; cases z)
      have lu := (List.getElem?_eq_some_iff.mp hx).1
      refine ⟨ws, gD2, ?_, smk (sF.trans s4) nD, by rw [upd_ne l2D]; exact s4 _ _ gF, _, upd_same, ?_, fun u hu => ?_⟩
      · have : sizeLine = 16777216 := rfl
        have h1 := sz_mem my
        omega
      · rw [List.length_append, List.length_singleton, lw]
      · rcases List.mem_append.mp hu with h | h
        · exact (pw u h).tk k5
        · rw [List.mem_singleton.mp h]
          exact ⟨p2, i :: p, z, rfl, k6 _ _ g2, by rw [at_tup _ _ _ _ hy]; exact hz⟩
    · obtain ⟨sF, gF, ws, gD, lw, pw⟩ := z
      have e1 : Dt.szs (xs.take (i + 1)) = Dt.szs (xs.take i) + y.sz := by
        rw [List.take_add_one, hy, szs_app]
        simp only [Option.toList, Dt.szs, Nat.add_zero]
      have e2 : Dt.szs (xs.take (i + 1)) ≤ Dt.szs xs := by
        have z := szs_app (xs.take (i + 1)) (xs.drop (i + 1))
        rw [List.take_append_drop] at z
        omega
      refine ⟨l, D, _, _, rfl, rfl, sF _ _ glG2, gD, ?_, fun l3 n3 => ?_⟩
      · have : sizeLine = 16777216 := rfl
        omega
      refine ⟨l3, _, _, zs ++ ws, rfl, ((sG.trans s12).trans sF).trans (newS n3), upd_same, by simp [nz], ?_, fun u hu => ?_⟩
      · rw [List.length_append]
        omega
      · rcases List.mem_append.mp hu with h | h
        · exact (pz u h).tk (((Tk.of s12).trans (Tk.of sF)).trans (Tk.of (newS n3)))
        · exact (pw u h).tk (Tk.of (newS n3))
  · obtain ⟨l, y2, y3, zs, rfl, sG, gl, nz, lz, pz⟩ := z
    rw [← ll, List.take_length] at lz
    exact ⟨_, rfl, q l zs G (s0.trans sG) gl nz (by omega) pz⟩
theorem okSpots {f : Addr} {fd : FuncData} (F : Fun K "_law_spots" "_law_spots" tSpots f fd) (bF : Binds K fd ["_law_thing"] []) (gF : mg "_law_spots" = some (.ref f)) (mi : mg "isinstance" = none) (mt : mg "tuple" = none) (me : mg "enumerate" = none) : ∀ n, FnOk P w K mg base CX0 (n + 1) f fd ["_law_thing"] (spSpots n)
  | 0 => noFn fun vs H Q E h => by
    obtain ⟨v, x, _, hn, _⟩ := h
    omega
  | n + 1 => okSpots1 F bF gF mi mt me (okSpots F bF gF mi mt me n)
end
end Kq

namespace Kq
open PySem PySem.Spec PyProof.Rows L2 Kf Kg Kv GxR
abbrev psWith : List Str := ["_law_thing", "_law_spot", "_law_part"]
theorem split3 {α : Type} {xs : List α} {i : Nat} {w : α} (h : xs[i]? = some w) : xs = xs.take i ++ [w] ++ xs.drop (i + 1) := by
  have li := (List.getElem?_eq_some_iff.mp h).1
  have e := List.take_append_drop i xs
  rw [List.drop_eq_getElem_cons li, (List.getElem?_eq_some_iff.mp h).2] at e
  rw [List.append_assoc]
  exact e.symm
/-- no greater than x and y together -/
structure Upto (x y z : Dt) : Prop where
  wt : z.wt ≤ x.wt + y.wt
  dp : z.dp ≤ x.dp + y.dp
  ok : ∀ B, x.fine B → y.fine B → z.fine B
theorem upto_tup {xs : List Dt} {i : Nat} {w y z : Dt} (h : xs[i]? = some w) (u : Upto w y z) : Upto (.tup xs) y (.tup (xs.take i ++ [z] ++ xs.drop (i + 1))) := by
  have e := split3 h
  have e1 : Dt.wts xs = Dt.wts (xs.take i) + (w.wt + 2) + Dt.wts (xs.drop (i + 1)) := by
    conv => lhs; rw [e]
    rw [wts_app, wts_app, wts1]
  have e2 : Dt.dps xs = max (max (Dt.dps (xs.take i)) w.dp) (Dt.dps (xs.drop (i + 1))) := by
    conv => lhs; rw [e]
    rw [dps_app, dps_app]
    simp only [Dt.dps]
    omega
  have e3 : ∀ B, Dt.fines B xs ↔ (Dt.fines B (xs.take i) ∧ w.fine B) ∧ Dt.fines B (xs.drop (i + 1)) := fun B => by
    conv => lhs; rw [e]
    rw [fines_app, fines_app]
    simp only [Dt.fines, and_true]
  obtain ⟨u1, u2, u3⟩ := u
  refine ⟨?_, ?_, fun B f1 f2 => ?_⟩
  · simp only [Dt.wt]
    rw [wts_app, wts_app, wts1]
    omega
  · simp only [Dt.dp]
    rw [dps_app, dps_app, e2]
    simp only [Dt.dps]
    omega
  · have f1 : Dt.fines B xs := by simpa only [Dt.fine] using f1
    obtain ⟨⟨g1, g2⟩, g3⟩ := (e3 B).mp f1
    simp only [Dt.fine]
    rw [fines_app, fines_app]
    simp only [Dt.fines, and_true]
    exact ⟨⟨g1, u3 B g2 f2⟩, g3⟩
section
variable {P : Program} {w : World} {K : PySem.W.Frag} {mg : Str → Option Value} {base : Heap}
theorem scWith : FnScope ["_law_thing", "_law_spot", "_law_part", "_law_at_here"] psWith (defScope tWith) := ⟨rfl, rfl, rfl, by decide +kernel, rfl, by decide +kernel, by decide +kernel⟩
def spWith (N : Addr → Prop) (n : Nat) : Sp := fun vs H Q _ => ∃ (v u : V) (x y z : Dt) (a : Addr) (p : List Nat), vs = [v, .ref a, u] ∧ p.length + 1 ≤ n ∧ Dd N H x v ∧ H a = some (.tup (iV p)) ∧ x.at? p = some z ∧ Dd N H y u ∧ x.wt + y.wt ≤ sizeLine ∧ ∀ (r : V) (x' : Dt) (G : Hp), Same H G → Dd N G x' r → Upto x y x' → Q r G
theorem okWith1 {f : Addr} {fd : FuncData} {n : Nat} {N : Addr → Prop} (F : Fun K "_law_with" "_law_with" tWith f fd) (bF : Binds K fd psWith []) (gF : mg "_law_with" = some (.ref f))
    (GI : FnOk P w K mg base CX0 (n + 1) f fd psWith (spWith N n)) : FnOk P w K mg base CX0 (n + 2) f fd psWith (spWith N (n + 1)) := by
  refine F.ok scWith (fun vs H Q E h => ?_) (fun cdv A outer s H vs Q E hr h => ?_)
  · obtain ⟨v, u, x, y, z, a, p, rfl, _⟩ := h
    rfl
  obtain ⟨v, u, x, y, z, a, p, rfl, hn, hd, ha, hz, hy, hw, q⟩ := h
  refine ⟨_, pss_cons (ps_if (pt_cmpR (op_eqTT hr.units) (pv 1) (pe_tup pa_nil) (nomark _)) (pss_one (ps_ret (pv 2))) pss_nil)
    (pss_cons (ps_set (i := 3) scWith.nd rfl (.inl rfl) (pe_ix ix_tup (pv 1) pe_int (fun _ _ => rfl)))
    (pss_one (ps_ret (pe_op op_catU (pe_op op_catU (pe_slice sl_tupU (pv 0) po_none (po_some (pv 3)))
      (pe_tup (pa_cons (pe_call GI hr (by rfl) gF F.kp bF .nil pass0 (pa_cons (pe_ix ix_tup (pv 0) (pv 3) (fun _ _ => rfl)) (pa_cons (pe_slice sl_tupU (pv 1) (po_some pe_int) po_none) (pa_cons (pv 2) pa_nil)))) pa_nil)))
      (pe_slice sl_tupU (pv 0) (po_some (pe_op op_add (pv 3) pe_int)) po_none))))), ?_⟩
  refine ⟨_, rfl, Nat.zero_le _, fun p0 np0 => ?_⟩
  have s0 : Same H (upd H p0 (.tup [])) := newS np0
  refine ⟨a, p0, _, [], rfl, rfl, SqT.of (s0 _ _ ha), SqT.of upd_same, (fun i u v _ z => by cases z), _, rfl, ite2 (fun e => ?_) (fun e => ?_)⟩
  · exact ⟨_, rfl, q u y _ s0 (hy.same s0) ⟨by omega, by omega, fun _ _ f => f⟩⟩
  generalize upd H p0 (.tup []) = H0 at s0
  cases p with
  | nil => exact absurd (decide_eq_true rfl) e
  | cons i p =>
    obtain ⟨xs, x1, rfl, hx1, hat⟩ := at_inv hz
    obtain ⟨b, us, rfl, hb, hL⟩ := Dd.tupS (hd.same s0)
    obtain ⟨u1, eu1, hu1⟩ := hL.get' hx1
    have ha0 := s0 _ _ ha
    have hwt : (Dt.tup xs).wt = Dt.wts xs + 3 := by simp only [Dt.wt]
    have w1 := wts_mem (List.mem_of_getElem? hx1)
    have ll := hL.len
    have l1 := len_szs xs
    have l2 := Dt.szs_wts xs
    have li := (List.getElem?_eq_some_iff.mp eu1).1
    rw [List.length_cons] at hn
    refine ⟨_, rfl, a, _, _, _, rfl, rfl, SqT.of ha0, atI_nat (j := 0) rfl, ?_⟩
    refine ⟨_, rfl, _, rfl, _, rfl, b, us, rfl, hb, fun p1 G1 s1 g1 => ?_⟩
    rw [cut_take] at g1
    refine ⟨_, rfl, _, rfl, b, _, _, _, rfl, rfl, SqT.of (s1 _ _ hb), atI_nat eu1, _, rfl, 1, rfl, a, _, rfl, s1 _ _ ha0, fun p2 G2 s2 g2 => ?_⟩
    have e3 : cutV (iV (i :: p)) (some 1) none = iV p := cutFrom1 _ _
    rw [e3] at g2
    have s12 := s1.trans s2
    refine ⟨_, rfl, u1, u, x1, y, z, p2, p, rfl, by omega, hu1.same s12, g2, hat, (hy.same s0).same s12, by omega, fun r x' G3 s3 hx' up => ?_⟩
    have e0 : sizeLine = 16777216 := rfl
    refine ⟨(by show 1 ≤ sizeLine; decide), fun p3 np3 => ?_⟩
    have s4 : Same G3 (upd G3 p3 (.tup [r])) := newS np3
    have s24 : Same G1 (upd G3 p3 (.tup [r])) := (s2.trans s3).trans s4
    refine ⟨p1, p3, _, _, rfl, rfl, s24 _ _ g1, upd_same, ?_, fun p4 G4 s5 g4 => ?_⟩
    · rw [List.length_take, List.length_singleton]
      omega
    have s15 : Same H0 G4 := (s1.trans s24).trans s5
    refine ⟨_, rfl, _, rfl, (i : Int), 1, rfl, rfl, (i : Int) + 1, rfl, b, us, rfl, s15 _ _ hb, fun p5 G5 s6 g5 => ?_⟩
    have e4 : cutV us (some ((i : Int) + 1)) none = us.drop (i + 1) := cut_drop us (i + 1)
    rw [e4] at g5
    refine ⟨p4, p5, _, _, rfl, rfl, s6 _ _ g4, g5, ?_, fun p6 G6 s7 g6 => ?_⟩
    · rw [List.length_append, List.length_take, List.length_singleton, List.length_drop]
      omega
    have s67 := s6.trans s7
    have s17 : Same H0 G6 := s15.trans s67
    have s37 : Same G3 G6 := (s4.trans s5).trans s67
    have hL' := hL.same s17
    refine q (.ref p6) (.tup (xs.take i ++ [x'] ++ xs.drop (i + 1))) G6 (s0.trans s17) (.tup g6 (((hL'.take i).app (.cons (hx'.same s37) .nil)).app (hL'.drop (i + 1)))) (upto_tup hx1 up)
theorem okWith {f : Addr} {fd : FuncData} {N : Addr → Prop} (F : Fun K "_law_with" "_law_with" tWith f fd) (bF : Binds K fd psWith []) (gF : mg "_law_with" = some (.ref f)) : ∀ n, FnOk P w K mg base CX0 (n + 1) f fd psWith (spWith N n)
  | 0 => noFn fun vs H Q E h => by
    obtain ⟨v, u, x, y, z, a, p, _, hn, _⟩ := h
    omega
  | n + 1 => okWith1 F bF gF (okWith F bF gF n)
end
end Kq

namespace Kq
open PySem PySem.Spec PyProof.Rows L2 Kf Kg Kv GxR
abbrev tBent : Stmt := tp 52
theorem okS.app {x y : Str} (h : okS x) (k : okS y) : okS (x ++ y) := fun c hc => by
  rw [app_cps] at hc
  rcases List.mem_append.mp hc with z | z
  · exact h c z
  · exact k c z
theorem okS.cut {x : Str} (h : okS x) (lo hi : Option Int) : okS (cutS x lo hi) := fun c hc => by
  have hc : c ∈ (x.cps.toList.drop (HT.sIx x.length 0 lo)).take (HT.sIx x.length x.length hi - HT.sIx x.length 0 lo) := by simpa [cutS] using hc
  exact h c (List.mem_of_mem_drop (List.mem_of_mem_take hc))
theorem app_len (x y : Str) : (x ++ y).length = x.length + y.length := by
  rw [← len_cps, ← len_cps, ← len_cps, app_cps, List.length_append]
section
variable {P : Program} {w : World} {K : PySem.W.Frag} {mg : Str → Option Value} {base : Heap}
theorem scBent : FnScope ["_law_text", "_law_what", "_law_at_here", "_law_sign", "_law_way"] ["_law_text", "_law_what"] (defScope tBent) := ⟨rfl, rfl, rfl, by decide +kernel, rfl, by decide +kernel, by decide +kernel⟩
def spBent : Sp := fun vs H Q _ => ∃ (z : Str) (m : Int), vs = [.str z, .int m] ∧ 0 ≤ m ∧ z.length * 9 + 10 ≤ sizeLine ∧ okS z ∧ ∀ (y : Str) (G : Hp), Same H G → y.length ≤ 9 * z.length + 1 → okS y → Q (.str y) G
theorem sign_at {i : Int} (h0 : 0 ≤ i) (h1 : i < 8) : ∃ c, atI ("abkz Z9-" : Str).cps.toList i = some c ∧ c < 16 ^ 8 := by
  have er : i = 0 ∨ i = 1 ∨ i = 2 ∨ i = 3 ∨ i = 4 ∨ i = 5 ∨ i = 6 ∨ i = 7 := by omega
  rcases er with rfl | rfl | rfl | rfl | rfl | rfl | rfl | rfl
  · exact ⟨97, by decide +kernel, by decide⟩
  · exact ⟨98, by decide +kernel, by decide⟩
  · exact ⟨107, by decide +kernel, by decide⟩
  · exact ⟨122, by decide +kernel, by decide⟩
  · exact ⟨32, by decide +kernel, by decide⟩
  · exact ⟨90, by decide +kernel, by decide⟩
  · exact ⟨57, by decide +kernel, by decide⟩
  · exact ⟨45, by decide +kernel, by decide⟩
theorem okBent {f : Addr} {fd : FuncData} {k : Nat} (F : Fun K "_law_text_bent" "_law_text_bent" tBent f fd) (ml : mg "len" = none) : FnOk P w K mg base CX0 (k + 1) f fd ["_law_text", "_law_what"] spBent := by
  refine F.ok scBent (fun vs H Q E h => ?_) (fun cdv A outer s H vs Q E hr h => ?_)
  · obtain ⟨z, m, rfl, _⟩ := h
    rfl
  obtain ⟨z, m, rfl, hm, hz, oz, q⟩ := h
  refine ⟨_, pss_cons (ps_set (i := 2) scBent.nd rfl (.inl rfl) (pe_op op_mod (pv 1) (pe_op op_add (pe_callB call_len_str (by rfl) ml PySem.boot_len (pa_cons (pv 0) pa_nil)) pe_int)))
    (pss_cons (ps_set (i := 3) scBent.nd rfl (.inl rfl) (pe_ix ix_str pe_str (pe_op op_mod (pe_op op_fdiv (pv 1) pe_int) pe_int) (fun _ _ => rfl)))
    (pss_cons (ps_set (i := 4) scBent.nd rfl (.inl rfl) (pe_op op_mod (pe_op op_fdiv (pv 1) pe_int) pe_int))
    (pss_cons (ps_if (pt_cmpR op_eq (pv 4) pe_int (nomark _)) (pss_one (ps_ret (pe_op op_mulS (pv 0) pe_int))) pss_nil)
    (pss_one (ps_ret (pe_op op_add_str (pe_op op_add_str (pe_slice sl_str (pv 0) po_none (po_some (pv 2))) (pe_ix ix_list (pe_lst (pa_cons pe_str (pa_cons (pv 3) (pa_cons (pv 3) pa_nil)))) (pv 4) (fun _ _ => rfl)))
      (pe_slice sl_str (pv 0) (po_some (pe_op op_add (pv 2) (pe_ix ix_list (pe_lst (pa_cons pe_int (pa_cons pe_int (pa_cons pe_int pa_nil)))) (pv 4) (fun _ _ => rfl)))) po_none))))))), ?_⟩
  have e0 : sizeLine = 16777216 := rfl
  have m0 : (0 : Int) ≤ m / 97 % 8 := Int.emod_nonneg _ (by decide)
  have m1 : m / 97 % 8 < 8 := Int.emod_lt_of_pos _ (by decide)
  have n0 : (0 : Int) ≤ m / 1009 % 4 := Int.emod_nonneg _ (by decide)
  have n1 : m / 1009 % 4 < 4 := Int.emod_lt_of_pos _ (by decide)
  obtain ⟨c, hc, oc⟩ := sign_at m0 m1
  refine ⟨_, rfl, _, rfl, z, rfl, by omega, _, _, rfl, rfl, _, _, rfl, rfl, (by show (0 : Int) < (z.length : Int) + 1; omega), ?_⟩
  refine ⟨_, rfl, _, _, rfl, rfl, ⟨by decide, by decide⟩, _, _, rfl, rfl, (by show (0 : Int) < 8; decide), _, _, c, rfl, rfl, (by decide +kernel), hc, ?_⟩
  refine ⟨_, rfl, _, _, rfl, rfl, ⟨by decide, by decide⟩, _, _, rfl, rfl, (by show (0 : Int) < 4; decide), ?_⟩
  refine ⟨_, rfl, rfl, _, rfl, ite2 (fun e => ?_) (fun e => ?_)⟩
  · refine ⟨_, rfl, z, 9, rfl, rfl, by decide, by omega, by omega, ?_⟩
    obtain ⟨k1, k2⟩ := mul_cps z 9
    refine q _ _ (Same.refl H) ?_ fun c hc => oz c (k1 c hc)
    rw [len_cps, len_cps] at k2
    omega
  have e1 : ¬ m / 1009 % 4 = 3 := fun z => e (decide_eq_true (congrArg V.int z))
  obtain ⟨y, hy, ly, oy⟩ : ∃ y : Str, atI [V.str "", V.str ⟨#[c]⟩, V.str ⟨#[c]⟩] (m / 1009 % 4) = some (.str y) ∧ y.length ≤ 1 ∧ okS y := by
    have oc1 : okS ⟨#[c]⟩ := fun d hd => by
      have : d = c := by simpa using hd
      rw [this]
      exact oc
    have er : m / 1009 % 4 = 0 ∨ m / 1009 % 4 = 1 ∨ m / 1009 % 4 = 2 := by omega
    rcases er with e | e | e
    · rw [e]
      exact ⟨"", rfl, by decide +kernel, fun d hd => by
        have e : ("" : Str).cps.toList = [] := by decide +kernel
        rw [e] at hd
        cases hd⟩
    · rw [e]
      exact ⟨_, rfl, Nat.le_refl _, oc1⟩
    · rw [e]
      exact ⟨_, rfl, Nat.le_refl _, oc1⟩
  obtain ⟨j, hj⟩ : ∃ j : Int, atI [V.int 1, V.int 0, V.int 1] (m / 1009 % 4) = some (.int j) := by
    have er : m / 1009 % 4 = 0 ∨ m / 1009 % 4 = 1 ∨ m / 1009 % 4 = 2 := by omega
    rcases er with e | e | e
    · rw [e]
      exact ⟨1, rfl⟩
    · rw [e]
      exact ⟨0, rfl⟩
    · rw [e]
      exact ⟨1, rfl⟩
  refine ⟨_, rfl, _, rfl, _, rfl, z, rfl, by omega, ?_⟩
  have c1 := cutS_length z none (some (m % ((z.length : Int) + 1)))
  refine ⟨_, rfl, _, rfl, (by show 3 ≤ sizeLine; decide), fun l nl => ⟨_, rfl, l, _, _, _, rfl, rfl, SqL.of upd_same, hy, _, _, rfl, rfl, by omega, ?_⟩⟩
  refine ⟨_, rfl, _, rfl, (by show 3 ≤ sizeLine; decide), fun l2 nl2 => ⟨_, rfl, l2, _, _, _, rfl, rfl, SqL.of upd_same, hj, _, _, rfl, rfl, _, rfl, z, rfl, by omega, ?_⟩⟩
  have c2 := cutS_length z (some (m % ((z.length : Int) + 1) + j)) none
  refine ⟨_, _, rfl, rfl, ?_, q _ _ ((newS nl).trans (newS nl2)) ?_ ((oz.cut _ _).app oy |>.app (oz.cut _ _))⟩
  · rw [app_len]
    omega
  · rw [app_len, app_len]
    by_cases h0 : z.length = 0
    · omega
    · omega
end
end Kq

namespace Kq
open PySem PySem.Spec PyProof.Rows L2 Kf Kg Kv GxR
abbrev tSpoilt : Stmt := tp 53
abbrev psSpoilt : List Str := ["_law_thing", "_law_way", "_law_where", "_law_what"]
theorem at_le : ∀ {p : List Nat} {x z : Dt}, x.at? p = some z → z.wt ≤ x.wt ∧ z.dp ≤ x.dp ∧ (∀ B, x.fine B → z.fine B)
  | [], x, z, h => by
    have e : x = z := by cases x <;> exact Option.some.inj h
    subst e
    exact ⟨Nat.le_refl _, Nat.le_refl _, fun _ f => f⟩
  | i :: p, x, z, h => by
    obtain ⟨xs, y, rfl, e, h2⟩ := at_inv h
    obtain ⟨a, b, c⟩ := at_le h2
    have m := List.mem_of_getElem? e
    have d1 := dps_mem m
    have w1 := wts_mem m
    refine ⟨by simp only [Dt.wt]; omega, by simp only [Dt.dp]; omega, fun B f => c B ?_⟩
    have f : Dt.fines B xs := by simpa only [Dt.fine] using f
    rw [split3 e, fines_app, fines_app] at f
    have := f.1.2
    simp only [Dt.fines, and_true] at this
    exact this
theorem fines_mem {B : Nat} : ∀ {xs ys : List Dt}, (∀ x ∈ ys, x ∈ xs) → Dt.fines B xs → Dt.fines B ys
  | xs, [], _, _ => by simp only [Dt.fines]
  | xs, y :: ys, h, f => by
    simp only [Dt.fines]
    refine ⟨?_, fines_mem (fun x hx => h x (List.mem_cons_of_mem _ hx)) f⟩
    obtain ⟨i, hi, e⟩ := List.getElem_of_mem (h y List.mem_cons_self)
    have e2 : xs[i]? = some y := by rw [List.getElem?_eq_getElem hi, e]
    rw [split3 e2, fines_app, fines_app] at f
    have := f.1.2
    simp only [Dt.fines, and_true] at this
    exact this
theorem wts_take (xs : List Dt) (n : Nat) : Dt.wts (xs.take n) + Dt.wts (xs.drop n) = Dt.wts xs := by
  rw [← wts_app, List.take_append_drop]
theorem wts_rev : ∀ xs : List Dt, Dt.wts xs.reverse = Dt.wts xs
  | [] => rfl
  | x :: xs => by
    rw [List.reverse_cons, wts_app, wts_rev xs, wts1]
    simp only [Dt.wts]
    omega
/-- ys are things among xs, together no more than twice as great -/
structure Bnt (xs ys : List Dt) : Prop where
  mem : ∀ y ∈ ys, y ∈ xs
  wt : Dt.wts ys ≤ 2 * Dt.wts xs
theorem bnt1 (xs : List Dt) (i : Nat) : Bnt xs (xs.take i ++ xs.drop (i + 1)) := by
  refine ⟨fun y hy => ?_, ?_⟩
  · rcases List.mem_append.mp hy with h | h
    · exact List.mem_of_mem_take h
    · exact List.mem_of_mem_drop h
  · rw [wts_app]
    have h1 := wts_take xs i
    have h2 := wts_take xs (i + 1)
    omega
theorem bnt2 (xs : List Dt) (i : Nat) : Bnt xs (xs.take i ++ (xs.drop i).take (i + 1 - i) ++ xs.drop i) := by
  refine ⟨fun y hy => ?_, ?_⟩
  · rcases List.mem_append.mp hy with h | h
    · rcases List.mem_append.mp h with h | h
      · exact List.mem_of_mem_take h
      · exact List.mem_of_mem_drop (List.mem_of_mem_take h)
    · exact List.mem_of_mem_drop h
  · rw [wts_app, wts_app]
    have h1 := wts_take xs i
    have h2 := wts_take (xs.drop i) (i + 1 - i)
    omega
theorem bnt3 (xs : List Dt) : Bnt xs xs.reverse := ⟨fun y hy => List.mem_reverse.mp hy, by rw [wts_rev]; omega⟩
theorem bnt4 (xs : List Dt) : Bnt xs xs := ⟨fun y hy => hy, by omega⟩
/-- what may be put in the stead of a part -/
structure Std (x y : Dt) : Prop where
  wt : y.wt ≤ 9 * x.wt + 600
  dp : y.dp ≤ x.dp + 2
  ok : ∀ B, 10 ^ 39 < B → x.fine B → y.fine (B + 1000000000001)
theorem std_bnt {xs ys : List Dt} (b : Bnt xs ys) : Std (.tup xs) (.tup ys) ∧ Std (.tup xs) (.lst ys) := by
  have h1 : Dt.dps ys ≤ Dt.dps xs := dps_le fun y hy => dps_mem (b.mem y hy)
  have h2 := b.wt
  refine ⟨⟨?_, ?_, fun B _ f => Dt.fine_up (Nat.le_add_right _ _) ?_⟩, ⟨?_, ?_, fun B _ f => Dt.fine_up (Nat.le_add_right _ _) ?_⟩⟩
  · simp only [Dt.wt]; omega
  · simp only [Dt.dp]; omega
  · simp only [Dt.fine] at f ⊢
    exact fines_mem b.mem f
  · simp only [Dt.wt]; omega
  · simp only [Dt.dp]; omega
  · simp only [Dt.fine] at f ⊢
    exact fines_mem b.mem f
theorem std_str {x : Dt} {y : Str} (h : y.length ≤ 9 * (x.wt / 10) + 8) (o : okS y) : Std x (.str y) := by
  refine ⟨?_, ?_, fun _ _ _ => ?_⟩
  · simp only [Dt.wt]; omega
  · simp only [Dt.dp]; omega
  · simp only [Dt.fine]
    exact o
end Kq

namespace Kq
open PySem PySem.Spec PyProof.Rows L2 Kf Kg Kv GxR
abbrev nSpoilt : List Str := ["_law_thing", "_law_way", "_law_where", "_law_what", "_law_spots_here", "_law_spot", "_law_part", "_law_some", "_law_more", "_law_words", "_law_at_here", "_law_bent"]
structure Spl (x y : Dt) : Prop where
  wt : y.wt ≤ 10 * x.wt + 600
  dp : y.dp ≤ 2 * x.dp + 2
  ok : ∀ B, 10 ^ 39 < B → x.fine B → y.fine (B + 1000000000001)
theorem spl_of {x y z r : Dt} {p : List Nat} (h : x.at? p = some z) (s : Std z y) (u : Upto x y r) : Spl x r := by
  obtain ⟨a, b, c⟩ := at_le h
  obtain ⟨s1, s2, s3⟩ := s
  obtain ⟨u1, u2, u3⟩ := u
  exact ⟨by omega, by omega, fun B hB f => u3 _ (Dt.fine_up (Nat.le_add_right _ _) f) (s3 B hB (c B f))⟩
/-- the twenty others -/
def some20 (z : Dt) : List Dt := [.non, .bl true, .bl false, .int 0, .int 1, .int (-1), .tup [], .lst [], .emp, .str "", .str "thing", .tup [z], .lst [z], .tup [.str "list", .tup []], .tup [.str "left", z]] ++ [.tup [.str "thing", .str "a", .int 0], .tup [.str "pair", z, z], .tup [.str "right", z], .tup [.str "fault"], .tup [.str "table", .tup []]]
theorem std20 (z : Dt) : ∀ y ∈ some20 z, Std z y := by
  obtain ⟨l1, l2, l3, l4, l5⟩ := wl
  obtain ⟨o1, o2, o3, o4, o5⟩ := wo
  have o6 : okS "fault" := okLit (by decide +kernel)
  have o7 : okS "table" := okLit (by decide +kernel)
  have o8 : okS "a" := okLit (by decide +kernel)
  have o9 : okS "" := okLit (by decide +kernel)
  have l6 : ("fault" : Str).length = 5 := by decide +kernel
  have l7 : ("table" : Str).length = 5 := by decide +kernel
  have l8 : ("a" : Str).length = 1 := by decide +kernel
  have l9 : ("" : Str).length = 0 := by decide +kernel
  intro y hy
  simp only [some20, List.cons_append, List.nil_append, List.mem_cons, List.not_mem_nil, or_false] at hy
  rcases hy with rfl | rfl | rfl | rfl | rfl | rfl | rfl | rfl | rfl | rfl | rfl | rfl | rfl | rfl | rfl | rfl | rfl | rfl | rfl | rfl <;>
    refine ⟨by simp only [Dt.wt, Dt.wts, l1, l2, l3, l4, l5, l6, l7, l8, l9]; omega, by simp only [Dt.dp, Dt.dps]; omega, fun B hB f => ?_⟩ <;>
    (have f' := Dt.fine_up (Nat.le_add_right B 1000000000001) f) <;>
    simp only [Dt.fine, Dt.fines, and_true, true_and] <;> first | trivial | exact f' | exact o1 | exact o9 | exact o6 | exact o5 | exact o7 | exact ⟨o3, f'⟩ | exact ⟨o4, f'⟩ | exact ⟨o2, f', f'⟩ | (refine ⟨o1, o8, ?_⟩; omega) | omega
theorem std_int {z : Dt} {i : Int} (h : ∀ B, 10 ^ 39 < B → z.fine B → i.natAbs < B + 1000000000001) : Std z (.int i) := by
  refine ⟨by simp only [Dt.wt]; omega, by simp only [Dt.dp]; omega, fun B hB f => ?_⟩
  simp only [Dt.fine]
  exact h B hB f
theorem std_bl {z : Dt} {b : Bool} : Std z (.bl b) := ⟨by simp only [Dt.wt]; omega, by simp only [Dt.dp]; omega, fun B _ _ => by simp only [Dt.fine]⟩
theorem std_st {z : Dt} {y : Str} (h : y.length ≤ 50) (o : okS y) : Std z (.str y) := ⟨by simp only [Dt.wt]; omega, by simp only [Dt.dp]; omega, fun B _ _ => by simp only [Dt.fine]; exact o⟩
theorem int_nu {N : Addr → Prop} {H : Hp} {z : Dt} {u : V} (hd : Dd N H z u) (h : z.isInt = true) : ∃ i, nu u = some i ∧ ∀ B, 10 ^ 39 < B → z.fine B → i.natAbs < B := by
  cases hd with
  | bl b =>
    refine ⟨_, rfl, fun B hB _ => ?_⟩
    cases b
    · show (0 : Nat) < B
      omega
    · show (1 : Nat) < B
      omega
  | int i =>
    refine ⟨i, rfl, fun B _ f => ?_⟩
    simp only [Dt.fine] at f
    exact f
  | _ => cases h
section
variable {P : Program} {w : World} {K : PySem.W.Frag} {mg : Str → Option Value} {base : Heap}
theorem scSpoilt : FnScope nSpoilt psSpoilt (defScope tSpoilt) := ⟨rfl, rfl, rfl, by decide +kernel, rfl, by decide +kernel, by decide +kernel⟩
def spSpoilt (N : Addr → Prop) : Sp := fun vs H Q _ => ∃ (v : V) (x : Dt) (way wh wt : Int) (B : Nat), vs = [v, .int way, .int wh, .int wt] ∧ Dd N H x v ∧ 0 ≤ wh ∧ 0 ≤ wt ∧ (∀ b, H b = none → N b) ∧ x.dp + 1 ≤ 70 ∧ 10 * x.wt + 600 ≤ sizeLine ∧ 10 ^ 39 < B ∧ B ≤ 10 ^ 45 ∧ x.fine B ∧ ∀ (r : V) (y : Dt) (G : Hp), Same H G → Dd N G y r → Spl x y → Q r G
theorem okSpoilt {f fS fA fW fB : Addr} {fd fdS fdA fdW fdB : FuncData} {k : Nat} {N : Addr → Prop} (F : Fun K "_law_spoilt" "_law_spoilt" tSpoilt f fd)
    (GS : FnOk P w K mg base CX0 (k + 71) fS fdS ["_law_thing"] (spSpots 70)) (bS : Binds K fdS ["_law_thing"] []) (gS : mg "_law_spots" = some (.ref fS)) (kS : PySem.W.keepIn K (.ref fS) = true)
    (GA : FnOk P w K mg base CX0 (k + 71) fA fdA ["_law_thing", "_law_spot"] (spAt N)) (bA : Binds K fdA ["_law_thing", "_law_spot"] []) (gA : mg "_law_at" = some (.ref fA)) (kA : PySem.W.keepIn K (.ref fA) = true)
    (GW : FnOk P w K mg base CX0 (k + 71) fW fdW psWith (spWith N 70)) (bW : Binds K fdW psWith []) (gW : mg "_law_with" = some (.ref fW)) (kW : PySem.W.keepIn K (.ref fW) = true)
    (GB : FnOk P w K mg base CX0 (k + 71) fB fdB ["_law_text", "_law_what"] spBent) (bB : Binds K fdB ["_law_text", "_law_what"] []) (gB : mg "_law_text_bent" = some (.ref fB)) (kB : PySem.W.keepIn K (.ref fB) = true)
    (mi : mg "isinstance" = none) (mt : mg "tuple" = none) (ms : mg "str" = none) (ml : mg "len" = none) (mL : mg "list" = none) (mn : mg "int" = none) : FnOk P w K mg base CX0 (k + 72) f fd psSpoilt (spSpoilt N) := by
  refine F.ok scSpoilt (fun vs H Q E h => ?_) (fun cdv A outer s H vs Q E hr h => ?_)
  · obtain ⟨v, x, way, wh, wt, B, rfl, _⟩ := h
    rfl
  obtain ⟨v, x, way, wh, wt, B, rfl, hd, hwh, hwt, hN, hdp, hw, hB, hB2, hfi, q⟩ := h
  refine ⟨_, pss_cons (ps_set (i := 4) scSpoilt.nd rfl (.inl rfl) (pe_call GS hr (by rfl) gS kS bS .nil pass0 (pa_cons (pv 0) pa_nil)))
    (pss_cons (ps_set (i := 5) scSpoilt.nd rfl (.inl rfl) (pe_ix ix_list (pv 4) (pe_op op_mod (pv 2) (pe_callB call_len_seq (by rfl) ml PySem.boot_len (pa_cons (pv 4) pa_nil))) (fun _ _ => rfl)))
    (pss_cons (ps_set (i := 6) scSpoilt.nd rfl (.inl rfl) (pe_call GA hr (by rfl) gA kA bA .nil pass0 (pa_cons (pv 0) (pa_cons (pv 5) pa_nil))))
    (pss_cons (ps_set (i := 7) scSpoilt.nd rfl (.inl rfl) (pe_lst (pa_cons pe_non (pa_cons pe_bl (pa_cons pe_bl (pa_cons pe_int (pa_cons pe_int (pa_cons (pe_un un_neg pe_int) (pa_cons (pe_tup pa_nil) (pa_cons (pe_lst pa_nil) (pa_cons pe_dnewK (pa_cons pe_str (pa_cons pe_str (pa_cons (pe_tup (pa_cons (pv 6) pa_nil)) (pa_cons (pe_lst (pa_cons (pv 6) pa_nil)) (pa_cons (pe_tup (pa_cons pe_str (pa_cons (pe_tup pa_nil) pa_nil))) (pa_cons (pe_tup (pa_cons pe_str (pa_cons (pv 6) pa_nil))) pa_nil)))))))))))))))))
    (pss_cons (ps_set (i := 7) scSpoilt.nd rfl (.inl rfl) (pe_op op_cat (pv 7) (pe_lst (pa_cons (pe_tup (pa_cons pe_str (pa_cons pe_str (pa_cons pe_int pa_nil)))) (pa_cons (pe_tup (pa_cons pe_str (pa_cons (pv 6) (pa_cons (pv 6) pa_nil)))) (pa_cons (pe_tup (pa_cons pe_str (pa_cons (pv 6) pa_nil))) (pa_cons (pe_tup (pa_cons pe_str pa_nil)) (pa_cons (pe_tup (pa_cons pe_str (pa_cons (pe_tup pa_nil) pa_nil))) pa_nil))))))))
    (C8.pss_cut (ps_if (PW.pt (pw_and (pt_cmpR op_lt (pv 1) pe_int (nomark _)) (pw_and1 (pt_val (pe_callB (isiK K rfl) (by rfl) mi PyProof.Rows.boot_isinstance (pa_cons (pv 6) (pa_cons (pe_bltn (v := .ty "int") (by rfl) mn (by decide +kernel) rfl) pa_nil)))))))
      (pss_cons (ps_set (i := 8) scSpoilt.nd rfl (.inl rfl) (pe_lst (pa_cons (pe_op op_addU (pv 6) pe_int) (pa_cons (pe_op op_subU (pv 6) pe_int) (pa_cons (pe_op op_subV pe_int (pv 6)) (pa_cons (pe_cmpR op_eqU1 (pv 6) pe_int (nomark _)) (pa_cons (pe_op op_subV pe_int (pv 6)) (pa_cons (pe_callTy call_strU (by rfl) ms (by decide +kernel) (pa_cons (pv 6) pa_nil)) (pa_cons (pe_op op_pow pe_int pe_int) (pa_cons (pe_op op_addU (pv 6) (pe_op op_pow pe_int pe_int)) pa_nil))))))))))
      (pss_one (ps_ret (pe_call GW hr (by rfl) gW kW bW .nil pass0 (pa_cons (pv 0) (pa_cons (pv 5) (pa_cons (pe_ix ix_list (pv 8) (pe_op op_mod (pv 3) pe_int) (fun _ _ => rfl)) pa_nil))))))) pss_nil)
    (C8.pss_cut (ps_if (PW.pt (pw_and (pt_cmpR op_lt (pv 1) pe_int (nomark _)) (pw_and1 (pt_val (pe_callB (isiK K rfl) (by rfl) mi PyProof.Rows.boot_isinstance (pa_cons (pv 6) (pa_cons (pe_bltn (v := .ty "str") (by rfl) ms PyProof.Rows.boot_str rfl) pa_nil)))))))
      (pss_one (ps_ret (pe_call GW hr (by rfl) gW kW bW .nil pass0 (pa_cons (pv 0) (pa_cons (pv 5) (pa_cons (pe_call GB hr (by rfl) gB kB bB .nil pass0 (pa_cons (pv 6) (pa_cons (pv 3) pa_nil))) pa_nil)))))) pss_nil)
    (C8.pss_cut (ps_if (PW.pt (pw_and (pt_cmpR op_lt (pv 1) pe_int (nomark _)) (pw_and1 (pt_val (pe_callB (isiK K rfl) (by rfl) mi PyProof.Rows.boot_isinstance (pa_cons (pv 6) (pa_cons (pe_bltn (v := .ty "str") (by rfl) ms PyProof.Rows.boot_str rfl) pa_nil)))))))
      (pss_cons (ps_set (i := 9) scSpoilt.nd rfl (.inl rfl) (pe_lst (pa_cons pe_str (pa_cons pe_str (pa_cons pe_str (pa_cons pe_str (pa_cons pe_str (pa_cons pe_str (pa_cons pe_str (pa_cons pe_str (pa_cons pe_str (pa_cons pe_str pa_nil))))))))))))
      (pss_one (ps_ret (pe_call GW hr (by rfl) gW kW bW .nil pass0 (pa_cons (pv 0) (pa_cons (pv 5) (pa_cons (pe_ix ix_list (pv 9) (pe_op op_mod (pv 3) pe_int) (fun _ _ => rfl)) pa_nil))))))) pss_nil)
    (C8.pss_cut (ps_if (PW.pt (pw_and (pt_cmpR op_lt (pv 1) pe_int (nomark _)) (pw_and1 (pt_val (pe_callB (isiK K rfl) (by rfl) mi PyProof.Rows.boot_isinstance (pa_cons (pv 6) (pa_cons (pe_bltn (v := .ty "tuple") (by rfl) mt PyProof.Rows.boot_tuple rfl) pa_nil)))))))
      (pss_cons (ps_set (i := 10) scSpoilt.nd rfl (.inl rfl) (pe_op op_mod (pv 3) (pe_op op_add (pe_callB call_len_seq (by rfl) ml PySem.boot_len (pa_cons (pv 6) pa_nil)) pe_int)))
      (pss_cons (ps_set (i := 11) scSpoilt.nd rfl (.inl rfl) (pe_lst
        (pa_cons (pe_op op_catU (pe_slice sl_tupU (pv 6) po_none (po_some (pv 10))) (pe_slice sl_tupU (pv 6) (po_some (pe_op op_add (pv 10) pe_int)) po_none))
        (pa_cons (pe_op op_catU (pe_op op_catU (pe_slice sl_tupU (pv 6) po_none (po_some (pv 10))) (pe_slice sl_tupU (pv 6) (po_some (pv 10)) (po_some (pe_op op_add (pv 10) pe_int)))) (pe_slice sl_tupU (pv 6) (po_some (pv 10)) po_none))
        (pa_cons (pe_revT (pv 6))
        (pa_cons (pe_callTy call_list_of (by rfl) mL (by decide +kernel) (pa_cons (pv 6) pa_nil)) pa_nil))))))
      (pss_one (ps_ret (pe_call GW hr (by rfl) gW kW bW .nil pass0 (pa_cons (pv 0) (pa_cons (pv 5) (pa_cons (pe_ix ix_list (pv 11) (pe_op op_mod (pe_op op_fdiv (pv 3) pe_int) pe_int) (fun _ _ => rfl)) pa_nil)))))))) pss_nil)
    (pss_one (ps_ret (pe_call GW hr (by rfl) gW kW bW .nil pass0 (pa_cons (pv 0) (pa_cons (pv 5) (pa_cons (pe_ix ix_list (pv 7) (pe_op op_mod (pv 3) pe_int) (fun _ _ => rfl)) pa_nil)))))))))))))), ?_⟩
  have e0 : sizeLine = 16777216 := rfl
  refine ⟨_, rfl, v, x, rfl, hdp, hd.any, by omega, fun l us G1 s1 gl nz lz pz => ?_⟩
  have lpos : 0 < us.length := List.length_pos_iff.mpr nz
  have i0 : 0 ≤ wh % (us.length : Int) := Int.emod_nonneg _ (by omega)
  have i1 : wh % (us.length : Int) < us.length := Int.emod_lt_of_pos _ (by omega)
  obtain ⟨j, hj⟩ : ∃ j : Nat, wh % (us.length : Int) = (j : Int) := ⟨_, (Int.toNat_of_nonneg i0).symm⟩
  have lj : j < us.length := by omega
  obtain ⟨a, p, z, ea, ga, hz⟩ := pz _ (List.getElem_mem lj)
  have gat : atI us (wh % (us.length : Int)) = some (.ref a) := by
    rw [hj]
    exact atI_nat (by rw [List.getElem?_eq_getElem lj, ea])
  refine ⟨_, rfl, _, rfl, _, rfl, l, us, rfl, .inl (SqL.of gl), _, _, rfl, rfl, (by show (0 : Int) < (us.length : Int); omega), l, us, _, _, rfl, rfl, SqL.of gl, gat, ?_⟩
  have hd1 := hd.same s1
  refine ⟨_, rfl, _, rfl, v, x, a, p, z, rfl, hd1, ga, hz, fun u hu => ?_⟩
  obtain ⟨zw, zd, zf⟩ := at_le hz
  -- the others
  refine ⟨_, rfl, Nat.zero_le _, fun t0 n0 => ⟨Nat.zero_le _, fun l0 n1 => fun d0 n2 => ⟨_, rfl, (by show 1 ≤ sizeLine; decide), fun t1 n3 => ⟨_, rfl, (by show 1 ≤ sizeLine; decide), fun l3 n4 => ⟨Nat.zero_le _, fun t2 n5 => ⟨(by show 2 ≤ sizeLine; decide), fun t3 n6 => ⟨_, rfl, (by show 2 ≤ sizeLine; decide), fun t4 n7 => ⟨(by show 15 ≤ sizeLine; decide), fun S n8 => ?_⟩⟩⟩⟩⟩⟩⟩⟩
  refine ⟨_, rfl, (by show 3 ≤ sizeLine; decide), fun t5 n9 => ⟨_, rfl, _, rfl, (by show 3 ≤ sizeLine; decide), fun t6 n10 => ⟨_, rfl, (by show 2 ≤ sizeLine; decide), fun t7 n11 => ⟨(by show 1 ≤ sizeLine; decide), fun t8 n12 => ⟨Nat.zero_le _, fun t9 n13 => ⟨(by show 2 ≤ sizeLine; decide), fun t10 n14 => ⟨(by show 5 ≤ sizeLine; decide), fun S2 n15 => ?_⟩⟩⟩⟩⟩⟩⟩
  let L15 : List V := [.non, .bl true, .bl false, .int 0, .int 1, .int (-1), .ref t0, .ref l0, .ref d0, .str "", .str "thing", .ref t1, .ref l3, .ref t3, .ref t4]
  let L5 : List V := [.ref t5, .ref t6, .ref t7, .ref t8, .ref t10]
  have u0 := newS (o := .tup []) n0
  have u1 := newS (o := .lst []) n1
  have u2 := newS (o := .dK []) n2
  have u3 := newS (o := .tup [u]) n3
  have u4 := newS (o := .lst [u]) n4
  have u5 := newS (o := .tup []) n5
  have u6 := newS (o := .tup [.str "list", .ref t2]) n6
  have u7 := newS (o := .tup [.str "left", u]) n7
  have u8 := newS (o := .lst L15) n8
  have u9 := newS (o := .tup [.str "thing", .str "a", .int 0]) n9
  have u10 := newS (o := .tup [.str "pair", u, u]) n10
  have u11 := newS (o := .tup [.str "right", u]) n11
  have u12 := newS (o := .tup [.str "fault"]) n12
  have u13 := newS (o := .tup []) n13
  have u14 := newS (o := .tup [.str "table", .ref t9]) n14
  have u15 := newS (o := .lst L5) n15
  refine ⟨S, S2, L15, L5, rfl, rfl, (u9.trans (u10.trans (u11.trans (u12.trans (u13.trans (u14.trans u15)))))) S _ upd_same, upd_same, (by show 15 + 5 ≤ sizeLine; decide), fun S3 n16 => ?_⟩
  have w16 := newS (o := .lst (L15 ++ L5)) n16
  have w15 := u15.trans w16
  have w14 := u14.trans w15
  have w13 := u13.trans w14
  have w12 := u12.trans w13
  have w11 := u11.trans w12
  have w10 := u10.trans w11
  have w9 := u9.trans w10
  have w8 := u8.trans w9
  have w7 := u7.trans w8
  have w6 := u6.trans w7
  have w5 := u5.trans w6
  have w4 := u4.trans w5
  have w3 := u3.trans w4
  have w2 := u2.trans w3
  have w1 := u1.trans w2
  have w0 := u0.trans w1
  have N0 : N l0 := hN l0 ((s1.trans u0).free n1)
  have N1 : N d0 := hN d0 ((s1.trans (u0.trans u1)).free n2)
  have N2 : N l3 := hN l3 ((s1.trans (u0.trans (u1.trans (u2.trans u3)))).free n4)
  have huf := hu.same w0
  have e20 : DdL N _ (some20 z) (L15 ++ L5) :=
    DdL.app (xs := [.non, .bl true, .bl false, .int 0, .int 1, .int (-1), .tup [], .lst [], .emp, .str "", .str "thing", .tup [z], .lst [z], .tup [.str "list", .tup []], .tup [.str "left", z]])
      (.cons .non (.cons (.bl true) (.cons (.bl false) (.cons (.int 0) (.cons (.int 1) (.cons (.int (-1)) (.cons (.tup (w1 t0 _ upd_same) .nil) (.cons (.lst N0 (w2 l0 _ upd_same) .nil) (.cons (.emp N1 (w3 d0 _ upd_same)) (.cons (.str "") (.cons (.str "thing")
        (.cons (.tup (w4 t1 _ upd_same) (.cons huf .nil)) (.cons (.lst N2 (w5 l3 _ upd_same) (.cons huf .nil)) (.cons (.tup (w7 t3 _ upd_same) (.cons (.str "list") (.cons (.tup (w6 t2 _ upd_same) .nil) .nil))) (.cons (.tup (w8 t4 _ upd_same) (.cons (.str "left") (.cons huf .nil))) .nil)))))))))))))))
      (.cons (.tup (w10 t5 _ upd_same) (.cons (.str "thing") (.cons (.str "a") (.cons (.int 0) .nil)))) (.cons (.tup (w11 t6 _ upd_same) (.cons (.str "pair") (.cons huf (.cons huf .nil)))) (.cons (.tup (w12 t7 _ upd_same) (.cons (.str "right") (.cons huf .nil))) (.cons (.tup (w13 t8 _ upd_same) (.cons (.str "fault") .nil)) (.cons (.tup (w15 t10 _ upd_same) (.cons (.str "table") (.cons (.tup (w14 t9 _ upd_same) .nil) .nil))) .nil)))))
  have sF := s1.trans w0
  have gaf := w0 _ _ ga
  generalize hGf : upd (upd (upd (upd (upd (upd (upd (upd (upd (upd (upd (upd (upd (upd (upd (upd (upd G1 t0 _) l0 _) d0 _) t1 _) l3 _) t2 _) t3 _) t4 _) S _) t5 _) t6 _) t7 _) t8 _) t9 _) t10 _) S2 _) S3 _ = Gf at huf e20 sF gaf
  have gSf := congrFun hGf S3
  rw [upd_same] at gSf
  have gSf := gSf.symm
  clear hGf
  clear w0 w1 w2 w3 w4 w5 w6 w7 w8 w9 w10 w11 w12 w13 w14 w15 w16 u0 u1 u2 u3 u4 u5 u6 u7 u8 u9 u10 u11 u12 u13 u14 u15
  have hdf := hd.same sF
  have lp := at_len hz
  have fin : ∀ (G : Hp) (y : Dt) (r0 : V), Same Gf G → Dd N G y r0 → Std z y → spWith N 70 [v, .ref a, r0] G Q E0 := fun G y r0 sG hy st => by
    have w1 := st.wt
    exact ⟨v, r0, x, y, z, a, p, rfl, by omega, hdf.same sG, sG _ _ gaf, hz, hy, by omega, fun r x' G' s' hx' up => q r x' G' ((sF.trans sG).trans s') hx' (spl_of hz st up)⟩
  let Cut : L2.St → Hp → Prop := fun σ G => G = Gf ∧ σ = [some v, some (.int way), some (.int wh), some (.int wt), some (.ref l), some (.ref a), some u, some (.ref S3), none, none, none, none]
  have cut0 : Cut [some v, some (.int way), some (.int wh), some (.int wt), some (.ref l), some (.ref a), some u, some (.ref S3), none, none, none, none] Gf := ⟨rfl, rfl⟩
  refine ⟨Cut, ?_, fun σ G c => ?_⟩
  · refine ⟨_, rfl, _, _, rfl, rfl, _, rfl, ite2 (fun _ => ?_) (fun _ => iteF cut0)⟩
    refine ⟨_, rfl, _, _, _, _, z.isInt, rfl, .ty "int", huf.ty, kInt K z, _, rfl, ite2 (fun e => ?_) (fun _ => cut0)⟩
    obtain ⟨i, hnu, hi⟩ := int_nu huf e
    have hib := hi B hB (zf B hfi)
    refine ⟨_, rfl, i, _, hnu, rfl, _, rfl, i, _, hnu, rfl, _, rfl, _, i, rfl, hnu, _, rfl, i, _, hnu, rfl, fun bb => ⟨_, rfl, _, i, rfl, hnu, _, rfl, u, i, rfl, hnu, by omega, fun zz lzz ozz => ?_⟩⟩
    refine ⟨_, _, rfl, rfl, ⟨by decide, by decide, by decide⟩, _, rfl, _, _, rfl, rfl, ⟨by decide, by decide, by decide⟩, i, _, hnu, rfl, (by show 8 ≤ sizeLine; decide), fun L nL => ?_⟩
    have m0 : 0 ≤ wt % 8 := Int.emod_nonneg _ (by decide)
    have m1 : wt % 8 < 8 := Int.emod_lt_of_pos _ (by decide)
    have e39 : (10 : Int) ^ (39 : Int).toNat = 1000000000000000000000000000000000000000 := by decide +kernel
    have e12 : (10 : Int) ^ (12 : Int).toNat = 1000000000000 := by decide +kernel
    have sL := newS (o := .lst [.int (i + 1), .int (i - 1), .int (0 - i), .bl bb, .int (1 - i), .str zz, .int ((10 : Int) ^ (39 : Int).toNat), .int (i + (10 : Int) ^ (12 : Int).toNat)]) nL
    obtain ⟨y, r0, ey, hy, st⟩ : ∃ y r0, atI [V.int (i + 1), .int (i - 1), .int (0 - i), .bl bb, .int (1 - i), .str zz, .int ((10 : Int) ^ (39 : Int).toNat), .int (i + (10 : Int) ^ (12 : Int).toNat)] (wt % 8) = some r0 ∧ (∀ G : Hp, Dd N G y r0) ∧ Std z y := by
      have er : wt % 8 = 0 ∨ wt % 8 = 1 ∨ wt % 8 = 2 ∨ wt % 8 = 3 ∨ wt % 8 = 4 ∨ wt % 8 = 5 ∨ wt % 8 = 6 ∨ wt % 8 = 7 := by omega
      rcases er with e | e | e | e | e | e | e | e <;> rw [e]
      · exact ⟨_, _, rfl, fun _ => .int _, std_int fun B h f => by have := hi B h f; omega⟩
      · exact ⟨_, _, rfl, fun _ => .int _, std_int fun B h f => by have := hi B h f; omega⟩
      · exact ⟨_, _, rfl, fun _ => .int _, std_int fun B h f => by have := hi B h f; omega⟩
      · exact ⟨_, _, rfl, fun _ => .bl _, std_bl⟩
      · exact ⟨_, _, rfl, fun _ => .int _, std_int fun B h f => by have := hi B h f; omega⟩
      · exact ⟨_, _, rfl, fun _ => .str _, std_st lzz ozz⟩
      · exact ⟨_, _, rfl, fun _ => .int _, std_int fun B h f => by rw [e39]; omega⟩
      · exact ⟨_, _, rfl, fun _ => .int _, std_int fun B h f => by have := hi B h f; rw [e12]; omega⟩
    exact ⟨_, rfl, _, rfl, _, rfl, _, rfl, _, _, rfl, rfl, (by show (0 : Int) < 8; decide), L, _, _, _, rfl, rfl, SqL.of upd_same, ey, fin _ y r0 sL (hy _) st⟩
  obtain ⟨rfl, rfl⟩ := c
  refine ⟨Cut, ?_, fun σ G c => ?_⟩
  · refine ⟨_, rfl, _, _, rfl, rfl, _, rfl, ite2 (fun _ => ?_) (fun _ => iteF cut0)⟩
    refine ⟨_, rfl, _, _, _, _, z.isStr, rfl, .ty "str", huf.ty, kStr K z, _, rfl, ite2 (fun e => ?_) (fun _ => cut0)⟩
    obtain ⟨zz, rfl⟩ : ∃ y, z = .str y := by
      cases z with
      | str y => exact ⟨y, rfl⟩
      | _ => cases e
    cases huf
    have ew : (Dt.str zz).wt = 10 * zz.length + 2 := by simp only [Dt.wt]
    refine ⟨_, rfl, _, rfl, _, rfl, _, rfl, zz, wt, rfl, hwt, by omega, ?_, fun y G sG ly oy => ?_⟩
    · have := zf B hfi
      simp only [Dt.fine] at this
      exact this
    exact fin G (.str y) _ sG (.str y) (std_str (by omega) oy)
  obtain ⟨rfl, rfl⟩ := c
  refine ⟨Cut, ?_, fun σ G c => ?_⟩
  · refine ⟨_, rfl, _, _, rfl, rfl, _, rfl, ite2 (fun _ => ?_) (fun _ => iteF cut0)⟩
    refine ⟨_, rfl, _, _, _, _, z.isStr, rfl, .ty "str", huf.ty, kStr K z, _, rfl, ite2 (fun e => ?_) (fun _ => cut0)⟩
    refine ⟨(by show 10 ≤ sizeLine; decide), fun L nL => ?_⟩
    have m0 : 0 ≤ wt % 10 := Int.emod_nonneg _ (by decide)
    have m1 : wt % 10 < 10 := Int.emod_lt_of_pos _ (by decide)
    obtain ⟨jj, hjj⟩ : ∃ j : Nat, wt % 10 = (j : Int) := ⟨_, (Int.toNat_of_nonneg m0).symm⟩
    have ljj : jj < 10 := by omega
    have wd : ∀ j : Nat, j < 10 → ∃ y : Str, ([V.str "thing", .str "pair", .str "left", .str "right", .str "list", .str "table", .str "fault", .str "made", .str "maker", .str "a"] : List V)[j]? = some (.str y) ∧ y.length ≤ 8 ∧ okS y := fun j hj => by
      have er : j = 0 ∨ j = 1 ∨ j = 2 ∨ j = 3 ∨ j = 4 ∨ j = 5 ∨ j = 6 ∨ j = 7 ∨ j = 8 ∨ j = 9 := by omega
      rcases er with rfl | rfl | rfl | rfl | rfl | rfl | rfl | rfl | rfl | rfl <;> exact ⟨_, rfl, by decide +kernel, okLit (by decide +kernel)⟩
    obtain ⟨y, ey, ly, oy⟩ := wd jj ljj
    refine ⟨_, rfl, _, rfl, _, rfl, _, rfl, _, _, rfl, rfl, (by show (0 : Int) < 10; decide), L, _, _, _, rfl, rfl, SqL.of upd_same, (by rw [hjj]; exact atI_nat ey), fin _ (.str y) _ (newS nL) (.str y) (std_str (by omega) oy)⟩
  obtain ⟨rfl, rfl⟩ := c
  refine ⟨Cut, ?_, fun σ G c => ?_⟩
  · refine ⟨_, rfl, _, _, rfl, rfl, _, rfl, ite2 (fun _ => ?_) (fun _ => iteF cut0)⟩
    refine ⟨_, rfl, _, _, _, _, z.isTup, rfl, .ty "tuple", huf.ty, kTup K z, _, rfl, ite2 (fun e => ?_) (fun _ => cut0)⟩
    obtain ⟨zs, rfl⟩ : ∃ y, z = .tup y := by
      cases z with
      | tup y => exact ⟨y, rfl⟩
      | _ => cases e
    obtain ⟨b, bs, rfl, hb, hL⟩ := Dd.tupS huf
    have ll := hL.len
    have l1 := len_szs zs
    have l2 := Dt.szs_wts zs
    have zt : (Dt.tup zs).wt = Dt.wts zs + 3 := by simp only [Dt.wt]
    have i0 : 0 ≤ wt % ((bs.length : Int) + 1) := Int.emod_nonneg _ (by omega)
    have i1 : wt % ((bs.length : Int) + 1) < (bs.length : Int) + 1 := Int.emod_lt_of_pos _ (by omega)
    obtain ⟨i, hi⟩ : ∃ j : Nat, wt % ((bs.length : Int) + 1) = (j : Int) := ⟨_, (Int.toNat_of_nonneg i0).symm⟩
    have ei : cutV bs (some ((i : Int) + 1)) none = bs.drop (i + 1) := cut_drop bs (i + 1)
    have em : cutV bs (some (i : Int)) (some ((i : Int) + 1)) = (bs.drop i).take (i + 1 - i) := cut_mid bs i (i + 1)
    refine ⟨_, rfl, _, rfl, b, bs, rfl, .inr (SqT.of hb), _, _, rfl, rfl, _, _, rfl, rfl, (by show (0 : Int) < (bs.length : Int) + 1; omega), ?_⟩
    simp only [hi]
    refine ⟨_, rfl, _, rfl, _, rfl, b, bs, rfl, hb, fun p1 F1 r1 g1 => ⟨_, rfl, _, rfl, _, _, rfl, rfl, _, rfl, b, bs, rfl, r1 _ _ hb, fun p2 F2 r2 g2 => ⟨p1, p2, _, _, rfl, rfl, r2 _ _ g1, g2, ?_, fun p3 F3 r3 g3 => ?_⟩⟩⟩
    · rw [cut_take, ei, List.length_take, List.length_drop]
      omega
    rw [cut_take, ei] at g3
    have r13 := r1.trans (r2.trans r3)
    have hb3 := r13 _ _ hb
    refine ⟨_, rfl, _, rfl, _, rfl, b, bs, rfl, hb3, fun p4 F4 r4 g4 => ⟨_, rfl, _, rfl, _, rfl, _, rfl, _, _, rfl, rfl, _, rfl, b, bs, rfl, r4 _ _ hb3, fun p5 F5 r5 g5 => ⟨p4, p5, _, _, rfl, rfl, r5 _ _ g4, g5, ?_, fun p6 F6 r6 g6 => ?_⟩⟩⟩
    · rw [cut_take, em, List.length_take, List.length_take, List.length_drop]
      omega
    rw [cut_take, em] at g6
    have r46 := r4.trans (r5.trans r6)
    refine ⟨_, rfl, _, rfl, _, rfl, b, bs, rfl, r46 _ _ hb3, fun p7 F7 r7 g7 => ⟨p6, p7, _, _, rfl, rfl, r7 _ _ g6, g7, ?_, fun p8 F8 r8 g8 => ?_⟩⟩
    · rw [cut_drop, List.length_append, List.length_take, List.length_take, List.length_drop]
      omega
    rw [cut_drop] at g8
    have r18 := r13.trans (r46.trans (r7.trans r8))
    refine ⟨_, rfl, b, bs, rfl, SqT.of (r18 _ _ hb), fun p9 n9 => ?_⟩
    have r9 := newS (o := .tup bs.reverse) n9
    refine ⟨_, rfl, b, bs, rfl, .inr (SqT.of (r9 _ _ (r18 _ _ hb))), fun l4 n4 => ⟨(by show 4 ≤ sizeLine; decide), fun B nB => ?_⟩⟩
    have r10 := newS (o := .lst bs) n4
    have r11 := newS (o := .lst [.ref p3, .ref p8, .ref p9, .ref l4]) nB
    have N4 : N l4 := hN l4 ((sF.trans (r18.trans r9)).free n4)
    have rB := r18.trans (r9.trans (r10.trans r11))
    have hLB := hL.same rB
    have m0 : 0 ≤ wt / 64 % 4 := Int.emod_nonneg _ (by decide)
    have m1 : wt / 64 % 4 < 4 := Int.emod_lt_of_pos _ (by decide)
    have d1 : Dd N _ (.tup (zs.take i ++ zs.drop (i + 1))) (.ref p3) := .tup ((r46.trans ((r7.trans r8).trans (r9.trans (r10.trans r11)))) _ _ g3) ((hLB.take i).app (hLB.drop (i + 1)))
    have d2 : Dd N _ (.tup (zs.take i ++ (zs.drop i).take (i + 1 - i) ++ zs.drop i)) (.ref p8) := .tup ((r9.trans (r10.trans r11)) _ _ g8) (((hLB.take i).app ((hLB.drop i).take _)).app (hLB.drop i))
    have d3 : Dd N _ (.tup zs.reverse) (.ref p9) := .tup ((r10.trans r11) p9 _ upd_same) hLB.rev
    have d4 : Dd N _ (.lst zs) (.ref l4) := .lst N4 (r11 l4 _ upd_same) hLB
    obtain ⟨y, r0, ey, hy, st⟩ : ∃ y r0, atI [V.ref p3, .ref p8, .ref p9, .ref l4] (wt / 64 % 4) = some r0 ∧ Dd N (upd (upd (upd F8 p9 (.tup bs.reverse)) l4 (.lst bs)) B (.lst [.ref p3, .ref p8, .ref p9, .ref l4])) y r0 ∧ Std (.tup zs) y := by
      have er : wt / 64 % 4 = 0 ∨ wt / 64 % 4 = 1 ∨ wt / 64 % 4 = 2 ∨ wt / 64 % 4 = 3 := by omega
      rcases er with e | e | e | e <;> rw [e]
      · exact ⟨_, _, rfl, d1, (std_bnt (bnt1 zs i)).1⟩
      · exact ⟨_, _, rfl, d2, (std_bnt (bnt2 zs i)).1⟩
      · exact ⟨_, _, rfl, d3, (std_bnt (bnt3 zs)).1⟩
      · exact ⟨_, _, rfl, d4, (std_bnt (bnt4 zs)).2⟩
    exact ⟨_, rfl, _, rfl, _, rfl, _, rfl, _, _, rfl, rfl, ⟨by decide, by decide⟩, _, _, rfl, rfl, (by show (0 : Int) < 4; decide), B, _, _, _, rfl, rfl, SqL.of upd_same, ey, fin _ y r0 rB hy st⟩
  obtain ⟨rfl, rfl⟩ := c
  have m0 : 0 ≤ wt % 20 := Int.emod_nonneg _ (by decide)
  have m1 : wt % 20 < 20 := Int.emod_lt_of_pos _ (by decide)
  obtain ⟨jj, hjj⟩ : ∃ j : Nat, wt % 20 = (j : Int) := ⟨_, (Int.toNat_of_nonneg m0).symm⟩
  have ljj : jj < (some20 z).length := by
    show jj < 20
    omega
  obtain ⟨r0, er, hr0⟩ := DdL.get' (xs := some20 z) e20 (List.getElem?_eq_getElem ljj)
  exact ⟨_, rfl, _, rfl, _, rfl, _, rfl, _, _, rfl, rfl, (by show (0 : Int) < 20; decide), S3, _, _, _, rfl, rfl, SqL.of gSf, (by rw [hjj]; exact atI_nat er), fin _ _ _ (Same.refl _) hr0 (std20 z _ (List.getElem_mem ljj))⟩
end
end Kq

namespace Kq
open PySem PySem.Spec PyProof.Rows L2 Kf Kg Kv GxR
abbrev tParts : Stmt := tp 54
abbrev tRight : Stmt := tp 55
def isSq : Dt → Bool
  | .tup _ => true
  | .lst _ => true
  | _ => false
theorem kSq (K : PySem.W.Frag) (x : Dt) : PySem.W.kitAny K (.type x.cls) [.type "tuple", .type "list"] = some (isSq x) := by
  refine kitAny_cons (kTup K x) (fun h => kitAny_cons (kLst K x) (fun h2 => ?_) (fun h2 => ?_)) (fun h => ?_)
  · rw [kitAny_nil]
    cases x <;> first | rfl | (cases h; done) | (cases h2; done)
  · cases x <;> first | rfl | cases h2
  · cases x <;> first | rfl | cases h
section
variable {P : Program} {w : World} {K : PySem.W.Frag} {mg : Str → Option Value} {base : Heap}
abbrev nParts : List Str := ["_law_thing", "_law_part"]
theorem scParts : FnScope nParts ["_law_thing"] (defScope tParts) := ⟨rfl, rfl, rfl, by decide +kernel, rfl, by decide +kernel, by decide +kernel⟩
def spParts (n : Nat) : Sp := fun vs H Q _ => ∃ (v : V) (x : Dt), vs = [v] ∧ x.dp + 1 ≤ n ∧ Dd Any H x v ∧ x.wt ≤ sizeLine ∧ ∀ (i : Int) (G : Hp), Same H G → Q (.int i) G
theorem okParts1 {f : Addr} {fd : FuncData} {n : Nat} (F : Fun K "_law_parts" "_law_parts" tParts f fd) (bF : Binds K fd ["_law_thing"] []) (gF : mg "_law_parts" = some (.ref f)) (mi : mg "isinstance" = none) (mt : mg "tuple" = none) (mL : mg "list" = none) (mS : mg "sum" = none)
    (GI : FnOk P w K mg base CX0 (n + 1) f fd ["_law_thing"] (spParts n)) : FnOk P w K mg base CX0 (n + 2) f fd ["_law_thing"] (spParts (n + 1)) := by
  refine F.ok scParts (fun vs H Q E h => ?_) (fun cdv A outer s H vs Q E hr h => ?_)
  · obtain ⟨v, x, rfl, _⟩ := h
    rfl
  obtain ⟨v, x, rfl, hn, hd, hw, q⟩ := h
  have turn : ∀ (G1 : Hp) (D : Addr) (xs : List Dt) (us : List V), Same H G1 → DdL Any G1 xs us → Dt.dps xs + 1 ≤ n → Dt.wts xs ≤ sizeLine → G1 D = none → ∀ (i : Nat) (u : V) (F : Hp), us[i]? = some u → (Same G1 F ∧ ∃ ns : List Int, ns.length = i ∧ F D = some (.lst (ns.map V.int))) →
      ∀ σ, tCall (spParts n) [] E0 (tCons (tVar 1) tNil) ([some v, some u] ++ σ) F fun y H4 => ∃ acc, H4 D = some (.lst acc) ∧ acc.length < sizeLine ∧ (Same G1 (upd H4 D (.lst (acc ++ [y]))) ∧ ∃ ns : List Int, ns.length = i + 1 ∧ (upd H4 D (.lst (acc ++ [y]))) D = some (.lst (ns.map V.int))) := by
    intro G1 D xs us s1 hL hdp hwt nD i u F hu z σ
    obtain ⟨sF, ns, ln, gD⟩ := z
    obtain ⟨d, hd', rd⟩ := hL.get hu
    have md := List.mem_of_getElem? hd'
    have d1 := dps_mem md
    have w1 := wts_mem md
    have li := (List.getElem?_eq_some_iff.mp hu).1
    have ll := hL.len
    have l1 := len_szs xs
    have l2 := Dt.szs_wts xs
    refine ⟨_, rfl, u, d, rfl, by omega, rd.same sF, by omega, fun j F2 s2 => ⟨_, s2 _ _ gD, ?_, smk (sF.trans s2) nD, ns ++ [j], ?_, ?_⟩⟩
    · rw [List.length_map]
      omega
    · rw [List.length_append, ln]
      rfl
    · rw [upd_same, List.map_append]
      rfl
  have hsz : ∀ xs, (x = .tup xs ∨ x = .lst xs) → Dt.dps xs + 1 ≤ n ∧ Dt.wts xs ≤ sizeLine := fun xs h => by
    rcases h with rfl | rfl <;> (simp only [Dt.dp, Dt.wt] at hn hw; omega)
  by_cases hx : ∃ xs, x = .lst xs
  · obtain ⟨xs, rfl⟩ := hx
    refine ⟨_, pss_cons (ps_if (pt_not (pt_val (pe_callB call_isiT (by rfl) mi PyProof.Rows.boot_isinstance (pa_cons (pv 0) (pa_cons (pe_tup (pa_cons (pe_bltn (v := .ty "tuple") (by rfl) mt PyProof.Rows.boot_tuple rfl) (pa_cons (pe_bltn (v := .ty "list") (by rfl) mL (by decide +kernel) rfl) pa_nil))) pa_nil))))) (pss_one (ps_ret pe_int)) pss_nil)
      (pss_one (ps_ret (pe_op op_add pe_int (pe_callB (cr_sum rfl) (by rfl) mS (by decide +kernel) (pa_cons (pe_lc (own := [("_law_part", 1)]) (g := gName 1) (by rfl) scParts.nd (pi_list (pv 0)) (blkOk_by (own := [("_law_part", 1)]) (N := nParts) (sc := defScope tParts) (by decide +kernel))
        (fun _ _ _ _ _ => pg_name (i := 1) scParts.nd rfl (.inl rfl)) (fun _ _ _ _ _ => pts_nil) (fun _ _ _ _ _ => pe_call GI hr (by rfl) gF F.kp bF .nil pass0 (pa_cons (pv 1) pa_nil))) pa_nil))))), ?_⟩
    refine ⟨_, rfl, (by show 2 ≤ sizeLine; decide), fun t nt => ⟨v, t, _, _, _, _, rfl, upd_same, .cons (.ty _) (.cons (.ty _) .nil), (hd.same (newS nt)).ty, kSq K _, _, rfl, iteF ?_⟩⟩
    have st := newS (o := .tup [V.ty "tuple", V.ty "list"]) nt
    have hd1 := hd.same st
    generalize upd H t (.tup [V.ty "tuple", V.ty "list"]) = H1 at st hd1
    obtain ⟨b, us, rfl, hb, hL⟩ : ∃ b us, v = .ref b ∧ H1 b = some (.lst us) ∧ DdL Any H1 xs us := by
      cases hd1 with
      | lst _ h t => exact ⟨_, _, rfl, h, t⟩
    obtain ⟨h1, h2⟩ := hsz xs (.inr rfl)
    refine ⟨_, rfl, b, rfl, ⟨_, SqL.of hb⟩, fun D nD => ?_⟩
    have bD : b ≠ D := ne_of_none hb nD
    refine lc_list (xs := us) (fun i F => Same H1 F ∧ ∃ ns : List Int, ns.length = i ∧ F D = some (.lst (ns.map V.int))) ⟨newS nD, [], rfl, upd_same⟩ (fun i F _ z => SqL.of (z.1 _ _ hb)) (fun i u F hu z => ⟨rfl, ?_⟩) (fun F z => ?_)
    · exact turn H1 D xs us st hL h1 h2 nD i u F hu z []
    · obtain ⟨sF, ns, _, gD⟩ := z
      exact ⟨D, ns, rfl, SqL.of gD, _, _, rfl, rfl, q _ _ (st.trans sF)⟩
  · refine ⟨_, pss_cons (ps_if (pt_not (pt_val (pe_callB call_isiT (by rfl) mi PyProof.Rows.boot_isinstance (pa_cons (pv 0) (pa_cons (pe_tup (pa_cons (pe_bltn (v := .ty "tuple") (by rfl) mt PyProof.Rows.boot_tuple rfl) (pa_cons (pe_bltn (v := .ty "list") (by rfl) mL (by decide +kernel) rfl) pa_nil))) pa_nil))))) (pss_one (ps_ret pe_int)) pss_nil)
      (pss_one (ps_ret (pe_op op_add pe_int (pe_callB (cr_sum rfl) (by rfl) mS (by decide +kernel) (pa_cons (pe_lc (own := [("_law_part", 1)]) (g := gName 1) (by rfl) scParts.nd (pi_tup (pv 0)) (blkOk_by (own := [("_law_part", 1)]) (N := nParts) (sc := defScope tParts) (by decide +kernel))
        (fun _ _ _ _ _ => pg_name (i := 1) scParts.nd rfl (.inl rfl)) (fun _ _ _ _ _ => pts_nil) (fun _ _ _ _ _ => pe_call GI hr (by rfl) gF F.kp bF .nil pass0 (pa_cons (pv 1) pa_nil))) pa_nil))))), ?_⟩
    refine ⟨_, rfl, (by show 2 ≤ sizeLine; decide), fun t nt => ⟨v, t, _, _, _, _, rfl, upd_same, .cons (.ty _) (.cons (.ty _) .nil), (hd.same (newS nt)).ty, kSq K _, _, rfl, ite2 (fun e => q _ _ (newS nt)) (fun e => ?_)⟩⟩
    obtain ⟨xs, rfl⟩ : ∃ xs, x = .tup xs := by
      cases x with
      | tup xs => exact ⟨xs, rfl⟩
      | lst xs => exact absurd ⟨xs, rfl⟩ hx
      | _ => exact absurd rfl e
    have st := newS (o := .tup [V.ty "tuple", V.ty "list"]) nt
    have hd1 := hd.same st
    generalize upd H t (.tup [V.ty "tuple", V.ty "list"]) = H1 at st hd1
    obtain ⟨b, us, rfl, hb, hL⟩ := Kv.Dd.tupS hd1
    obtain ⟨h1, h2⟩ := hsz xs (.inl rfl)
    refine ⟨_, rfl, b, rfl, ⟨_, SqT.of hb⟩, fun D nD => ?_⟩
    have bD : b ≠ D := ne_of_none hb nD
    refine lc_tup (xs := us) (fun i F => Same H1 F ∧ ∃ ns : List Int, ns.length = i ∧ F D = some (.lst (ns.map V.int))) ⟨newS nD, [], rfl, upd_same⟩ (fun i F _ z => SqT.of (z.1 _ _ hb)) (fun i u F hu z => ⟨rfl, ?_⟩) (fun F z => ?_)
    · exact turn H1 D xs us st hL h1 h2 nD i u F hu z []
    · obtain ⟨sF, ns, _, gD⟩ := z
      exact ⟨D, ns, rfl, SqL.of gD, _, _, rfl, rfl, q _ _ (st.trans sF)⟩
theorem okParts {f : Addr} {fd : FuncData} (F : Fun K "_law_parts" "_law_parts" tParts f fd) (bF : Binds K fd ["_law_thing"] []) (gF : mg "_law_parts" = some (.ref f)) (mi : mg "isinstance" = none) (mt : mg "tuple" = none) (mL : mg "list" = none) (mS : mg "sum" = none) : ∀ n, FnOk P w K mg base CX0 (n + 1) f fd ["_law_thing"] (spParts n)
  | 0 => noFn fun vs H Q E h => by
    obtain ⟨v, x, _, hn, _⟩ := h
    omega
  | n + 1 => okParts1 F bF gF mi mt mL mS (okParts F bF gF mi mt mL mS n)
/-! _law_right -/
abbrev psRight : List Str := ["_law_kind", "_law_sizes_here", "_law_thing"]
abbrev nRight : List Str := ["_law_kind", "_law_sizes_here", "_law_thing", "_law_kept", "_law_turn", "_law_found"]
theorem scRight : FnScope nRight psRight (defScope tRight) := ⟨rfl, rfl, rfl, by decide +kernel, rfl, by decide +kernel, by decide +kernel⟩
abbrev BM : Nat := 10 ^ 45
def spRight (T : List Addr) : Sp := fun vs H Q _ => ∃ (vk : V) (p : Addr) (v : V) (t : Kd) (sz : List (Str × Int)) (x : Dt), vs = [vk, .ref p, v] ∧ t.dp + 1 ≤ 4 ∧ t.data = true ∧ Rp H t vk ∧ Sz H p sz ∧ (sz.map (·.1)).Nodup ∧ Dd Any H x v ∧ Fine BM 70 16777214 x ∧ TbS T H ∧ ∀ G : Hp, Sm T H G → Q (.bl true) G
theorem okRight {f fW fL : Addr} {fd fdW fdL : FuncData} {k : Nat} {T : List Addr} (F : Fun K "_law_right" "_law_right" tRight f fd)
    (GW : FnOk P w K mg base CX0 (k + 72) fW fdW psW (spW T (sDp 4))) (bW : Binds K fdW psW []) (gW : mg "is_worth" = some (.ref fW)) (kW : PySem.W.keepIn K (.ref fW) = true)
    (GL : FnOk P w K mg base CX0 (k + 72) fL fdL psLW (spLW 4)) (bL : Binds K fdL psLW []) (gL : mg "_law_is_worth" = some (.ref fL)) (kL : PySem.W.keepIn K (.ref fL) = true)
    (mp : mg "repr" = none) (mr : mg "range" = none) (mi : mg "isinstance" = none) (mb : mg "bool" = none) : FnG P w K mg base CX0 (k + 73) f fd psRight (spRight T) := by
  refine okG F scRight (fun vs H Q E h => ?_) (fun cdv A outer s H vs Q E still hr h => ?_)
  · obtain ⟨vk, p, v, t, sz, x, rfl, _⟩ := h
    rfl
  obtain ⟨vk, p, v, t, sz, x, rfl, hn, hdt, rk, hz, hnd, hd, hf, tb, q⟩ := h
  have hu : (cxOf CX0 P w K mg base nRight "_law_right" (defScope tRight) f cdv A outer s H E).nox.A.units + (70 + 1) < cLine := by
    have := hr.un
    show (A.deeper _).units + 71 < cLine
    omega
  refine ⟨_, pss_cons (ps_set (i := 3) scRight.nd rfl (.inl rfl) (pe_callB (call_showU (n := 70) still hu) (by rfl) mp PyProof.Rows.boot_repr (pa_cons (pv 2) pa_nil)))
    (pss_cons (ps_for PassesOwn.never rfl (pi_range1 (by rfl) mr (pa_cons pe_int pa_nil)) (pg_name (i := 4) scRight.nd rfl (.inl rfl))
      (pss_cons (ps_set (i := 5) scRight.nd rfl (.inl rfl) (pe_call GW hr (by rfl) gW kW bW .nil pass0 (pa_cons (pv 0) (pa_cons (pv 1) (pa_cons (pv 2) pa_nil)))))
      (pss_one (ps_if (PW.pt (pw_or (pt_not (pt_val (pe_callB (isiK K rfl) (by rfl) mi PyProof.Rows.boot_isinstance (pa_cons (pv 5) (pa_cons (pe_bltn (v := .ty "bool") (by rfl) mb PyProof.Rows.boot_bool rfl) pa_nil)))))
        (pw_or1 (pt_cmpR op_ne (pv 5) (pe_call GL hr (by rfl) gL kL bL .nil pass0 (pa_cons (pv 0) (pa_cons (pv 1) (pa_cons (pv 2) pa_nil)))) (nomark _)))))
        (pss_one (ps_ret pe_bl)) pss_nil))))
    (pss_one (ps_ret (pe_cmpR op_eq (pe_callB (call_showU (n := 70) still hu) (by rfl) mp PyProof.Rows.boot_repr (pa_cons (pv 2) pa_nil)) (pv 3) (nomark _))))), ?_⟩
  have hs := hf.shw (Nat.le_refl _) (show 16777214 ≤ sizeLine by decide)
  refine ⟨_, rfl, v, x, rfl, hd, hs, 2, rfl, by decide, by decide, for_range (lo := 0) (n := 2) (fun i σ G => ∃ y4 y5, σ = [some vk, some (.ref p), some v, some (.str x.toP.shown), y4, y5] ∧ Sm T H G) ⟨_, _, rfl, Sm.refl tb⟩ (fun i σ G hi z => ?_) (fun σ G z => ?_)⟩
  · obtain ⟨y4, y5, rfl, sG⟩ := z
    have h1 := hf.wt
    have e0 : sizeLine = 16777216 := rfl
    refine ⟨_, rfl, _, rfl, _, rfl, vk, p, v, t, sz, x, rfl, hn, hdt, rk.tk (Tk.sm tb sG), hz.sm tb sG, hd.kn (sG.kn tb), sG.2, fun G2 s2 => ?_⟩
    have s12 := sG.trans s2
    refine ⟨_, rfl, _, _, _, _, true, rfl, .ty "bool", .base (.bl _), kit_ty (by decide +kernel), _, rfl, iteF ?_⟩
    refine ⟨_, rfl, _, rfl, _, rfl, _, rfl, vk, p, v, t, sz, x, rfl, hn, hdt, rk.tk (Tk.sm tb s12), hz.sm tb s12, hnd, hd.kn (s12.kn tb), by omega, fun G3 s3 => ⟨rfl, _, rfl, ite2 (fun e => ?_) (fun e => ?_)⟩⟩
    · simp at e
    · exact ⟨_, _, rfl, s12.trans (Sm.of s3 s12.2)⟩
  · obtain ⟨y4, y5, rfl, sG⟩ := z
    refine ⟨_, rfl, v, x, rfl, hd.kn (sG.kn tb), hs, _, rfl, rfl, ?_⟩
    have z := q _ sG
    show Q (.bl (decide (V.str x.toP.shown = V.str x.toP.shown))) G
    rw [decide_eq_true rfl]
    exact z
end
end Kq

namespace Kq
open PySem PySem.Spec PyProof.Rows L2 Kf Kg Kv GxR
abbrev tLaw : Stmt := tp 56
abbrev nLaw : List Str := ["_law_script", "_law_deck_here", "_law_turn", "_law_spoils", "_law_k", "_law_most", "_law_opens", "_law_kind", "_law_sizes_here", "_law_worth_here", "_law_things", "_law_one", "_law_thing"]
theorem TbS.kp {T : List Addr} {H G : Hp} {d c : Addr} (t : TbS T H) (k : Kp d c H G) (x : Dk H d c) : TbS T G := fun p hp => by
  obtain ⟨ps, h1, h2⟩ := t p hp
  obtain ⟨_, ⟨_, _, hd⟩, ⟨_, hc, _⟩⟩ := x
  exact ⟨ps, k p _ (fun z => by rw [z, hd] at h1; cases h1) (fun z => by rw [z, hc] at h1; cases h1) h1, h2⟩
theorem Dk.sm {T : List Addr} {H G : Hp} {d c : Addr} (x : Dk H d c) (t : TbS T H) (s : Sm T H G) : Dk G d c := by
  obtain ⟨n, ⟨a, b, e⟩, ⟨ns, f, l⟩⟩ := x
  exact ⟨n, ⟨a, b, s.at t e (fun _ z => by cases z)⟩, ⟨ns, s.at t f (fun _ z => by cases z), l⟩⟩
/-- three numbers for a spoil -/
def Sps (G : Hp) (us : List V) : Prop := ∀ u ∈ us, ∃ (a : Addr) (x y z : Int), u = .ref a ∧ G a = some (.tup [.int x, .int y, .int z]) ∧ 0 ≤ y ∧ 0 ≤ z
theorem Sps.tk {G F : Hp} {us : List V} (h : Sps G us) (k : Tk G F) : Sps F us := fun u hu => by
  obtain ⟨a, x, y, z, e, g, h1, h2⟩ := h u hu
  exact ⟨a, x, y, z, e, k _ _ g, h1, h2⟩
theorem slLK {X : Cx} (K : PySem.W.Frag) (h : X.K = K) : SlR X (rSlL K) := by
  subst h
  exact sl_list
theorem DdL.see {N : Addr → Prop} {H : Hp} {xs : List Dt} {vs : List V} (h : DdL N H xs vs) : (xs = [] ∧ vs = []) ∨ ∃ y ys w ws, xs = y :: ys ∧ vs = w :: ws ∧ Dd N H y w ∧ DdL N H ys ws := by
  cases h with
  | nil => exact .inl ⟨rfl, rfl⟩
  | cons a b => exact .inr ⟨_, _, _, _, rfl, rfl, a, b⟩
theorem cut_take (xs : List V) (n : Nat) : cutV xs none (some (n : Int)) = xs.take n := by
  unfold cutV
  rw [HT.sIx_nat, HT.sIx_none]
  show xs.take (min n xs.length) = _
  by_cases h : n ≤ xs.length
  · rw [Nat.min_eq_left h]
  · rw [Nat.min_eq_right (by omega), List.take_length, List.take_of_length_le (by omega)]
/-- what is drawn first, spoilt once, spoilt twice -/
theorem fineA {m : Nat} {sz : List (Str × Int)} {t : Kd} {x : Dt} (h : Wo m sz t x) (hg : (m = 4 ∧ t.dp ≤ 3) ∨ (m = 20 ∧ t.dp ≤ 2)) : x.fine BN ∧ x.dp ≤ 7 ∧ x.wt ≤ 100112 := by
  refine ⟨h.ok, ?_, ?_⟩
  · have := h.dp
    omega
  · refine Nat.le_trans h.wt ?_
    rcases hg with ⟨rfl, e⟩ | ⟨rfl, e⟩
    · exact Nat.le_trans (wb_up 4 e) (by decide)
    · exact Nat.le_trans (wb_up 20 e) (by decide)
abbrev B1 : Nat := BN + 1000000000001
theorem bnLo : 10 ^ 39 < BN := by decide +kernel
theorem bnHi : BN ≤ 10 ^ 45 := by decide +kernel
theorem b1Lo : 10 ^ 39 < B1 := by decide +kernel
theorem b1Hi : B1 ≤ 10 ^ 45 := by decide +kernel
theorem bnM : BN ≤ BM := by decide +kernel
theorem b1M : B1 ≤ BM := by decide +kernel
theorem b2M : B1 + 1000000000001 ≤ BM := by decide +kernel
section
variable {P : Program} {w : World} {K : PySem.W.Frag} {mg : Str → Option Value} {base : Heap}
theorem exFn {α : Type} {S : α → Sp} {f : Addr} {fd : FuncData} {ps : List Str} {k : Nat} (h : ∀ a, FnOk P w K mg base CX0 k f fd ps (S a)) : FnOk P w K mg base CX0 k f fd ps (fun vs H Q E => ∃ a, S a vs H Q E) :=
  ⟨fun vs H Q E ⟨a, z⟩ => (h a).len vs H Q E z, fun A outer s H args us vs Q E h1 h2 h3 h4 ⟨a, z⟩ => (h a).run A outer s H args us vs Q E h1 h2 h3 h4 z⟩
theorem scLaw : FnScope nLaw ["_law_script"] (defScope tLaw) := ⟨rfl, rfl, rfl, by decide +kernel, rfl, by decide +kernel, by decide +kernel⟩
def spSpoiltE : Sp := fun vs H Q E => ∃ N : Addr → Prop, spSpoilt N vs H Q E
def spLaw (K : PySem.W.Frag) (T : List Addr) : Sp := fun vs H Q _ => ∃ (a : Addr) (ns : List Int), vs = [.ref a] ∧ SqL K H a (ns.map V.int) ∧ ns.length ≤ 63 ∧ TbS T H ∧ ∀ G : Hp, Q (.bl true) G
theorem okLaw {f f1 f3 f4 f5 f6 f7 f8 f9 fP fW : Addr} {fd fd1 fd3 fd4 fd5 fd6 fd7 fd8 fd9 fdP fdW : FuncData} {k : Nat} {T : List Addr} (F : Fun K "law" "law" tLaw f fd)
    (G1 : FnOk P w K mg base CX0 (k + 1) f1 fd1 ["_law_script"] (spDeck K)) (b1 : Binds K fd1 ["_law_script"] []) (g1 : mg "_law_deck" = some (.ref f1)) (k1 : PySem.W.keepIn K (.ref f1) = true)
    (G3 : FnOk P w K mg base CX0 (k + 1) f3 fd3 ["_law_deck_here", "_law_most"] spDraw) (b3 : Binds K fd3 ["_law_deck_here", "_law_most"] []) (g3 : mg "_law_draw" = some (.ref f3)) (k3 : PySem.W.keepIn K (.ref f3) = true)
    (G4 : FnOk P w K mg base CX0 (k + 1) f4 fd4 ["_law_deck_here", "_law_many"] spNames) (b4 : Binds K fd4 ["_law_deck_here", "_law_many"] []) (g4 : mg "_law_names" = some (.ref f4)) (k4 : PySem.W.keepIn K (.ref f4) = true)
    (G5 : FnOk P w K mg base CX0 (k + 1) f5 fd5 psSpoilt spSpoiltE) (b5 : Binds K fd5 psSpoilt []) (g5 : mg "_law_spoilt" = some (.ref f5)) (k5 : PySem.W.keepIn K (.ref f5) = true)
    (G6 : FnG P w K mg base CX0 (k + 1) f6 fd6 psRight (spRight T)) (b6 : Binds K fd6 psRight []) (g6 : mg "_law_right" = some (.ref f6)) (k6 : PySem.W.keepIn K (.ref f6) = true)
    (G7 : FnOk P w K mg base CX0 (k + 1) f7 fd7 psData (spData 4)) (b7 : Binds K fd7 psData []) (g7 : mg "_law_data" = some (.ref f7)) (k7 : PySem.W.keepIn K (.ref f7) = true)
    (G8 : FnOk P w K mg base CX0 (k + 1) f8 fd8 psSizes spSizes) (b8 : Binds K fd8 psSizes []) (g8 : mg "_law_sizes" = some (.ref f8)) (k8 : PySem.W.keepIn K (.ref f8) = true)
    (G9 : FnOk P w K mg base CX0 (k + 1) f9 fd9 psLWo (spLWo 4)) (b9 : Binds K fd9 psLWo []) (g9 : mg "_law_worth" = some (.ref f9)) (k9 : PySem.W.keepIn K (.ref f9) = true)
    (GP : FnOk P w K mg base CX0 (k + 1) fP fdP ["_law_thing"] (spParts 70)) (bP : Binds K fdP ["_law_thing"] []) (gP : mg "_law_parts" = some (.ref fP)) (kP : PySem.W.keepIn K (.ref fP) = true)
    (GW : FnOk P w K mg base CX0 (k + 1) fW fdW psW (spW T (sDp 4))) (bW : Binds K fdW psW []) (gW : mg "is_worth" = some (.ref fW)) (kW : PySem.W.keepIn K (.ref fW) = true)
    (mr : mg "range" = none) (mn : mg "int" = none) : FnG P w K mg base CX0 (k + 2) f fd ["_law_script"] (spLaw K T) := by
  refine okG F scLaw (fun vs H Q E h => ?_) (fun cdv A outer s H vs Q E still hr h => ?_)
  · obtain ⟨a, ns, rfl, _⟩ := h
    rfl
  obtain ⟨a, ns, rfl, hS, hl, tb, q⟩ := h
  refine ⟨_, pss_cons (ps_set (i := 1) scLaw.nd rfl (.inl rfl) (pe_call G1 hr (by rfl) g1 k1 b1 .nil pass0 (pa_cons (pv 0) pa_nil)))
    (pss_cons (ps_for PassesOwn.never rfl (pi_range1 (by rfl) mr (pa_cons pe_int pa_nil)) (pg_name (i := 2) scLaw.nd rfl (.inl rfl))
      (pss_cons (ps_set (i := 3) scLaw.nd rfl (.inl rfl) (pe_lst pa_nil))
      (pss_cons (ps_for PassesOwn.never rfl (pi_range1 (by rfl) mr (pa_cons pe_int pa_nil)) (pg_name (i := 4) scLaw.nd rfl (.inl rfl))
        (pss_one (ps_expr (pe_bm PySem.F.plainAttrs_list PySem.F.slot_list_append PySem.F.type_list_append mt_append (pv 3) (pa_cons (pe_tup (pa_cons (pe_call G3 hr (by rfl) g3 k3 b3 .nil pass0 (pa_cons (pv 1) (pa_cons pe_int pa_nil))) (pa_cons (pe_call G3 hr (by rfl) g3 k3 b3 .nil pass0 (pa_cons (pv 1) (pa_cons pe_int pa_nil))) (pa_cons (pe_call G3 hr (by rfl) g3 k3 b3 .nil pass0 (pa_cons (pv 1) (pa_cons pe_int pa_nil))) pa_nil)))) pa_nil)))))
      (pss_cons (ps_set (i := 5) scLaw.nd rfl (.inl rfl) (pe_ix ix_list (pe_lst (pa_cons pe_int (pa_cons pe_int pa_nil))) (pe_callTy call_int1 (by rfl) mn (by decide +kernel) (pa_cons (pe_cmpR op_eq (pe_call G3 hr (by rfl) g3 k3 b3 .nil pass0 (pa_cons (pv 1) (pa_cons pe_int pa_nil))) pe_int (nomark _)) pa_nil)) (fun _ _ => rfl)))
      (pss_cons (ps_set (i := 6) scLaw.nd rfl (.inl rfl) (pe_call G4 hr (by rfl) g4 k4 b4 .nil pass0 (pa_cons (pv 1) (pa_cons pe_int pa_nil))))
      (pss_cons (ps_set (i := 7) scLaw.nd rfl (.inl rfl) (pe_call G7 hr (by rfl) g7 k7 b7 .nil pass0 (pa_cons (pv 1) (pa_cons (pv 6) (pa_cons (pe_op op_sub (pe_ix ix_list (pe_lst (pa_cons pe_int (pa_cons pe_int (pa_cons pe_int pa_nil)))) (pe_call G3 hr (by rfl) g3 k3 b3 .nil pass0 (pa_cons (pv 1) (pa_cons pe_int pa_nil))) (fun _ _ => rfl)) (pe_callTy call_int1 (by rfl) mn (by decide +kernel) (pa_cons (pe_cmpR op_eq (pv 5) pe_int (nomark _)) pa_nil))) pa_nil)))))
      (pss_cons (ps_set (i := 8) scLaw.nd rfl (.inl rfl) (pe_call G8 hr (by rfl) g8 k8 b8 .nil pass0 (pa_cons (pv 1) (pa_cons (pv 6) (pa_cons pe_int pa_nil)))))
      (pss_cons (ps_set (i := 9) scLaw.nd rfl (.inr rfl) (pe_call G9 hr (by rfl) g9 k9 b9 .nil pass0 (pa_cons (pv 1) (pa_cons (pv 7) (pa_cons (pv 8) (pa_cons (pv 5) pa_nil))))))
      (pss_cons (ps_set (i := 10) scLaw.nd rfl (.inl rfl) (pe_op op_cat (pe_lst (pa_cons (pv 9) pa_nil)) (pe_lc (own := [("_law_one", 11)]) (g := gName 11) (by rfl) scLaw.nd (pi_list (pe_slice (slLK K rfl) (pv 3) po_none (po_some pe_int))) (blkOk_by (own := [("_law_one", 11)]) (N := nLaw) (sc := defScope tLaw) (by decide +kernel))
        (fun _ _ _ _ _ => pg_name (i := 11) scLaw.nd rfl (.inl rfl)) (fun _ _ _ _ _ => pts_nil) (fun _ _ _ _ _ => pe_call G5 hr (by rfl) g5 k5 b5 .nil pass0 (pa_cons (pv 9) (pa_cons (pe_ix (ixTK K rfl) (pv 11) pe_int (fun _ _ => rfl)) (pa_cons (pe_ix (ixTK K rfl) (pv 11) pe_int (fun _ _ => rfl)) (pa_cons (pe_ix (ixTK K rfl) (pv 11) pe_int (fun _ _ => rfl)) pa_nil))))))))
      (pss_cons (ps_expr (pe_bm PySem.F.plainAttrs_list PySem.F.slot_list_append PySem.F.type_list_append mt_append (pv 10) (pa_cons (pe_call G5 hr (by rfl) g5 k5 b5 .nil pass0 (pa_cons (pe_ix ix_list (pv 10) pe_int (fun _ _ => rfl)) (pa_cons (pe_ix ix_tup (pe_ix ix_list (pv 3) pe_int (fun _ _ => rfl)) pe_int (fun _ _ => rfl)) (pa_cons (pe_ix ix_tup (pe_ix ix_list (pv 3) pe_int (fun _ _ => rfl)) pe_int (fun _ _ => rfl)) (pa_cons (pe_ix ix_tup (pe_ix ix_list (pv 3) pe_int (fun _ _ => rfl)) pe_int (fun _ _ => rfl)) pa_nil))))) pa_nil)))
      (pss_cons (ps_for PassesOwn.never rfl (pi_list (pe_lc (own := [("_law_one", 11)]) (g := gName 11) (by rfl) scLaw.nd (pi_list (pv 10)) (blkOk_by (own := [("_law_one", 11)]) (N := nLaw) (sc := defScope tLaw) (by decide +kernel))
          (fun _ _ _ _ _ => pg_name (i := 11) scLaw.nd rfl (.inl rfl)) (fun _ _ _ _ _ => pts_one (pt_cmpR op_le (pe_call GP hr (by rfl) gP kP bP .nil pass0 (pa_cons (pv 11) pa_nil)) pe_int (nomark _))) (fun _ _ _ _ _ => pv 11))) (pg_name (i := 12) scLaw.nd rfl (.inl rfl))
        (pss_one (ps_if (pt_not (pt_val (pe_callG G6 still hr (by rfl) g6 k6 b6 .nil pass0 (pa_cons (pv 7) (pa_cons (pv 8) (pa_cons (pv 12) pa_nil)))))) (pss_one (ps_ret pe_bl)) pss_nil)))
      (C8.pss_cut (ps_if (PW.pt (pw_and (pt_cmpR op_notN (pv 9) pe_non (nomark _)) (pw_and1 (pt_cmpR op_isnot_bl (pe_call GW hr (by rfl) gW kW bW .nil pass0 (pa_cons (pv 7) (pa_cons (pv 8) (pa_cons (pv 9) pa_nil)))) pe_bl (nomark _)))))
        (pss_one (ps_ret pe_bl)) pss_nil)
      (pss_one (ps_if (PW.pt (pw_or (pt_not (pt_val (pe_callG G6 still hr (by rfl) g6 k6 b6 .nil pass0 (pa_cons (pv 7) (pa_cons (pe_call G8 hr (by rfl) g8 k8 b8 .nil pass0 (pa_cons (pv 1) (pa_cons (pv 6) (pa_cons pe_int pa_nil)))) (pa_cons (pv 9) pa_nil))))))
          (pw_or1 (pt_not (pt_val (pe_callG G6 still hr (by rfl) g6 k6 b6 .nil pass0 (pa_cons (pv 7) (pa_cons Kt.pe_tup0 (pa_cons (pv 9) pa_nil)))))))))
        (pss_one (ps_ret pe_bl)) pss_nil))))))))))))))
    (pss_one (ps_ret pe_bl))), ?_⟩
  refine ⟨_, rfl, a, ns, rfl, hS, hl, fun d c Ga sa dka => ?_⟩
  refine ⟨6, rfl, by decide, by decide, for_range (lo := 0) (n := 6) (fun i σ G => ∃ y2 y3 y4 y5 y6 y7 y8 y9 y10 y12, σ = [some (.ref a), some (.ref d), y2, y3, y4, y5, y6, y7, y8, y9, y10, none, y12] ∧ Dk G d c ∧ TbS T G) ⟨_, _, _, _, _, _, _, _, _, _, rfl, dka, tb.same sa⟩ (fun i σ G hi z => ?_) (fun σ G z => q G)⟩
  obtain ⟨y2, y3, y4, y5, y6, y7, y8, y9, y10, y12, rfl, dk1, tb1⟩ := z
  refine ⟨Nat.zero_le _, fun sp nsp => ?_⟩
  have ssp := newS (o := .lst []) nsp
  have offs := dk1.off nsp
  refine ⟨6, rfl, by decide, by decide, for_range (lo := 0) (n := 6) (fun j σ G => ∃ y4 us, σ = [some (.ref a), some (.ref d), some (.int (0 + (i : Int))), some (.ref sp), y4, y5, y6, y7, y8, y9, y10, none, y12] ∧ Dk G d c ∧ TbS T G ∧ G sp = some (.lst us) ∧ us.length = j ∧ Sps G us) ⟨_, [], rfl, dk1.same ssp, tb1.same ssp, upd_same, rfl, fun u hu => by cases hu⟩ (fun j σ G hj z => ?_) (fun σ G z => ?_)⟩
  · obtain ⟨y4, us, rfl, dkG, tbG, gsp, lus, hus⟩ := z
    refine ⟨_, rfl, .inl ⟨rfl, _, SqL.of gsp⟩, ?_⟩
    refine ⟨_, rfl, d, c, 9, rfl, dkG, by decide, by decide, fun r1 F1 r10 r11 kq1 dq1 => ⟨_, rfl, d, c, 1000003, rfl, dq1, by decide, by decide, fun r2 F2 r20 r21 kq2 dq2 => ⟨_, rfl, d, c, 999983, rfl, dq2, by decide, by decide, fun r3 F3 r30 r31 kq3 dq3 => ⟨(by show 3 ≤ sizeLine; decide), fun p np => ?_⟩⟩⟩⟩
    have kq := (kq1.trans kq2).trans kq3
    have sp3 := newS (o := .tup [.int r1, .int r2, .int r3]) np
    have gsp3 := sp3 _ _ (kq sp _ offs.1 offs.2 gsp)
    have tkq : Tk G F3 := ((Tk.kp kq1 dkG).trans (Tk.kp kq2 dq1)).trans (Tk.kp kq3 dq2)
    have kT : Tk (upd F3 p (.tup [.int r1, .int r2, .int r3])) (upd (upd F3 p (.tup [.int r1, .int r2, .int r3])) sp (.lst (us ++ [.ref p]))) := Tk.rfl.put (fun _ z => by rw [gsp3] at z; cases z)
    have tb3 : TbS T F3 := TbS.kp (TbS.kp (TbS.kp tbG kq1 dkG) kq2 dq1) kq3 dq2
    have tb4 : TbS T (upd (upd F3 p (.tup [.int r1, .int r2, .int r3])) sp (.lst (us ++ [.ref p]))) := fun x hx => by
      obtain ⟨ps, h1, h2⟩ := (tb3.same sp3) x hx
      exact ⟨ps, by rw [upd_ne (fun z => by rw [z, gsp3] at h1; cases h1)]; exact h1, h2⟩
    refine ⟨sp, _, _, rfl, rfl, gsp3, small1000 (by omega), _, us ++ [.ref p], rfl, (dq3.same sp3).put offs.1 offs.2, tb4, upd_same, by rw [List.length_append, lus]; rfl, fun u hu => ?_⟩
    rcases List.mem_append.mp hu with z | z
    · exact hus.tk ((tkq.trans (Tk.of sp3)).trans kT) u z
    · rw [List.mem_singleton.mp z]
      exact ⟨p, r1, r2, r3, rfl, kT p _ upd_same, r20, r30⟩
  obtain ⟨y4, us, rfl, dkG, tbG, gsp, lus, hus⟩ := z
  -- how many items at most
  refine ⟨(by show 2 ≤ sizeLine; decide), fun l0 nl0 => ?_⟩
  have sl0 := newS (o := .lst [.int 4, .int 20]) nl0
  have offl0 := dkG.off nl0
  refine ⟨_, rfl, d, c, 8, rfl, dkG.same sl0, by decide, by decide, fun r0 A1 a0 a1 kA1 dA1 => ⟨rfl, .inr ⟨_, rfl, ?_⟩⟩⟩
  obtain ⟨m, hm, em⟩ : ∃ m : Nat, atI [V.int 4, V.int 20] (if decide (V.int r0 = V.int 3) = true then 1 else 0) = some (.int (m : Int)) ∧ (m = 4 ∨ m = 20) := by
    cases decide (V.int r0 = V.int 3) with
    | true => exact ⟨20, rfl, .inr rfl⟩
    | false => exact ⟨4, rfl, .inl rfl⟩
  refine ⟨l0, _, _, _, rfl, rfl, SqL.of (kA1 l0 _ offl0.1 offl0.2 upd_same), hm, ?_⟩
  have kp1 : Kp d c G A1 := (Kp.of sl0).trans kA1
  have tk1 : Tk G A1 := (Tk.of sl0).trans (Tk.kp kA1 (dkG.same sl0))
  have tbA1 : TbS T A1 := TbS.kp (tbG.same sl0) kA1 (dkG.same sl0)
  -- names
  refine ⟨_, rfl, d, c, 4, rfl, dA1, by decide, by decide, fun o xs A2 kA2 dA2 no go lxs hxs ndx => ?_⟩
  have offo := dA1.off no
  have lx4 : xs.length = 4 := lxs
  -- the kind
  refine ⟨_, rfl, _, rfl, (by show 3 ≤ sizeLine; decide), fun l1 nl1 => ?_⟩
  have sl1 := newS (o := .lst [.int 1, .int 2, .int 3]) nl1
  have offl1 := dA2.off nl1
  refine ⟨_, rfl, d, c, 3, rfl, dA2.same sl1, by decide, by decide, fun r1 A3 b0 b1' kA3 dA3 => ?_⟩
  obtain ⟨g, hgA, hg⟩ : ∃ g : Nat, atI [V.int 1, V.int 2, V.int 3] r1 = some (.int (r1 + 1)) ∧ r1 + 1 - (if decide (V.int (m : Int) = V.int 20) = true then 1 else 0) = ((g : Nat) : Int) ∧ ((m = 4 ∧ g ≤ 3) ∨ (m = 20 ∧ g ≤ 2)) := by
    have er : r1 = 0 ∨ r1 = 1 ∨ r1 = 2 := by omega
    rcases em with rfl | rfl
    · rcases er with rfl | rfl | rfl
      · exact ⟨1, rfl, rfl, .inl ⟨rfl, by decide⟩⟩
      · exact ⟨2, rfl, rfl, .inl ⟨rfl, by decide⟩⟩
      · exact ⟨3, rfl, rfl, .inl ⟨rfl, by decide⟩⟩
    · rcases er with rfl | rfl | rfl
      · exact ⟨0, rfl, rfl, .inr ⟨rfl, by decide⟩⟩
      · exact ⟨1, rfl, rfl, .inr ⟨rfl, by decide⟩⟩
      · exact ⟨2, rfl, rfl, .inr ⟨rfl, by decide⟩⟩
  have ho3 := kA3 o _ offo.1 offo.2 (sl1 _ _ go)
  refine ⟨l1, _, _, _, rfl, rfl, SqL.of (kA3 l1 _ offl1.1 offl1.2 upd_same), hgA, _, rfl, rfl, .inr ⟨_, rfl, _, _, rfl, rfl, ?_⟩⟩
  have g4 : g ≤ 3 := by omega
  refine ⟨d, c, o, xs, g, congrArg (fun z => [V.ref d, V.ref o, V.int z]) hg.1, by omega, dA3, ho3, offo.1, offo.2, by omega, hxs, fun vk t A4 kA4 dA4 rt dt => ?_⟩
  have ho4 := kA4 o _ offo.1 offo.2 ho3
  have ht := dt.dp
  have htg : (m = 4 ∧ t.dp ≤ 3) ∨ (m = 20 ∧ t.dp ≤ 2) := by omega
  -- sizes
  refine ⟨_, rfl, _, rfl, d, c, o, xs, 3, rfl, dA4, ho4, offo.1, offo.2, by omega, ndx, by decide, by decide, fun p sz A5 kA5 dA5 hz hb => ?_⟩
  have ho5 := kA5 o _ offo.1 offo.2 ho4
  have rt5 := rt.tk (Tk.kp kA5 dA4)
  -- the worth
  refine ⟨_, rfl, _, rfl, _, rfl, _, rfl, d, c, vk, p, m, t, sz, rfl, dA5, by omega, dt.nf, dt.nm, rt5, hz, hb, by omega, fun v x A6 kA6 dA6 hv wo => ?_⟩
  have ho6 := kA6 o _ offo.1 offo.2 ho5
  have rt6 := rt5.tk (Tk.kp kA6 dA5)
  have hz6 := hz.kp kA6 dA5
  obtain ⟨fx, fx1, fx2⟩ := fineA wo htg
  have kpA : Kp d c A1 A6 := (((kA2.trans (Kp.of sl1)).trans kA3).trans kA4).trans (kA5.trans kA6)
  have tkA : Tk A1 A6 := ((((Tk.kp kA2 dA1).trans (Tk.of sl1)).trans (Tk.kp kA3 (dA2.same sl1))).trans (Tk.kp kA4 dA3)).trans ((Tk.kp kA5 dA4).trans (Tk.kp kA6 dA5))
  have tbA6 : TbS T A6 := TbS.kp tbA1 kpA dA1
  have gsp6 := (kp1.trans kpA) sp _ offs.1 offs.2 gsp
  have hus6 := hus.tk (tk1.trans tkA)
  have e0 : sizeLine = 16777216 := rfl
  -- the five at first
  refine ⟨_, rfl, (by show 1 ≤ sizeLine; decide), fun k0 nk0 => ⟨_, rfl, 5, rfl, sp, us, rfl, SqL.of (newS nk0 _ _ gsp6), fun sl nsl => ⟨sl, rfl, ⟨_, SqL.of upd_same⟩, fun D nD => ?_⟩⟩⟩
  have q1 := newS (o := .lst [v]) nk0
  have q2 := newS (o := .lst (cutV us none (some 5))) nsl
  have q12 := q1.trans q2
  have ecut : cutV us none (some 5) = us.take 5 := cut_take us 5
  have gsl : (upd (upd A6 k0 (.lst [v])) sl (.lst (cutV us none (some 5)))) sl = some (.lst (us.take 5)) := by rw [upd_same, ecut]
  have l5 : (us.take 5).length = 5 := by rw [List.length_take, lus]; rfl
  have gk0 := q2 k0 _ upd_same
  generalize upd (upd A6 k0 (.lst [v])) sl (.lst (cutV us none (some 5))) = H3 at nD q12 gsl gk0
  have slD : sl ≠ D := ne_of_none gsl nD
  refine lc_list (xs := us.take 5) (fun j F => (∀ b u, b ≠ D → H3 b = some u → F b = some u) ∧ ∃ ts ws, ts.length = j ∧ F D = some (.lst ws) ∧ DdL (fun b => b ≠ D) F ts ws ∧ ∀ x ∈ ts, Fine B1 16 1001720 x) ⟨fun b u hb e => by rw [upd_ne hb]; exact e, [], [], rfl, upd_same, .nil, fun x hx => by cases hx⟩ (fun j F _ z => SqL.of (z.1 _ _ slD gsl)) (fun j u F hx z => ?_) (fun F z => ?_)
  · obtain ⟨sF, ts, ws, lt, gD, hL, hf⟩ := z
    have nDH : ∀ b u, H3 b = some u → F b = some u := fun b u e => sF b u (ne_of_none e nD) e
    obtain ⟨pp, i1, i2, i3, rfl, gp, h1, h2⟩ := hus6 _ (List.mem_of_mem_take (List.mem_of_getElem? hx))
    have gpF := nDH _ _ (q12 _ _ gp)
    have lj := (List.getElem?_eq_some_iff.mp hx).1
    have hdv : Dd (fun b => b ≠ D) F x v := ((hv.same q12).same nDH).at fun b u h _ => h.elim
    refine ⟨rfl, _, rfl, _, rfl, pp, _, _, _, rfl, rfl, SqT.of gpF, atI_nat (j := 0) rfl, _, rfl, pp, _, _, _, rfl, rfl, SqT.of gpF, atI_nat (j := 1) rfl, _, rfl, pp, _, _, _, rfl, rfl, SqT.of gpF, atI_nat (j := 2) rfl,
      (fun b => b ≠ D), v, x, i1, i2, i3, BN, rfl, hdv, h1, h2, (fun b e z => by rw [z, gD] at e; cases e), by omega, by omega, bnLo, bnHi, fx, fun r y' F2 s2 hy' spl => ?_⟩
    have gD2 := s2 _ _ gD
    have kn2 : Kn (fun b => b ≠ D) F2 (upd F2 D (.lst (ws ++ [r]))) := Kn.rfl.put (fun h => h rfl) (fun _ z => by rw [gD2] at z; cases z)
    refine ⟨ws, gD2, ?_, fun b u hb e => by rw [upd_ne hb]; exact s2 _ _ (sF b u hb e), ts ++ [y'], ws ++ [r], by rw [List.length_append, lt]; rfl, upd_same, ((hL.same s2).kn kn2).app (.cons (hy'.kn kn2) .nil), fun x hx => ?_⟩
    · rw [← hL.len, lt]
      exact small1000 (by omega)
    · rcases List.mem_append.mp hx with z | z
      · exact hf x z
      · rw [List.mem_singleton.mp z]
        have := spl.wt
        have := spl.dp
        exact ⟨spl.ok _ bnLo fx, by omega, by omega⟩
  obtain ⟨sF, ts, ws, lt, gD, hL, hf⟩ := z
  rw [l5] at lt
  have nDH : Same H3 F := fun b u e => sF b u (ne_of_none e nD) e
  have sHF : Same A6 F := q12.trans nDH
  have lw := hL.len
  refine ⟨k0, D, _, _, rfl, rfl, nDH _ _ gk0, gD, ?_, fun l3 n3 => ?_⟩
  · rw [List.length_singleton]
    exact Kq.sz (by omega)
  have s3 := newS (o := .lst ([v] ++ ws)) n3
  have off3 := (dA6.same sHF).off n3
  have hLN : DdL (fun b => b ≠ l3) (upd F l3 (.lst ([v] ++ ws))) ts ws := (hL.at fun b u _ e => ne_of_none e n3).same s3
  have hvN : Dd (fun b => b ≠ l3) (upd F l3 (.lst ([v] ++ ws))) x v := ((hv.same sHF).at fun b u h _ => h.elim).same s3
  obtain ⟨t1, ts', w1, ws', rfl, rfl, ht1, _⟩ : ∃ y ys w ws', ts = y :: ys ∧ ws = w :: ws' ∧ Dd (fun b => b ≠ l3) (upd F l3 (.lst ([v] ++ ws))) y w ∧ DdL (fun b => b ≠ l3) (upd F l3 (.lst ([v] ++ ws))) ys ws' := by
    rcases DdL.see hLN with ⟨e, _⟩ | z
    · rw [e] at lt
      cases lt
    · exact z
  obtain ⟨u5, e5⟩ : ∃ u, us[5]? = some u := ⟨_, List.getElem?_eq_getElem (by omega)⟩
  obtain ⟨pp, i1, i2, i3, rfl, gp, h1, h2⟩ := hus6 _ (List.mem_of_getElem? e5)
  have sH3 := sHF.trans s3
  have gspF := sH3 _ _ gsp6
  have gpF := sH3 _ _ gp
  have f1' := hf t1 List.mem_cons_self
  have f2' := f1'.dp
  have f3' := f1'.wt
  refine ⟨_, rfl, .inl ⟨rfl, _, SqL.of upd_same⟩, _, rfl, l3, _, _, _, rfl, rfl, SqL.of upd_same, atI_nat (j := 1) rfl,
    _, rfl, sp, _, _, _, rfl, rfl, SqL.of gspF, atI_nat (j := 5) e5, pp, _, _, _, rfl, rfl, SqT.of gpF, atI_nat (j := 0) rfl,
    _, rfl, sp, _, _, _, rfl, rfl, SqL.of gspF, atI_nat (j := 5) e5, pp, _, _, _, rfl, rfl, SqT.of gpF, atI_nat (j := 1) rfl,
    _, rfl, sp, _, _, _, rfl, rfl, SqL.of gspF, atI_nat (j := 5) e5, pp, _, _, _, rfl, rfl, SqT.of gpF, atI_nat (j := 2) rfl,
    (fun b => b ≠ l3), w1, t1, i1, i2, i3, B1, rfl, ht1, h1, h2, (fun b e z => by rw [z, upd_same] at e; cases e), by omega, by omega, b1Lo, b1Hi, f1'.ok, fun r y' G6' s6 hy' spl => ?_⟩
  have gl6 := s6 l3 _ upd_same
  refine ⟨l3, _, _, rfl, rfl, gl6, small1000 ?_, ?_⟩
  · simp only [List.length_append, List.length_cons, List.length_nil] at lw lt ⊢
    omega
  have kn6 : Kn (fun b => b ≠ l3) G6' (upd G6' l3 (.lst (([v] ++ w1 :: ws') ++ [r]))) := Kn.rfl.put (fun h => h rfl) (fun _ z => by rw [gl6] at z; cases z)
  have el : DdL (fun b => b ≠ l3) (upd G6' l3 (.lst (([v] ++ w1 :: ws') ++ [r]))) ((x :: t1 :: ts') ++ [y']) (([v] ++ w1 :: ws') ++ [r]) :=
    (((DdL.cons hvN hLN).same s6).kn kn6).app (.cons (hy'.kn kn6) .nil)
  have fi : ∀ z ∈ (x :: t1 :: ts') ++ [y'], Fine BM 34 16777214 z := fun z hz => by
    rcases List.mem_append.mp hz with e | e
    · rcases List.mem_cons.mp e with rfl | e
      · exact ⟨Dt.fine_up bnM fx, by omega, by omega⟩
      · have f := hf z e
        have := f.dp
        have := f.wt
        exact ⟨Dt.fine_up b1M f.ok, by omega, by omega⟩
    · rw [List.mem_singleton.mp e]
      have := spl.wt
      have := spl.dp
      exact ⟨Dt.fine_up b2M (spl.ok _ b1Lo f1'.ok), by omega, by omega⟩
  have sA : Same A6 G6' := sH3.trans s6
  have kO : ∀ b u, b ≠ l3 → A6 b = some u → (upd G6' l3 (.lst (([v] ++ w1 :: ws') ++ [r]))) b = some u := fun b u hb e => by
    rw [upd_ne hb]
    exact sA b u e
  have n3A : A6 l3 = none := sHF.free n3
  have kS : Same A6 (upd G6' l3 (.lst (([v] ++ w1 :: ws') ++ [r]))) := fun b u e => kO b u (ne_of_none e n3A) e
  have llen : (([v] ++ w1 :: ws') ++ [r]).length ≤ 7 := by
    simp only [List.length_append, List.length_cons, List.length_nil] at lw lt ⊢
    omega
  have gl : (upd G6' l3 (.lst (([v] ++ w1 :: ws') ++ [r]))) l3 = some (.lst (([v] ++ w1 :: ws') ++ [r])) := upd_same
  generalize ([v] ++ w1 :: ws') ++ [r] = al at el gl kS llen
  generalize (x :: t1 :: ts') ++ [y'] = tl at el fi
  generalize upd G6' l3 (.lst al) = HF at el gl kS
  have dkF := dA6.same kS
  have tbF := tbA6.same kS
  have rtF := rt6.tk (Tk.of kS)
  have hzF := hz6.same kS
  have hoF := kS _ _ ho6
  have hvF : Dd Non HF x v := hv.same kS
  have fxM : Fine BM 70 16777214 x := ⟨Dt.fine_up bnM fx, by omega, by omega⟩
  refine ⟨_, rfl, l3, rfl, ⟨_, SqL.of gl⟩, fun D2 nD2 => ?_⟩
  have l3D : l3 ≠ D2 := ne_of_none gl nD2
  refine lc_list (xs := al) (fun j F => (∀ b u, b ≠ D2 → HF b = some u → F b = some u) ∧ ∃ ts ws, ws.length ≤ j ∧ F D2 = some (.lst ws) ∧ DdL (fun b => b ≠ D2) F ts ws ∧ ∀ x ∈ ts, Fine BM 34 16777214 x) ⟨fun b u hb e => by rw [upd_ne hb]; exact e, [], [], Nat.le_refl _, upd_same, .nil, fun x hx => by cases hx⟩ (fun j F _ z => SqL.of (z.1 _ _ l3D gl)) (fun j u F hx z => ?_) (fun F z => ?_)
  · obtain ⟨sF2, ts2, ws2, lt2, gD2, hL2, hf2⟩ := z
    have nD : Same HF F := fun b u e => sF2 b u (ne_of_none e nD2) e
    obtain ⟨x', hx', rx⟩ := el.get hx
    have rxF : Dd (fun b => b ≠ D2) F x' u := (rx.at fun b u' _ e => ne_of_none e nD2).same nD
    have fx' := fi x' (List.mem_of_getElem? hx')
    have d1 := fx'.dp
    have lj := (List.getElem?_eq_some_iff.mp hx).1
    have w1' := fx'.wt
    refine ⟨rfl, _, rfl, u, x', rfl, by omega, rxF.any, by omega, fun ii F2 s2 => ⟨_, _, rfl, rfl, _, rfl, ite2 (fun _ => ?_) (fun _ => ?_)⟩⟩
    · have gD3 := s2 _ _ gD2
      have kn2 : Kn (fun b => b ≠ D2) F2 (upd F2 D2 (.lst (ws2 ++ [u]))) := Kn.rfl.put (fun h => h rfl) (fun _ z => by rw [gD3] at z; cases z)
      refine ⟨_, rfl, ws2, gD3, small1000 (by omega), fun b u hb e => by rw [upd_ne hb]; exact s2 _ _ (sF2 b u hb e), ts2 ++ [x'], ws2 ++ [u], by rw [List.length_append]; exact Nat.succ_le_succ lt2, upd_same, ((hL2.same s2).kn kn2).app (.cons ((rxF.same s2).kn kn2) .nil), fun z hz => ?_⟩
      rcases List.mem_append.mp hz with e | e
      · exact hf2 z e
      · rw [List.mem_singleton.mp e]
        exact fx'
    · exact ⟨fun b u hb e => s2 _ _ (sF2 b u hb e), ts2, ws2, by omega, s2 _ _ gD2, hL2.same s2, hf2⟩
  obtain ⟨sF2, ts2, ws2, lt2, gD2, hL2, hf2⟩ := z
  have kF : Same HF F := fun b u e => sF2 b u (ne_of_none e nD2) e
  replace dkF := dkF.same kF
  replace tbF := tbF.same kF
  replace rtF := rtF.tk (Tk.of kF)
  replace hzF := hzF.same kF
  replace hoF := kF _ _ hoF
  replace hvF := hvF.same kF
  refine ⟨D2, rfl, ⟨_, SqL.of gD2⟩, for_list (xs := ws2) (fun j σ G => ∃ y12, σ = [some (.ref a), some (.ref d), some (.int (0 + (i : Int))), some (.ref sp), y4, some (.int (m : Int)), some (.ref o), some vk, some (.ref p), some v, some (.ref l3), none, y12] ∧ Sm T F G) ⟨_, rfl, Sm.refl tbF⟩ (fun j σ G _ z => ?_) (fun j u σ G hx z => ?_) (fun σ G z => ?_)⟩
  · obtain ⟨_, _, sG⟩ := z
    exact SqL.of (sG.at tbF gD2 fun _ z => by cases z)
  · obtain ⟨y12, rfl, sG⟩ := z
    obtain ⟨x', hx', rx⟩ := hL2.get hx
    have fx' := hf2 x' (List.mem_of_getElem? hx')
    have d1 := fx'.dp
    exact ⟨_, rfl, _, rfl, _, rfl, vk, p, u, t, sz, x', rfl, by omega, dt.nf, rtF.tk (Tk.sm tbF sG), hzF.sm tbF sG, hb.nd, (rx.kn (sG.kn tbF)).any, ⟨fx'.ok, by omega, fx'.wt⟩, sG.2, fun G2 s2 => ⟨_, rfl, iteF ⟨_, rfl, sG.trans s2⟩⟩⟩
  obtain ⟨y12, rfl, sG⟩ := z
  refine ⟨fun σ G => σ = [some (.ref a), some (.ref d), some (.int (0 + (i : Int))), some (.ref sp), y4, some (.int (m : Int)), some (.ref o), some vk, some (.ref p), some v, some (.ref l3), none, y12] ∧ Sm T F G, ?_, ?b2⟩
  · refine ⟨_, rfl, rfl, _, rfl, ite2 (fun hne => ?_) (fun _ => iteF ⟨rfl, sG⟩)⟩
    refine ⟨_, rfl, _, rfl, _, rfl, vk, p, v, t, sz, x, rfl, by show t.dp + 1 ≤ 4; omega, dt.nf, rtF.tk (Tk.sm tbF sG), hzF.sm tbF sG, (hvF.kn (sG.kn tbF)).any, sG.2, fun G2 s2 => ⟨_, _, rfl, rfl, _, rfl, ite2 (fun e => ?_) (fun _ => ⟨rfl, sG.trans s2⟩)⟩⟩
    rcases wo.is with e1 | e1
    · rw [(dd_non hv).mpr e1] at hne
      cases hne
    · rw [e1] at e
      cases e
  case b2 =>
    rintro σ G ⟨rfl, sG⟩
    have dG := dkF.sm tbF sG
    refine ⟨_, rfl, _, rfl, _, rfl, d, c, o, xs, 2, rfl, dG, sG.at tbF hoF (fun _ z => by cases z), offo.1, offo.2, by omega, ndx, by decide, by decide, fun p2 sz2 C1 kC1 dC1 hz2 hb2 => ?_⟩
    have rtG := (rtF.tk (Tk.sm tbF sG)).tk (Tk.kp kC1 dG)
    have hvG := (hvF.kn (sG.kn tbF)).kn (Kn.tk (Tk.kp kC1 dG))
    have tbC := TbS.kp sG.2 kC1 dG
    refine ⟨_, rfl, vk, p2, v, t, sz2, x, rfl, by omega, dt.nf, rtG, hz2, hb2.nd, hvG.any, fxM, tbC, fun C2 sC2 => ⟨_, rfl, iteF ?_⟩⟩
    refine ⟨_, rfl, fun p3 ob np3 od oc => ?_⟩
    have s3' := newS (o := .frz ob (.tup [])) np3
    refine ⟨_, rfl, vk, p3, v, t, [], x, rfl, by omega, dt.nf, (rtG.tk (Tk.sm tbC sC2)).tk (Tk.of s3'), ⟨ob, [], upd_same, od, oc, .nil⟩, List.nodup_nil, ((hvG.kn (sC2.kn tbC)).same s3').any, fxM, sC2.2.same s3', fun C3 sC3 => ⟨_, rfl, iteF ?_⟩⟩
    exact ⟨_, _, _, _, _, _, _, _, _, _, rfl, ((dC1.sm tbC sC2).same s3').sm (sC2.2.same s3') sC3, sC3.2⟩
end
end Kq

/-! the end where some of the defs hold generator expressions -/
namespace Kg
open PySem PySem.Spec PyProof.Rows L2 LamX
/-- the def's code object, its table: empty -/
def TabOf (mg : Str → Option Value) (h : Heap) (x : Str) : Prop := ∃ (a : Addr) (o : Obj) (fd : FuncData) (c p : Addr), mg x = some (.ref a) ∧ h.get? a = some o ∧ o.data = .func fd ∧ fd.code = .ref c ∧ h.IsCode c p #[] ∧ h.TableAt c p #[]
theorem walk_ofNs {l : PySem.W.OpenLaw} {n k : Nat} {q : Program} {loose : List Str} {XP : (Str → Option Value) → Heap → Prop} {YP : World → Heap → Prop} {d : DefRec} {K : Params → PySem.W.Frag} {CX : World → CXT} {x : Str} (names : List Str)
    (hn : l.most = some n) (hn2 : n ≤ sizeLine) (hdf : d.params.defaults = []) (hr : Room k callerA) (hrec : (names.all fun y => (recsOf q).any fun e => e.name == y) = true) (hY : ∀ (w : World) (h : Heap), YP w h → (K w.params).In h)
    (F : ∀ (w : World) (mg : Str → Option Value) (fa : Addr) (h : Heap), YP w h → (K w.params).In h → h.Ns mainGlobals mg → mg d.name = some (.ref fa) → (∀ y ∈ names, TabOf mg h y) → LawAtS l w (K w.params) (CX w) k n x mg fa h)
    (hCX : ∀ (w : World) (H : Hp) (s : Shared) (e : Value) (s' : Shared), CX w [] H s (fun _ _ _ => False) e s' → False) :
    PySem.W.WalkO q loose XP YP l.row.toRowW d [] (fun f vs => PySem.call f vs) := by
  refine Att.attach_callB hn hdf fun w s₀ s₁ mg mb fa o pm cd doc a vs ns G Y ho hd hcd hmg hobj hints hlen hbits hg => ?_
  have KX := hY w _ Y
  have own : ∀ y ∈ names, TabOf mg s₁.heap y := fun y hy => by
    obtain ⟨dL, hm, hn1⟩ := List.any_eq_true.mp (List.all_eq_true.mp hrec y hy)
    have hn2 : dL.name = y := beq_iff_eq.mp hn1
    obtain ⟨a', o', fd', c', P', h1, h2, h3, h4, h5, h6⟩ := G.T.tab dL hm
    exact ⟨a', o', fd', c', P', by rw [← hn2]; exact h1, h2, h3, h4, h5, h6⟩
  obtain ⟨fd, cs, sp, hT, nT, C, hb, hsp, hF⟩ := F w mg fa _ Y KX G.T.g hmg own
  exact law_callTs KX G.T.g G.T.b G.T.builtins G.T.nolimit hg hT nT C G.T.bmain hobj hints (Nat.le_trans hlen hn2) hr hF hb (fun H hH hS => hsp H a ns hlen hbits hH hS) fun H e s' => hCX w H s₁ e s'
/-- such a def by what is written of it -/
theorem tabOf_at {K : PySem.W.Frag} {mg : Str → Option Value} {h : Heap} {x name qual : Str} {f c p : Addr} {params : Arguments} {body : List Stmt} {scope : Scope} {oc dV kV doc pm ct e : Value} {od an dd : Option Addr} {sl sl' : Array (Option Value)} {vs : Array Value} (X : K.In h) (T : TabOf mg h x) (g : mg x = some (.ref f))
    (l : K.lookup f = some ⟨oc, od, .func (PySem.W.fnOf name qual params body scope dV kV doc pm an (.ref c) ct), sl⟩) (t : K.lookup c = some ⟨e, dd, .fields vs, sl'⟩) (v : vs[11]? = some (.ref p)) :
    h.get? p = some { cls := .none, data := .fields #[] } ∧ PySem.W.CodeHd h c p := by
  obtain ⟨a', o', fd', c', P', h1, h2, h3, h4, h5, h6⟩ := T
  rw [g] at h1
  cases h1
  rw [X _ _ l] at h2
  cases h2
  cases h3
  cases h4
  obtain ⟨⟨oc', vc, e1, e2, e3, e4⟩, hP⟩ := id h6
  rw [X _ _ t] at e1
  cases e1
  cases e3
  rw [v] at e4
  cases e4
  exact ⟨hP, .of h5 h6⟩
end Kg

namespace Kq
open PySem PySem.Spec PyProof.Rows L2 Kf Kg Kv GxR
def KeysAre : List DictEntry → List (Str × Value) → Prop
  | [], [] => True
  | e :: es, (x, v) :: xs => (∃ t, e.key = .str x t) ∧ e.val = v ∧ KeysAre es xs
  | _, _ => False
theorem find_keys (z : Str) : ∀ {es : List DictEntry} {xs : List (Str × Value)}, KeysAre es xs → (es.find? (·.key.isStr z)).map (·.val) = xs.lookup z ∧ es.any (·.refKey) = false
  | [], [], _ => ⟨rfl, rfl⟩
  | e :: es, (x, v) :: xs, h => by
    obtain ⟨⟨t, h1⟩, h2, h3⟩ := h
    obtain ⟨i1, i2⟩ := find_keys z h3
    have e1 : e.key.isStr z = (z == x) := by
      rw [h1]
      show (x == z) = (z == x)
      by_cases c : x = z
      · subst c
        rfl
      · rw [beq_eq_false_iff_ne.mpr c, beq_eq_false_iff_ne.mpr (Ne.symm c)]
    have e2 : e.refKey = false := by
      unfold DictEntry.refKey
      rw [h1]
    refine ⟨?_, by rw [List.any_cons, e2, i2]; rfl⟩
    rw [List.find?_cons, List.lookup_cons, e1]
    cases c : (z == x) with
    | true => exact congrArg some h2
    | false => exact i1
  | [], _ :: _, h => h.elim
  | _ :: _, [], h => h.elim
theorem ns_keys {K : PySem.W.Frag} {a : Addr} {es : Array DictEntry} {n : Nat} {xs : List (Str × Value)} (l : K.lookup a = some ⟨.type "dict", none, .dict es n, #[]⟩) (h : KeysAre es.toList xs) (z : Str) : PySem.W.nsIn K a z = some (xs.lookup z) := by
  obtain ⟨i1, i2⟩ := find_keys z h
  unfold PySem.W.nsIn
  rw [l]
  simp only
  cases c : es.toList.find? (·.key.isStr z) with
  | some e =>
    rw [c] at i1
    exact congrArg some i1
  | none =>
    rw [c] at i1
    simp only [i2]
    exact congrArg some i1
theorem upOk {P : Program} {w : World} {K : PySem.W.Frag} {mg : Str → Option Value} {base : Heap} {j k : Nat} {f : Addr} {fd : FuncData} {ps : List Str} {sp : Sp} (F : FnOk P w K mg base CX0 j f fd ps sp) (h : j ≤ k) : FnOk P w K mg base CX0 k f fd ps sp :=
  ⟨F.len, fun A outer s H args us vs Q E hr => F.run A outer s H args us vs Q E (hr.mono h)⟩
theorem tt_of {q : Program} {mg : Str → Option Value} {h : Heap} (hrec : ((recsOf q).any fun e => e.name == ("is_list" : Str)) = true)
    (tabs : ∀ e ∈ recsOf q, ∃ (a : Addr) (o : Obj) (fd : FuncData) (c p : Addr), mg e.name = some (.ref a) ∧ h.get? a = some o ∧ o.data = .func fd ∧ fd.code = .ref c ∧ h.IsCode c p #[] ∧ h.TableAt c p #[]) : Kg.TabOf mg h "is_list" := by
  obtain ⟨dL, hm, hn1⟩ := List.any_eq_true.mp hrec
  obtain ⟨a', o', fd', c', P', h1, h2, h3, h4, h5, h6⟩ := tabs dL hm
  exact ⟨a', o', fd', c', P', by rw [← (beq_iff_eq.mp hn1)]; exact h1, h2, h3, h4, h5, h6⟩
theorem tabX {base : Heap} {mg : Str → Option Value} {c p : Addr} (t : LamX.TabB base mg c p) : GxR.TabB base mg c p := ⟨t.code, t.bm, t.gP⟩
theorem all_mk {l : PySem.W.OpenLaw} {w : World} {K : PySem.W.Frag} {h : Heap} {mg : Str → Option Value} {fa dA oF f1 f2 f3 f4 f5 f6 f7 f8 f9 f10 f11 f12 f13 f14 f15 f16 f17 f18 f19 f20 f21 f22 f23 f24 f25 f26 f27 f28 f29 c11 p11 : Addr} (X : K.In h) (G : h.Ns mainGlobals mg) (hfa : mg "law" = some (.ref fa))
    (TT : Kg.TabOf mg h "is_list")
    {od1 an1 od2 an2 od3 an3 od4 an4 od5 an5 od6 an6 od7 an7 od8 an8 od9 an9 od10 an10 od11 an11 od12 an12 od13 an13 od14 an14 od15 an15 od16 an16 od17 an17 od18 an18 od19 an19 od20 an20 od21 an21 od22 an22 od23 an23 od24 an24 od25 an25 od26 an26 od27 an27 od28 an28 od29 an29 dd11 : Option Addr} {sl1 sl2 sl3 sl4 sl5 sl6 sl7 sl8 sl9 sl10 sl11 sl12 sl13 sl14 sl15 sl16 sl17 sl18 sl19 sl20 sl21 sl22 sl23 sl24 sl25 sl26 sl27 sl28 sl29 sm11 : Array (Option Value)} {es : Array DictEntry} {nD : Nat} {oc1 kV1 dc1 pm1 ct1 oc2 kV2 dc2 pm2 ct2 oc3 kV3 dc3 pm3 ct3 oc4 kV4 dc4 pm4 ct4 oc5 kV5 dc5 pm5 ct5 oc6 kV6 dc6 pm6 ct6 oc7 kV7 dc7 pm7 ct7 oc8 kV8 dc8 pm8 ct8 oc9 kV9 dc9 pm9 ct9 oc10 kV10 dc10 pm10 ct10 oc11 kV11 dc11 pm11 ct11 oc12 kV12 dc12 pm12 ct12 oc13 kV13 dc13 pm13 ct13 oc14 kV14 dc14 pm14 ct14 oc15 kV15 dc15 pm15 ct15 oc16 kV16 dc16 pm16 ct16 oc17 kV17 dc17 pm17 ct17 oc18 kV18 dc18 pm18 ct18 oc19 kV19 dc19 pm19 ct19 oc20 kV20 dc20 pm20 ct20 oc21 kV21 dc21 pm21 ct21 oc22 kV22 dc22 pm22 ct22 oc23 kV23 dc23 pm23 ct23 oc24 kV24 dc24 pm24 ct24 oc25 kV25 dc25 pm25 ct25 oc26 kV26 dc26 pm26 ct26 oc27 kV27 dc27 pm27 ct27 oc28 kV28 dc28 pm28 ct28 oc29 kV29 dc29 pm29 ct29 cd1 cd2 cd3 cd4 cd5 cd6 cd7 cd8 cd9 cd10 cd12 cd13 cd14 cd15 cd16 cd17 cd18 cd19 cd20 cd21 cd22 cd23 cd24 cd25 cd26 cd27 cd28 cd29 e11 : Value} {vs11 : Array Value}
    (a1 : PySem.W.nsIn K mainGlobals "is_truth" = some (some (.ref f1))) (l1 : K.lookup f1 = some ⟨oc1, od1, .func (PySem.W.fnOf "is_truth" "is_truth" (defArgs tTruth) (defBody tTruth) (defScope tTruth) .none kV1 dc1 pm1 an1 cd1 ct1), sl1⟩)
      (q1 : PySem.W.codeIn K cd1 "is_truth" = true) (k1 : PySem.W.keepIn K (.ref f1) = true)
    (a2 : PySem.W.nsIn K mainGlobals "is_whole" = some (some (.ref f2))) (l2 : K.lookup f2 = some ⟨oc2, od2, .func (PySem.W.fnOf "is_whole" "is_whole" (defArgs tWhole) (defBody tWhole) (defScope tWhole) .none kV2 dc2 pm2 an2 cd2 ct2), sl2⟩)
      (q2 : PySem.W.codeIn K cd2 "is_whole" = true) (k2 : PySem.W.keepIn K (.ref f2) = true)
    (a3 : PySem.W.nsIn K mainGlobals "is_number" = some (some (.ref f3))) (l3 : K.lookup f3 = some ⟨oc3, od3, .func (PySem.W.fnOf "is_number" "is_number" (defArgs tNumber) (defBody tNumber) (defScope tNumber) .none kV3 dc3 pm3 an3 cd3 ct3), sl3⟩)
      (q3 : PySem.W.codeIn K cd3 "is_number" = true) (k3 : PySem.W.keepIn K (.ref f3) = true)
    (a4 : PySem.W.nsIn K mainGlobals "is_tagged" = some (some (.ref f4))) (l4 : K.lookup f4 = some ⟨oc4, od4, .func (PySem.W.fnOf "is_tagged" "is_tagged" (defArgs tTagged) (defBody tTagged) (defScope tTagged) .none kV4 dc4 pm4 an4 cd4 ct4), sl4⟩)
      (q4 : PySem.W.codeIn K cd4 "is_tagged" = true) (k4 : PySem.W.keepIn K (.ref f4) = true)
    (a5 : PySem.W.nsIn K mainGlobals "is_worth" = some (some (.ref f5))) (l5 : K.lookup f5 = some ⟨oc5, od5, .func (PySem.W.fnOf "is_worth" "is_worth" (defArgs tIsWorth) (defBody tIsWorth) (defScope tIsWorth) .none kV5 dc5 pm5 an5 cd5 ct5), sl5⟩)
      (q5 : PySem.W.codeIn K cd5 "is_worth" = true) (k5 : PySem.W.keepIn K (.ref f5) = true)
    (a6 : PySem.W.nsIn K mainGlobals "is_thing" = some (some (.ref f6))) (l6 : K.lookup f6 = some ⟨oc6, od6, .func (PySem.W.fnOf "is_thing" "is_thing" (defArgs tIsThing) (defBody tIsThing) (defScope tIsThing) .none kV6 dc6 pm6 an6 cd6 ct6), sl6⟩)
      (q6 : PySem.W.codeIn K cd6 "is_thing" = true) (k6 : PySem.W.keepIn K (.ref f6) = true)
    (a7 : PySem.W.nsIn K mainGlobals "is_num" = some (some (.ref f7))) (l7 : K.lookup f7 = some ⟨oc7, od7, .func (PySem.W.fnOf "is_num" "is_num" (defArgs tIsNum) (defBody tIsNum) (defScope tIsNum) .none kV7 dc7 pm7 an7 cd7 ct7), sl7⟩)
      (q7 : PySem.W.codeIn K cd7 "is_num" = true) (k7 : PySem.W.keepIn K (.ref f7) = true)
    (a8 : PySem.W.nsIn K mainGlobals "is_yes_or_no" = some (some (.ref f8))) (l8 : K.lookup f8 = some ⟨oc8, od8, .func (PySem.W.fnOf "is_yes_or_no" "is_yes_or_no" (defArgs tIsYes) (defBody tIsYes) (defScope tIsYes) .none kV8 dc8 pm8 an8 cd8 ct8), sl8⟩)
      (q8 : PySem.W.codeIn K cd8 "is_yes_or_no" = true) (k8 : PySem.W.keepIn K (.ref f8) = true)
    (a9 : PySem.W.nsIn K mainGlobals "is_pair" = some (some (.ref f9))) (l9 : K.lookup f9 = some ⟨oc9, od9, .func (PySem.W.fnOf "is_pair" "is_pair" (defArgs tIsPair) (defBody tIsPair) (defScope tIsPair) .none kV9 dc9 pm9 an9 cd9 ct9), sl9⟩)
      (q9 : PySem.W.codeIn K cd9 "is_pair" = true) (k9 : PySem.W.keepIn K (.ref f9) = true)
    (a10 : PySem.W.nsIn K mainGlobals "is_side" = some (some (.ref f10))) (l10 : K.lookup f10 = some ⟨oc10, od10, .func (PySem.W.fnOf "is_side" "is_side" (defArgs tIsSide) (defBody tIsSide) (defScope tIsSide) .none kV10 dc10 pm10 an10 cd10 ct10), sl10⟩)
      (q10 : PySem.W.codeIn K cd10 "is_side" = true) (k10 : PySem.W.keepIn K (.ref f10) = true)
    (a11 : PySem.W.nsIn K mainGlobals "is_list" = some (some (.ref f11))) (l11 : K.lookup f11 = some ⟨oc11, od11, .func (PySem.W.fnOf "is_list" "is_list" (defArgs tIsList) (defBody tIsList) (defScope tIsList) .none kV11 dc11 pm11 an11 (.ref c11) ct11), sl11⟩)
      (q11 : PySem.W.codeIn K (.ref c11) "is_list" = true) (k11 : PySem.W.keepIn K (.ref f11) = true)
    (a12 : PySem.W.nsIn K mainGlobals "things_of" = some (some (.ref f12))) (l12 : K.lookup f12 = some ⟨oc12, od12, .func (PySem.W.fnOf "things_of" "things_of" (defArgs tThings) (defBody tThings) (defScope tThings) .none kV12 dc12 pm12 an12 cd12 ct12), sl12⟩)
      (q12 : PySem.W.codeIn K cd12 "things_of" = true) (k12 : PySem.W.keepIn K (.ref f12) = true)
    (a13 : PySem.W.nsIn K mainGlobals "_law_deck" = some (some (.ref f13))) (l13 : K.lookup f13 = some ⟨oc13, od13, .func (PySem.W.fnOf "_law_deck" "_law_deck" (defArgs tDeck) (defBody tDeck) (defScope tDeck) .none kV13 dc13 pm13 an13 cd13 ct13), sl13⟩)
      (q13 : PySem.W.codeIn K cd13 "_law_deck" = true) (k13 : PySem.W.keepIn K (.ref f13) = true)
    (a14 : PySem.W.nsIn K mainGlobals "_law_mixed" = some (some (.ref f14))) (l14 : K.lookup f14 = some ⟨oc14, od14, .func (PySem.W.fnOf "_law_mixed" "_law_mixed" (defArgs tMixed) (defBody tMixed) (defScope tMixed) .none kV14 dc14 pm14 an14 cd14 ct14), sl14⟩)
      (q14 : PySem.W.codeIn K cd14 "_law_mixed" = true) (k14 : PySem.W.keepIn K (.ref f14) = true)
    (a15 : PySem.W.nsIn K mainGlobals "_law_draw" = some (some (.ref f15))) (l15 : K.lookup f15 = some ⟨oc15, od15, .func (PySem.W.fnOf "_law_draw" "_law_draw" (defArgs tDraw) (defBody tDraw) (defScope tDraw) .none kV15 dc15 pm15 an15 cd15 ct15), sl15⟩)
      (q15 : PySem.W.codeIn K cd15 "_law_draw" = true) (k15 : PySem.W.keepIn K (.ref f15) = true)
    (a16 : PySem.W.nsIn K mainGlobals "_law_names" = some (some (.ref f16))) (l16 : K.lookup f16 = some ⟨oc16, od16, .func (PySem.W.fnOf "_law_names" "_law_names" (defArgs tNames) (defBody tNames) (defScope tNames) .none kV16 dc16 pm16 an16 cd16 ct16), sl16⟩)
      (q16 : PySem.W.codeIn K cd16 "_law_names" = true) (k16 : PySem.W.keepIn K (.ref f16) = true)
    (a17 : PySem.W.nsIn K mainGlobals "_law_data" = some (some (.ref f17))) (l17 : K.lookup f17 = some ⟨oc17, od17, .func (PySem.W.fnOf "_law_data" "_law_data" (defArgs tData) (defBody tData) (defScope tData) .none kV17 dc17 pm17 an17 cd17 ct17), sl17⟩)
      (q17 : PySem.W.codeIn K cd17 "_law_data" = true) (k17 : PySem.W.keepIn K (.ref f17) = true)
    (a18 : PySem.W.nsIn K mainGlobals "_law_sizes" = some (some (.ref f18))) (l18 : K.lookup f18 = some ⟨oc18, od18, .func (PySem.W.fnOf "_law_sizes" "_law_sizes" (defArgs tSizes) (defBody tSizes) (defScope tSizes) .none kV18 dc18 pm18 an18 cd18 ct18), sl18⟩)
      (q18 : PySem.W.codeIn K cd18 "_law_sizes" = true) (k18 : PySem.W.keepIn K (.ref f18) = true)
    (a19 : PySem.W.nsIn K mainGlobals "_law_worth" = some (some (.ref f19))) (l19 : K.lookup f19 = some ⟨oc19, od19, .func (PySem.W.fnOf "_law_worth" "_law_worth" (defArgs tLWo) (defBody tLWo) (defScope tLWo) .none kV19 dc19 pm19 an19 cd19 ct19), sl19⟩)
      (q19 : PySem.W.codeIn K cd19 "_law_worth" = true) (k19 : PySem.W.keepIn K (.ref f19) = true)
    (a20 : PySem.W.nsIn K mainGlobals "_law_is_number" = some (some (.ref f20))) (l20 : K.lookup f20 = some ⟨oc20, od20, .func (PySem.W.fnOf "_law_is_number" "_law_is_number" (defArgs tLNumber) (defBody tLNumber) (defScope tLNumber) .none kV20 dc20 pm20 an20 cd20 ct20), sl20⟩)
      (q20 : PySem.W.codeIn K cd20 "_law_is_number" = true) (k20 : PySem.W.keepIn K (.ref f20) = true)
    (a21 : PySem.W.nsIn K mainGlobals "_law_is_worth" = some (some (.ref f21))) (l21 : K.lookup f21 = some ⟨oc21, od21, .func (PySem.W.fnOf "_law_is_worth" "_law_is_worth" (defArgs tLWorth) (defBody tLWorth) (defScope tLWorth) .none kV21 dc21 pm21 an21 cd21 ct21), sl21⟩)
      (q21 : PySem.W.codeIn K cd21 "_law_is_worth" = true) (k21 : PySem.W.keepIn K (.ref f21) = true)
    (a22 : PySem.W.nsIn K mainGlobals "_law_spots" = some (some (.ref f22))) (l22 : K.lookup f22 = some ⟨oc22, od22, .func (PySem.W.fnOf "_law_spots" "_law_spots" (defArgs tSpots) (defBody tSpots) (defScope tSpots) .none kV22 dc22 pm22 an22 cd22 ct22), sl22⟩)
      (q22 : PySem.W.codeIn K cd22 "_law_spots" = true) (k22 : PySem.W.keepIn K (.ref f22) = true)
    (a23 : PySem.W.nsIn K mainGlobals "_law_at" = some (some (.ref f23))) (l23 : K.lookup f23 = some ⟨oc23, od23, .func (PySem.W.fnOf "_law_at" "_law_at" (defArgs tAt) (defBody tAt) (defScope tAt) .none kV23 dc23 pm23 an23 cd23 ct23), sl23⟩)
      (q23 : PySem.W.codeIn K cd23 "_law_at" = true) (k23 : PySem.W.keepIn K (.ref f23) = true)
    (a24 : PySem.W.nsIn K mainGlobals "_law_with" = some (some (.ref f24))) (l24 : K.lookup f24 = some ⟨oc24, od24, .func (PySem.W.fnOf "_law_with" "_law_with" (defArgs tWith) (defBody tWith) (defScope tWith) .none kV24 dc24 pm24 an24 cd24 ct24), sl24⟩)
      (q24 : PySem.W.codeIn K cd24 "_law_with" = true) (k24 : PySem.W.keepIn K (.ref f24) = true)
    (a25 : PySem.W.nsIn K mainGlobals "_law_text_bent" = some (some (.ref f25))) (l25 : K.lookup f25 = some ⟨oc25, od25, .func (PySem.W.fnOf "_law_text_bent" "_law_text_bent" (defArgs tBent) (defBody tBent) (defScope tBent) .none kV25 dc25 pm25 an25 cd25 ct25), sl25⟩)
      (q25 : PySem.W.codeIn K cd25 "_law_text_bent" = true) (k25 : PySem.W.keepIn K (.ref f25) = true)
    (a26 : PySem.W.nsIn K mainGlobals "_law_spoilt" = some (some (.ref f26))) (l26 : K.lookup f26 = some ⟨oc26, od26, .func (PySem.W.fnOf "_law_spoilt" "_law_spoilt" (defArgs tSpoilt) (defBody tSpoilt) (defScope tSpoilt) .none kV26 dc26 pm26 an26 cd26 ct26), sl26⟩)
      (q26 : PySem.W.codeIn K cd26 "_law_spoilt" = true) (k26 : PySem.W.keepIn K (.ref f26) = true)
    (a27 : PySem.W.nsIn K mainGlobals "_law_parts" = some (some (.ref f27))) (l27 : K.lookup f27 = some ⟨oc27, od27, .func (PySem.W.fnOf "_law_parts" "_law_parts" (defArgs tParts) (defBody tParts) (defScope tParts) .none kV27 dc27 pm27 an27 cd27 ct27), sl27⟩)
      (q27 : PySem.W.codeIn K cd27 "_law_parts" = true) (k27 : PySem.W.keepIn K (.ref f27) = true)
    (a28 : PySem.W.nsIn K mainGlobals "_law_right" = some (some (.ref f28))) (l28 : K.lookup f28 = some ⟨oc28, od28, .func (PySem.W.fnOf "_law_right" "_law_right" (defArgs tRight) (defBody tRight) (defScope tRight) .none kV28 dc28 pm28 an28 cd28 ct28), sl28⟩)
      (q28 : PySem.W.codeIn K cd28 "_law_right" = true) (k28 : PySem.W.keepIn K (.ref f28) = true)
    (a29 : PySem.W.nsIn K mainGlobals "law" = some (some (.ref f29))) (l29 : K.lookup f29 = some ⟨oc29, od29, .func (PySem.W.fnOf "law" "law" (defArgs tLaw) (defBody tLaw) (defScope tLaw) .none kV29 dc29 pm29 an29 cd29 ct29), sl29⟩)
      (q29 : PySem.W.codeIn K cd29 "law" = true) (k29 : PySem.W.keepIn K (.ref f29) = true)
    (t11 : K.lookup c11 = some ⟨e11, dd11, .fields vs11, sm11⟩) (v11 : vs11[11]? = some (.ref p11)) (n11 : K.lookup p11 = none)
    (aD : PySem.W.nsIn K mainGlobals "CHECKS" = some (some (.ref dA))) (lD : K.lookup dA = some ⟨.type "dict", none, .dict es nD, #[]⟩) (tD : PySem.W.KeysLit w.params es.toList) (sD : (dA == sysModules) = false)
    (kD : KeysAre es.toList [("open", .ref f6), ("num", .ref f7), ("truth", .ref f8), ("pair", .ref f9), ("either", .ref f10), ("list", .ref f11), ("fun", .ref oF)])
    (z1 : PySem.W.nsIn K mainGlobals "range" = some none) (z2 : PySem.W.nsIn K mainGlobals "len" = some none) (z3 : PySem.W.nsIn K mainGlobals "list" = some none) (z4 : PySem.W.nsIn K mainGlobals "reversed" = some none) (z5 : PySem.W.nsIn K mainGlobals "tuple" = some none) (z6 : PySem.W.nsIn K mainGlobals "all" = some none) (z7 : PySem.W.nsIn K mainGlobals "isinstance" = some none) (z8 : PySem.W.nsIn K mainGlobals "bool" = some none) (z9 : PySem.W.nsIn K mainGlobals "str" = some none) (z10 : PySem.W.nsIn K mainGlobals "int" = some none) (z11 : PySem.W.nsIn K mainGlobals "repr" = some none) (z12 : PySem.W.nsIn K mainGlobals "enumerate" = some none) (z13 : PySem.W.nsIn K mainGlobals "sorted" = some none) (z14 : PySem.W.nsIn K mainGlobals "dict" = some none) (z15 : PySem.W.nsIn K mainGlobals "sum" = some none) :
    LawG l w K CX0 104 63 "_law_script" mg fa h := by
  have e := hfa.symm.trans (PySem.W.mg_of X G a29)
  cases e
  have F1 := fun_mk (st := tTruth) l1 q1 k1
  have b1 := F1.binds (ps := ["thing"]) fun _ _ _ _ _ _ us hl => match us, hl with | [_], _ => rfl
  have g1 := PySem.W.mg_of X G a1
  have F2 := fun_mk (st := tWhole) l2 q2 k2
  have b2 := F2.binds (ps := ["thing"]) fun _ _ _ _ _ _ us hl => match us, hl with | [_], _ => rfl
  have g2 := PySem.W.mg_of X G a2
  have F3 := fun_mk (st := tNumber) l3 q3 k3
  have b3 := F3.binds (ps := ["thing"]) fun _ _ _ _ _ _ us hl => match us, hl with | [_], _ => rfl
  have g3 := PySem.W.mg_of X G a3
  have F4 := fun_mk (st := tTagged) l4 q4 k4
  have b4 := F4.binds (ps := ["thing", "word", "many"]) fun _ _ _ _ _ _ us hl => match us, hl with | [_, _, _], _ => rfl
  have g4 := PySem.W.mg_of X G a4
  have F5 := fun_mk (st := tIsWorth) l5 q5 k5
  have b5 := F5.binds (ps := psW) fun _ _ _ _ _ _ us hl => match us, hl with | [_, _, _], _ => rfl
  have g5 := PySem.W.mg_of X G a5
  have F6 := fun_mk (st := tIsThing) l6 q6 k6
  have b6 := F6.binds (ps := psW) fun _ _ _ _ _ _ us hl => match us, hl with | [_, _, _], _ => rfl
  have g6 := PySem.W.mg_of X G a6
  have F7 := fun_mk (st := tIsNum) l7 q7 k7
  have b7 := F7.binds (ps := psW) fun _ _ _ _ _ _ us hl => match us, hl with | [_, _, _], _ => rfl
  have g7 := PySem.W.mg_of X G a7
  have F8 := fun_mk (st := tIsYes) l8 q8 k8
  have b8 := F8.binds (ps := psW) fun _ _ _ _ _ _ us hl => match us, hl with | [_, _, _], _ => rfl
  have g8 := PySem.W.mg_of X G a8
  have F9 := fun_mk (st := tIsPair) l9 q9 k9
  have b9 := F9.binds (ps := psW) fun _ _ _ _ _ _ us hl => match us, hl with | [_, _, _], _ => rfl
  have g9 := PySem.W.mg_of X G a9
  have F10 := fun_mk (st := tIsSide) l10 q10 k10
  have b10 := F10.binds (ps := psW) fun _ _ _ _ _ _ us hl => match us, hl with | [_, _, _], _ => rfl
  have g10 := PySem.W.mg_of X G a10
  have F11 := fun_mk (st := tIsList) l11 q11 k11
  have b11 := F11.binds (ps := psW) fun _ _ _ _ _ _ us hl => match us, hl with | [_, _, _], _ => rfl
  have g11 := PySem.W.mg_of X G a11
  have F12 := fun_mk (st := tThings) l12 q12 k12
  have b12 := F12.binds (ps := ["sizes", "name"]) fun _ _ _ _ _ _ us hl => match us, hl with | [_, _], _ => rfl
  have g12 := PySem.W.mg_of X G a12
  have F13 := fun_mk (st := tDeck) l13 q13 k13
  have b13 := F13.binds (ps := ["_law_script"]) fun _ _ _ _ _ _ us hl => match us, hl with | [_], _ => rfl
  have g13 := PySem.W.mg_of X G a13
  have F14 := fun_mk (st := tMixed) l14 q14 k14
  have b14 := F14.binds (ps := ["_law_cell", "_law_k"]) fun _ _ _ _ _ _ us hl => match us, hl with | [_, _], _ => rfl
  have g14 := PySem.W.mg_of X G a14
  have F15 := fun_mk (st := tDraw) l15 q15 k15
  have b15 := F15.binds (ps := ["_law_deck_here", "_law_most"]) fun _ _ _ _ _ _ us hl => match us, hl with | [_, _], _ => rfl
  have g15 := PySem.W.mg_of X G a15
  have F16 := fun_mk (st := tNames) l16 q16 k16
  have b16 := F16.binds (ps := ["_law_deck_here", "_law_many"]) fun _ _ _ _ _ _ us hl => match us, hl with | [_, _], _ => rfl
  have g16 := PySem.W.mg_of X G a16
  have F17 := fun_mk (st := tData) l17 q17 k17
  have b17 := F17.binds (ps := psData) fun _ _ _ _ _ _ us hl => match us, hl with | [_, _, _], _ => rfl
  have g17 := PySem.W.mg_of X G a17
  have F18 := fun_mk (st := tSizes) l18 q18 k18
  have b18 := F18.binds (ps := psSizes) fun _ _ _ _ _ _ us hl => match us, hl with | [_, _, _], _ => rfl
  have g18 := PySem.W.mg_of X G a18
  have F19 := fun_mk (st := tLWo) l19 q19 k19
  have b19 := F19.binds (ps := psLWo) fun _ _ _ _ _ _ us hl => match us, hl with | [_, _, _, _], _ => rfl
  have g19 := PySem.W.mg_of X G a19
  have F20 := fun_mk (st := tLNumber) l20 q20 k20
  have b20 := F20.binds (ps := ["_law_thing"]) fun _ _ _ _ _ _ us hl => match us, hl with | [_], _ => rfl
  have g20 := PySem.W.mg_of X G a20
  have F21 := fun_mk (st := tLWorth) l21 q21 k21
  have b21 := F21.binds (ps := psLW) fun _ _ _ _ _ _ us hl => match us, hl with | [_, _, _], _ => rfl
  have g21 := PySem.W.mg_of X G a21
  have F22 := fun_mk (st := tSpots) l22 q22 k22
  have b22 := F22.binds (ps := ["_law_thing"]) fun _ _ _ _ _ _ us hl => match us, hl with | [_], _ => rfl
  have g22 := PySem.W.mg_of X G a22
  have F23 := fun_mk (st := tAt) l23 q23 k23
  have b23 := F23.binds (ps := ["_law_thing", "_law_spot"]) fun _ _ _ _ _ _ us hl => match us, hl with | [_, _], _ => rfl
  have g23 := PySem.W.mg_of X G a23
  have F24 := fun_mk (st := tWith) l24 q24 k24
  have b24 := F24.binds (ps := psWith) fun _ _ _ _ _ _ us hl => match us, hl with | [_, _, _], _ => rfl
  have g24 := PySem.W.mg_of X G a24
  have F25 := fun_mk (st := tBent) l25 q25 k25
  have b25 := F25.binds (ps := ["_law_text", "_law_what"]) fun _ _ _ _ _ _ us hl => match us, hl with | [_, _], _ => rfl
  have g25 := PySem.W.mg_of X G a25
  have F26 := fun_mk (st := tSpoilt) l26 q26 k26
  have b26 := F26.binds (ps := psSpoilt) fun _ _ _ _ _ _ us hl => match us, hl with | [_, _, _, _], _ => rfl
  have g26 := PySem.W.mg_of X G a26
  have F27 := fun_mk (st := tParts) l27 q27 k27
  have b27 := F27.binds (ps := ["_law_thing"]) fun _ _ _ _ _ _ us hl => match us, hl with | [_], _ => rfl
  have g27 := PySem.W.mg_of X G a27
  have F28 := fun_mk (st := tRight) l28 q28 k28
  have b28 := F28.binds (ps := psRight) fun _ _ _ _ _ _ us hl => match us, hl with | [_, _, _], _ => rfl
  have g28 := PySem.W.mg_of X G a28
  have F29 := fun_mk (st := tLaw) l29 q29 k29
  have m_range := PySem.W.mg_none_of X G z1
  have m_len := PySem.W.mg_none_of X G z2
  have m_list := PySem.W.mg_none_of X G z3
  have m_reversed := PySem.W.mg_none_of X G z4
  have m_tuple := PySem.W.mg_none_of X G z5
  have m_all := PySem.W.mg_none_of X G z6
  have m_isinstance := PySem.W.mg_none_of X G z7
  have m_bool := PySem.W.mg_none_of X G z8
  have m_str := PySem.W.mg_none_of X G z9
  have m_int := PySem.W.mg_none_of X G z10
  have m_repr := PySem.W.mg_none_of X G z11
  have m_enumerate := PySem.W.mg_none_of X G z12
  have m_sorted := PySem.W.mg_none_of X G z13
  have m_dict := PySem.W.mg_none_of X G z14
  have m_sum := PySem.W.mg_none_of X G z15
  have C11 := Kg.funC_mk (st := tIsList) l11 q11
  obtain ⟨h11, hc11⟩ := Kg.tabOf_at X TT g11 l11 t11 v11
  have gD := PySem.W.mg_of X G aD
  have hD : Chk K w dA f6 f7 f8 f9 f10 f11 es nD :=
    ⟨⟨lD, tD, sD⟩, (ns_keys lD kD _).trans rfl, (ns_keys lD kD _).trans rfl, (ns_keys lD kD _).trans rfl, (ns_keys lD kD _).trans rfl, (ns_keys lD kD _).trans rfl, (ns_keys lD kD _).trans rfl⟩
  refine ⟨PySem.W.fnOf "law" "law" (defArgs tLaw) (defBody tLaw) (defScope tLaw) .none kV29 dc29 pm29 an29 cd29 ct29, [(c11, p11)], spLaw K [p11], ?T, fun s v => .of_eq rfl, fun H a ns hl _ hH hS => ⟨a, ns, rfl, hS, hl, ?S, fun _ => rfl⟩, fun base _ _ TB => ?_⟩
  case T =>
    intro p hp
    rw [List.mem_singleton.mp hp]
    exact ⟨h11, n11, hc11⟩
  case S =>
    intro p hp
    rw [List.mem_singleton.mp hp]
    exact ⟨#[], hH (c11, p11) (by simp), True.intro⟩
  have T1 := tabX (TB (c11, p11) (by simp))
  have M1 : p11 ∈ [p11] := by simp
  have D0 : ∀ k, FnOk l.prog w K mg base CX0 (k + 2) f15 _ ["_law_deck_here", "_law_most"] spDraw := fun k => okDraw F15 F14 b14 g14
  have TG : ∀ k, FnOk l.prog w K mg base CX0 (k + 1) f4 _ ["thing", "word", "many"] spTagged := fun k => okTagged F4 m_isinstance m_tuple m_len
  have NU : ∀ k, FnOk l.prog w K mg base CX0 (k + 2) f3 _ ["thing"] (spYesS numD) := fun k => okNumber F3 (okWhole (k := k) F2 m_isinstance m_bool m_int) b2 g2 k2
  have TO : ∀ k, FnOk l.prog w K mg base CX0 (k + 1) f12 _ ["sizes", "name"] spThings := fun k => okThings F12
  have TR : ∀ k, FnOk l.prog w K mg base CX0 (k + 1) f1 _ ["thing"] (spYesS Dt.isBl) := fun k => okTruth F1 m_isinstance m_bool
  have IW := okIsWorth (P := l.prog) (w := w) (base := base) (T := [p11]) F5 b5 g5 gD hD F6 b6 F7 b7 F8 b8 F9 b9 F10 b10 C11 T1 M1 b11 k11 TG b4 g4 k4 NU b3 g3 k3 TO b12 g12 k12 TR b1 g1 k1 m_all m_isinstance m_tuple 4
  have LW := okLWorth (P := l.prog) (w := w) (base := base) F21 b21 g21 F20 b20 g20 m_isinstance m_bool m_tuple m_str m_len m_int m_dict 4
  have R0 := okRight (P := l.prog) (w := w) (base := base) (k := 0) (T := [p11]) F28 (upOk IW (by decide)) b5 g5 k5 (upOk LW (by decide)) b21 g21 k21 m_repr m_range m_isinstance m_bool
  have DA := okData (P := l.prog) (w := w) (base := base) F17 b17 g17 F15 b15 g15 F14 b14 g14 m_len 4
  have NM := okNames (P := l.prog) (w := w) (base := base) (k := 0) F16 (D0 0) b15 g15 k15 m_list m_range
  have SZ := okSizes (P := l.prog) (w := w) (base := base) (k := 0) F18 (D0 0) b15 g15 k15 m_sorted m_tuple m_int
  have LO := okLWo (P := l.prog) (w := w) (base := base) F19 b19 g19 D0 b15 g15 k15 m_dict m_range m_tuple 4
  have PA := okParts (P := l.prog) (w := w) (base := base) F27 b27 g27 m_isinstance m_tuple m_list m_sum 70
  have SP : FnOk l.prog w K mg base CX0 72 f26 _ psSpoilt spSpoiltE := exFn fun N => okSpoilt (k := 0) (N := N) F26 (okSpots F22 b22 g22 m_isinstance m_tuple m_enumerate 70) b22 g22 k22 (okAt (k := 70) F23) b23 g23 k23 (okWith F24 b24 g24 70) b24 g24 k24 (okBent (k := 70) F25 m_len) b25 g25 k25 m_isinstance m_tuple m_str m_len m_list m_int
  exact (okLaw (k := 80) F29 (okDeck (k := 80) F13 m_list m_reversed) b13 g13 k13 (D0 79) b15 g15 k15 (upOk NM (by decide)) b16 g16 k16 (upOk SP (by decide)) b26 g26 k26 (R0.up (by decide)) b28 g28 k28 (upOk DA (by decide)) b17 g17 k17 (upOk SZ (by decide)) b18 g18 k18 (upOk LO (by decide)) b19 g19 k19 (upOk PA (by decide)) b27 g27 k27 (upOk IW (by decide)) b5 g5 k5 m_range m_int).up (by decide)
end Kq
open PySem PySem.W PyProof.Rows
set_option maxRecDepth 100000 in
set_option maxHeartbeats 0 in
theorem PySem.Challenge.cw_kindalone_k04_what_is_a_worth_holds : PySem.Challenge.rw_kindalone_k04_what_is_a_worth.Holds := by
  w_on; o_law; k_head; (case hw => w_witness2)
  k_fill
  refine Kf.walk_ofG (l := PySem.Challenge.rw_kindalone_k04_what_is_a_worth) (n := 63) (k := 104) (x := "_law_script") (CX := fun _ => L2.CX0) rfl (by decide) rfl ⟨rfl, by decide, by decide⟩ (fun w h Y => PySem.W.kIn_of Y) ?F (fun _ _ _ _ _ h => h)
  case F =>
    intro w mg fa h Y KX G hmg tabs
    have TT : Kg.TabOf mg h "is_list" := by
      refine Kq.tt_of ?_ tabs
      decide +kernel
    refine' Kq.all_mk KX G hmg TT ?a1 ?l1 ?q1 ?k1 ?a2 ?l2 ?q2 ?k2 ?a3 ?l3 ?q3 ?k3 ?a4 ?l4 ?q4 ?k4 ?a5 ?l5 ?q5 ?k5 ?a6 ?l6 ?q6 ?k6 ?a7 ?l7 ?q7 ?k7 ?a8 ?l8 ?q8 ?k8 ?a9 ?l9 ?q9 ?k9 ?a10 ?l10 ?q10 ?k10 ?a11 ?l11 ?q11 ?k11 ?a12 ?l12 ?q12 ?k12 ?a13 ?l13 ?q13 ?k13 ?a14 ?l14 ?q14 ?k14 ?a15 ?l15 ?q15 ?k15 ?a16 ?l16 ?q16 ?k16 ?a17 ?l17 ?q17 ?k17 ?a18 ?l18 ?q18 ?k18 ?a19 ?l19 ?q19 ?k19 ?a20 ?l20 ?q20 ?k20 ?a21 ?l21 ?q21 ?k21 ?a22 ?l22 ?q22 ?k22 ?a23 ?l23 ?q23 ?k23 ?a24 ?l24 ?q24 ?k24 ?a25 ?l25 ?q25 ?k25 ?a26 ?l26 ?q26 ?k26 ?a27 ?l27 ?q27 ?k27 ?a28 ?l28 ?q28 ?k28 ?a29 ?l29 ?q29 ?k29 ?t11 ?v11 ?n11 ?aD ?lD ?tD ?sD ?kD ?z1 ?z2 ?z3 ?z4 ?z5 ?z6 ?z7 ?z8 ?z9 ?z10 ?z11 ?z12 ?z13 ?z14 ?z15
    (case a1 => k_is); (case l1 => k_is); (case q1 => k_is); (case k1 => k_is)
    (case a2 => k_is); (case l2 => k_is); (case q2 => k_is); (case k2 => k_is)
    (case a3 => k_is); (case l3 => k_is); (case q3 => k_is); (case k3 => k_is)
    (case a4 => k_is); (case l4 => k_is); (case q4 => k_is); (case k4 => k_is)
    (case a5 => k_is); (case l5 => k_is); (case q5 => k_is); (case k5 => k_is)
    (case a6 => k_is); (case l6 => k_is); (case q6 => k_is); (case k6 => k_is)
    (case a7 => k_is); (case l7 => k_is); (case q7 => k_is); (case k7 => k_is)
    (case a8 => k_is); (case l8 => k_is); (case q8 => k_is); (case k8 => k_is)
    (case a9 => k_is); (case l9 => k_is); (case q9 => k_is); (case k9 => k_is)
    (case a10 => k_is); (case l10 => k_is); (case q10 => k_is); (case k10 => k_is)
    (case a11 => k_is); (case l11 => k_is); (case q11 => k_is); (case k11 => k_is)
    (case a12 => k_is); (case l12 => k_is); (case q12 => k_is); (case k12 => k_is)
    (case a13 => k_is); (case l13 => k_is); (case q13 => k_is); (case k13 => k_is)
    (case a14 => k_is); (case l14 => k_is); (case q14 => k_is); (case k14 => k_is)
    (case a15 => k_is); (case l15 => k_is); (case q15 => k_is); (case k15 => k_is)
    (case a16 => k_is); (case l16 => k_is); (case q16 => k_is); (case k16 => k_is)
    (case a17 => k_is); (case l17 => k_is); (case q17 => k_is); (case k17 => k_is)
    (case a18 => k_is); (case l18 => k_is); (case q18 => k_is); (case k18 => k_is)
    (case a19 => k_is); (case l19 => k_is); (case q19 => k_is); (case k19 => k_is)
    (case a20 => k_is); (case l20 => k_is); (case q20 => k_is); (case k20 => k_is)
    (case a21 => k_is); (case l21 => k_is); (case q21 => k_is); (case k21 => k_is)
    (case a22 => k_is); (case l22 => k_is); (case q22 => k_is); (case k22 => k_is)
    (case a23 => k_is); (case l23 => k_is); (case q23 => k_is); (case k23 => k_is)
    (case a24 => k_is); (case l24 => k_is); (case q24 => k_is); (case k24 => k_is)
    (case a25 => k_is); (case l25 => k_is); (case q25 => k_is); (case k25 => k_is)
    (case a26 => k_is); (case l26 => k_is); (case q26 => k_is); (case k26 => k_is)
    (case a27 => k_is); (case l27 => k_is); (case q27 => k_is); (case k27 => k_is)
    (case a28 => k_is); (case l28 => k_is); (case q28 => k_is); (case k28 => k_is)
    (case a29 => k_is); (case l29 => k_is); (case q29 => k_is); (case k29 => k_is)
    (case t11 => k_is); (case v11 => rfl); (case n11 => rfl)
    (case aD => k_is); (case lD => k_is); (case tD => exact ⟨⟨_, _, rfl, rfl⟩, ⟨_, _, rfl, rfl⟩, ⟨_, _, rfl, rfl⟩, ⟨_, _, rfl, rfl⟩, ⟨_, _, rfl, rfl⟩, ⟨_, _, rfl, rfl⟩, ⟨_, _, rfl, rfl⟩, trivial⟩); (case sD => rfl)
    (case kD => exact ⟨⟨_, rfl⟩, rfl, ⟨_, rfl⟩, rfl, ⟨_, rfl⟩, rfl, ⟨_, rfl⟩, rfl, ⟨_, rfl⟩, rfl, ⟨_, rfl⟩, rfl, ⟨_, rfl⟩, rfl, trivial⟩)
    (case z1 => k_is); (case z2 => k_is); (case z3 => k_is); (case z4 => k_is); (case z5 => k_is); (case z6 => k_is); (case z7 => k_is); (case z8 => k_is); (case z9 => k_is); (case z10 => k_is); (case z11 => k_is); (case z12 => k_is); (case z13 => k_is); (case z14 => k_is); (case z15 => k_is)
