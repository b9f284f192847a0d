import PyProof.Rows.All
import Wide.All
import OpenK.AllK
import Wide.FinOn
import HandS.ForMost
import HandS.Dict
import HandS.TupAny
import HandS.Style
import KE.KDictPairs
import HandS.Rev
import HandS.Set
import HandS.SetBool
import HandS.TupSets
import HandS.SetFor
import HandS.StrMore
import HandS.IsInst
import HandS.Replace
import HandS.Codes
import HandS.Iter
import HandS.Walk
import HandS.More
import HandS.Small
import PySem.Challenge.RW_kindalone_k22_filled_kinds
set_option Elab.async false
set_option linter.all false
set_option maxRecDepth 100000
set_option maxHeartbeats 4000000
/-! dict(..) of a tuple of pairs, a tuple of two turned about -/
namespace Kt
open PySem PySem.Spec PyProof.Rows L2
section
variable {X : Cx}
/-- tuple(l): the object is known -/
theorem call_tupleF : CallR X (.type "tuple") (fun xs H Q => ∃ p ys, xs = [.ref p] ∧ SqL X.K H p ys ∧ ∀ l (o : Obj), H l = none → o.dict = none → o.cls = .type "tuple" → Q (.ref l) (upd H l (.frz o (.tup ys)))) := by
  intro pins s σ H xs us Q I r h
  obtain ⟨p, ys, rfl, hq, q⟩ := h
  obtain ⟨u, rfl, rx⟩ := vals1 r
  cases rx
  obtain ⟨its, r', pl, hz⟩ := I.list hq
  have hlen := r'.length
  refine call_tuple_list pl.isList (fun h' kp => ?_) (by simp only [List.size_toArray] <;> omega)
  have I1 : Inv X pins σ H { s with heap := h' } := I.kept (t' := s.toks) kp
  have I2 : Inv X pins σ (upd H h'.objs.size (.frz { cls := .type "tuple", data := .seq its.toArray } (.tup ys))) { s with heap := h'.push { cls := .type "tuple", data := .seq its.toArray } } :=
    I1.laid (t' := s.toks) (fun b o e => Heap.get?_push_of_some _ e) (Nat.le_refl _) (show ObjOk X.prog X.w _ _ _ (.frz _ (.tup ys)) from ⟨Heap.get?_push_size _ rfl, hz, its, r', IsTup.new _ _⟩)
  exact ⟨.ref h'.objs.size, _, I2, rfl, q _ _ (I1.hok.fresh (Nat.le_refl _)) rfl rfl⟩
/-- () -/
def tTup0 : TE := fun _ H Q => ∀ p (o : Obj), H p = none → o.dict = none → o.cls = .type "tuple" → Q (.ref p) (upd H p (.frz o (.tup [])))
theorem pe_tup0 {x1 : Nat} {pos : Pos} : PE X (.Tuple [] x1 pos) tTup0 := by
  refine ⟨fun pins s σ H Q I h => ?_⟩
  refine wpAny_Tuple_spliced (thn ((pa_nil (X := X)).run pos pins s σ H (fun xs H1 => xs = [] ∧ H1 = H) I ⟨rfl, rfl⟩) fun us s1 ⟨xs, H1, I1, r, e1, e2⟩ => ?_)
  subst e1 e2
  cases r
  refine ⟨Nat.zero_le _, ?_⟩
  refine ⟨.ref s1.heap.objs.size, _, I1.laid (t' := s1.toks) (o := .frz { cls := .type "tuple", data := .seq ([] : List Value).toArray } (.tup [])) (fun b u e => Heap.get?_push_of_some _ e) (Nat.le_refl _) ?_, rfl, h _ _ (I1.hok.fresh (Nat.le_refl _)) rfl rfl⟩
  exact ⟨Heap.get?_push_size _ rfl, Nat.zero_le _, [], .nil, IsTup.new _ _⟩
theorem raws_of {pins : List (Addr × Obj)} {σ : L2.St} {H : Hp} {s : Shared} (I : Inv X pins σ H s) : ∀ {ps : List Addr} {kvs : List (Key × V)}, Paired (fun p kv => SqT X.K H p [kV kv.1, kv.2]) ps kvs →
    ∃ (prs : List (Key × Value)) (raws : List (Value × Value)), KV kvs prs ∧ prs.length = ps.length ∧ raws.length = ps.length ∧ ∀ (j : Nat) (u v : Value), raws[j]? = some (u, v) → ∃ (b : Addr) (k : Key), ps[j]? = some b ∧ IsTup s.heap b #[u, v] ∧ prs[j]? = some (k, v) ∧ keyIs k u = true
  | _, _, .nil => ⟨[], [], .nil, rfl, rfl, fun j u v e => by simp at e⟩
  | _, _, .cons (a := p) (b := kv) h t => by
    obtain ⟨prs, raws, r, hl, hl2, hp⟩ := raws_of I t
    obtain ⟨its, rv, ht, _⟩ := I.tuple h
    obtain ⟨u, y, ei, ru, ry⟩ := vals2 rv
    subst ei
    refine ⟨(kv.1, y) :: prs, (u, y) :: raws, .cons ⟨rfl, ry⟩ r, by rw [List.length_cons, List.length_cons, hl], by rw [List.length_cons, List.length_cons, hl2], fun j u' v' e => ?_⟩
    cases j with
    | zero =>
      have e' : (u, y) = (u', v') := Option.some.inj e
      cases e'
      exact ⟨p, kv.1, rfl, ht, rfl, kV_is (P := X.prog) (w := X.w) ru⟩
    | succ j =>
      obtain ⟨b, k, e1, e2, e3, e4⟩ := hp j u' v' (by simpa using e)
      exact ⟨b, k, by simpa using e1, e2, by simpa using e3, e4⟩
/-- dict(t) of a tuple of pairs -/
theorem call_dictF (hcalm : X.calm = true) : CallR X (.type "dict") (fun xs H Q => ∃ (a : Addr) (o : Obj) (ps : List Addr) (kvs : List (Key × V)), xs = [.ref a] ∧ H a = some (.frz o (.tup (ps.map V.ref))) ∧ o.dict = none ∧ o.cls = .type "tuple" ∧ Paired (fun p kv => SqT X.K H p [kV kv.1, kv.2]) ps kvs ∧
    ∀ p, H p = none → Q (.ref p) (upd H p (.dK (mergeK [] kvs)))) := by
  intro pins s σ H xs us Q I r q
  obtain ⟨a, o, ps, kvs, ex, hq, hod, hoc, hp, q⟩ := q
  subst ex
  obtain ⟨u, eu, rx⟩ := vals1 r
  subst eu
  cases rx
  obtain ⟨ho, hz, its, rv, o2, ho2, hc2, n2, hdat⟩ := I.hok a _ hq
  rw [ho] at ho2
  cases ho2
  have ei := refs_at rv
  subst ei
  rw [List.length_map] at hz
  obtain ⟨prs, raws, rel, hl, hl2, hpr⟩ := raws_of I hp
  have PA := PairArg.tuple (prog := X.prog) (w := X.w) a (ps.map Value.ref).toArray (fun j => (ps[j]?).getD 0) raws
  refine PySem.call_dict_pairs (knd := mixKind X.prog X.w) (kvs := prs) PA (I.ok.hd hcalm) ⟨⟨o, n2, ho, hoc, hod, hdat⟩, by simp [hl2], fun j k v e => ?_⟩ ⟨by rw [hl, hl2], fun i key v e => ?_⟩ (by rw [hl2]; exact hz) fun h' tk hd' k => ?_
  · obtain ⟨b, kk, e1, e2, e3, e4⟩ := hpr j k v e
    refine ⟨by simp [e1], .inl ?_⟩
    show s.heap.IsTuple ((ps[j]?).getD 0) #[k, v]
    rw [e1]
    exact e2
  · obtain ⟨b, kk, e1, e2, e3, e4⟩ := hpr i key v e
    exact ⟨kk, e3, e4⟩
  · have hm : (s.heap.objs.size == sysModules) = false := beq_eq_false_iff_ne.mpr (Nat.ne_of_gt I.big)
    have hlen : (mergeK [] kvs).length ≤ sizeLine := by
      refine Nat.le_trans (length_mergeK kvs []) ?_
      rw [List.length_nil, Nat.zero_add, rel.length, hl]
      exact hz
    exact ⟨.ref s.heap.objs.size, upd H s.heap.objs.size (.dK (mergeK [] kvs)), I.laid (t' := tk) (fun b o e => k b o (by simp) e) (Nat.le_refl _) (show ObjOk X.prog X.w _ _ _ (.dK (mergeK [] kvs)) from ⟨hlen, hm, merged [] prs, KV.merge rel .nil, hd'⟩), rfl, q _ (I.hok.fresh (Nat.le_refl _))⟩
end
/-! t[::-1], t of two -/
section
variable {prog : Program} {w : World} {A : Around} {E : Value → Shared → Prop} {s : Shared}
theorem getItem_two {t sl : Addr} {x y vl vu vs : Value} {Q : Value → Shared → Prop} (ht : IsTup s.heap t #[x, y]) (hs : s.heap.IsSliceOf sl vl vu vs) (pl : IsPart vl none) (pu : IsPart vu none) (ps : IsPart vs (some (-1)))
    (h : Q (.ref s.heap.objs.size) { s with heap := s.heap.push { cls := .type "tuple", data := .seq #[y, x] } }) : wpAny (model prog w) A (getItem (.ref t) (.ref sl)) Q E s := by
  have htake : sizeOk (.seq #[y, x]) := by
    show 2 ≤ sizeLine
    decide
  obtain ⟨os, hos, hcs, hds⟩ := id hs
  have hTs : s.TypeIs (.ref sl) "slice" := ⟨os, hos, hcs⟩
  unfold getItem
  try with_reducible refine wpAny_holding ?_
  first | refine wpAny_bind (wpAny_pure ?_) | skip
  refine wpAny_bind (wpAny_sequenceKey ht.typeIs (by decide) ?_)
  refine wpAny_bind (wpAny_callSpecial?_slot (name := Str.ofString "__getitem__") ht.typeIs PyProof.Rows.slot_tuple_getitem
    (wpAny_call_entry PyProof.Rows.slot_tuple_getitem ht.typeIs entry_tuple_getitem ?_ (args_tuple_getitem _ _)))
  show wpAny _ _ (Builtin.Tuple.tupleItemsOf (.ref t) >>= _) _ _ s
  refine wpAny_bind (tupleItemsOf_ ht ?_)
  refine wpAny_bind (wpAny_typeOf hTs ?_)
  rw [if_pos (by decide)]
  refine wpAny_bind ?_
  unfold Builtin.Slice.sliceApplied Builtin.Slice.sliceFields
  refine wpAny_bind (wpAny_bind (wpAny_field hos hds (x := vl) rfl (wpAny_bind (wpAny_field hos hds (x := vu) rfl (wpAny_bind (wpAny_field hos hds (x := vs) rfl (wpAny_pure ?_)))))))
  refine wpAny_bind (HT.slicePart_ ps ?_)
  show wpAny _ _ (if ((-1 : Int) == 0) = true then _ else _) _ _ s
  rw [if_neg (by decide)]
  refine wpAny_bind (HT.slicePart_ pl (wpAny_bind (HT.slicePart_ pu (wpAny_bind (wpAny_pure ?_)))))
  refine wpAny_pure ?_
  show wpAny _ _ (if (((1 : Int) == 0 && (-1 : Int) == 1 && (2 : Nat) == 2) = true) then _ else _) _ _ s
  rw [if_neg (by decide)]
  generalize hA : (List.filterMap _ (List.range _)).toArray = arr
  have eA : arr = #[y, x] := by
    rw [← hA]
    first
      | rfl
      | kernel_rfl
      | with_unfolding_all rfl
  subst eA
  show wpAny _ _ (Builtin.Tuple.tupleExact #[y, x] >>= fun v => ret v) _ _ s
  have e : ((List.range 2).filterMap fun (m : Nat) => (#[x, y] : Array Value)[((1 : Int) + (m : Int) * (-1)).toNat]?).toArray = #[y, x] := rfl
  first
    | exact wpAny_bind (m := Builtin.Tuple.tupleExact _) (wpAny_newObj_type (wpAny_pure ⟨_, rfl, wpAny_pure h⟩) htake)
    | exact wpAny_bind (m := Builtin.Tuple.tupleExact _) (wpAny_newObj_type (wpAny_bind (wpAny_pure (wpAny_pure ⟨_, rfl, wpAny_pure h⟩))) htake)
    | exact wpAny_bind (wpAny_bind (m := Builtin.Tuple.tupleExact _) (wpAny_newObj_type (wpAny_pure (wpAny_pure ⟨_, rfl, wpAny_pure h⟩)) htake))
    | exact wpAny_bind (wpAny_bind (m := Builtin.Tuple.tupleExact _) (wpAny_newObj_type (wpAny_pure ⟨_, rfl, wpAny_pure h⟩) htake))
end
section
variable {X : Cx}
def tRev2 (K : PySem.W.Frag) (te : TE) : TE := fun σ H Q => te σ H fun x H1 => ∃ a y z, x = .ref a ∧ SqT K H1 a [y, z] ∧ ∀ p, H1 p = none → Q (.ref p) (upd H1 p (.tup [z, y]))
theorem pe_rev2 {e : Expr} {te : TE} {k : Nat} {p1 p2 p3 pos : Pos} (he : PE X e te) : PE X (.Subscript e (.Slice none none (some (.UnaryOp .USub (.Constant (.int 1) k p1) p2)) p3) pos) (tRev2 X.K te) := by
  refine ⟨fun pins s σ H Q I h => ?_⟩
  refine Subscript_ (thn (he.run pins s σ H _ I h) fun v s1 ⟨x, H1, I1, r1, q1⟩ => ?_)
  obtain ⟨a, y, z, ex, hx, q⟩ := q1
  subst ex
  cases r1
  have hst : PO X (some (.UnaryOp .USub (.Constant (.int 1) k p1) p2)) (tPart (tUn (rU fun i => .int (-i)) (tC (.int 1)))) := po_some (pe_un un_neg pe_int)
  refine wpAny_Slice (thn (po_none.run pins s1 σ H1 (fun o H2 => o = none ∧ H2 = H1) I1 ⟨rfl, rfl⟩) fun vl s2 ⟨l, H2, I2, pl, el, e2⟩ => ?_)
  subst el e2
  refine thn (po_none.run pins s2 σ H2 (fun o H3 => o = none ∧ H3 = H2) I2 ⟨rfl, rfl⟩) fun vu s3 ⟨u, H3, I3, pu, eu, e3⟩ => ?_
  subst eu e3
  refine thn (hst.run pins s3 σ H3 (fun o H4 => o = some (-1) ∧ H4 = H3) I3 ⟨1, rfl, -1, rfl, rfl, rfl⟩) fun vs s4 ⟨o, H4, I4, ps, eo, e4⟩ => ?_
  subst eo e4
  have I5 : Inv X pins σ H4 { s4 with heap := s4.heap.push { cls := .type "slice", data := .fields #[vl, vu, vs] } } := I4.kept (t' := s4.toks) fun b ob q => Heap.get?_push_of_some _ q
  obtain ⟨its, r, ht, hz⟩ := I5.tuple hx
  obtain ⟨yv, zv, ei, ry, rz⟩ := vals2 r
  subst ei
  show wpAny (model X.prog X.w) X.A (subscriptTail e (.Slice none none (some (.UnaryOp .USub (.Constant (.int 1) k p1) p2)) p3) (.ref a) (.ref s4.heap.objs.size)) (EP X pins σ Q) X.xe { s4 with heap := s4.heap.push { cls := .type "slice", data := .fields #[vl, vu, vs] } }
  refine tail_any (ops := [.ref a, .ref s4.heap.objs.size]) ht.typeIs (PyProof.Rows.slot_tuple_getitem.lookup) ?_ (by with_unfolding_all rfl)
  refine getItem_two ht (Heap.IsSliceOf.new _ vl vu vs) pl pu ps ?_
  refine ⟨.ref _, _, I5.laid (t' := s4.toks) (o := .tup [z, y]) (fun b ob q => Heap.get?_push_of_some _ q) (Nat.le_refl _) ?_, rfl, q _ (I5.hok.fresh (Nat.le_refl _))⟩
  exact ⟨by show 2 ≤ sizeLine; decide, [zv, yv], .cons rz (.cons ry .nil), IsTup.new _ _⟩
end
end Kt

namespace Kr
open PySem PySem.Spec PyProof.Rows L2 RT
section
variable {prog : Program} {w : World} {A : Around} {E : Value → Shared → Prop} {s : Shared}
/-- a list grows by what a walk from behind over another list gives -/
theorem growRev {R : Result → Shared → Prop} {it l S : Addr} {its : Array Value} {res : Value} {c0 : Nat} (hh : A.handled = none) (hit : s.heap.IsRevIter it l ((its.size : Int) - 1))
    (hl : s.heap.IsList l its) (hne : l ≠ it) (hn : its.size ≤ sizeLine) (hS : s.heap.get? S = some { cls := .type "list", data := .seq #[] c0 }) (hSi : S ≠ it) (hSl : S ≠ l)
    (hR : ∀ (h' : Heap) (tk : Nat) (acc : Array Value) (c : Nat), (∀ b o, b ≠ it → b ≠ S → s.heap.get? b = some o → h'.get? b = some o) →
      h'.get? S = some { cls := .type "list", dict := none, data := .seq acc c, slots := #[] } → ItemsOf (fun i v => its[its.size - 1 - i]? = some v) acc its.size → R (.ok (.ret res)) { s with heap := h', toks := tk }) :
    wpAny (model prog w) A.in1 (Builtin.List.listExtendWith (.ref S) (.ref it) res)
      (fun fin s' => match fin with
        | .done f => R (.ok f) s'
        | .again c' => c'.quiet = true ∧ codeAny (model prog w) A c' R s') (fun e s' => R (.error e) s') s := by
  have W := (Walks.listRev (prog := prog) (w := w) (A := A.in1) hh it l hne its).toS
  have out : S ∉ [it, l] := by
    intro z
    rcases List.mem_cons.mp z with z | z
    · exact hSi z
    · exact hSl (List.mem_singleton.mp z)
  have ty : s.TypeIs (.ref it) "list_reverseiterator" := hit.typeIs
  have no : Builtin.List.listSameRef (.ref S) (.ref it) = false := by
    simp [Builtin.List.listSameRef, hSi]
  unfold Builtin.List.listExtendWith
  refine wpAny_bind (wpAny_typeOf ty ?_)
  rw [if_neg (by rw [no]; decide)]
  refine wpAny_bind (wpAny_pyIter_revIter hit ?_)
  refine wpAny_bind (wpAny_holding ?_)
  unfold Builtin.List.listLengthHint
  refine wpAny_bind (wpAny_specialOf ty RT.nolen_lri ?_)
  show wpAny _ A.in1 (specialOf (.ref it) (Str.ofString "__length_hint__") >>= _) _ _ _
  refine wpAny_bind (wpAny_specialOf ty RT.hint_lri ?_)
  generalize hid : ("list_reverseiterator.__length_hint__" : String) = nm
  wp_delta
  have sp : splitId nm = some ("list_reverseiterator", "__length_hint__") := by
    subst hid
    decide +kernel
  rw [sp]
  subst hid
  refine wpAny_bind (wpAny_isInstance (b := true) ty (by rw [isSubtype_type]; kernel_rfl) ?_)
  refine wpAny_pure ?_
  rw [if_neg (by decide)]
  have z0 : ((its.size : Nat) : Int) - 1 - ((0 : Nat) : Int) = (its.size : Int) - 1 := by omega
  have st0 : s.heap.IsRevIter it l ((its.size : Int) - 1 - ((0 : Nat) : Int)) := by rw [z0]; exact hit
  refine wpAny_pure ⟨plainId_quiet F.plain_extend_loop _, ?_⟩
  refine codeAny_extend_loopS W hn S out res its.size 0 _ _ _ rfl (Nat.zero_le _) ⟨Nat.zero_le _, st0, hl⟩ hS (ItemsOf.nil _) (fun s' acc' c' mv hS' hacc => ?_)
  rw [Moved.eq_with mv]
  refine hR s'.heap s'.toks acc' c' (fun b o h1 h2 e => mv.heap b o (fun z => ?_) e) hS' hacc
  rcases List.mem_cons.mp z with z | z
  · exact h2 z
  · exact h1 (List.mem_singleton.mp z)
theorem call_list_rev {Q : Value → Shared → Prop} {it l : Addr} {its : Array Value} (hh : A.handled = none) (hit : s.heap.IsRevIter it l ((its.size : Int) - 1)) (hl : s.heap.IsList l its) (hne : l ≠ it) (hn : its.size ≤ sizeLine)
    (hQ : ∀ (h' : Heap) (tk : Nat) (acc : Array Value) (c : Nat), (∀ b o, b ≠ it → s.heap.get? b = some o → h'.get? b = some o) →
      h'.get? s.heap.objs.size = some { cls := .type "list", dict := none, data := .seq acc c, slots := #[] } → ItemsOf (fun i v => its[its.size - 1 - i]? = some v) acc its.size → Q (.ref s.heap.objs.size) { s with heap := h', toks := tk }) :
    wpAny (model prog w) A (call (.type "list") [.ref it]) Q E s := by
  obtain ⟨oi, hoi, _⟩ := id hit
  obtain ⟨ol, hol, _⟩ := id hl
  have n1 : s.heap.objs.size ≠ it := Nat.ne_of_gt (Heap.lt_size hoi)
  have n2 : s.heap.objs.size ≠ l := Nat.ne_of_gt (Heap.lt_size hol)
  refine callType_codes (Q₁ := fun obj s₁ => obj = .ref s.heap.objs.size ∧ s₁ = { s with heap := s.heap.push { cls := .type "list", data := .seq #[] } })
    F.called_list (F.typeCall_list_1 _) F.entry_list_init (code_list_new _ ⟨rfl, rfl⟩) (fun obj s₁ h₁ => ?_)
  obtain ⟨rfl, rfl⟩ := h₁
  have hS : (s.heap.push { cls := .type "list", data := .seq #[] }).get? s.heap.objs.size
      = some { cls := .type "list", data := .seq #[] } := Heap.get?_push_size _ rfl
  refine ⟨⟨_, hS, rfl⟩, F.args_list_init_2 _ _, ?_⟩
  show wpAny _ _ (do
    let old ← Builtin.List.listItems (.ref s.heap.objs.size)
    Builtin.List.listUpdate (.ref s.heap.objs.size) (fun _ => #[])
    letGo old.toList.reverse
    Builtin.List.listExtendWith (.ref s.heap.objs.size) (.ref it) .none) _ _ _
  refine wpAny_bind ?_
  unfold Builtin.List.listItems
  refine wpAny_bind (wpAny_seqItems hS rfl (wpAny_pure ?_))
  show wpAny _ _ (do
    updateSeq s.heap.objs.size (fun _ => #[])
    letGo (#[] : Array Value).toList.reverse
    Builtin.List.listExtendWith (.ref s.heap.objs.size) (.ref it) .none) _ _ _
  refine wpAny_bind (wpAny_updateSeq hS rfl ?_)
  have hS2 := Heap.get?_update_self (Obj.mapSeq fun _ => (#[] : Array Value)) hS rfl
  refine wpAny_bind (wpAny_letGo ?_)
  generalize hh2 : (s.heap.push { cls := .type "list", data := .seq #[] }).update s.heap.objs.size (Obj.mapSeq fun _ => (#[] : Array Value)) = h2 at hS2 ⊢
  have kp : ∀ b o, s.heap.get? b = some o → h2.get? b = some o := fun b o e => by
    rw [← hh2, Heap.get?_update_other _ _ (Nat.ne_of_gt (Heap.lt_size e))]
    exact Heap.get?_push_of_some _ e
  have hl2 : h2.IsList l its := by
    obtain ⟨o, e, r⟩ := id hl
    exact ⟨o, kp _ _ e, r⟩
  refine growRev (A := A.in1) (s := { s with heap := h2 }) hh (hit.at fun o e => kp _ _ e) hl2 hne hn hS2 n1 n2 (fun h' tk acc c k e i => ?_)
  exact ⟨rfl, hQ h' tk acc c (fun b o hb hbo => k b o hb (Nat.ne_of_lt (Heap.lt_size hbo)) (kp b o hbo)) e i⟩
end
/-- list(reversed(x)), x a list -/
def tListRev (K : PySem.W.Frag) (te : TE) : TE := fun σ H Q => te σ H fun v G => ∃ (a : Addr) (xs : List V), v = .ref a ∧ SqL K G a xs ∧ ∀ q, G q = none → Q (.ref q) (upd G q (.lst xs.reverse))
theorem pe_listRev {X : Cx} {e : Expr} {te : TE} {p p2 pos pos2 : Pos} (hc : X.calm = true) (hg : Gl X "list") (hm : X.mg "list" = none) (hg2 : Gl X "reversed") (hm2 : X.mg "reversed" = none) (he : PE X e te)
    (hs : starEach [e] X.env = (false, eval e X.env) :: starEach [] X.env := by rfl)
    (hs2 : starEach [.Call (.Name "reversed" p2) [e] [] pos2] X.env = (false, eval (.Call (.Name "reversed" p2) [e] [] pos2) X.env) :: starEach [] X.env := by rfl) :
    PE X (.Call (.Name "list" p) [.Call (.Name "reversed" p2) [e] [] pos2] [] pos) (tListRev X.K te) := by
  refine ⟨fun pins s σ H Q I h => ?_⟩
  have inner := fun (Q' : Value → Shared → Prop) (k : ∀ (a : Addr) (xs : List V) (its : List Value) (s1 : Shared) (G : Hp), Inv X pins σ G s1 → SqL X.K G a xs → Vals xs its → PlainL s1.heap a its.toArray → xs.length ≤ sizeLine →
      (∀ q, G q = none → Q (.ref q) (upd G q (.lst xs.reverse))) → Q' (.ref s1.heap.objs.size) { s1 with heap := s1.heap.push (revObj a ((its.toArray.size : Int) - 1)) }) =>
    show wpAny (model X.prog X.w) X.A (eval (.Call (.Name "reversed" p2) [e] [] pos2) X.env) Q' X.xe s from
      Call_ (ld_blt I hg2 hm2 PyProof.Rows.boot_reversed (PyProof.Rows.callWith_type1 (args_cons (thn (he.run pins s σ H _ I h) fun u s1 ⟨v, G, I1, r1, a, xs, ev, hq, q⟩ => args_nil (by
        subst ev
        obtain rfl : u = Value.ref a := r1
        obtain ⟨its, rv, pl, hz⟩ := I1.list hq
        exact call_reversed_list pl.isList (k a xs its s1 G I1 hq rv pl hz q))) hs) hs rfl))
  refine Call_ (ld_blt I hg hm boot_list (PyProof.Rows.callWith_type1 (args_cons (inner _ fun a xs its s1 G I1 hq rv pl hz q => args_nil ?_) hs2) hs2 rfl))
  have k0 : ∀ b o, s1.heap.get? b = some o → (s1.heap.push (revObj a ((its.toArray.size : Int) - 1))).get? b = some o := fun b o z => Heap.get?_push_of_some _ z
  obtain ⟨ol, hol, _⟩ := id pl.isList
  have hne : a ≠ s1.heap.objs.size := Nat.ne_of_lt (Heap.lt_size hol)
  have hn : its.toArray.size ≤ sizeLine := by rw [List.size_toArray, ← rv.length]; exact hz
  generalize hh3 : s1.heap.push (revObj a ((its.toArray.size : Int) - 1)) = h3 at k0 ⊢
  have it3 : h3.IsRevIter s1.heap.objs.size a ((its.toArray.size : Int) - 1) := by
    rw [← hh3]
    exact ⟨_, Heap.get?_push_size _ rfl, rfl, rfl⟩
  have l3 : h3.IsList a its.toArray := by
    rw [← hh3]
    exact pl.isList.push _
  have lt3 : s1.heap.objs.size < h3.objs.size := by
    obtain ⟨o, e, _⟩ := id it3
    exact Heap.lt_size e
  refine call_list_rev (s := { s1 with heap := h3 }) (I1.ok.hd hc) it3 l3 hne hn fun h' tk acc c hk hS hi => ?_
  have hgo : G h3.objs.size = none := I1.hok.fresh (Nat.le_of_lt lt3)
  refine ⟨.ref h3.objs.size, upd G h3.objs.size (.lst xs.reverse), I1.laid (t' := tk) (fun b o z => hk b o (Nat.ne_of_lt (Heap.lt_size z)) (k0 b o z)) (Nat.le_of_lt lt3)
    (show ObjOk X.prog X.w _ _ _ (.lst xs.reverse) from ⟨by rw [List.length_reverse]; exact hz, acc.toList, c, vals_rev rv hi, by rw [Array.toArray_toList]; exact hS⟩), rfl, q _ hgo⟩
/-- xs.extend(t), t a tuple -/
def rExtT (K : PySem.W.Frag) : V → List V → Hp → VK → Prop := fun x vs H Q => ∃ l b xs zs, x = .ref l ∧ vs = [.ref b] ∧ H l = some (.lst xs) ∧ SqT K H b zs ∧ xs.length + zs.length ≤ sizeLine ∧ Q .non (upd H l (.lst (xs ++ zs)))
theorem mt_extT {X : Cx} : MtM X "list.extend" (rExtT X.K) := by
  intro pins s σ H x vs v us Q I rx rv h
  obtain ⟨l, b, xs, zs, rfl, rfl, hl, hb, hz, q⟩ := h
  cases rx
  obtain ⟨u, rfl, ru⟩ := rv.one
  cases ru
  obtain ⟨z1, its, n, r1, _, e1⟩ := I.lstM hl
  obtain ⟨jts, r2, ⟨o, eo, oc, m, od⟩, z2⟩ := I.tuple hb
  have n1 := r1.length
  have n2 := r2.length
  have sm : its.toArray.size + jts.toArray.size ≤ sizeLine := by
    rw [List.size_toArray, List.size_toArray]
    omega
  have ty : s.TypeIs (.ref b) "tuple" := ⟨o, eo, oc⟩
  refine wpAny_call_entry F.slot_list_extend ⟨_, e1, rfl⟩ F.entry_list_extend ?_ (F.args_list_extend_2 _ _)
  show wpAny _ _ (Builtin.List.listExtendWith (.ref l) (.ref b) .none) _ _ _
  unfold Builtin.List.listExtendWith
  refine wpAny_bind (wpAny_typeOf ty ?_)
  have yes : (Builtin.List.listSameRef (.ref l) (.ref b) || Value.type "tuple" == Value.type "list" || Value.type "tuple" == Value.type "tuple") = true := by simp
  rw [if_pos yes]
  refine wpAny_bind ?_
  unfold Builtin.List.listItems
  refine wpAny_bind (wpAny_seqItems eo od (wpAny_pure ?_))
  refine wpAny_bind ?_
  refine wpAny_bind (wpAny_seqItems e1 rfl (wpAny_pure ?_))
  have long : (!its.toArray.isEmpty && Builtin.List.listTooLong (its.toArray.size + jts.toArray.size)) = false := by
    rw [notLongL sm, Bool.and_false]
  rw [if_neg (by rw [long]; exact Bool.false_ne_true)]
  refine wpAny_bind ?_
  show wpAny _ _ (updateSeq l (· ++ jts.toArray)) _ _ _
  refine wpAny_updateSeq e1 rfl ?_ (by rw [List.size_toArray]; omega) (by rw [Array.size_append]; omega)
  refine wpAny_pure ⟨_, rfl, ?_⟩
  refine ⟨.non, _, I.lset (its' := its ++ jts) hl e1 (by simp) (r1.append r2) ?_, rfl, q⟩
  rw [List.length_append]
  exact hz
end Kr

namespace Ks
open PySem PySem.Spec PyProof.Rows L2
/-! a set of texts -/
def tx (e : Int × Value) : Str := match e.2 with
  | .str x _ => x
  | _ => Str.empty
def GoodT (w : World) (e : Int × Value) : Prop := ∃ x t, e.2 = Value.str x t ∧ e.1 = hashStr w x
structure SetT (w : World) (es : Array (Int × Value)) (t : SetTable) (S : Str → Bool) (n : Nat) : Prop where
  good : ∀ e ∈ es.toList, GoodT w e
  nd : (es.toList.map tx).Nodup
  mem : ∀ k, S k = true ↔ k ∈ es.toList.map tx
  few : es.size < scanBound
  fit : t.fits es.size = true
  num : es.size = n
  ris : Ris t.place.toList
  led : w.params.followText "set-order" = true ∨ t.led = true
def SetS (w : World) (h : Heap) (a : Addr) (S : Str → Bool) (n : Nat) : Prop :=
  ∃ o es ep t, h.get? a = some o ∧ o.ExactSet ∧ o.data = .set es ep t ∧ SetT w es t S n
section
variable {P : Program} {w : World} {A : Around} {E : Value → Shared → Prop} {s : Shared} {a : Addr} {S : Str → Bool} {n : Nat}
theorem kis (x : Str) (t : Tok) : (PySem.strKind P w).is x (.str x t) = true := by
  show Value.isStrOf x (.str x t) = true
  simp [Value.isStrOf]
theorem goodElems {l : List (Int × Value)} (g : ∀ e ∈ l, GoodT w e) : ElemsOf (PySem.strKind P w) l := fun e he => by
  obtain ⟨x, t, h1, h2⟩ := g e he
  refine ⟨⟨x, ?_, h2⟩, ?_⟩
  · rw [h1]
    exact kis x t
  · rw [h1] <;> rfl
theorem goodMem {l : List (Int × Value)} (g : ∀ e ∈ l, GoodT w e) (k : Str) : k ∈ l.map tx ↔ ∃ e ∈ l, (PySem.strKind P w).is k e.2 = true := by
  have one : ∀ e ∈ l, ((PySem.strKind P w).is k e.2 = true ↔ tx e = k) := fun e he => by
    obtain ⟨x, t, h1, _⟩ := g e he
    unfold tx
    rw [h1]
    constructor
    · intro z
      obtain ⟨u, hu⟩ := Value.isStrOf_shape (show Value.isStrOf k (.str x t) = true from z)
      injection hu
    · intro z
      show (PySem.strKind P w).is k (.str x t) = true
      have z' : x = k := z
      rw [z']
      exact kis k t
  rw [List.mem_map]
  exact ⟨fun ⟨e, he, q⟩ => ⟨e, he, (one e he).2 q⟩, fun ⟨e, he, q⟩ => ⟨e, he, (one e he).1 q⟩⟩
theorem typ (R : SetS w s.heap a S n) : s.TypeIs (.ref a) "set" := by
  obtain ⟨o, es, ep, t, ho, hx, _⟩ := R
  exact ⟨o, ho, hx.1⟩
theorem after {h : Heap} {o : Obj} {es es' : Array (Int × Value)} {ep : Nat} {t t' : SetTable} (ho : h.get? a = some o) (hd : o.data = .set es ep t) :
    (h.update a (Obj.putSet es' t')).get? a = some { o with data := .set es' (ep + 1) t' } := by
  have q := Heap.get?_update_self (Obj.putSet es' t') ho (by rw [putSet_of es' t' hd]; rfl)
  rw [putSet_of es' t' hd] at q
  exact q
theorem tail {g : Bool → Sem Unit} (hg : ∀ (b : Bool) (s₁ : Shared) (Q' : Unit → Shared → Prop), Q' () s₁ → wpAny (model P w) A (g b) Q' E s₁)
    {o : Obj} {es : Array (Int × Value)} {ep : Nat} {t : SetTable} (ho : s.heap.get? a = some o) (hex : o.ExactSet) (hd : o.data = .set es ep t)
    {fs : Array (Int × Value)} {u : SetTable} {S' : Str → Bool} (T : SetT w fs u S' fs.size) {wd : Bool} {R : Option Bool → Shared → Prop}
    (hR : ∀ h', Heap.SameBut a s.heap h' → SetS w h' a S' fs.size → R (some true) { s with heap := h' }) :
    wpAny (model P w) A (do
        storeSet a fs u
        if (!wd && u.tooFull) = true then do
            g (relayAll u fs (SetTable.grown fs.size)).2.2
            storeSet a (relayAll u fs (SetTable.grown fs.size)).1 (relayAll u fs (SetTable.grown fs.size)).2.1
            pure (some true)
          else pure (some true)) R E s := by
  refine wpAny_bind (wpAny_storeSet_of ho hd ?_ (fits_of_scanBound T.few))
  have o1 := after (es' := fs) (t' := u) ho hd
  have sb := Heap.SameBut.update s.heap a (Obj.putSet fs u)
  split
  · have pm := relayAll_perm u fs (SetTable.grown fs.size)
    have f3 := relayAll_fits u fs (SetTable.grown fs.size)
    have r3 := relayAll_ris u fs (SetTable.grown fs.size)
    have l3 := relayAll_led u fs (SetTable.grown fs.size)
    generalize relayAll u fs (SetTable.grown fs.size) = Z at pm f3 r3 l3 ⊢
    obtain ⟨gs, v, gave⟩ := Z
    dsimp only at pm f3 r3 l3 ⊢
    have e : gs.size = fs.size := by
      rw [← Array.length_toList, pm.length_eq, Array.length_toList]
    have few : gs.size < scanBound := by
      rw [e]
      exact T.few
    refine wpAny_bind (hg _ _ _ ?_)
    refine wpAny_bind (wpAny_storeSet_of o1 rfl ?_ (fits_of_scanBound few))
    have o2 := after (es' := gs) (t' := v) o1 rfl
    refine wpAny_pure (hR _ (sb.trans (Heap.SameBut.update _ a _)) ⟨_, gs, _, v, o2, hex, rfl, ?_⟩)
    exact ⟨fun x hx => T.good x (pm.mem_iff.mp hx), (pm.map tx).nodup_iff.mpr T.nd, fun k => (T.mem k).trans (pm.map tx).mem_iff.symm, few, f3, e, r3, T.led.imp id fun z => by rw [l3]; exact z⟩
  · exact wpAny_pure (hR _ sb ⟨_, fs, _, u, o1, hex, rfl, T⟩)
theorem addHashed {k : Str} {tk : Tok} {Q : Bool → Shared → Prop} (R : SetS w s.heap a S n) (room : n + 1 < scanBound)
    (hQ : ∀ h', Heap.SameBut a s.heap h' → SetS w h' a (fun j => S j || decide (j = k)) (if S k = true then n else n + 1) → Q (!S k) { s with heap := h' }) :
    wpAny (model P w) A (setAddHashed a (.str k tk) ((PySem.strKind P w).hash k)) Q E s := by
  obtain ⟨o, es, ep, t, ho, hex, hd, T⟩ := R
  have key := kis (P := P) (w := w) k tk
  have sc : (Value.str k tk).scannable = true := rfl
  have el : ElemsOf (PySem.strKind P w) es.toList := goodElems T.good
  unfold setAddHashed setAddHashedIn
  refine wpAny_holding (wpAny_bind (wpAny_setState_of ho hd T.fit ?_))
  dsimp only
  rw [byScan_of sc T.few el]
  simp only [↓reduceIte]
  unfold setAddByScan
  refine wpAny_bind ?_
  refine wpAny_bind (wpAny_rule ?_)
  refine wpAny_bind (wpAny_setScan_of key ho hd T.fit el ?_)
  cases fi : List.findIdx? (fun e => (PySem.strKind P w).is k e.2) es.toList with
  | some j =>
    dsimp only
    obtain ⟨hj, pj, _⟩ := List.findIdx?_eq_some_iff_getElem.mp fi
    have yes : S k = true := (T.mem k).2 ((goodMem (P := P) T.good k).2 ⟨es.toList[j], List.getElem_mem hj, pj⟩)
    refine wpAny_pure (wpAny_pure ?_)
    have q := hQ s.heap (Heap.SameBut.refl a s.heap) ⟨o, es, ep, t, ho, hex, hd, T.good, T.nd, fun i => by
      rw [Bool.or_eq_true, decide_eq_true_eq, ← T.mem i]
      exact ⟨fun z => z.elim id (fun e => e ▸ yes), .inl⟩, T.few, T.fit, by rw [if_pos yes]; exact T.num, T.ris, T.led⟩
    rw [yes] at q
    exact q
  | none =>
    dsimp only
    have out : k ∉ es.toList.map tx := fun z => by
      obtain ⟨e, he, q⟩ := (goodMem (P := P) T.good k).1 z
      have c := List.findIdx?_eq_none_iff.mp fi e he
      rw [q] at c
      cases c
    have no : S k = false := by
      cases q : S k with
      | false => rfl
      | true => exact absurd ((T.mem k).1 q) out
    have gw : ∀ (b : Bool) {s₁ : Shared} {Q' : Unit → Shared → Prop}, Q' () s₁ → wpAny (model P w) A (match b with
        | true => rule "set.scan.the-table-gave-way"
        | false => pure ()) Q' E s₁ := fun b s₁ Q' q => by
      cases b
      · exact wpAny_pure q
      · exact wpAny_rule q
    have pm := layNew_perm t es ((PySem.strKind P w).hash k) (.str k tk)
    have f1 := layNew_fits t es ((PySem.strKind P w).hash k) (.str k tk)
    have r1 := layNew_ris t es ((PySem.strKind P w).hash k) (.str k tk) T.ris
    have l1 := layNew_led t es ((PySem.strKind P w).hash k) (.str k tk)
    generalize layNew t es ((PySem.strKind P w).hash k) (.str k tk) = Z at pm f1 r1 l1 ⊢
    obtain ⟨fs, u, wd, gave⟩ := Z
    dsimp only at pm f1 r1 l1 ⊢
    rw [Array.toList_push] at pm
    have pc : fs.toList.Perm (((PySem.strKind P w).hash k, Value.str k tk) :: es.toList) := pm.trans (List.perm_append_singleton _ _)
    have pk : (fs.toList.map tx).Perm (k :: es.toList.map tx) := pc.map tx
    have e1 : fs.size = n + 1 := by
      rw [← Array.length_toList, pc.length_eq, List.length_cons, Array.length_toList, T.num]
    have T1 : SetT w fs u (fun j => S j || decide (j = k)) fs.size := by
      refine ⟨fun e he => ?_, pk.nodup_iff.mpr (List.nodup_cons.mpr ⟨out, T.nd⟩), fun i => ?_, by rw [e1]; exact room, f1, rfl, r1, T.led.imp id fun z => by rw [l1]; exact z⟩
      · rcases List.mem_cons.mp (pc.mem_iff.mp he) with z | z
        · rw [z]
          exact ⟨k, tk, rfl, rfl⟩
        · exact T.good e z
      · rw [Bool.or_eq_true, decide_eq_true_eq, T.mem i, pk.mem_iff, List.mem_cons]
        exact Or.comm
    have fin : ∀ h', Heap.SameBut a s.heap h' → SetS w h' a (fun j => S j || decide (j = k)) fs.size → Q true { s with heap := h' } := fun h' sb r => by
      have q := hQ h' sb
      rw [no] at q
      rw [e1] at r
      exact q r
    refine wpAny_bind (gw _ ?_)
    split
    · refine wpAny_bind ?_
      rw [hashByValue_scannable 8 sc]
      refine wpAny_pure ?_
      have T2 : SetT w fs (if plainKind (.str k tk) = true then u else { u with plain := false }) (fun j => S j || decide (j = k)) fs.size := by
        split
        · exact T1
        · exact { T1 with fit := SetTable.fits_plain_off T1.fit, ris := T1.ris, led := T1.led }
      refine tail (S' := fun j => S j || decide (j = k)) ?_ ho hex hd T2 ?_
      · intro b s₁ Q' q
        exact gw b q
      · intro h' sb r
        dsimp only
        exact wpAny_pure (fin h' sb r)
    · refine wpAny_bind (wpAny_pure ?_)
      simp only [↓reduceIte]
      refine tail (S' := fun j => S j || decide (j = k)) ?_ ho hex hd T1 ?_
      · intro b s₁ Q' q
        exact gw b q
      · intro h' sb r
        dsimp only
        exact wpAny_pure (fin h' sb r)
/-- set.add of a text -/
theorem addCall {k : Str} {tk : Tok} {Q : Value → Shared → Prop} (R : SetS w s.heap a S n) (room : n + 1 < scanBound)
    (hQ : ∀ h', Heap.SameBut a s.heap h' → SetS w h' a (fun j => S j || decide (j = k)) (if S k = true then n else n + 1) → Q .none { s with heap := h', toks := s.toks + 1 }) :
    wpAny (model P w) A (call (.builtin "set.add") [.ref a, .str k tk]) Q E s := by
  refine wpAny_call_entry F.slot_set_add (typ R) F.entry_set_add ?_ (F.args_set_add_2 _ _)
  unfold Builtin.«set.add» Builtin.Frozenset.oneOther
  simp only [List.isEmpty_nil, bind_assoc]
  unfold Builtin.Frozenset.addrOf setAdd
  refine wpAny_bind (wpAny_pure ?_)
  try dsimp only
  refine wpAny_bind (wpAny_pure ?_)
  try dsimp only
  refine wpAny_bind ?_
  refine wpAny_holding ?_
  refine wpAny_bind ((PySem.strKind P w).pyHash (kis k tk) ?_)
  refine addHashed (s := { s with toks := s.toks + 1 }) R room (fun h' sb r => ?_)
  show wpAny _ _ (ret Value.none) _ _ _
  exact wpAny_pure ⟨_, rfl, hQ h' sb r⟩
theorem fresh {h : Heap} (w : World) : SetS w (h.push { cls := .type "set", dict := none, data := .set #[] 0 (.fresh 0 0 (!w.params.followText "set-order")) }) h.objs.size (fun _ => false) 0 := by
  refine ⟨_, #[], 0, _, Heap.get?_push_size _ rfl, ⟨rfl, rfl, rfl⟩, rfl, ⟨fun e he => ?_, ?_, fun k => ?_, ?_, ?_, rfl, List.Pairwise.nil, ?_⟩⟩
  · simp at he
  · simp
  · simp
  · decide
  · rfl
  · show _ ∨ (!w.params.followText "set-order") = true
    cases w.params.followText "set-order"
    · exact .inr rfl
    · exact .inl rfl
end
/-- the set of texts at a, as a tracked thing -/
def SetH (w : World) (a : Addr) (S : Str → Bool) (n : Nat) : HO := .ext fun h => SetS w h a S n
theorem setH_new {w : World} {P : Program} {H : Hp} {h : Heap} {a : Addr} {S : Str → Bool} {n : Nat} (R : SetS w h a S n) : ObjOk P w H h a (SetH w a S n) := by
  have ⟨o, es, ep, t, ho, r⟩ := R
  refine ⟨R, ⟨o, ho⟩, fun h1 h2 p k => ?_⟩
  obtain ⟨o, es, ep, t, ho, r⟩ := p
  exact ⟨o, es, ep, t, k o ho, r⟩
section
variable {X : Cx} {pins : List (Addr × Obj)} {σ : L2.St} {H : Hp} {s : Shared}
theorem setH_get {a : Addr} {S : Str → Bool} {n : Nat} (I : Inv X pins σ H s) (ha : H a = some (SetH X.w a S n)) : SetS X.w s.heap a S n := (I.hok a _ ha).1
theorem addIn {E : Value → Shared → Prop} {D : Addr} {S : Str → Bool} {n : Nat} {y : Str} {tk : Tok} {Q : Value → Shared → Prop} (I : Inv X pins σ H s) (hD : H D = some (SetH X.w D S n)) (room : n + 1 < scanBound)
    (h : ∀ s', Inv X pins σ (upd H D (SetH X.w D (fun j => S j || decide (j = y)) (if S y = true then n else n + 1))) s' → Q .none s') : wpAny (model X.prog X.w) X.A (call (.builtin "set.add") [.ref D, .str y tk]) Q E s := by
  refine addCall (setH_get I hD) room fun h' sb new => h _ ?_
  have he : ∃ u, h'.get? D = some u := let ⟨o, _, _, _, ho, _⟩ := new; ⟨o, ho⟩
  exact I.write (e := D) (t' := s.toks + 1) (by rw [hD]; trivial) (.inl rfl) (fun b u hb hu => (sb.2 b hb).trans hu) he (setH_new new)
end
end Ks

namespace Ks
open PySem PySem.Spec PyProof.Rows L2
section
variable {P : Program} {w : World} {A : Around} {E : Value → Shared → Prop} {s : Shared} {a : Addr} {S : Str → Bool} {n : Nat}
theorem strsOf {l : List Value} (h : ∀ v ∈ l, ∃ x t, v = Value.str x t) : ∃ xs, StrsAre l xs := by
  induction l with
  | nil => exact ⟨[], .nil⟩
  | cons v l ih =>
    obtain ⟨x, t, rfl⟩ := h v List.mem_cons_self
    obtain ⟨xs, hx⟩ := ih fun u hu => h u (List.mem_cons_of_mem _ hu)
    exact ⟨x :: xs, .cons x t hx⟩
def txv (v : Value) : Str := match v with
  | .str x _ => x
  | _ => Str.empty
theorem strs_eq {l : List Value} {xs : List Str} (h : StrsAre l xs) : xs = l.map txv := by
  induction h with
  | nil => rfl
  | cons x t _ ih =>
    rw [List.map_cons, ← ih]
    rfl
/-- sorted(a set of texts) -/
theorem sortedSet {Q : Value → Shared → Prop} (R : SetS w s.heap a S n) (hh : A.handled = none) (h64 : n < 64)
    (hQ : ∀ (s' : Shared) (p : Addr) (out : Array Value) (c : Nat) (ys : List Str), (∀ b o, s.heap.get? b = some o → s'.heap.get? b = some o) → s'.gens = s.gens → s'.os = s.os → s.heap.objs.size ≤ p →
      s'.heap.get? p = some (seqObj "list" out c) → StrsAre out.toList ys → sortedS ys = true → ys.Nodup → (∀ k, k ∈ ys ↔ S k = true) → ys.length = n → Q (.ref p) s') :
    wpAny (model P w) A (call (.builtin "sorted") [.ref a]) Q E s := by
  obtain ⟨o, es, ep, t, ho, hex, hd, T⟩ := R
  refine Calls.call_function_entry kind_sorted plain_sorted entry_sorted (args_sorted1 _) ?_
  unfold Builtin.«sorted»
  refine wpAny_bind (m := checkCount "sorted" 1 1 _) (wpAny_pure ?_)
  refine wpAny_bind (collect_set (A := A.in1) hh ⟨o, ho, hex.1, hd⟩ T.fit T.few T.ris T.led fun s1 vs k1 z1 g1 o1 pm => ?_)
  have len : vs.length = n := by
    rw [pm.length_eq, List.length_map, Array.length_toList]
    exact T.num
  obtain ⟨xs, hx⟩ := strsOf (l := vs) fun v hv => by
    obtain ⟨e, he, q⟩ := List.mem_map.mp (pm.mem_iff.mp hv)
    obtain ⟨x, t, h1, _⟩ := T.good e he
    exact ⟨x, t, by rw [← q]; exact h1⟩
  have px : xs.Perm (es.toList.map tx) := by
    have q := pm.map txv
    rw [List.map_map] at q
    rw [strs_eq hx]
    exact q
  refine wpAny_bind (wpAny_newList ?_ (by rw [len, sizeLine_eq]; omega))
  have oL : (s1.heap.push (seqObj "list" vs.toArray 0)).get? s1.heap.objs.size = some (seqObj "list" vs.toArray 0) := Heap.get?_push_size _ rfl
  refine wpAny_bind (wpAny_holding (wpAny_call_entry slot_list_sort ⟨_, oL, rfl⟩ entry_list_sort (list_sort_treeK strKind_oneLt oL hx.keysOf
    (fun v₁ v₂ rest e => keyKind_strs (by rw [← e]; exact hx)) (by rw [len]; exact h64) fun st' hp hs => ⟨_, rfl, ?_⟩) (args_list_sort _)))
  obtain ⟨ys, a1, a2, a3⟩ := sorted_out_str hx hp hs
  obtain ⟨c, hc⟩ := sortedHeap_at (vs := vs) (out := (arrOf st').map (·.2)) oL
  have py : ys.Perm (es.toList.map tx) := a2.trans px
  refine wpAny_pure ⟨_, rfl, hQ _ s1.heap.objs.size _ c ys (fun b u e => ?_) g1 o1 z1 hc a1 a3 (py.nodup_iff.mpr T.nd) (fun k => by rw [py.mem_iff, ← T.mem k]) ?_⟩
  · have q := k1 b u e
    have lt := Heap.lt_size q
    show (sortedHeap (s1.heap.push (seqObj "list" vs.toArray 0)) s1.heap.objs.size vs _).get? b = some u
    rw [sortedHeap_old (Nat.ne_of_lt lt) (by rw [size_push']; exact Nat.lt_succ_of_lt lt)]
    exact Heap.get?_push_of_some _ q
  · rw [py.length_eq, List.length_map, Array.length_toList]
    exact T.num
end
section
variable {X : Cx}
def rSortT (w : World) : List V → Hp → VK → Prop := fun vs H Q => ∃ (a : Addr) (S : Str → Bool) (n : Nat), vs = [V.ref a] ∧ H a = some (SetH w a S n) ∧ n < 64 ∧
  ∀ (ys : List Str) (p : Addr), sortedS ys = true → ys.Nodup → (∀ k : Str, k ∈ ys ↔ S k = true) → ys.length = n → H p = none → Q (.ref p) (upd H p (.lst (ys.map V.str)))
theorem cr_sortT (hc : X.calm = true) : CallR X (.builtin "sorted") (rSortT X.w) := by
  intro pins s σ H vs us Q I r h
  obtain ⟨a, S, n, rfl, ha, h64, q⟩ := h
  rw [Vals.ref1 r]
  refine sortedSet (setH_get I ha) (I.ok.hd hc) h64 fun s' p out c ys k g o hp hg hi hs hd hm hl => ?_
  have len : (ys.map V.str).length ≤ sizeLine := by
    rw [List.length_map, hl, sizeLine_eq]
    omega
  have hn : H p = none := I.hok.fresh hp
  have e : s' = { s with heap := s'.heap, gens := s'.gens, drawn := s'.drawn, toks := s'.toks } := by
    cases s'
    cases s
    cases o
    rfl
  have J : Inv X pins σ (upd H p (.lst (ys.map V.str))) { s with heap := s'.heap, gens := s'.gens, drawn := s'.drawn, toks := s'.toks } :=
    I.call (ch := []) (Un.laid k hp hn) (I.hok.laid k hp ⟨len, out.toList, c, vals_of_strs hi, hg⟩) (by rw [g]; exact I.bare) (fun _ z => nomatch z)
  rw [e]
  exact ⟨.ref p, _, J, rfl, q ys p hs hd hm hl hn⟩
end
end Ks

namespace Ks
open PySem PySem.Spec PyProof.Rows L2
def inL (l : List Str) : Str → Bool := fun k => decide (k ∈ l)
section
variable {P : Program} {w : World} {A : Around} {E : Value → Shared → Prop} {s : Shared}
theorem SetS.keep {h h' : Heap} {a : Addr} {S : Str → Bool} {n : Nat} (R : SetS w h a S n) (k : ∀ o, h.get? a = some o → h'.get? a = some o) : SetS w h' a S n := by
  obtain ⟨o, es, ep, t, ho, r⟩ := R
  exact ⟨o, es, ep, t, k o ho, r⟩
theorem SetS.as {h : Heap} {a : Addr} {S S' : Str → Bool} {n : Nat} (R : SetS w h a S n) (e : ∀ k, S' k = S k) : SetS w h a S' n := by
  have q : S' = S := funext e
  rw [q]
  exact R
theorem strGet {l : List Value} {xs : List Str} (h : StrsAre l xs) : ∀ (i : Nat) (v : Value), l[i]? = some v → ∃ x t, xs[i]? = some x ∧ v = .str x t := by
  induction h with
  | nil =>
    intro i v z
    simp at z
  | cons x t _ ih =>
    intro i v z
    cases i with
    | zero => exact ⟨x, t, rfl, (Option.some.inj z).symm⟩
    | succ i => exact ih i v z
/-- the loop of set.update over texts -/
theorem updLoop {I : Addr} {fp wr : List Addr} {G : Array GenState → Array GenState → Prop} {n : Nat} {Pv : Nat → Value → Prop} {St : Nat → Shared → Prop} {R : Result → Shared → Prop}
    (W : WalksS P w A.in1 I fp wr G n Pv St) (D : Addr) (hDf : D ∉ fp) (xs : List Str) (hn : n = xs.length) (few : n + 1 < scanBound) (hval : ∀ i v, Pv i v → ∃ x t, xs[i]? = some x ∧ v = .str x t) :
    ∀ (k i : Nat) (s : Shared), n - i = k → i ≤ n → St i s → (∃ m, m ≤ i ∧ SetS w s.heap D (inL (xs.take i)) m) →
      (∀ s' m, m ≤ n → Moved (D :: wr) G s s' → SetS w s'.heap D (inL xs) m → R (.ok (.ret .none)) s') → codeAny (model P w) A (.builtin "set.update.loop" ⟨[.ref D, .ref I], []⟩) R s := by
  have hDw : D ∉ wr := fun z => hDf (W.sub _ z)
  have sub : ∀ b ∈ wr, b ∈ D :: wr := fun b hb => List.mem_cons_of_mem _ hb
  intro k
  induction k with
  | zero =>
    intro i s hk hi st ⟨m, hm, hS⟩ hR
    have e : i = n := by omega
    refine codeAny_builtin F.entry_set_update_loop ?_
    rw [Around.under_plainId F.plain_set_update_loop _]
    show wpAny _ A.in1 (pyNext (.ref I) >>= _) _ _ s
    rw [e] at st
    refine wpAny_bind (W.done s _ _ st fun s' mv => ?_)
    show wpAny _ A.in1 (ret Value.none) _ _ s'
    refine wpAny_pure (hR s' m (by omega) (mv.mono sub) ?_)
    rw [e, hn, List.take_length] at hS
    exact hS.keep fun o z => mv.heap D o hDw z
  | succ k ih =>
    intro i s hk hi st ⟨m, hm, hS⟩ hR
    have lt : i < n := by omega
    refine codeAny_builtin F.entry_set_update_loop ?_
    rw [Around.under_plainId F.plain_set_update_loop _]
    show wpAny _ A.in1 (pyNext (.ref I) >>= _) _ _ s
    refine wpAny_bind (W.item i s _ _ lt st fun v s' hP st' mv => ?_)
    obtain ⟨x, t, hx, rfl⟩ := hval i v hP
    have hS' : SetS w s'.heap D (inL (xs.take i)) m := hS.keep fun o z => mv.heap D o hDw z
    show wpAny _ A.in1 (holding [Value.str x t] (setAdd D (.str x t)) >>= _) _ _ s'
    refine wpAny_bind (wpAny_holding ?_)
    unfold setAdd
    refine wpAny_holding ?_
    refine wpAny_bind ((PySem.strKind P w).pyHash (kis x t) ?_)
    refine addHashed (s := { s' with toks := s'.toks + 1 }) hS' (by omega) (fun h' sb S2 => ?_)
    have grow : xs.take (i + 1) = xs.take i ++ [x] := by rw [List.take_add_one, hx]; rfl
    have S3 : ∃ q, q ≤ i + 1 ∧ SetS w h' D (inL (xs.take (i + 1))) q := by
      refine ⟨_, ?_, S2.as fun j => ?_⟩
      · split <;> omega
      · unfold inL
        rw [grow, ← Bool.decide_or]
        exact decide_eq_decide.mpr (by rw [List.mem_append, List.mem_singleton])
    refine wpAny_pure ⟨plainId_quiet F.plain_set_update_loop _, ih (i + 1) _ (by omega) lt (W.frame _ s' _ _ st' (Nat.le_succ _) fun b hb o z => ?_) S3 (fun s'' q hq mv' S4 => ?_)⟩
    · rw [sb.2 b (fun y : b = D => hDf (by rw [← y]; exact hb))]
      exact z
    · refine hR s'' q hq (Moved.trans W.gtrans ((mv.mono sub).then_heap (Nat.le_succ _) fun b o hb z => ?_) mv') S4
      rw [sb.2 b (fun y : b = D => hb (by rw [y]; exact List.mem_cons_self))]
      exact z
abbrev set0 (w : World) : Obj := { cls := .type "set", dict := none, data := .set #[] 0 (.fresh 0 0 (!w.params.followText "set-order")) }
/-- set(a list of texts) -/
theorem callSet {l : Addr} {items : Array Value} (xs : List Str) {Q : Value → Shared → Prop} (hh : A.handled = none) (hl : s.heap.IsList l items) (hit : StrsAre items.toList xs) (few : xs.length + 1 < scanBound)
    (h : ∀ (h' : Heap) (tk m : Nat), m ≤ xs.length → SetS w h' s.heap.objs.size (inL xs) m → (∀ b o, s.heap.get? b = some o → h'.get? b = some o) → Q (.ref s.heap.objs.size) { s with heap := h', toks := tk }) :
    wpAny (model P w) A (call (.type "set") [.ref l]) Q E s := by
  have hsz : items.size = xs.length := by
    rw [← Array.length_toList]
    exact StrsAre.len_eq hit
  obtain ⟨c, tl, hmro⟩ := F.called_set.mro
  have hmade := F.called_set.made
  have hsub := F.called_set.sub
  refine wpAny_call (codeAny_of_tree ?_)
  show wpAny _ _ (callAny (.type "set") _) _ _ _
  refine wpAny_pure ⟨Code.quiet_builtin _ (by decide +kernel), codeAny_builtin F.entry_type_call ?_⟩
  rw [Around.under_plain (weight_type_call_type "set" [.ref l] []) rfl]
  have h1 := F.called_set.notType
  have h2 := F.called_set.canCreate
  have h3 := F.typeCall_set_1 (.ref l)
  repeat (any_goals (first | assumption | wp_step))
  refine codeAny_mono (code_set_led1 (.ref l) (E := E) (Q₁ := fun obj s₁ => obj = .ref s.heap.objs.size ∧ s₁ = { s with heap := s.heap.push (set0 w) }) ⟨rfl, rfl⟩) (fun r s₁ hr => ?_)
  cases r with
  | error e => exact hr
  | ok fl =>
    cases fl with
    | ret obj =>
      obtain ⟨rfl, rfl⟩ := hr
      have hS : (s.heap.push (set0 w)).get? s.heap.objs.size = some (set0 w) := Heap.get?_push_size _ rfl
      have hT : Shared.TypeIs { s with heap := s.heap.push (set0 w) } (.ref s.heap.objs.size) "set" := ⟨_, hS, rfl⟩
      have hli := F.called_set.init.lookup
      have hbi := F.called_set.init.bind (.ref s.heap.objs.size)
      repeat (any_goals (first | assumption | wp_step))
      refine codeAny_mono (codeAny_call_builtin (R := wants (fun r s₂ => r = .none ∧ ∃ h' tk m, m ≤ xs.length ∧ s₂ = { s with heap := h', toks := tk } ∧ SetS w h' s.heap.objs.size (inL xs) m ∧
          (∀ b o, s.heap.get? b = some o → h'.get? b = some o)) E) F.called_set.init.plain F.entry_set_init (check_set_init_1 hT ?_)) (fun r₂ s₂ hr₂ => ?_)
      · obtain ⟨ol, hol, hcl, nl, hdl⟩ := hl
        obtain ⟨ocls, odict, odata, oslots⟩ := ol
        simp only at hcl hdl
        subst hcl
        subst hdl
        have hol' : (s.heap.push (set0 w)).get? l = some { cls := .type "list", dict := odict, data := .seq items nl, slots := oslots } := Heap.get?_push_of_some _ hol
        have hsls := F.sub_list_set
        have hslf := F.sub_list_frozenset
        have hne : (Value.type "list" == Value.type "dict") = false := by decide
        have hl1 : (s.heap.push (set0 w)).IsList l items := ⟨_, hol', rfl, nl, rfl⟩
        unfold Builtin.«set.__init__» noKeywords Builtin.Frozenset.updateFrom
        generalize hPI : pyIter = PI
        wp_walk
        subst hPI
        refine wpAny_pyIter_list hl1 ?_
        refine wpAny_bind (wpAny_runValue ?_)
        have ll : l < s.heap.objs.size := Heap.lt_size hol
        have hh3 : A.in1.in1.in1.handled = none := by simp [hh]
        have zz : (s.heap.push (set0 w)).objs.size = s.heap.objs.size + 1 := Heap.size_push ..
        have nI : l ≠ (s.heap.push (set0 w)).objs.size := by
          rw [zz]
          exact Nat.ne_of_lt (Nat.lt_succ_of_lt ll)
        have out : s.heap.objs.size ∉ [(s.heap.push (set0 w)).objs.size, l] := by
          rw [zz]
          intro z
          rcases List.mem_cons.mp z with z | z
          · exact Nat.lt_irrefl _ (Nat.lt_of_lt_of_eq (Nat.lt_succ_self _) z.symm)
          · exact Nat.lt_irrefl _ (Nat.lt_of_lt_of_eq ll (List.mem_singleton.mp z))
        have hval : ∀ (i : Nat) (v : Value), items[i]? = some v → ∃ x t, xs[i]? = some x ∧ v = .str x t := fun i v hv => by
          exact strGet hit i v (by rw [Array.getElem?_toList]; exact hv)
        refine updLoop ((Walks.list hh3 _ l nI items).toS) s.heap.objs.size out xs hsz (by omega) hval (items.size - 0) 0 _ (by omega) (Nat.zero_le _)
          ⟨⟨_, Heap.get?_push_size _ rfl, rfl, rfl⟩, (hl1.push _)⟩ ⟨0, Nat.le_refl _, ?_⟩ (fun s' m hm mv S4 => ?_)
        · refine ((fresh w).keep fun o z => Heap.get?_push_of_some _ z).as fun k => ?_
          unfold inL
          exact decide_eq_false (by rw [List.take_zero]; exact List.not_mem_nil)
        · obtain ⟨h', g2, d', tk', os'⟩ := s'
          have eg : g2 = s.gens := mv.gens
          have ed : d' = s.drawn := mv.drawn
          have eo : os' = s.os := mv.os
          subst eg
          subst ed
          subst eo
          show wpAny _ _ _ _ _ _
          refine wpAny_pure ?_
          show wpAny _ _ (ret Value.none) _ _ _
          refine wpAny_pure ⟨rfl, h', tk', m, by omega, rfl, S4, fun b o z => mv.heap b o (fun y => ?_) (Heap.get?_push_of_some _ (Heap.get?_push_of_some _ z))⟩
          have lb := Heap.lt_size z
          rcases List.mem_cons.mp y with y | y
          · rw [y] at lb
            exact Nat.lt_irrefl _ lb
          · rw [List.mem_singleton.mp y, zz] at lb
            exact Nat.lt_irrefl _ (Nat.lt_of_succ_lt lb)
      · cases r₂ with
        | error e => exact hr₂
        | ok fl₂ =>
          cases fl₂ with
          | ret r =>
            obtain ⟨rfl, h', tk, m, hm, rfl, S4, kp⟩ := hr₂
            repeat (any_goals (first | assumption | wp_step))
            exact h _ _ _ hm S4 kp
          | _ => exact hr₂.elim
    | _ => exact hr.elim
end
section
variable {X : Cx}
def rSetT (K : PySem.W.Frag) (w : World) : List V → Hp → VK → Prop := fun vs H Q => ∃ (l : Addr) (xs : List Str), vs = [V.ref l] ∧ SqL K H l (xs.map V.str) ∧ xs.length + 1 < scanBound ∧
  ∀ (p : Addr) (m : Nat), m ≤ xs.length → H p = none → Q (.ref p) (upd H p (SetH w p (inL xs) m))
theorem cr_setT (hc : X.calm = true) : CallR X (.type "set") (rSetT X.K X.w) := by
  intro pins s σ H vs us Q I r h
  obtain ⟨l, xs, rfl, hq, few, q⟩ := h
  rw [Vals.ref1 r]
  obtain ⟨its, rv, pl, hz⟩ := I.list hq
  refine callSet xs (I.ok.hd hc) pl.isList (by rw [List.toList_toArray]; exact rv.strs) few fun h' tk m hm S kp => ?_
  have hn : H s.heap.objs.size = none := I.hok.fresh (Nat.le_refl _)
  exact ⟨.ref _, _, I.laid (t' := tk) kp (Nat.le_refl _) (setH_new S), rfl, q _ m hm hn⟩
end
end Ks

namespace Ks
open PySem PySem.Spec PyProof.Rows L2
section
variable {X : Cx}
/-- {elt for target in iter if ..}, elt a text: D the new set -/
def tScT (w : World) (wi : TI) (g : TG) (tt : TT) (te : TE) (vs : List Nat) : TE := fun σ H Q => wi σ H fun J G => ∀ D, G D = none →
  ∃ W : Nat → Nat → Hp → Prop, (∃ m, W 0 m (upd G D (SetH w D (fun _ => false) 0))) ∧ ∀ i m H, W i m H →
    (J.stop i H ∧ Q (.ref D) H) ∨ (J.go i H ∧ ∃ N : Hp → Prop, (∀ H', N H' → ∃ m', m' < m ∧ W (i + 1) m' H') ∧ ∀ x H', J.yld i H x H' →
      g x (wipe σ vs) H' fun τ H2 => wipe τ vs = wipe σ vs ∧ tt τ H2 fun b H3 => if b = true then
        te τ H3 fun y H4 => ∃ (c : Str) (S : Str → Bool) (n : Nat), y = .str c ∧ H4 D = some (SetH w D S n) ∧ n + 1 < scanBound ∧ N (upd H4 D (SetH w D (fun j => S j || decide (j = c)) (if S c = true then n else n + 1)))
      else N H3)
theorem pe_scT {elt tg iter : Expr} {ifs : List Expr} {scope : Scope} {own : List (PySem.Str × Nat)} {pos : Pos} {wi : TI} {g : TG} {tt : TT} {te : TE} (hc : X.calm = true) (hN : X.N.Nodup) (hi : PI X tg iter wi) (ok : BlkOk X.N X.env.scope scope own)
    (hg : ∀ (s : Shared) (H : Hp) (C : Addr) (cl : List (PySem.Str × Addr)) (fp : List Addr), PG (X.blk s H scope (compEnvC scope cl C X.env) fp) tg g)
    (ht : ∀ (s : Shared) (H : Hp) (C : Addr) (cl : List (PySem.Str × Addr)) (fp : List Addr), PTs (X.blk s H scope (compEnvC scope cl C X.env) fp) ifs tt)
    (he : ∀ (s : Shared) (H : Hp) (C : Addr) (cl : List (PySem.Str × Addr)) (fp : List Addr), PE (X.blk s H scope (compEnvC scope cl C X.env) fp) elt te)
    (hs : ∀ x, foldedSetIterable iter X.env x = pure x := by intro _; rfl) :
    PE X (.SetComp elt [⟨tg, iter, ifs, 0⟩] scope pos) (tScT X.w wi g tt te (own.map (·.2))) := by
  refine ⟨fun pins s σ H Q I h => ?_⟩
  rw [PpSet.eval_SetComp]
  have hfree : ∀ y ∈ scope.names, y.2 = .free → ∃ c, X.env.cells.lookup y.1 = some c := fun y hy e => (ok.free y hy e).elim (fun k => I.ok.has _ (.inl k)) fun k => I.ok.has _ (.inr k)
  refine wpAny_comprehension_free (use := none) rfl hs (closure_ok hfree) ok.kind (fun y hy e => by rw [ok.uniq y hy, e])
    (thn (hi.run pins s σ H _ I h) fun xv s1 hx => thn hx fun itv s2 h2 => ?_)
  obtain ⟨it, fp, tn, J, G, e, I2, T, st2, f2, q⟩ := h2
  subst e
  refine PpSet.newSet_ok (newEnv_comp ?_)
  generalize hD : s2.heap.objs.size = D
  have free : G D = none := I2.hok.fresh (Nat.le_of_eq hD)
  obtain ⟨W, ⟨m0, w0⟩, turn⟩ := q D free
  generalize e3 : ({ s2 with heap := s2.heap.push { cls := .type "set", dict := none, data := .set #[] 0 (.fresh 0 0 (!X.w.params.followText "set-order")) } } : Shared) = s3
  have kp : ∀ b o, s2.heap.get? b = some o → s3.heap.get? b = some o := fun b o z => by
    rw [← e3]
    exact Heap.get?_push_of_some _ z
  have I3 : Inv X pins σ (upd G D (SetH X.w D (fun _ => false) 0)) s3 := by
    rw [← e3]
    refine I2.laid (t' := s2.toks) (fun b o z => Heap.get?_push_of_some _ z) (Nat.le_of_eq hD) ?_
    rw [← hD]
    exact setH_new (fresh X.w)
  have f3 : ∀ b ∈ fp, FpOk X pins (upd G D (SetH X.w D (fun _ => false) 0)) b ∧ b < s3.heap.objs.size := fun b hb => by
    obtain ⟨o, z, _⟩ := T.obj _ _ st2 b hb
    have lt := Heap.lt_size z
    refine ⟨⟨?_, (f2 b hb).2⟩, Heap.lt_size (kp b o z)⟩
    rw [upd_ne (by rw [← hD]; exact Nat.ne_of_lt lt)]
    exact (f2 b hb).1
  have st3 : tn 0 s3.heap := T.keep _ _ _ st2 fun b _ o z => kp b o z
  have I4 := block_start I3 ok hN f3
  generalize eH : upd G D (SetH X.w D (fun _ => false) 0) = H3 at I3 I4 w0 f3
  have pg := hg s3 H3 s3.heap.objs.size (cellsFrom (s3.heap.objs.size + 1) scope.names (cloFrom X.env.cells scope.names [])) fp
  have pt := ht s3 H3 s3.heap.objs.size (cellsFrom (s3.heap.objs.size + 1) scope.names (cloFrom X.env.cells scope.names [])) fp
  have pe := he s3 H3 s3.heap.objs.size (cellsFrom (s3.heap.objs.size + 1) scope.names (cloFrom X.env.cells scope.names [])) fp
  have nfp : ∀ b ∈ fp, H3 b = none := fun b hb => (f3 b hb).1.1
  show codeAny _ _ (.compStart (.SetComp elt [⟨tg, iter, ifs, 0⟩] scope pos) 0 (.ref it) (.ref D)
      (compEnvC scope (cellsFrom (s3.heap.objs.size + 1) scope.names (cloFrom X.env.cells scope.names [])) s3.heap.objs.size X.env))
    (compPost (model X.prog X.w) X.A X.xe none (EP X pins σ Q) (.ref D) s3.heap.objs.size)
    { s3 with heap := pushCells (s3.heap.push { cls := .type "dict", data := .dict #[] }) scope.names }
  generalize ece : compEnvC scope (cellsFrom (s3.heap.objs.size + 1) scope.names (cloFrom X.env.cells scope.names [])) s3.heap.objs.size X.env = ce at I4 pg pt pe ⊢
  have cL : ce.locals = s3.heap.objs.size := by
    subst ece
    rfl
  generalize e4 : ({ s3 with heap := pushCells (s3.heap.push { cls := .type "dict", data := .dict #[] }) scope.names } : Shared) = s4 at I4 ⊢
  have st4 : tn 0 s4.heap := T.keep _ _ _ st3 fun b _ o z => by
    rw [← e4]
    exact pushCells_keeps _ _ _ _ (Heap.get?_push_of_some _ z)
  have sta : ∀ {τ : L2.St} {F : Hp} {s' : Shared}, Inv (X.blk s3 H3 scope ce fp) [] τ F s' → (∀ b ∈ fp, F b = none) → ∀ b ∈ fp, FpOk (X.blk s3 H3 scope ce fp) [] F b := fun {τ F s'} K hn b hb =>
    ⟨hn b hb, (K.ok.exf b hb).1, K.ok.exfs b hb, .inl hb, fun x c z => (K.ok.exf b hb).2 x c z, fun p hp => absurd (show p ∈ ([] : List (Addr × Obj)) ++ [] from hp) (by simp)⟩
  have done : ∀ (s' : Shared) (m : Str → Option Value) (F : Hp), Inv X pins σ F s' → Q (.ref D) F → s'.heap.Ns s3.heap.objs.size m → FpOk X pins F s3.heap.objs.size →
      compPost (model X.prog X.w) X.A X.xe none (EP X pins σ Q) (.ref D) s3.heap.objs.size (.ok .next) s' := fun s' m F K k hn f => ⟨m, hn, fun h'' sb => by
    obtain ⟨f0, f1, f2, f3, f4, f5⟩ := f
    exact ⟨.ref D, F, K.turned (t' := s'.toks) (fun b o hb z => (sb.2 b hb).trans z) f0 f1 f3 f4 f5, rfl, k⟩⟩
  have loop : codeAny (model X.prog X.w) X.A (.compLoop (.SetComp elt [⟨tg, iter, ifs, 0⟩] scope pos) 0 (.ref it) (.ref D) ce) (compPost (model X.prog X.w) X.A X.xe none (EP X pins σ Q) (.ref D) s3.heap.objs.size) s4 := by
    refine PpSet.compLoopS_any (fun n s' => ∃ i F, Inv (X.blk s3 H3 scope ce fp) [] (wipe σ (own.map (·.2))) F s' ∧ tn i s'.heap ∧ (∀ b ∈ fp, F b = none) ∧ W i n F) ?_ m0 ⟨0, H3, I4, st4, nfp, w0⟩
    rintro n s5 ⟨i, H5, I5, st5, n5, w5⟩
    rcases turn i n H5 w5 with ⟨stop, qq⟩ | ⟨go, N, hNx, step⟩
    · have td := T.done (X.blk s3 H3 scope ce fp) rfl rfl rfl hc i [] s5 _ H5 (fun _ _ => False) I5 (sta I5 n5) st5 stop
      refine thnF td fun r s6 ⟨hr, I6⟩ => ?_
      subst hr
      have I7 : Inv X pins σ H5 s6 := I3.call' (ch := fp) I6.os I6.base I6.hok I6.bare fun b hb =>
        let z := (f3 b hb).1
        ⟨z.2.2.2.1, z.2.1, z.2.2.2.2.1, z.2.2.2.2.2⟩
      have nC : H5 s3.heap.objs.size = none := by
        rw [← cL]
        exact I6.free
      obtain ⟨m, hn, _⟩ := I6.loc
      have hn : s6.heap.Ns ce.locals m := hn
      rw [cL] at hn
      exact done s6 m H5 I7 qq hn (I3.fpOk (Nat.le_refl _) nC)
    · have ti := T.item (X.blk s3 H3 scope ce fp) rfl rfl rfl hc i [] s5 _ H5 (fun _ _ => False) I5 (sta I5 n5) st5 go
      refine thnF ti fun r s6 ⟨u, hr, h6⟩ => ?_
      subst hr
      refine thnF h6 fun _ s7 ⟨x, H7, I7, r7, y7, st7, n7⟩ => ?_
      have J7 := I7.pinned (sta I7 n7) (T.obj _ _ st7)
      refine thnF (pg.run _ s7 _ H7 x u _ J7 r7 (step x H7 y7)) fun _ s8 ⟨τ, H8, I8, hw, q8⟩ => ?_
      refine thnF (pt.run _ s8 τ H8 _ I8 q8) fun b s9 ⟨H9, I9, q9⟩ => ?_
      have fin : ∀ {s' : Shared} {F : Hp}, Inv (X.blk s3 H3 scope ce fp) ([] ++ pinsAt fp s7.heap) τ F s' → N F →
          ∃ m, m < n ∧ ∃ i F, Inv (X.blk s3 H3 scope ce fp) [] (wipe σ (own.map (·.2))) F s' ∧ tn i s'.heap ∧ (∀ b ∈ fp, F b = none) ∧ W i m F := fun {s' F} K nx => by
        obtain ⟨m', hm, w'⟩ := hNx F nx
        have pin : ∀ b ∈ fp, ∀ o, s7.heap.get? b = some o → s'.heap.get? b = some o ∧ F b = none := fun b hb o z =>
          let y := K.pin (b, o) (List.mem_append_right _ (List.mem_append_right _ (mem_pinsAt hb z)))
          ⟨y.1, y.2.1⟩
        have hl : (wipe σ (own.map (·.2))).length = τ.length := by
          rw [← hw, wipe_length]
        refine ⟨m', hm, i + 1, F, (K.unpinned (pins := [])).weak hl (fun j v z => ?_), T.keep _ _ _ st7 fun b hb o z => (pin b hb o z).1, fun b hb => ?_, w'⟩
        · rw [← hw] at z
          exact (wipe_some z).1
        · obtain ⟨o, z, _⟩ := T.obj _ _ st7 b hb
          exact (pin b hb o z).2
      cases b with
      | false =>
        simp only [Bool.false_eq_true, if_false] at q9 ⊢
        exact fin I9 q9
      | true =>
        simp only [if_true] at q9 ⊢
        refine thnF (pe.run _ s9 τ H9 _ I9 q9) fun z s10 ⟨yv, H10, I10, r10, cb, S0, n0, ey, hD10, hz10, nx⟩ => ?_
        subst ey
        obtain ⟨tk, rfl⟩ := r10
        exact addIn (X := X.blk s3 H3 scope ce fp) I10 hD10 hz10 fun s11 I11 => fin I11 nx
  exact PpSet.codeAny_compStart_set loop (T.self X.A 0 _ _ _ st4 loop)
end
end Ks

namespace Kq
open PySem PySem.Spec PyProof.Rows L2
/-! the program's defs, by their places -/
def tp (i : Nat) : Stmt := PySem.Challenge.pw_kindalone_k22_filled_kinds.main.body.getD i (.Pass ⟨0, 0, 0, 0⟩)
/-! heaps -/
theorem newS {H : Hp} {p : Addr} {o : HO} (h : H p = none) : Same H (upd H p o) := fun b u e => by
  rw [upd_ne (ne_of_none e h)]
  exact e
/-- but for d and c all that stood stands -/
def Kp (d c : Addr) (H G : Hp) : Prop := ∀ b o, b ≠ d → b ≠ c → H b = some o → G b = some o
theorem Kp.rfl {d c : Addr} {H : Hp} : Kp d c H H := fun _ _ _ _ e => e
theorem Kp.trans {d c : Addr} {H G F : Hp} (a : Kp d c H G) (b : Kp d c G F) : Kp d c H F := fun x o h1 h2 e => b x o h1 h2 (a x o h1 h2 e)
theorem Kp.of {d c : Addr} {H G : Hp} (a : Same H G) : Kp d c H G := fun x o _ _ e => a x o e
theorem Kp.at1 {d c : Addr} {H : Hp} {o : HO} : Kp d c H (upd H d o) := fun x u h1 _ e => by rw [upd_ne h1]; exact e
theorem Kp.at2 {d c : Addr} {H : Hp} {o : HO} : Kp d c H (upd H c o) := fun x u _ h2 e => by rw [upd_ne h2]; exact e
/-- the deck of drawn cells -/
structure Dk (H : Hp) (d c : Addr) : Prop where
  ne : d ≠ c
  dd : ∃ seed k : Int, H d = some (.lst [.ref c, .int seed, .int k])
  cc : ∃ ns : List Int, H c = some (.lst (ns.map V.int)) ∧ ns.length ≤ 63
theorem Dk.same {H G : Hp} {d c : Addr} (x : Dk H d c) (s : Same H G) : Dk G d c := by
  obtain ⟨n, ⟨a, b, e⟩, ⟨ns, f, l⟩⟩ := x
  exact ⟨n, ⟨a, b, s _ _ e⟩, ⟨ns, s _ _ f, l⟩⟩
theorem sz {n : Nat} (h : n ≤ 1000) : n ≤ sizeLine := Nat.le_of_lt (small1000 h)
theorem Kp.mk {d c p : Addr} {H G : Hp} {o : HO} (a : Kp d c H G) (h : H p = none) : Kp d c H (upd G p o) := fun b u h1 h2 e => by
  rw [upd_ne (ne_of_none e h)]
  exact a b u h1 h2 e
theorem Dk.put {G : Hp} {d c p : Addr} {o : HO} (x : Dk G d c) (h : p ≠ d) (h' : p ≠ c) : Dk (upd G p o) d c := by
  obtain ⟨n, ⟨a, b, e⟩, ⟨ns, f, l⟩⟩ := x
  exact ⟨n, ⟨a, b, by rw [upd_ne h.symm]; exact e⟩, ⟨ns, by rw [upd_ne h'.symm]; exact f, l⟩⟩
theorem Dk.off {H : Hp} {d c p : Addr} (x : Dk H d c) (h : H p = none) : p ≠ d ∧ p ≠ c := by
  obtain ⟨n, ⟨a, b, e⟩, ⟨ns, f, l⟩⟩ := x
  exact ⟨(ne_of_none e h).symm, (ne_of_none f h).symm⟩
/-! texts of letters -/
def lets : Str := "abcdefghijklmnopqrstuvwxyz"
def sg (i : Nat) : Str := ⟨#[97 + i]⟩
theorem lets_at : ∀ i : Fin 26, lets.cps.toList[i.val]? = some (97 + i.val) := by decide +kernel
theorem lets_ix : ∀ i : Fin 26, Builtin.Str.occurrences lets (sg i.val) 0 lets.length 1 = [i.val] := by decide +kernel
structure Nm (x : Str) : Prop where
  low : ∀ c ∈ x.cps.toList, 97 ≤ c ∧ c < 123
  few : x.cps.toList.length ≤ 8
  one : 1 ≤ x.cps.toList.length
theorem app_cps (x y : Str) : (x ++ y).cps.toList = x.cps.toList ++ y.cps.toList := by
  show (x.cps ++ y.cps).toList = _
  rw [Array.toList_append]
theorem join_low : ∀ ks : List Nat, (∀ k ∈ ks, k < 26) → (∀ c ∈ (Txt.join (Str.ofString "") (ks.map sg)).cps.toList, 97 ≤ c ∧ c < 123) ∧ (Txt.join (Str.ofString "") (ks.map sg)).cps.toList.length = ks.length := by
  intro ks h
  rw [show ∀ a b, Txt.join a b = Str.join a b from TL.join_eq]
  induction ks with
  | nil => exact ⟨fun c z => absurd z (by simp [Str.join, Str.empty]), by simp [Str.join, Str.empty]⟩
  | cons k ks ih =>
    have hk := h k List.mem_cons_self
    have ih := ih fun j hj => h j (List.mem_cons_of_mem _ hj)
    cases ks with
    | nil =>
      refine ⟨fun c z => ?_, rfl⟩
      have e : c = 97 + k := by simpa [Str.join, sg] using z
      omega
    | cons j r =>
      have e : Str.join (Str.ofString "") ((k :: j :: r).map sg) = sg k ++ Str.ofString "" ++ Str.join (Str.ofString "") ((j :: r).map sg) := rfl
      rw [e, app_cps, app_cps]
      have e0 : (Str.ofString "").cps.toList = [] := by decide
      rw [e0, List.append_nil]
      refine ⟨fun c z => ?_, ?_⟩
      · rcases List.mem_append.mp z with z | z
        · have e : c = 97 + k := by simpa [sg] using z
          omega
        · exact ih.1 c z
      · rw [List.length_append, ih.2]
        show 1 + _ = _
        simp only [List.length_cons]
        omega
theorem join_nm {ks : List Nat} (h : ∀ k ∈ ks, k < 26) (h1 : 1 ≤ ks.length) (h8 : ks.length ≤ 8) : Nm (Txt.join (Str.ofString "") (ks.map sg)) := by
  obtain ⟨a, b⟩ := join_low ks h
  exact ⟨a, by omega, by omega⟩
theorem cutTo {xs : List V} {j : Nat} (h : j ≤ xs.length) : cutV xs none (some (j : Int)) = xs.take j := by
  unfold cutV
  rw [HT.sIx_nat, HT.sIx_none, Nat.min_eq_left h]
  rfl
theorem Kp.free {d c p : Addr} {H G : Hp} (a : Kp d c H G) (k : Dk G d c) (h : G p = none) : H p = none := by
  obtain ⟨h1, h2⟩ := k.off h
  cases e : H p with
  | none => rfl
  | some o =>
    rw [a p o h1 h2 e] at h
    cases h
theorem sg_len (ks : List Nat) : ((ks.map sg).map (·.length)).sum = ks.length := by
  induction ks with
  | nil => rfl
  | cons k ks ih =>
    rw [List.map_cons, List.map_cons, List.sum_cons, ih, List.length_cons]
    show 1 + ks.length = _
    omega
theorem lets_get {r : Int} (h0 : 0 ≤ r) (h1 : r < 26) : atI lets.cps.toList r = some (97 + r.toNat) := by
  have e : r = ((r.toNat : Nat) : Int) := by omega
  have q := atI_nat (lets_at ⟨r.toNat, by omega⟩)
  rw [← show r = (((⟨r.toNat, by omega⟩ : Fin 26).val : Nat) : Int) from e] at q
  exact q
theorem cutKs {ks : List Nat} {j : Nat} (h : j ≤ ks.length) : cutV ((ks.map sg).map V.str) none (some (j : Int)) = ((ks.take j).map sg).map V.str := by
  rw [cutTo (by rw [List.length_map, List.length_map]; exact h), List.map_take, List.map_take]
theorem lets_len : lets.length ≤ sizeLine := by decide
/-! rules for the inside of a comprehension, the written part named -/
theorem slK {X : Cx} (K : PySem.W.Frag) (h : X.K = K) : SlR X (rSlL K) := by
  subst h
  exact sl_list
def rJn (K : PySem.W.Frag) : V → List V → Hp → VK → Prop := fun x xs H Q => ∃ a p, ∃ ys : List Str, x = .str a ∧ xs = [.ref p] ∧ (SqL K H p (ys.map V.str) ∨ SqT K H p (ys.map V.str)) ∧ (ys.map (·.length)).sum + ys.length * a.length ≤ 16777216 ∧ Q (.str (Txt.join a ys)) H
theorem pe_joinK {X : Cx} (K : PySem.W.Frag) (h : X.K = K) {o e : Expr} {apos pos : Pos} {to te : TE} (ho : PE X o to) (he : PE X e te) (hbase : attributeBase o "join" X.env (eval o X.env) = eval o X.env := by rfl) (hline : (apos.endLine == pos.line) = true := by rfl)
    (hs : starEach [e] X.env = [(false, eval e X.env)] := by rfl) : PE X (.Call (.Attribute o "join" apos) [e] [] pos) (tM1 (rJn K) to te) := by
  subst h
  exact pe_join ho he hs hbase hline
theorem dpInts (K : PySem.W.Frag) (H : Hp) : ∀ ns : List Int, DpAll K H (ns.map V.int) (ns.map PyData.int)
  | [] => .nil
  | n :: ns => .cons (.int n) (dpInts K H ns)

theorem ixNat {n j : Nat} (hj : j < n) : ixN n (j : Int) = some j := by
  have h1 : (0 : Int) ≤ (j : Int) := by omega
  have h2 : (j : Int) < (n : Int) := by omega
  simp [ixN, h1, h2]
theorem join_cps : ∀ ks : List Nat, (Txt.join (Str.ofString "") (ks.map sg)).cps.toList = ks.map (97 + ·) := by
  intro ks
  rw [show ∀ a b, Txt.join a b = Str.join a b from TL.join_eq]
  induction ks with
  | nil => rfl
  | cons k ks ih =>
    cases ks with
    | nil => rfl
    | cons j r =>
      have e : Str.join (Str.ofString "") ((k :: j :: r).map sg) = sg k ++ Str.ofString "" ++ Str.join (Str.ofString "") ((j :: r).map sg) := rfl
      rw [e, app_cps, app_cps, ih]
      rfl
theorem nodupR {f : Nat → Str} : ∀ n, (∀ i j, i < n → j < n → f i = f j → i = j) → ((List.range n).map f).Nodup
  | 0, _ => List.nodup_nil
  | n + 1, h => by
    rw [List.range_succ, List.map_append]
    refine List.nodup_append.mpr ⟨nodupR n fun i j hi hj e => h i j (by omega) (by omega) e, (by simp), fun x hx y hy e => ?_⟩
    obtain ⟨i, hi, rfl⟩ := List.mem_map.mp hx
    have ey : y = f n := List.mem_singleton.mp hy
    rw [ey] at e
    have hi := List.mem_range.mp hi
    have := h i n (by omega) (by omega) e
    omega
abbrev tDeck : Stmt := tp 11
abbrev tDraw : Stmt := tp 12
abbrev tPick : Stmt := tp 13
abbrev tNames : Stmt := tp 14
section
variable {P : Program} {w : World} {K : PySem.W.Frag} {mg : Str → Option Value} {base : Heap}
theorem scDraw : FnScope ["_law_deck_here", "_law_most", "_law_cell", "_law_number"] ["_law_deck_here", "_law_most"] (defScope tDraw) := ⟨rfl, rfl, rfl, by decide +kernel, rfl, by decide +kernel, by decide +kernel⟩
def spDraw : Sp := fun vs H Q _ => ∃ (d c : Addr) (m : Int), vs = [.ref d, .int m] ∧ Dk H d c ∧ 0 < m ∧ m < 1000 ∧ ∀ (r : Int) (G : Hp), 0 ≤ r → r < m → Kp d c H G → Dk G d c → Q (.int r) G
theorem okDraw {f : Addr} {fd : FuncData} {k : Nat} (F : Fun K "_law_draw" "_law_draw" tDraw f fd) : FnOk P w K mg base CX0 (k + 1) f fd ["_law_deck_here", "_law_most"] spDraw := by
  refine F.ok scDraw (fun vs H Q E h => ?_) (fun cdv A outer s H vs Q E hr h => ?_)
  · obtain ⟨d, c, m, rfl, _⟩ := h
    rfl
  obtain ⟨d, c, m, rfl, ⟨ndc, ⟨seed, k0, hd⟩, ⟨ns, hc, hl⟩⟩, m0, m1, q⟩ := h
  refine ⟨_, pss_cons (ps_asg (pe_op op_add (pe_ix ix_list (pv 0) pe_int (fun _ _ => rfl)) pe_int) (pg_sub (pv 0) pe_int set_list))
    (C8.pss_cut (ps_set (i := 2) scDraw.nd rfl (.inl rfl) (pe_ifExp (pt_cmpR (op_eqD hr.units) (pe_ix ix_list (pv 0) pe_int (fun _ _ => rfl)) (pe_lst pa_nil) (nomark _)) (pe_ix ix_list (pv 0) pe_int (fun _ _ => rfl)) (pe_bm0 PySem.F.plainAttrs_list PySem.F.slot_list_pop PySem.F.type_list_pop mt_pop (pe_ix ix_list (pv 0) pe_int (fun _ _ => rfl)))))
    (pss_cons (ps_if (pt_cmpR op_ge (pv 2) (pe_op op_pow pe_int pe_int) (nomark _))
      (pss_cons (ps_expr (pe_bm PySem.F.plainAttrs_list PySem.F.slot_list_append PySem.F.type_list_append mt_append (pe_ix ix_list (pv 0) pe_int (fun _ _ => rfl)) (pa_cons (pe_op op_fdiv (pv 2) (pv 1)) pa_nil)))
      (pss_one (ps_ret (pe_op op_mod (pv 2) (pv 1))))) pss_nil)
    (pss_cons (ps_set (i := 3) scDraw.nd rfl (.inl rfl) (pe_op op_mod (pe_op op_mul (pe_op op_add (pe_op op_add (pe_op op_mod (pv 2) pe_int) (pe_op op_mul pe_int (pe_ix ix_list (pv 0) pe_int (fun _ _ => rfl)))) pe_int) pe_int) pe_int))
    (pss_cons (ps_set (i := 3) scDraw.nd rfl (.inl rfl) (pe_op op_mod (pe_op op_add (pe_op op_add (pe_op op_mul (pv 3) (pv 3)) (pe_op op_mul pe_int (pe_ix ix_list (pv 0) pe_int (fun _ _ => rfl)))) pe_int) pe_int))
    (pss_one (ps_ret (pe_op op_mod (pe_op op_fdiv (pe_op op_mod (pe_op op_mul (pv 3) (pe_op op_add (pe_op op_fdiv (pv 3) pe_int) pe_int)) pe_int) pe_int) (pv 1)))))))), ?_⟩
  refine ⟨_, rfl, d, _, _, _, rfl, rfl, SqL.of hd, atI_nat (j := 2) rfl, _, _, rfl, rfl, _, rfl, d, _, _, 2, rfl, rfl, hd, rfl, ?_⟩
  generalize hH1 : upd H d _ = H1
  have d1 : H1 d = some (.lst [.ref c, .int seed, .int (k0 + 1)]) := by rw [← hH1, upd_same]; rfl
  have c1 : H1 c = some (.lst (ns.map V.int)) := by rw [← hH1, upd_ne ndc.symm]; exact hc
  have p1 : Kp d c H H1 := by rw [← hH1]; exact Kp.at1
  clear hH1
  refine ⟨fun σ G => ∃ (cell : Int) (ms : List Int), σ = [some (.ref d), some (.int m), some (.int cell), none] ∧ Kp d c H G ∧ G d = some (.lst [.ref c, .int seed, .int (k0 + 1)]) ∧ G c = some (.lst (ms.map V.int)) ∧ ms.length ≤ 62, ?_, ?b2⟩
  · refine ⟨_, rfl, d, _, _, _, rfl, rfl, SqL.of d1, atI_nat (j := 0) rfl, Nat.zero_le _, fun p np => ?_⟩
    have sp : Same H1 (upd H1 p (.lst [])) := newS np
    have d2 := sp _ _ d1
    have c2 := sp _ _ c1
    have p2 : Kp d c H (upd H1 p (.lst [])) := p1.trans (.of sp)
    refine ⟨.list (ns.map PyData.int), .list [], .lst (SqL.of c2) (dpInts K _ ns), .lst (SqL.of upd_same) .nil, PySem.W.ke_shaped_ints ns, rfl, _, rfl, ?_⟩
    generalize upd H1 p (.lst []) = H2 at d2 c2 p2
    refine ite2 (fun he => ?_) (fun hne => ?_)
    · have n0 : ns = [] := by
        cases ns with
        | nil => rfl
        | cons a b => simp [PyData.eqv, PyData.eqvAll] at he
      subst n0
      exact ⟨_, rfl, d, _, _, _, rfl, rfl, SqL.of d2, atI_nat (j := 1) rfl, seed, [], rfl, p2, d2, c2, Nat.zero_le _⟩
    · have nn : ns ≠ [] := fun z => hne (by rw [z]; rfl)
      obtain ⟨n, hn⟩ : ∃ n, (ns.map V.int)[(ns.map V.int).length - 1]? = some (.int n) := by
        have h0 : 0 < ns.length := List.length_pos_iff.mpr nn
        rw [List.length_map, List.getElem?_map, List.getElem?_eq_getElem (by omega)]
        exact ⟨_, rfl⟩
      have ed : (ns.map V.int).dropLast = ns.dropLast.map V.int := by rw [List.map_dropLast]
      refine ⟨_, rfl, d, _, _, _, rfl, rfl, SqL.of d2, atI_nat (j := 0) rfl, .inl ⟨rfl, _, SqL.of c2⟩, c, _, _, rfl, rfl, c2, hn, ?_⟩
      rw [ed]
      refine ⟨n, ns.dropLast, rfl, p2.trans Kp.at2, by rw [upd_ne ndc]; exact d2, upd_same, ?_⟩
      rw [List.length_dropLast]
      omega
  case b2 =>
    rintro σ G ⟨cell, ms, rfl, kp, gd, gc, lm⟩
    refine ⟨_, rfl, _, _, rfl, rfl, ⟨by decide, by decide, by decide⟩, _, _, rfl, rfl, _, rfl, ite2 (fun _ => ?_) (fun _ => ?_)⟩
    · refine ⟨_, rfl, d, _, _, _, rfl, rfl, SqL.of gd, atI_nat (j := 0) rfl, .inl ⟨rfl, _, SqL.of gc⟩, _, rfl, _, rfl, _, _, rfl, rfl, ⟨m0, by omega⟩, c, _, _, rfl, rfl, gc, (by rw [List.length_map]; exact small1000 (by omega)), ?_⟩
      refine ⟨_, rfl, _, rfl, _, _, rfl, rfl, m0, q _ _ (Int.emod_nonneg _ (by omega)) (Int.emod_lt_of_pos _ m0) (kp.trans Kp.at2) ⟨ndc, ⟨seed, k0 + 1, (by rw [upd_ne ndc]; exact gd)⟩, ⟨ms ++ [cell / m], ?_, ?_⟩⟩⟩
      · rw [upd_same, List.map_append]
        rfl
      · rw [List.length_append]
        show _ + 1 ≤ 63
        omega
    · refine ⟨_, rfl, _, _, rfl, rfl, (by show (0 : Int) < 2147483629; decide), _, rfl, d, _, _, _, rfl, rfl, SqL.of gd, atI_nat (j := 2) rfl, _, _, rfl, rfl, .inl ⟨by decide, by decide⟩, _, _, rfl, rfl, _, _, rfl, rfl, _, _, rfl, rfl, .inr ⟨by decide, by decide⟩, _, _, rfl, rfl, (by show (0 : Int) < 2147483647; decide), ?_⟩
      generalize hx : (cell % 2147483629 + 104729 * (k0 + 1) + 1) * 48271 % 2147483647 = x
      have x0 : 0 ≤ x := by rw [← hx]; exact Int.emod_nonneg _ (by decide)
      have x1 : x < 2147483647 := by rw [← hx]; exact Int.emod_lt_of_pos _ (by decide)
      refine ⟨_, rfl, _, rfl, _, _, rfl, rfl, .inl ⟨by omega, by omega⟩, _, rfl, d, _, _, _, rfl, rfl, SqL.of gd, atI_nat (j := 2) rfl, _, _, rfl, rfl, .inl ⟨by decide, by decide⟩, _, _, rfl, rfl, _, _, rfl, rfl, _, _, rfl, rfl, (by show (0 : Int) < 2147483587; decide), ?_⟩
      generalize hy : (x * x + 69621 * (k0 + 1) + 7) % 2147483587 = y
      have y0 : 0 ≤ y := by rw [← hy]; exact Int.emod_nonneg _ (by decide)
      have y1 : y < 2147483587 := by rw [← hy]; exact Int.emod_lt_of_pos _ (by decide)
      refine ⟨_, rfl, _, rfl, _, _, rfl, rfl, ⟨by decide, by decide⟩, _, _, rfl, rfl, _, _, rfl, rfl, .inl ⟨by omega, by omega⟩, _, _, rfl, rfl, (by show (0 : Int) < 2305843009213693951; decide), _, _, rfl, rfl, ⟨by decide, by decide⟩, _, rfl, _, _, rfl, rfl, m0, ?_⟩
      exact q _ _ (Int.emod_nonneg _ (by omega)) (Int.emod_lt_of_pos _ m0) kp ⟨ndc, ⟨_, _, gd⟩, ⟨ms, gc, by omega⟩⟩
/-! _law_deck -/
theorem scDeck : FnScope ["_law_script", "_law_cells"] ["_law_script"] (defScope tDeck) := ⟨rfl, rfl, rfl, by decide +kernel, rfl, by decide +kernel, by decide +kernel⟩
def spDeck (K : PySem.W.Frag) : Sp := fun vs H Q _ => ∃ (a : Addr) (ns : List Int), vs = [.ref a] ∧ SqL K H a (ns.map V.int) ∧ ns.length ≤ 63 ∧ ∀ (d c : Addr) (G : Hp), Dk G d c → Q (.ref d) G
theorem okDeck {f : Addr} {fd : FuncData} {k : Nat} (F : Fun K "_law_deck" "_law_deck" tDeck f fd) (ml : mg "list" = none) (mr : mg "reversed" = none) (ms : mg "sum" = none) (mn : mg "len" = none) : FnOk P w K mg base CX0 (k + 1) f fd ["_law_script"] (spDeck K) := by
  refine F.ok scDeck (fun vs H Q E h => ?_) (fun cdv A outer s H vs Q E hr h => ?_)
  · obtain ⟨a, ns, rfl, _⟩ := h
    rfl
  obtain ⟨a, ns, rfl, hS, hl, q⟩ := h
  refine ⟨_, pss_cons (ps_set (i := 1) scDeck.nd rfl (.inl rfl) (Kr.pe_listRev rfl (by rfl) ml (by rfl) mr (pe_slice sl_list (pv 0) po_none (po_some pe_int))))
    (pss_one (ps_ret (pe_lst (pa_cons (pv 1) (pa_cons (pe_op op_add (pe_op op_mod (pe_callB (cr_sum rfl) (by rfl) ms PyProof.Rows.boot_sum (pa_cons (pv 1) pa_nil)) pe_int) (pe_op op_mul pe_int (pe_callB call_len_seq (by rfl) mn PySem.boot_len (pa_cons (pv 1) pa_nil)))) (pa_cons pe_int pa_nil)))))), ?_⟩
  refine ⟨_, rfl, 63, rfl, a, _, rfl, hS, fun p np => ?_⟩
  refine ⟨p, _, rfl, SqL.of upd_same, fun c nc => ?_⟩
  have e0 : cutV (ns.map V.int) none (some 63) = (ns.take 63).map V.int := by
    rw [List.take_of_length_le hl]
    unfold cutV
    rw [HT.sIx_none, show HT.sIx (ns.map V.int).length (ns.map V.int).length (some 63) = min 63 (ns.map V.int).length from HT.sIx_nat _ _ 63, List.drop_zero, List.take_of_length_le]
    rw [List.length_map]
    omega
  rw [e0, ← List.map_reverse]
  generalize hm : (ns.take 63).reverse = ms'
  have lm : ms'.length ≤ 63 := by rw [← hm, List.length_reverse, List.length_take]; omega
  generalize hG : upd (upd H p _) c (.lst (ms'.map V.int)) = G
  have gc : G c = some (.lst (ms'.map V.int)) := by rw [← hG, upd_same]
  refine ⟨_, rfl, _, rfl, c, _, rfl, SqL.of gc, _, _, rfl, rfl, (by show (0 : Int) < 2147483629; decide), _, rfl, c, _, rfl, .inl (SqL.of gc), _, _, rfl, rfl, .inl ⟨by decide, by decide⟩, _, _, rfl, rfl, (by show 3 ≤ sizeLine; decide), fun d nd => q d c _ ⟨(ne_of_none gc nd).symm, ⟨_, _, upd_same⟩, ⟨ms', ?_, lm⟩⟩⟩
  rw [upd_ne (ne_of_none gc nd)]
  exact gc
/-! _law_pick -/
theorem scPick : FnScope ["_law_deck_here", "_law_some"] ["_law_deck_here", "_law_some"] (defScope tPick) := ⟨rfl, rfl, rfl, by decide +kernel, rfl, by decide +kernel, by decide +kernel⟩
abbrev psPick : List Str := ["_law_deck_here", "_law_some"]
def spPick : Sp := fun vs H Q _ => ∃ (d c a : Addr) (us : List V), vs = [.ref d, .ref a] ∧ Dk H d c ∧ H a = some (.lst us) ∧ a ≠ d ∧ a ≠ c ∧ 1 ≤ us.length ∧ us.length ≤ 100 ∧ ∀ (v : V) (G : Hp), Kp d c H G → Dk G d c → v ∈ us → Q v G
theorem okPick {f fD : Addr} {fd fdD : FuncData} {k : Nat} (F : Fun K "_law_pick" "_law_pick" tPick f fd) (GD : FnOk P w K mg base CX0 (k + 1) fD fdD ["_law_deck_here", "_law_most"] spDraw) (bD : Binds K fdD ["_law_deck_here", "_law_most"] []) (gD : mg "_law_draw" = some (.ref fD)) (kD : PySem.W.keepIn K (.ref fD) = true)
    (mn : mg "len" = none) : FnOk P w K mg base CX0 (k + 2) f fd psPick spPick := by
  refine F.ok scPick (fun vs H Q E h => ?_) (fun cdv A outer s H vs Q E hr h => ?_)
  · obtain ⟨d, c, a, us, rfl, _⟩ := h
    rfl
  obtain ⟨d, c, a, us, rfl, dk, ha, ad, ac, l1, l2, q⟩ := h
  refine ⟨_, pss_one (ps_ret (pe_ix ix_list (pv 1) (pe_call GD hr (by rfl) gD kD bD .nil pass0 (pa_cons (pv 0) (pa_cons (pe_callB call_len_seq (by rfl) mn PySem.boot_len (pa_cons (pv 1) pa_nil)) pa_nil))) (fun _ _ => rfl))), ?_⟩
  refine ⟨_, rfl, _, rfl, _, rfl, a, _, rfl, .inl (SqL.of ha), d, c, _, rfl, dk, by omega, by omega, fun r G r0 r1 kp dk2 => ?_⟩
  have lr : r.toNat < us.length := by omega
  have er : r = ((r.toNat : Nat) : Int) := by omega
  have gat : atI us r = some us[r.toNat] := by
    have z := atI_nat (xs := us) (j := r.toNat) (List.getElem?_eq_getElem lr)
    rw [← er] at z
    exact z
  exact ⟨a, _, _, _, rfl, rfl, SqL.of (kp a _ ad ac ha), gat, q _ G kp dk2 (List.getElem_mem lr)⟩
end
end Kq

namespace Kq
open PySem PySem.Spec PyProof.Rows L2
abbrev nNames : List Str := ["_law_deck_here", "_law_many", "_law_letters", "_law_k", "_law_word", "_law_at", "_law_found", "_law_sign"]
theorem smk {H G : Hp} {p : Addr} {o : HO} (a : Same H G) (h : H p = none) : Same H (upd G p o) := fun b u e => by
  rw [upd_ne (ne_of_none e h)]
  exact a b u e
def nmAt (ks : List Nat) (a j : Nat) : Str := Txt.join (Str.ofString "") ((ks.set a ((ks.getD a 0 + j + 1) % 26)).map sg)
theorem nmAt_inj {ks : List Nat} {a i j : Nat} (ha : a < ks.length) (hi : i < 26) (hj : j < 26) (h : nmAt ks a i = nmAt ks a j) : i = j := by
  have e : (ks.set a ((ks.getD a 0 + i + 1) % 26)).map (97 + ·) = (ks.set a ((ks.getD a 0 + j + 1) % 26)).map (97 + ·) := by
    rw [← join_cps, ← join_cps]
    exact congrArg (fun s : Str => s.cps.toList) h
  have e2 := congrArg (fun l => l[a]?) e
  simp only [List.getElem?_map, List.getElem?_set_self ha, Option.map_some] at e2
  have e3 := Option.some.inj e2
  omega
section
variable {P : Program} {w : World} {K : PySem.W.Frag} {mg : Str → Option Value} {base : Heap}
theorem scNames : FnScope nNames ["_law_deck_here", "_law_many"] (defScope tNames) := ⟨rfl, rfl, rfl, by decide +kernel, rfl, by decide +kernel, by decide +kernel⟩
def spNames : Sp := fun vs H Q _ => ∃ (d c : Addr) (m : Int), vs = [.ref d, .int m] ∧ Dk H d c ∧ 0 ≤ m ∧ m ≤ 26 ∧
  ∀ (l : Addr) (xs : List Str) (G : Hp), Kp d c H G → Dk G d c → H l = none → G l = some (.lst (xs.map V.str)) → xs.length = m.toNat → (∀ x ∈ xs, Nm x) → xs.Nodup → Q (.ref l) G
theorem okNames {f fD : Addr} {fd fdD : FuncData} {k : Nat} (F : Fun K "_law_names" "_law_names" tNames f fd) (GD : FnOk P w K mg base CX0 (k + 1) fD fdD ["_law_deck_here", "_law_most"] spDraw) (bD : Binds K fdD ["_law_deck_here", "_law_most"] []) (gD : mg "_law_draw" = some (.ref fD)) (kD : PySem.W.keepIn K (.ref fD) = true)
    (mn : mg "len" = none) (mr : mg "range" = none) : FnOk P w K mg base CX0 (k + 2) f fd ["_law_deck_here", "_law_many"] spNames := by
  refine F.ok scNames (fun vs H Q E h => ?_) (fun cdv A outer s H vs Q E hr h => ?_)
  · obtain ⟨d, c, m, rfl, _⟩ := h
    rfl
  obtain ⟨d, c, m, rfl, dk, m0, m1, q⟩ := h
  refine ⟨_, pss_cons (ps_set (i := 2) scNames.nd rfl (.inr rfl) pe_str)
    (pss_cons (ps_setLc (i := 4) (own := [("_law_k", 3)]) (g := gName 3) (by rfl) scNames.nd rfl rfl (sw_true rfl rfl rfl (by decide +kernel)) (pi_range1 (by rfl) mr (pa_cons (pe_op op_add pe_int (pe_call GD hr (by rfl) gD kD bD .nil pass0 (pa_cons (pv 0) (pa_cons pe_int pa_nil)))) pa_nil)) (blkOk_by (own := [("_law_k", 3)]) (N := nNames) (sc := defScope tNames) (by decide +kernel))
        (fun _ _ _ _ _ => pg_name (i := 3) scNames.nd rfl (.inl rfl)) (fun _ _ _ _ _ => pts_nil)
        (fun _ _ _ _ _ => pe_call GD hr (by rfl) gD kD bD .nil pass0 (pa_cons (pv 0) (pa_cons pe_int pa_nil))))
    (pss_cons (ps_set (i := 5) scNames.nd rfl (.inl rfl) (pe_call GD hr (by rfl) gD kD bD .nil pass0 (pa_cons (pv 0) (pa_cons (pe_callB call_len_seq (by rfl) mn PySem.boot_len (pa_cons (pv 4) pa_nil)) pa_nil))))
    (pss_cons (ps_set (i := 6) scNames.nd rfl (.inl rfl) (pe_lst pa_nil))
    (pss_cons (ps_for PassesOwn.never rfl (pi_range1 (by rfl) mr (pa_cons (pv 1) pa_nil)) (pg_name (i := 3) scNames.nd rfl (.inl rfl))
      (pss_cons (ps_asg (pe_op op_mod (pe_op op_add (pe_ix ix_list (pv 4) (pv 5) (fun _ _ => rfl)) pe_int) pe_int) (pg_sub (pv 4) (pv 5) set_list))
      (pss_one (ps_expr (pe_bm PySem.F.plainAttrs_list PySem.F.slot_list_append PySem.F.type_list_append mt_append (pv 6) (pa_cons (pe_joinK K rfl pe_str
        (pe_lc (own := [("_law_sign", 7)]) (g := gName 7) (by rfl) scNames.nd (pi_list (pv 4)) (blkOk_by (own := [("_law_sign", 7)]) (N := nNames) (sc := defScope tNames) (by decide +kernel))
          (fun _ _ _ _ _ => pg_name (i := 7) scNames.nd rfl (.inl rfl)) (fun _ _ _ _ _ => pts_nil) (fun _ _ _ _ _ => pe_ix ix_str (pv 2) (pv 7) (fun _ _ => rfl)))) pa_nil))))))
    (pss_one (ps_ret (pv 6))))))), ?_⟩
  refine ⟨_, rfl, d, c, 8, rfl, dk, by decide, by decide, fun mm G1 mm0 mm1 kp1 dk1 => ⟨_, _, rfl, rfl, ?_⟩⟩
  refine ⟨1 + mm, rfl, by omega, by omega, fun D nD => ?_⟩
  have offD := dk1.off nD
  have hD : H D = none := kp1.free dk1 nD
  refine lc_range (lo := 0) (n := (1 + mm).toNat) (fun i G => Kp d c H G ∧ Dk G d c ∧ ∃ ks : List Nat, ks.length = i ∧ (∀ k ∈ ks, k < 26) ∧ G D = some (.lst (ks.map fun k : Nat => V.int (k : Int)))) ?_ (fun i G hi z => ?_) (fun G z => ?_)
  · exact ⟨kp1.mk hD, dk1.put offD.1 offD.2, [], rfl, fun k z => (nomatch z), upd_same⟩
  · obtain ⟨kpi, dki, ks, lk, hk, gD'⟩ := z
    refine ⟨rfl, _, rfl, d, c, 26, rfl, dki, by decide, by decide, fun r G2 r0 r1 kp2 dk2 => ?_⟩
    have er : r = ((r.toNat : Nat) : Int) := by omega
    refine ⟨_, kp2 D _ offD.1 offD.2 gD', ?_, (kpi.trans kp2).mk hD, dk2.put offD.1 offD.2, ks ++ [r.toNat], ?_, fun k hk' => ?_, ?_⟩
    · rw [List.length_map, lk]
      exact small1000 (by omega)
    · rw [List.length_append, lk]
      rfl
    · rcases List.mem_append.mp hk' with z | z
      · exact hk k z
      · rw [List.mem_singleton.mp z]
        omega
    · rw [upd_same, List.map_append]
      show _ = some (HO.lst (_ ++ [V.int ((r.toNat : Nat) : Int)]))
      rw [← er]
  obtain ⟨kpi, dki, ks, lk, hk, gD'⟩ := z
  refine ⟨_, rfl, _, rfl, D, _, rfl, .inl (SqL.of gD'), d, c, _, rfl, dki, by rw [List.length_map]; omega, by rw [List.length_map]; omega, fun r G2 r0 r1 kp2 dk2 => ?_⟩
  rw [List.length_map] at r1
  have gD2 := kp2 D _ offD.1 offD.2 gD'
  refine ⟨Nat.zero_le _, fun L nL => ?_⟩
  have offL := dk2.off nL
  have LD : L ≠ D := (ne_of_none gD2 nL).symm
  have kpa := kpi.trans kp2
  have hL : H L = none := kpa.free dk2 nL
  have er : r = ((r.toNat : Nat) : Int) := by omega
  have lr : r.toNat < ks.length := by omega
  have l8 : ks.length ≤ 8 := by omega
  refine ⟨_, rfl, m, rfl, by omega, by omega, ?_⟩
  refine for_range (lo := 0) (n := m.toNat) (fun i σ G => (∃ y3, σ = [some (.ref d), some (.int m), some (.str lets), y3, some (.ref D), some (.int r), some (.ref L), none]) ∧ Kp d c H G ∧ Dk G d c ∧
      G D = some (.lst ((ks.set r.toNat ((ks.getD r.toNat 0 + i) % 26)).map fun k : Nat => V.int (k : Int))) ∧ G L = some (.lst (((List.range i).map (nmAt ks r.toNat)).map V.str))) ?_ (fun i σ G hi z => ?_) (fun σ G z => ?_)
  · refine ⟨⟨none, rfl⟩, kpa.mk hL, dk2.put offL.1 offL.2, ?_, upd_same⟩
    rw [upd_ne LD.symm, gD2]
    have h26 : (ks.getD r.toNat 0 + 0) % 26 = ks[r.toNat] := by
      have e1 : ks.getD r.toNat 0 = ks[r.toNat] := by simp [List.getD, List.getElem?_eq_getElem lr]
      have := hk _ (List.getElem_mem lr)
      rw [e1]
      omega
    rw [h26, List.set_getElem_self]
  · obtain ⟨⟨y3, rfl⟩, kpG, dkG, gDG, gLG⟩ := z
    generalize hks : ks.set r.toNat ((ks.getD r.toNat 0 + i) % 26) = ki at gDG
    have lki : ki.length = ks.length := by rw [← hks, List.length_set]
    have kat : ki[r.toNat]? = some ((ks.getD r.toNat 0 + i) % 26) := by rw [← hks, List.getElem?_set_self lr]
    have gat : atI (ki.map fun k : Nat => V.int (k : Int)) r = some (V.int (((ks.getD r.toNat 0 + i) % 26 : Nat) : Int)) := by
      have z := atI_nat (xs := ki.map fun k : Nat => V.int (k : Int)) (j := r.toNat) (v := V.int (((ks.getD r.toNat 0 + i) % 26 : Nat) : Int)) (by rw [List.getElem?_map, kat]; rfl)
      rw [← er] at z
      exact z
    have ix : ixN (ki.map fun k : Nat => V.int (k : Int)).length r = some r.toNat := by
      have z := ixNat (n := (ki.map fun k : Nat => V.int (k : Int)).length) (j := r.toNat) (by rw [List.length_map, lki]; exact lr)
      rw [← er] at z
      exact z
    refine ⟨_, rfl, _, rfl, D, _, _, _, rfl, rfl, SqL.of gDG, gat, _, _, rfl, rfl, _, _, rfl, rfl, (by show (0 : Int) < 26; decide), _, rfl, _, rfl, D, _, _, r.toNat, rfl, rfl, gDG, ix, ?_⟩
    have ev : (V.int ((((ks.getD r.toNat 0 + i) % 26 : Nat) : Int) + 1) = V.int ((((ks.getD r.toNat 0 + i) % 26 : Nat) : Int) + 1)) := rfl
    have en : ((((ks.getD r.toNat 0 + i) % 26 : Nat) : Int) + 1) % 26 = (((ks.getD r.toNat 0 + i + 1) % 26 : Nat) : Int) := by omega
    have eset : (ki.map fun k : Nat => V.int (k : Int)).set r.toNat (V.int (((((ks.getD r.toNat 0 + i) % 26 : Nat) : Int) + 1) % 26)) = (ks.set r.toNat ((ks.getD r.toNat 0 + i + 1) % 26)).map fun k : Nat => V.int (k : Int) := by
      rw [en, ← hks, ← List.map_set (f := fun k : Nat => V.int (k : Int)), List.set_set]
    rw [eset]
    generalize hk2 : ks.set r.toNat ((ks.getD r.toNat 0 + i + 1) % 26) = k2
    have lk2 : k2.length = ks.length := by rw [← hk2, List.length_set]
    have hk26 : ∀ k ∈ k2, k < 26 := fun k hk' => by
      rw [← hk2] at hk'
      rcases List.mem_or_eq_of_mem_set hk' with z | z
      · exact hk k z
      · rw [z]
        exact Nat.mod_lt _ (by decide)
    have gL2 : (upd G D (.lst (k2.map fun k : Nat => V.int (k : Int)))) L = some (.lst (((List.range i).map (nmAt ks r.toNat)).map V.str)) := by rw [upd_ne LD]; exact gLG
    have gDn : (upd G D (.lst (k2.map fun k : Nat => V.int (k : Int)))) D = some (.lst (k2.map fun k : Nat => V.int (k : Int))) := upd_same
    have kp3 : Kp d c H (upd G D (.lst (k2.map fun k : Nat => V.int (k : Int)))) := kpG.mk hD
    have dk3 := dkG.put (o := .lst (k2.map fun k : Nat => V.int (k : Int))) offD.1 offD.2
    generalize upd G D (.lst (k2.map fun k : Nat => V.int (k : Int))) = G3 at gL2 gDn kp3 dk3
    refine ⟨_, rfl, .inl ⟨rfl, _, SqL.of gL2⟩, ⟨_, rfl⟩, _, rfl, D, rfl, ⟨_, SqL.of gDn⟩, fun J nJ => ?_⟩
    have JD : D ≠ J := ne_of_none gDn nJ
    have JL : L ≠ J := ne_of_none gL2 nJ
    have offJ := dk3.off nJ
    have hJ : H J = none := kp3.free dk3 nJ
    refine lc_list (xs := k2.map fun k : Nat => V.int (k : Int)) (fun i G => Same G3 G ∧ G J = some (.lst (((k2.take i).map sg).map V.str))) ⟨newS nJ, upd_same⟩ (fun i G _ z => SqL.of (z.1 _ _ gDn)) (fun i' x G hx z => ?_) (fun G z => ?_)
    · obtain ⟨sG, gJ⟩ := z
      rw [List.getElem?_map] at hx
      cases hu : k2[i']? with
      | none => rw [hu] at hx; cases hx
      | some kk =>
        rw [hu] at hx
        have ex : V.int (kk : Int) = x := Option.some.inj hx
        subst ex
        have hkk := hk26 kk (List.mem_of_getElem? hu)
        have li : i' < k2.length := (List.getElem?_eq_some_iff.mp hu).1
        have tk : k2.take (i' + 1) = k2.take i' ++ [kk] := by rw [List.take_add_one, hu]; rfl
        have lg := lets_get (r := ((kk : Nat) : Int)) (by omega) (by omega)
        rw [Int.toNat_natCast] at lg
        refine ⟨rfl, _, rfl, _, rfl, lets, _, _, rfl, rfl, lets_len, lg, _, gJ, ?_, smk sG nJ, ?_⟩
        · rw [List.length_map, List.length_map, List.length_take]
          exact small1000 (by omega)
        · rw [upd_same, tk, List.map_append, List.map_append]
          rfl
    · obtain ⟨sG, gJ⟩ := z
      rw [List.length_map, List.take_length] at gJ
      refine ⟨_, J, k2.map sg, rfl, rfl, .inl (SqL.of gJ), ?_, L, _, _, rfl, rfl, sG _ _ gL2, ?_, ?_⟩
      · rw [sg_len, List.length_map]
        show k2.length + k2.length * 0 ≤ _
        omega
      · rw [List.length_map, List.length_map, List.length_range]
        exact small1000 (by omega)
      · refine ⟨⟨_, rfl⟩, (kp3.trans (Kp.of sG)).mk hL, (dk3.same sG).put offL.1 offL.2, ?_, ?_⟩
        · rw [upd_ne LD.symm]
          exact sG _ _ gDn
        · rw [upd_same, List.range_succ, List.map_append, List.map_append]
          show _ = some (HO.lst (_ ++ [V.str (Txt.join (Str.ofString "") ((ks.set r.toNat ((ks.getD r.toNat 0 + i + 1) % 26)).map sg))]))
          rw [hk2]
  · obtain ⟨⟨y3, rfl⟩, kpG, dkG, gDG, gLG⟩ := z
    refine ⟨_, rfl, q L _ G kpG dkG hL gLG (by rw [List.length_map, List.length_range]) (fun x hx => ?_) (nodupR _ fun i j hi hj e => nmAt_inj lr (by omega) (by omega) e)⟩
    obtain ⟨j, _, rfl⟩ := List.mem_map.mp hx
    refine join_nm (fun k hk' => ?_) (by rw [List.length_set]; omega) (by rw [List.length_set]; omega)
    rcases List.mem_or_eq_of_mem_set hk' with z | z
    · exact hk k z
    · rw [z]
      exact Nat.mod_lt _ (by decide)
end
end Kq

namespace Kq
open PySem PySem.Spec PyProof.Rows L2
/-! kinds as trees -/
inductive Kd where
  | opn (x : Str)
  | num
  | tru
  | pair (a b : Kd)
  | eith (a b : Kd)
  | lst (a : Kd)
  | fn (a b : Kd)
namespace Kd
def word : Kd → Str
  | opn _ => "open"
  | num => "num"
  | tru => "truth"
  | pair _ _ => "pair"
  | eith _ _ => "either"
  | lst _ => "list"
  | fn _ _ => "fun"
def kids : Kd → List Kd
  | pair a b => [a, b]
  | eith a b => [a, b]
  | lst a => [a]
  | fn a b => [a, b]
  | _ => []
def isFn : Kd → Bool
  | fn _ _ => true
  | _ => false
def isOp : Kd → Bool
  | opn _ => true
  | _ => false
def nodes : Kd → List Kd
  | opn x => [opn x]
  | num => [num]
  | tru => [tru]
  | pair a b => pair a b :: (nodes a ++ nodes b)
  | eith a b => eith a b :: (nodes a ++ nodes b)
  | lst a => lst a :: nodes a
  | fn a b => fn a b :: (nodes a ++ nodes b)
def size (t : Kd) : Nat := t.nodes.length
def dp : Kd → Nat
  | pair a b => max a.dp b.dp + 1
  | eith a b => max a.dp b.dp + 1
  | lst a => a.dp + 1
  | fn a b => max a.dp b.dp + 1
  | _ => 0
def opens : Kd → List Str
  | opn x => [x]
  | num => []
  | tru => []
  | pair a b => opens a ++ opens b
  | eith a b => opens a ++ opens b
  | lst a => opens a
  | fn a b => opens a ++ opens b
def args : Kd → List Kd
  | fn a b => a :: args b
  | _ => []
def res : Kd → Kd
  | fn _ b => res b
  | t => t
def ledTo (ts : List Kd) (t : Kd) : Kd := ts.foldr fn t
theorem nodes_eq (t : Kd) : t.nodes = t :: t.kids.flatMap nodes := by
  cases t <;> simp [nodes, kids]
theorem isFn_word (t : Kd) : decide (V.str t.word = V.str "fun") = t.isFn := by
  cases t <;> rfl
theorem isOp_word (t : Kd) : decide (V.str t.word = V.str "open") = t.isOp := by
  cases t <;> rfl
end Kd
/-- the tuples stay -/
def Tk (H G : Hp) : Prop := ∀ b xs, H b = some (.tup xs) → G b = some (.tup xs)
theorem Tk.of {H G : Hp} (s : Same H G) : Tk H G := fun b xs e => s b _ e
theorem Tk.rfl {H : Hp} : Tk H H := fun _ _ e => e
theorem Tk.trans {H G F : Hp} (a : Tk H G) (b : Tk G F) : Tk H F := fun x o e => b x o (a x o e)
theorem Tk.kp {H G : Hp} {d c : Addr} (a : Kp d c H G) (k : Dk H d c) : Tk H G := fun b xs e => by
  obtain ⟨n, ⟨s, k0, hd⟩, ⟨ns, hc, _⟩⟩ := k
  refine a b _ (fun z => ?_) (fun z => ?_) e
  · rw [z, hd] at e
    cases e
  · rw [z, hc] at e
    cases e
theorem Tk.put {H G : Hp} {p : Addr} {o : HO} (a : Tk H G) (h : ∀ xs, H p ≠ some (.tup xs)) : Tk H (upd G p o) := fun b xs e => by
  rw [upd_ne (fun z => h xs (by rw [← z]; exact e))]
  exact a b xs e
/-- the tree stands at v -/
def Rp (H : Hp) : Kd → V → Prop
  | .opn x, v => ∃ a, v = .ref a ∧ H a = some (.tup [.str "open", .str x])
  | .num, v => ∃ a, v = .ref a ∧ H a = some (.tup [.str "num"])
  | .tru, v => ∃ a, v = .ref a ∧ H a = some (.tup [.str "truth"])
  | .pair s t, v => ∃ a x y, v = .ref a ∧ H a = some (.tup [.str "pair", x, y]) ∧ Rp H s x ∧ Rp H t y
  | .eith s t, v => ∃ a x y, v = .ref a ∧ H a = some (.tup [.str "either", x, y]) ∧ Rp H s x ∧ Rp H t y
  | .lst s, v => ∃ a x, v = .ref a ∧ H a = some (.tup [.str "list", x]) ∧ Rp H s x
  | .fn s t, v => ∃ a x y, v = .ref a ∧ H a = some (.tup [.str "fun", x, y]) ∧ Rp H s x ∧ Rp H t y
def RpL (H : Hp) : List Kd → List V → Prop
  | [], [] => True
  | t :: ts, v :: vs => Rp H t v ∧ RpL H ts vs
  | _, _ => False
theorem Rp.tk {H G : Hp} (k : Tk H G) : ∀ {t : Kd} {v : V}, Rp H t v → Rp G t v := by
  intro t
  induction t with
  | opn x => exact fun ⟨a, e, h⟩ => ⟨a, e, k _ _ h⟩
  | num => exact fun ⟨a, e, h⟩ => ⟨a, e, k _ _ h⟩
  | tru => exact fun ⟨a, e, h⟩ => ⟨a, e, k _ _ h⟩
  | pair s t i j => exact fun ⟨a, x, y, e, h, p, q⟩ => ⟨a, x, y, e, k _ _ h, i p, j q⟩
  | eith s t i j => exact fun ⟨a, x, y, e, h, p, q⟩ => ⟨a, x, y, e, k _ _ h, i p, j q⟩
  | lst s i => exact fun ⟨a, x, e, h, p⟩ => ⟨a, x, e, k _ _ h, i p⟩
  | fn s t i j => exact fun ⟨a, x, y, e, h, p, q⟩ => ⟨a, x, y, e, k _ _ h, i p, j q⟩
theorem RpL.tk {H G : Hp} (k : Tk H G) : ∀ {ts : List Kd} {vs : List V}, RpL H ts vs → RpL G ts vs
  | [], [], _ => trivial
  | _ :: _, _ :: _, h => ⟨h.1.tk k, RpL.tk k h.2⟩
  | [], _ :: _, h => h.elim
  | _ :: _, [], h => h.elim
theorem RpL.len {H : Hp} : ∀ {ts : List Kd} {vs : List V}, RpL H ts vs → ts.length = vs.length
  | [], [], _ => rfl
  | _ :: _, _ :: _, h => congrArg (· + 1) (RpL.len h.2)
  | [], _ :: _, h => h.elim
  | _ :: _, [], h => h.elim
theorem RpL.app {H : Hp} : ∀ {ts us : List Kd} {vs ws : List V}, RpL H ts vs → RpL H us ws → RpL H (ts ++ us) (vs ++ ws)
  | [], _, [], _, _, h => h
  | _ :: _, _, _ :: _, _, h, k => ⟨h.1, RpL.app h.2 k⟩
  | [], _, _ :: _, _, h, _ => h.elim
  | _ :: _, _, [], _, h, _ => h.elim
theorem RpL.get {H : Hp} : ∀ {ts : List Kd} {vs : List V} {i : Nat} {v : V}, RpL H ts vs → vs[i]? = some v → ∃ t, ts[i]? = some t ∧ Rp H t v
  | [], [], i, v, _, e => by simp at e
  | t :: _, w :: _, 0, v, h, e => ⟨t, rfl, by rw [← show w = v from Option.some.inj e]; exact h.1⟩
  | _ :: ts, _ :: vs, i + 1, v, h, e => RpL.get (ts := ts) (vs := vs) (i := i) h.2 e
  | [], _ :: _, _, _, h, _ => h.elim
  | _ :: _, [], _, _, h, _ => h.elim
theorem RpL.last {H : Hp} : ∀ {ts : List Kd} {vs : List V}, RpL H ts vs → vs ≠ [] → ∃ us u ws w, ts = us ++ [u] ∧ vs = ws ++ [w] ∧ RpL H us ws ∧ Rp H u w
  | [t], [v], h, _ => ⟨[], t, [], v, rfl, rfl, trivial, h.1⟩
  | t :: t' :: ts, v :: v' :: vs, h, _ => by
    obtain ⟨us, u, ws, w, e1, e2, k, r⟩ := RpL.last (ts := t' :: ts) (vs := v' :: vs) h.2 (by simp)
    exact ⟨t :: us, u, v :: ws, w, by rw [e1]; rfl, by rw [e2]; rfl, ⟨h.1, k⟩, r⟩
  | [], [], _, n => absurd rfl n
  | [], _ :: _, h, _ => h.elim
  | _ :: _, [], h, _ => h.elim
  | [_], _ :: _ :: _, h, _ => h.2.elim
  | _ :: _ :: _, [_], h, _ => h.2.elim
/-- the tuple at v: the word, and the rest -/
theorem Rp.see {H : Hp} {t : Kd} {v : V} (h : Rp H t v) : ∃ a vs, v = .ref a ∧ H a = some (.tup (.str t.word :: vs)) ∧ ((t.isOp = false ∧ RpL H t.kids vs) ∨ ∃ x, t = .opn x ∧ vs = [.str x]) := by
  cases t with
  | opn x =>
    obtain ⟨a, e, g⟩ := h
    exact ⟨a, _, e, g, .inr ⟨x, rfl, rfl⟩⟩
  | num =>
    obtain ⟨a, e, g⟩ := h
    exact ⟨a, [], e, g, .inl ⟨rfl, trivial⟩⟩
  | tru =>
    obtain ⟨a, e, g⟩ := h
    exact ⟨a, [], e, g, .inl ⟨rfl, trivial⟩⟩
  | pair s t =>
    obtain ⟨a, x, y, e, g, p, q⟩ := h
    exact ⟨a, _, e, g, .inl ⟨rfl, p, q, trivial⟩⟩
  | eith s t =>
    obtain ⟨a, x, y, e, g, p, q⟩ := h
    exact ⟨a, _, e, g, .inl ⟨rfl, p, q, trivial⟩⟩
  | lst s =>
    obtain ⟨a, x, e, g, p⟩ := h
    exact ⟨a, _, e, g, .inl ⟨rfl, p, trivial⟩⟩
  | fn s t =>
    obtain ⟨a, x, y, e, g, p, q⟩ := h
    exact ⟨a, _, e, g, .inl ⟨rfl, p, q, trivial⟩⟩
theorem cutFrom1 (x : V) (vs : List V) : cutV (x :: vs) (some 1) none = vs := by
  unfold cutV
  rw [show HT.sIx (x :: vs).length 0 (some 1) = min 1 (x :: vs).length from HT.sIx_nat _ _ 1, HT.sIx_none, List.length_cons, Nat.min_eq_left (by omega)]
  show (vs.take (vs.length + 1 - 1)) = vs
  rw [Nat.add_sub_cancel, List.take_length]
theorem notWhole (x : V) (vs : List V) : ¬ (HT.sIx (x :: vs).length 0 (some 1) = 0 ∧ HT.sIx (x :: vs).length (x :: vs).length none = (x :: vs).length) := by
  rw [show HT.sIx (x :: vs).length 0 (some 1) = min 1 (x :: vs).length from HT.sIx_nat _ _ 1, List.length_cons, Nat.min_eq_left (by omega)]
  rintro ⟨h, _⟩
  cases h
abbrev tWithin : Stmt := tp 1
abbrev tLeads : Stmt := tp 2
abbrev tParts : Stmt := tp 3
abbrev tArgs : Stmt := tp 4
abbrev tRes : Stmt := tp 5
section
variable {P : Program} {w : World} {K : PySem.W.Frag} {mg : Str → Option Value} {base : Heap}
/-! leads -/
theorem scLeads : FnScope ["kind"] ["kind"] (defScope tLeads) := ⟨rfl, rfl, rfl, by decide +kernel, rfl, by decide +kernel, by decide +kernel⟩
def spLeads : Sp := fun vs H Q _ => ∃ (v : V) (t : Kd), vs = [v] ∧ Rp H t v ∧ Q (.bl t.isFn) H
theorem okLeads {f : Addr} {fd : FuncData} {k : Nat} (F : Fun K "leads" "leads" tLeads f fd) : FnOk P w K mg base CX0 (k + 1) f fd ["kind"] spLeads := by
  refine F.ok scLeads (fun vs H Q E h => ?_) (fun cdv A outer s H vs Q E hr h => ?_)
  · obtain ⟨v, t, rfl, _⟩ := h
    rfl
  obtain ⟨v, t, rfl, r, q⟩ := h
  obtain ⟨a, us, rfl, ha, _⟩ := r.see
  refine ⟨_, pss_one (ps_ret (pe_cmpR op_eq (pe_ix ix_tup (pv 0) pe_int (fun _ _ => rfl)) pe_str (nomark _))), ?_⟩
  refine ⟨_, rfl, a, _, _, _, rfl, rfl, SqT.of ha, atI_nat (j := 0) rfl, rfl, ?_⟩
  rw [Kd.isFn_word]
  exact q
/-! kinds_within -/
theorem scWithin : FnScope ["kind"] ["kind"] (defScope tWithin) := ⟨rfl, rfl, rfl, by decide +kernel, rfl, by decide +kernel, by decide +kernel⟩
def spWithin : Sp := fun vs H Q _ => ∃ (v : V) (t : Kd), vs = [v] ∧ Rp H t v ∧ ∀ (p : Addr) (us : List V) (G : Hp), Same H G → G p = some (.tup us) → RpL G t.kids us → Q (.ref p) G
theorem okWithin {f : Addr} {fd : FuncData} {k : Nat} (F : Fun K "kinds_within" "kinds_within" tWithin f fd) : FnOk P w K mg base CX0 (k + 1) f fd ["kind"] spWithin := by
  refine F.ok scWithin (fun vs H Q E h => ?_) (fun cdv A outer s H vs Q E hr h => ?_)
  · obtain ⟨v, t, rfl, _⟩ := h
    rfl
  obtain ⟨v, t, rfl, r, q⟩ := h
  obtain ⟨a, us, rfl, ha, hu⟩ := r.see
  refine ⟨_, pss_cons (ps_if (pt_cmpR op_eq (pe_ix ix_tup (pv 0) pe_int (fun _ _ => rfl)) pe_str (nomark _)) (pss_one (ps_ret (pe_tup pa_nil))) pss_nil)
    (pss_one (ps_ret (pe_slice sl_tup (pv 0) (po_some pe_int) po_none))), ?_⟩
  refine ⟨_, rfl, a, _, _, _, rfl, rfl, SqT.of ha, atI_nat (j := 0) rfl, rfl, _, rfl, ?_⟩
  rw [Kd.isOp_word]
  refine ite2 (fun e => ?_) (fun e => ?_)
  · refine ⟨Nat.zero_le _, fun p np => q p [] _ (newS np) upd_same ?_⟩
    cases t with
    | opn x => trivial
    | _ => cases e
  · refine ⟨_, rfl, 1, rfl, a, _, rfl, SqT.of ha, notWhole _ _, fun p np => ?_⟩
    rw [cutFrom1]
    refine q p us _ (newS np) upd_same ?_
    rcases hu with hu | ⟨x, rfl, _⟩
    · exact hu.2.tk (Tk.of (newS np))
    · exact absurd rfl e
/-! parts_of -/
theorem scParts : FnScope ["kind", "parts", "waiting", "part"] ["kind"] (defScope tParts) := ⟨rfl, rfl, rfl, by decide +kernel, rfl, by decide +kernel, by decide +kernel⟩
def spParts : Sp := fun vs H Q _ => ∃ (v : V) (t : Kd), vs = [v] ∧ Rp H t v ∧ t.size ≤ 900 ∧ ∀ (p : Addr) (ts : List Kd) (us : List V) (G : Hp), Same H G → G p = some (.lst us) → RpL G ts us → ts.Perm t.nodes → Q (.ref p) G
theorem okParts {f fW : Addr} {fd fdW : FuncData} {k : Nat} (F : Fun K "parts_of" "parts_of" tParts f fd) (FW : Fun K "kinds_within" "kinds_within" tWithin fW fdW) (bW : Binds K fdW ["kind"] []) (gW : mg "kinds_within" = some (.ref fW)) : FnOk P w K mg base CX0 (k + 2) f fd ["kind"] spParts := by
  have GW : FnOk P w K mg base CX0 (k + 1) fW fdW ["kind"] spWithin := okWithin FW
  refine F.ok scParts (fun vs H Q E h => ?_) (fun cdv A outer s H vs Q E hr h => ?_)
  · obtain ⟨v, t, rfl, _⟩ := h
    rfl
  obtain ⟨v, t, rfl, r, hz, q⟩ := h
  refine ⟨_, pss_cons (ps_set (i := 1) scParts.nd rfl (.inl rfl) (pe_lst pa_nil))
    (pss_cons (ps_set (i := 2) scParts.nd rfl (.inl rfl) (pe_lst (pa_cons (pv 0) pa_nil)))
    (pss_cons (ps_while PassesOwn.never (pt_truth (pv 2) (by intro _; rfl))
      (pss_cons (ps_set (i := 3) scParts.nd rfl (.inl rfl) (pe_bm0 PySem.F.plainAttrs_list PySem.F.slot_list_pop PySem.F.type_list_pop mt_pop (pv 2)))
      (pss_cons (ps_expr (pe_bm PySem.F.plainAttrs_list PySem.F.slot_list_append PySem.F.type_list_append mt_append (pv 1) (pa_cons (pv 3) pa_nil)))
      (pss_one (ps_expr (pe_bm PySem.F.plainAttrs_list PySem.F.slot_list_extend PySem.F.type_list_extend Kr.mt_extT (pv 2) (pa_cons (pe_call GW hr (by rfl) gW FW.kp bW .nil pass0 (pa_cons (pv 3) pa_nil)) pa_nil)))))))
    (pss_one (ps_ret (pv 1))))), ?_⟩
  refine ⟨Nat.zero_le _, fun pa npa => ?_⟩
  refine ⟨_, rfl, (by show 1 ≤ sizeLine; decide), fun wa nwa => ?_⟩
  have s2 : Same H (upd (upd H pa (.lst [])) wa (.lst [v])) := (newS npa).trans (newS nwa)
  have hpw : pa ≠ wa := fun z => by
    rw [z, upd_same] at nwa
    cases nwa
  have hwa : H wa = none := (newS npa).free nwa
  refine ⟨fun m σ G => ∃ ts ws us vs y, m = (ws.flatMap Kd.nodes).length ∧ σ = [some v, some (.ref pa), some (.ref wa), y] ∧ Same H G ∧ G pa = some (.lst us) ∧ G wa = some (.lst vs) ∧ RpL G ts us ∧ RpL G ws vs ∧ (ts ++ ws.flatMap Kd.nodes).Perm t.nodes,
    ⟨_, [], [t], [], [v], none, rfl, rfl, s2, ?_, upd_same, trivial, ⟨r.tk (Tk.of s2), trivial⟩, ?_⟩, fun m σ G z => ?_⟩
  · rw [upd_ne hpw, upd_same]
  · rw [List.flatMap_cons, List.flatMap_nil, List.append_nil, List.nil_append]
  obtain ⟨ts, ws, us, vs, y, rfl, rfl, sG, gp, gw, rt, rw', pm⟩ := z
  refine ⟨_, rfl, _, .inl ⟨vs, SqL.of gw, rfl⟩, ?_⟩
  have lens : ts.length + (ws.flatMap Kd.nodes).length = t.size := by
    have e := pm.length_eq
    rw [List.length_append] at e
    exact e
  refine ite2 (fun e => ?_) (fun e => ?_)
  · have nn : vs ≠ [] := fun z => by
      rw [z] at e
      cases e
    obtain ⟨xs, u, zs, x, rfl, rfl, rx, ru⟩ := rw'.last nn
    refine ⟨fun σ' G' => ∃ m', m' < _ ∧ (∃ ts ws us vs y, m' = (ws.flatMap Kd.nodes).length ∧ σ' = [some v, some (.ref pa), some (.ref wa), y] ∧ Same H G' ∧ G' pa = some (.lst us) ∧ G' wa = some (.lst vs) ∧ RpL G' ts us ∧ RpL G' ws vs ∧ (ts ++ ws.flatMap Kd.nodes).Perm t.nodes), fun σ' G' z => z, ?_⟩
    refine ⟨_, rfl, .inl ⟨rfl, _, SqL.of gw⟩, wa, _, x, rfl, rfl, gw, ?_, ?_⟩
    · rw [List.length_append, List.length_singleton, Nat.add_sub_cancel, List.getElem?_concat_length]
    rw [List.dropLast_concat]
    have t1 : Tk G (upd G wa (.lst zs)) := Tk.rfl.put (fun _ z => by rw [gw] at z; cases z)
    have gp1 : (upd G wa (.lst zs)) pa = some (.lst us) := by rw [upd_ne hpw]; exact gp
    refine ⟨_, rfl, .inl ⟨rfl, _, SqL.of gp1⟩, _, rfl, pa, _, _, rfl, rfl, gp1, ?_, ?_⟩
    · have := rt.len
      exact small1000 (by omega)
    have t2 : Tk G (upd (upd G wa (.lst zs)) pa (.lst (us ++ [x]))) := t1.put (fun _ z => by rw [gp] at z; cases z)
    have gw2 : (upd (upd G wa (.lst zs)) pa (.lst (us ++ [x]))) wa = some (.lst zs) := by rw [upd_ne hpw.symm, upd_same]
    have gp2 : (upd (upd G wa (.lst zs)) pa (.lst (us ++ [x]))) pa = some (.lst (us ++ [x])) := upd_same
    have s3 : Same H (upd (upd G wa (.lst zs)) pa (.lst (us ++ [x]))) := smk (smk sG hwa) npa
    generalize upd (upd G wa (.lst zs)) pa (.lst (us ++ [x])) = G2 at t2 gw2 gp2 s3
    refine ⟨_, rfl, .inl ⟨rfl, _, SqL.of gw2⟩, _, rfl, x, u, rfl, ru.tk t2, fun p ks G3 s4 gk rk => ?_⟩
    have lk : ks.length ≤ 2 := by
      rw [← rk.len]
      cases u <;> simp [Kd.kids]
    refine ⟨wa, p, _, _, rfl, rfl, s4 _ _ gw2, SqT.of gk, ?_, ?_⟩
    · have l1 := rx.len
      have l2 : xs.length ≤ ((xs ++ [u]).flatMap Kd.nodes).length := by
        clear lens pm gw nn e rw' l1 rx
        induction xs with
        | nil => exact Nat.zero_le _
        | cons a xs ih =>
          have : 1 ≤ a.nodes.length := by rw [Kd.nodes_eq]; exact Nat.succ_le_succ (Nat.zero_le _)
          simp only [List.cons_append, List.flatMap_cons, List.length_append, List.length_cons] at ih ⊢
          omega
      exact sz (by omega)
    have e4 := Kd.nodes_eq u
    have t4 : Tk G3 (upd G3 wa (.lst (zs ++ ks))) := Tk.rfl.put (fun _ z => by rw [s4 _ _ gw2] at z; cases z)
    refine ⟨_, ?_, ts ++ [u], xs ++ u.kids, us ++ [x], zs ++ ks, _, rfl, rfl, smk (s3.trans s4) hwa, ?_, upd_same, ?_, ?_, ?_⟩
    · simp only [List.flatMap_append, List.flatMap_cons, List.flatMap_nil, List.append_nil, List.length_append]
      rw [e4, List.length_cons]
      omega
    · rw [upd_ne hpw]
      exact s4 _ _ gp2
    · exact (RpL.app (us := [u]) (ws := [x]) (rt.tk t2) ⟨ru.tk t2, trivial⟩).tk ((Tk.of s4).trans t4)
    · exact ((rx.tk (t2.trans (Tk.of s4))).app rk).tk t4
    · refine List.Perm.trans ?_ pm
      simp only [List.flatMap_append, List.flatMap_cons, List.flatMap_nil, List.append_nil, List.append_assoc]
      refine List.Perm.append_left ts ?_
      rw [e4]
      show (u :: (xs.flatMap Kd.nodes ++ u.kids.flatMap Kd.nodes)).Perm (xs.flatMap Kd.nodes ++ (u :: u.kids.flatMap Kd.nodes))
      exact List.perm_middle.symm
  · have nv : vs = [] := by
      cases vs with
      | nil => rfl
      | cons a b => exact absurd rfl e
    subst nv
    cases ws with
    | cons a b => exact rw'.elim
    | nil =>
      rw [List.flatMap_nil, List.append_nil] at pm
      exact ⟨_, rfl, q pa ts us G sG gp rt pm⟩
end
end Kq

namespace Kq
open PySem PySem.Spec PyProof.Rows L2
namespace Kd
theorem size_fn (a b : Kd) : (fn a b).size = a.size + b.size + 1 := by
  show (a.nodes ++ b.nodes).length + 1 = _
  rw [List.length_append]
  rfl
theorem size_pos (t : Kd) : 1 ≤ t.size := by
  unfold size
  rw [nodes_eq]
  exact Nat.succ_le_succ (Nat.zero_le _)
theorem args_le : ∀ t : Kd, t.args.length ≤ t.size
  | fn a b => by
    have := args_le b
    rw [size_fn]
    show b.args.length + 1 ≤ _
    omega
  | opn _ => Nat.zero_le _
  | num => Nat.zero_le _
  | tru => Nat.zero_le _
  | pair _ _ => Nat.zero_le _
  | eith _ _ => Nat.zero_le _
  | lst _ => Nat.zero_le _
def nm? : Kd → Option Str
  | opn x => some x
  | _ => none
theorem opens_nodes : ∀ t : Kd, t.nodes.filterMap nm? = t.opens
  | opn _ => rfl
  | num => rfl
  | tru => rfl
  | pair a b => by
    show ((a.nodes ++ b.nodes).filterMap nm?) = a.opens ++ b.opens
    rw [List.filterMap_append, opens_nodes a, opens_nodes b]
  | eith a b => by
    show ((a.nodes ++ b.nodes).filterMap nm?) = a.opens ++ b.opens
    rw [List.filterMap_append, opens_nodes a, opens_nodes b]
  | lst a => by
    show (a.nodes.filterMap nm?) = a.opens
    exact opens_nodes a
  | fn a b => by
    show ((a.nodes ++ b.nodes).filterMap nm?) = a.opens ++ b.opens
    rw [List.filterMap_append, opens_nodes a, opens_nodes b]
end Kd
theorem ixTK {X : Cx} (K : PySem.W.Frag) (h : X.K = K) : IxR X (rIxT K) := by
  subst h
  exact ix_tup
/-- a set comprehension over a list that stays -/
theorem sc_list {w : World} {K : PySem.W.Frag} {a : Addr} {xs : List V} {g : TG} {tt : TT} {te : TE} {vs : List Nat} {σ : L2.St} {G : Hp} {D : Addr} {Qd : Hp → Prop} (Pv : Nat → Hp → Prop) (h0 : Pv 0 (upd G D (Ks.SetH w D (fun _ => false) 0)))
    (hl : ∀ i H, i ≤ xs.length → Pv i H → SqL K H a xs)
    (hs : ∀ i x H, xs[i]? = some x → Pv i H → g x (wipe σ vs) H fun τ H2 => wipe τ vs = wipe σ vs ∧ tt τ H2 fun b H3 => if b = true then
        te τ H3 fun y H4 => ∃ (c : Str) (S : Str → Bool) (n : Nat), y = .str c ∧ H4 D = some (Ks.SetH w D S n) ∧ n + 1 < scanBound ∧ Pv (i + 1) (upd H4 D (Ks.SetH w D (fun j => S j || decide (j = c)) (if S c = true then n else n + 1)))
      else Pv (i + 1) H3) (hd : ∀ H, Pv xs.length H → Qd H) :
    ∃ W : Nat → Nat → Hp → Prop, (∃ m, W 0 m (upd G D (Ks.SetH w D (fun _ => false) 0))) ∧ ∀ i m H, W i m H →
      ((Itl K a).stop i H ∧ Qd H) ∨ ((Itl K a).go i H ∧ ∃ N : Hp → Prop, (∀ H', N H' → ∃ m', m' < m ∧ W (i + 1) m' H') ∧ ∀ x H', (Itl K a).yld i H x H' →
        g x (wipe σ vs) H' fun τ H2 => wipe τ vs = wipe σ vs ∧ tt τ H2 fun b H3 => if b = true then
          te τ H3 fun y H4 => ∃ (c : Str) (S : Str → Bool) (n : Nat), y = .str c ∧ H4 D = some (Ks.SetH w D S n) ∧ n + 1 < scanBound ∧ N (upd H4 D (Ks.SetH w D (fun j => S j || decide (j = c)) (if S c = true then n else n + 1)))
        else N H3) := by
  refine ⟨fun i m F => m = xs.length - i ∧ i ≤ xs.length ∧ Pv i F, ⟨_, rfl, Nat.zero_le _, h0⟩, fun i m F z => ?_⟩
  obtain ⟨rfl, hi, p⟩ := z
  have q := hl i F hi p
  by_cases lt : i < xs.length
  · refine .inr ⟨⟨xs, xs[i], q, List.getElem?_eq_getElem lt⟩, Pv (i + 1), fun F' p' => ⟨xs.length - (i + 1), by omega, rfl, lt, p'⟩, fun x F' y => ?_⟩
    obtain ⟨e, y⟩ := y
    subst e
    exact hs i x _ (y xs q) p
  · have e : i = xs.length := by omega
    subst e
    exact .inl ⟨⟨xs, q, Nat.le_refl _⟩, hd F p⟩
theorem cnt_add : ∀ {ns : List Str} {S : Str → Bool} {c : Str}, ns.Nodup → c ∈ ns → S c = false → (ns.filter fun j => S j || decide (j = c)).length = (ns.filter S).length + 1
  | [], _, _, _, h, _ => by cases h
  | a :: l, S, c, nd, hc, h => by
    obtain ⟨na, nl⟩ := List.nodup_cons.mp nd
    by_cases e : a = c
    · subst e
      have e1 : (l.filter fun j => S j || decide (j = a)) = l.filter S := List.filter_congr fun j hj => by
        have : j ≠ a := fun z => na (by rw [← z]; exact hj)
        simp [this]
      rw [List.filter_cons, List.filter_cons, if_pos (by simp), if_neg (by rw [h]; exact Bool.false_ne_true), e1, List.length_cons]
    · have hc' : c ∈ l := by
        rcases List.mem_cons.mp hc with z | z
        · exact absurd z.symm e
        · exact z
      have ih := cnt_add nl hc' h
      rw [List.filter_cons, List.filter_cons]
      have e2 : (S a || decide (a = c)) = S a := by simp [e]
      rw [e2]
      cases S a with
      | true => simpa using ih
      | false => simpa using ih
theorem cnt_none : ∀ ns : List Str, 0 = (ns.filter fun _ => false).length
  | [] => rfl
  | _ :: l => cnt_none l
theorem cnt_same {S : Str → Bool} {c : Str} (h : S c = true) : (fun j => S j || decide (j = c)) = S := by
  funext j
  by_cases e : j = c
  · rw [e, h]
    rfl
  · simp [e]
abbrev tOpens : Stmt := tp 6
section
variable {P : Program} {w : World} {K : PySem.W.Frag} {mg : Str → Option Value} {base : Heap}
/-! arguments_of, result_of -/
theorem scArgs : FnScope ["kind", "arguments", "rest"] ["kind"] (defScope tArgs) := ⟨rfl, rfl, rfl, by decide +kernel, rfl, by decide +kernel, by decide +kernel⟩
def spArgs : Sp := fun vs H Q _ => ∃ (v : V) (t : Kd), vs = [v] ∧ Rp H t v ∧ t.size ≤ 900 ∧ ∀ (p : Addr) (us : List V) (G : Hp), Same H G → G p = some (.tup us) → RpL G t.args us → Q (.ref p) G
theorem okArgs {f fL : Addr} {fd fdL : FuncData} {k : Nat} (F : Fun K "arguments_of" "arguments_of" tArgs f fd) (FL : Fun K "leads" "leads" tLeads fL fdL) (bL : Binds K fdL ["kind"] []) (gL : mg "leads" = some (.ref fL)) (mt : mg "tuple" = none) : FnOk P w K mg base CX0 (k + 2) f fd ["kind"] spArgs := by
  have GL : FnOk P w K mg base CX0 (k + 1) fL fdL ["kind"] spLeads := okLeads FL
  refine F.ok scArgs (fun vs H Q E h => ?_) (fun cdv A outer s H vs Q E hr h => ?_)
  · obtain ⟨v, t, rfl, _⟩ := h
    rfl
  obtain ⟨v, t, rfl, r, hz, q⟩ := h
  refine ⟨_, pss_cons (ps_set (i := 1) scArgs.nd rfl (.inl rfl) (pe_lst pa_nil))
    (pss_cons (ps_set (i := 2) scArgs.nd rfl (.inl rfl) (pv 0))
    (pss_cons (ps_while PassesOwn.never (pt_val (pe_call GL hr (by rfl) gL FL.kp bL .nil pass0 (pa_cons (pv 2) pa_nil)))
      (pss_cons (ps_expr (pe_bm PySem.F.plainAttrs_list PySem.F.slot_list_append PySem.F.type_list_append mt_append (pv 1) (pa_cons (pe_ix ix_tup (pv 2) pe_int (fun _ _ => rfl)) pa_nil)))
      (pss_one (ps_set (i := 2) scArgs.nd rfl (.inl rfl) (pe_ix ix_tup (pv 2) pe_int (fun _ _ => rfl))))))
    (pss_one (ps_ret (pe_callTy call_tuple_of (by rfl) mt PyProof.Rows.boot_tuple (pa_cons (pv 1) pa_nil)))))), ?_⟩
  refine ⟨Nat.zero_le _, fun pa npa => ?_⟩
  refine ⟨_, rfl, ?_⟩
  refine ⟨fun m σ G => ∃ ts c us cv, m = c.size ∧ σ = [some v, some (.ref pa), some cv] ∧ Same H G ∧ G pa = some (.lst us) ∧ RpL G ts us ∧ Rp G c cv ∧ ts ++ c.args = t.args,
    ⟨_, [], t, [], v, rfl, rfl, newS npa, upd_same, trivial, r.tk (Tk.of (newS npa)), rfl⟩, fun m σ G z => ?_⟩
  obtain ⟨ts, c, us, cv, rfl, rfl, sG, gp, rt, rc, ea⟩ := z
  refine ⟨_, rfl, cv, c, rfl, rc, _, rfl, ite2 (fun e => ?_) (fun e => ?_)⟩
  · cases c with
    | fn a b =>
      obtain ⟨ca, x, y, rfl, hc, ra, rb⟩ := rc
      refine ⟨fun σ' G' => ∃ m', m' < (Kd.fn a b).size ∧ ∃ ts c us cv, m' = c.size ∧ σ' = [some v, some (.ref pa), some cv] ∧ Same H G' ∧ G' pa = some (.lst us) ∧ RpL G' ts us ∧ Rp G' c cv ∧ ts ++ c.args = t.args, fun σ' G' z => z, ?_⟩
      have le : ts.length ≤ t.args.length := by
        rw [← ea, List.length_append]
        exact Nat.le_add_right _ _
      have l1 := rt.len
      have l2 := Kd.args_le t
      refine ⟨_, rfl, .inl ⟨rfl, _, SqL.of gp⟩, _, rfl, ca, _, _, x, rfl, rfl, SqT.of hc, atI_nat (j := 1) rfl, pa, _, _, rfl, rfl, gp, small1000 (by omega), ?_⟩
      have t1 : Tk G (upd G pa (.lst (us ++ [x]))) := Tk.rfl.put (fun _ z => by rw [gp] at z; cases z)
      refine ⟨_, rfl, ca, _, _, y, rfl, rfl, SqT.of (t1 _ _ hc), atI_nat (j := 2) rfl, ?_⟩
      refine ⟨_, ?_, ts ++ [a], b, us ++ [x], y, rfl, rfl, smk sG npa, upd_same, RpL.app (us := [a]) (ws := [x]) (rt.tk t1) ⟨ra.tk t1, trivial⟩, rb.tk t1, ?_⟩
      · rw [Kd.size_fn]
        omega
      · rw [← ea, List.append_assoc]
        rfl
    | _ => cases e
  · have e0 : c.args = [] := by
      cases c with
      | fn a b => exact absurd rfl e
      | _ => rfl
    rw [e0, List.append_nil] at ea
    refine ⟨_, rfl, pa, _, rfl, .inl ⟨SqL.of gp, fun l nl => ?_⟩⟩
    exact q l us _ (sG.trans (newS nl)) upd_same (by rw [← ea]; exact rt.tk (Tk.of (newS nl)))
theorem scRes : FnScope ["kind", "rest"] ["kind"] (defScope tRes) := ⟨rfl, rfl, rfl, by decide +kernel, rfl, by decide +kernel, by decide +kernel⟩
def spRes : Sp := fun vs H Q _ => ∃ (v : V) (t : Kd), vs = [v] ∧ Rp H t v ∧ ∀ u : V, Rp H t.res u → Q u H
theorem okRes {f fL : Addr} {fd fdL : FuncData} {k : Nat} (F : Fun K "result_of" "result_of" tRes f fd) (FL : Fun K "leads" "leads" tLeads fL fdL) (bL : Binds K fdL ["kind"] []) (gL : mg "leads" = some (.ref fL)) : FnOk P w K mg base CX0 (k + 2) f fd ["kind"] spRes := by
  have GL : FnOk P w K mg base CX0 (k + 1) fL fdL ["kind"] spLeads := okLeads FL
  refine F.ok scRes (fun vs H Q E h => ?_) (fun cdv A outer s H vs Q E hr h => ?_)
  · obtain ⟨v, t, rfl, _⟩ := h
    rfl
  obtain ⟨v, t, rfl, r, q⟩ := h
  refine ⟨_, pss_cons (ps_set (i := 1) scRes.nd rfl (.inl rfl) (pv 0))
    (pss_cons (ps_while PassesOwn.never (pt_val (pe_call GL hr (by rfl) gL FL.kp bL .nil pass0 (pa_cons (pv 1) pa_nil)))
      (pss_one (ps_set (i := 1) scRes.nd rfl (.inl rfl) (pe_ix ix_tup (pv 1) pe_int (fun _ _ => rfl)))))
    (pss_one (ps_ret (pv 1)))), ?_⟩
  refine ⟨_, rfl, ?_⟩
  refine ⟨fun m σ G => ∃ c cv, m = c.size ∧ σ = [some v, some cv] ∧ G = H ∧ Rp H c cv ∧ c.res = t.res, ⟨_, t, v, rfl, rfl, rfl, r, rfl⟩, fun m σ G z => ?_⟩
  obtain ⟨c, cv, rfl, rfl, rfl, rc, ec⟩ := z
  refine ⟨_, rfl, cv, c, rfl, rc, _, rfl, ite2 (fun e => ?_) (fun e => ?_)⟩
  · cases c with
    | fn a b =>
      obtain ⟨ca, x, y, rfl, hc, ra, rb⟩ := rc
      refine ⟨fun σ' G' => ∃ m', m' < (Kd.fn a b).size ∧ ∃ c cv, m' = c.size ∧ σ' = [some v, some cv] ∧ G' = G ∧ Rp G c cv ∧ c.res = t.res, fun σ' G' z => z, ?_⟩
      refine ⟨_, rfl, ca, _, _, y, rfl, rfl, SqT.of hc, atI_nat (j := 2) rfl, _, ?_, b, y, rfl, rfl, rfl, rb, ec⟩
      rw [Kd.size_fn]
      omega
    | _ => cases e
  · have e0 : c.res = c := by
      cases c with
      | fn a b => exact absurd rfl e
      | _ => rfl
    exact ⟨_, rfl, q cv (by rw [← ec, e0]; exact rc)⟩
/-! opens_in -/
theorem scOpens : FnScope ["kind", "part"] ["kind"] (defScope tOpens) := ⟨rfl, rfl, rfl, by decide +kernel, rfl, by decide +kernel, by decide +kernel⟩
def spOpens : Sp := fun vs H Q _ => ∃ (v : V) (t : Kd), vs = [v] ∧ Rp H t v ∧ t.size ≤ 900 ∧ (∃ ns : List Str, ns.Nodup ∧ ns.length ≤ 40 ∧ ∀ x ∈ t.opens, x ∈ ns) ∧ ∀ (p : Addr) (ys : List Str) (G : Hp), Same H G → G p = some (.tup (ys.map V.str)) → sortedS ys = true → ys.Nodup → (∀ k, k ∈ ys ↔ k ∈ t.opens) → Q (.ref p) G
theorem okOpens {f fP : Addr} {fd fdP : FuncData} {k : Nat} (F : Fun K "opens_in" "opens_in" tOpens f fd) (GP : FnOk P w K mg base CX0 (k + 2) fP fdP ["kind"] spParts) (bP : Binds K fdP ["kind"] []) (gP : mg "parts_of" = some (.ref fP)) (kP : PySem.W.keepIn K (.ref fP) = true)
    (mt : mg "tuple" = none) (ms : mg "sorted" = none) : FnOk P w K mg base CX0 (k + 3) f fd ["kind"] spOpens := by
  refine F.ok scOpens (fun vs H Q E h => ?_) (fun cdv A outer s H vs Q E hr h => ?_)
  · obtain ⟨v, t, rfl, _⟩ := h
    rfl
  obtain ⟨v, t, rfl, r, hz, ⟨ns, nsd, nsl, nso⟩, q⟩ := h
  refine ⟨_, pss_one (ps_ret (pe_callTy call_tuple_of (by rfl) mt PyProof.Rows.boot_tuple (pa_cons (pe_callB (Ks.cr_sortT rfl) (by rfl) ms PyProof.Rows.boot_sorted (pa_cons
    (Ks.pe_scT (own := [("part", 1)]) (g := gName 1) (by rfl) scOpens.nd (pi_list (pe_call GP hr (by rfl) gP kP bP .nil pass0 (pa_cons (pv 0) pa_nil))) (blkOk_by (own := [("part", 1)]) (N := ["kind", "part"]) (sc := defScope tOpens) (by decide +kernel))
      (fun _ _ _ _ _ => pg_name (i := 1) scOpens.nd rfl (.inl rfl)) (fun _ _ _ _ _ => pts_one (pt_cmpR op_eq (pe_ix (ixTK K rfl) (pv 1) pe_int (fun _ _ => rfl)) pe_str (nomark _)))
      (fun _ _ _ _ _ => pe_ix (ixTK K rfl) (pv 1) pe_int (fun _ _ => rfl))) pa_nil)) pa_nil))), ?_⟩
  refine ⟨_, rfl, v, t, rfl, r, by omega, fun p ts us G sG gp rt pm => ⟨p, rfl, ⟨_, SqL.of gp⟩, fun D nD => ?_⟩⟩
  have lt : ts.length ≤ 900 := by rw [pm.length_eq]; exact hz
  have l1 := rt.len
  refine sc_list (xs := us) (fun i F => Same G F ∧ ∃ S n, F D = some (Ks.SetH w D S n) ∧ n = (ns.filter S).length ∧ ∀ k, S k = true ↔ k ∈ (ts.take i).filterMap Kd.nm?) ⟨newS nD, fun _ => false, 0, upd_same, cnt_none ns, fun k => ?_⟩ (fun i F _ z => SqL.of (z.1 _ _ gp)) (fun i x F hx z => ?_) (fun F z => ?_)
  · rw [List.take_zero]
    exact ⟨fun z => (nomatch z), fun z => (nomatch z)⟩
  · obtain ⟨sF, S, n, gD, hn, hS⟩ := z
    obtain ⟨c, hc, rx⟩ := rt.get hx
    obtain ⟨a, ws, rfl, ha, hw⟩ := (rx.tk (Tk.of sF)).see
    have li : i < us.length := (List.getElem?_eq_some_iff.mp hx).1
    have tk : ts.take (i + 1) = ts.take i ++ [c] := by rw [List.take_add_one, hc]; rfl
    refine ⟨rfl, _, rfl, a, _, _, _, rfl, rfl, SqT.of ha, atI_nat (j := 0) rfl, rfl, _, rfl, ?_⟩
    rw [Kd.isOp_word]
    refine ite2 (fun e => ?_) (fun e => ?_)
    · rcases hw with hw | ⟨y, rfl, rfl⟩
      · rw [hw.1] at e
        cases e
      · refine ⟨_, rfl, a, _, _, _, rfl, rfl, SqT.of ha, atI_nat (j := 1) rfl, y, S, n, rfl, gD, ?_, smk sF nD, _, _, upd_same, ?_, fun k => ?_⟩
        · show n + 1 < scanBound
          have : scanBound = 4096 := rfl
          have := List.length_filter_le S ns
          omega
        · have hyn : y ∈ ns := by
            refine nso y ?_
            rw [← Kd.opens_nodes t]
            refine List.mem_filterMap.mpr ⟨.opn y, ?_, rfl⟩
            exact pm.mem_iff.mp (List.mem_of_getElem? hc)
          split
          · rename_i hSy
            rw [cnt_same hSy]
            exact hn
          · rename_i hSy
            rw [cnt_add nsd hyn (by simpa using hSy), hn]
        · rw [tk, List.filterMap_append, List.mem_append, Bool.or_eq_true, decide_eq_true_eq, hS k]
          show _ ↔ _ ∨ k ∈ [y]
          rw [List.mem_singleton]
    · refine ⟨sF, S, n, gD, hn, fun k => ?_⟩
      have none : c.nm? = none := by
        cases c with
        | opn x => exact absurd rfl e
        | _ => rfl
      rw [tk, List.filterMap_append, List.mem_append, hS k]
      simp [none]
  · obtain ⟨sF, S, n, gD, hn, hS⟩ := z
    rw [← l1, List.take_length] at hS
    have nl := List.length_filter_le S ns
    refine ⟨D, S, n, rfl, gD, by omega, fun ys l hs hd hm _ nl' => ?_⟩
    refine ⟨l, _, rfl, .inl ⟨SqL.of upd_same, fun m nm => ?_⟩⟩
    refine q m ys _ (sG.trans (sF.trans ((newS nl').trans (newS nm)))) upd_same hs hd (fun k => ?_)
    rw [hm k, hS k, ← Kd.opens_nodes t]
    exact (pm.filterMap Kd.nm?).mem_iff
end
end Kq

namespace Kq
open PySem PySem.Spec PyProof.Rows L2
theorem Nm.ok {x : Str} (h : Nm x) : PyData.strOk x = true := by
  unfold PyData.strOk
  rw [← Array.all_toList, List.all_eq_true]
  intro c hc
  have := (h.low c hc).2
  exact decide_eq_true (by omega)
theorem dpStrs (K : PySem.W.Frag) (H : Hp) : ∀ xs : List Str, DpAll K H (xs.map V.str) (xs.map PyData.str)
  | [] => .nil
  | x :: xs => .cons (.str x) (dpStrs K H xs)
theorem layStrs : ∀ xs : List Str, (∀ x ∈ xs, Nm x) → PyData.canLayAll0 (xs.map PyData.str) = true ∧ PyData.depthAll (xs.map PyData.str) = 0
  | [], _ => ⟨by simp [PyData.canLayAll0], by simp [PyData.depthAll]⟩
  | x :: xs, h => by
    obtain ⟨a, b⟩ := layStrs xs fun y hy => h y (List.mem_cons_of_mem _ hy)
    have c := (h x List.mem_cons_self).ok
    exact ⟨by simp [PyData.canLayAll0, PyData.canLay0, a, c], by simp [PyData.depthAll, PyData.depth, b]⟩
theorem shStrs {xs : List Str} (h : ∀ x ∈ xs, Nm x) : SeqAt.shaped (.list (xs.map PyData.str)) = true := by
  obtain ⟨a, b⟩ := layStrs xs h
  simp [SeqAt.shaped, PyData.canLay0, PyData.depth, a, b]
theorem eqvNil (xs : List Str) : PyData.eqv (.list (xs.map PyData.str)) (.list []) = xs.isEmpty := by
  cases xs <;> simp [PyData.eqv, PyData.eqvAll]
def sb : Nat → Nat
  | 0 => 1
  | n + 1 => 2 * sb n + 1
theorem sb_pos (n : Nat) : 1 ≤ sb n := by
  cases n with
  | zero => exact Nat.le_refl _
  | succ n =>
    show 1 ≤ 2 * sb n + 1
    omega
namespace Kd
theorem size2 (a b : Kd) : (pair a b).size = a.size + b.size + 1 ∧ (eith a b).size = a.size + b.size + 1 ∧ (lst a).size = a.size + 1 := by
  refine ⟨?_, ?_, rfl⟩
  · show (a.nodes ++ b.nodes).length + 1 = _
    rw [List.length_append]
    rfl
  · show (a.nodes ++ b.nodes).length + 1 = _
    rw [List.length_append]
    rfl
theorem opens_le (t : Kd) : t.opens.length ≤ t.size := by
  rw [← opens_nodes]
  exact List.length_filterMap_le _ _
theorem kids_size (t : Kd) : t.size = 1 + (t.kids.map size).sum := by
  cases t with
  | opn x => rfl
  | num => rfl
  | tru => rfl
  | pair a b =>
    rw [(size2 a b).1]
    show _ = 1 + (a.size + (b.size + 0))
    omega
  | eith a b =>
    rw [(size2 a b).2.1]
    show _ = 1 + (a.size + (b.size + 0))
    omega
  | lst a =>
    rw [(size2 a a).2.2]
    show _ = 1 + (a.size + 0)
    omega
  | fn a b =>
    rw [size_fn]
    show _ = 1 + (a.size + (b.size + 0))
    omega
theorem kids_opens {t : Kd} (h : t.isOp = false) : t.opens = t.kids.flatMap opens := by
  cases t <;> simp_all [opens, kids, isOp]
theorem kids_dp {t u : Kd} (h : u ∈ t.kids) : u.dp + 1 ≤ t.dp := by
  cases t with
  | opn x => cases h
  | num => cases h
  | tru => cases h
  | pair a b =>
    have : u = a ∨ u = b := by simpa [kids] using h
    rcases this with rfl | rfl <;> simp only [dp] <;> omega
  | eith a b =>
    have : u = a ∨ u = b := by simpa [kids] using h
    rcases this with rfl | rfl <;> simp only [dp] <;> omega
  | lst a =>
    have : u = a := by simpa [kids] using h
    subst this
    simp only [dp]
    omega
  | fn a b =>
    have : u = a ∨ u = b := by simpa [kids] using h
    rcases this with rfl | rfl <;> simp only [dp] <;> omega
theorem kids_le (t : Kd) : t.kids.length ≤ 2 := by
  cases t <;> simp [kids]
end Kd
theorem isiK {X : Cx} (K : PySem.W.Frag) (h : X.K = K) : CallR X (.builtin "isinstance") (rIsi K) := by
  subst h
  exact call_isi
theorem slTK {X : Cx} (K : PySem.W.Frag) (h : X.K = K) : SlR X (rSlT K) := by
  subst h
  exact sl_tup
theorem le_sum {l : List Nat} {x : Nat} (h : x ∈ l) : x ≤ l.sum := by
  induction l with
  | nil => cases h
  | cons y l ih =>
    rw [List.sum_cons]
    rcases List.mem_cons.mp h with z | z
    · omega
    · have := ih z
      omega
theorem RpL.mem {H : Hp} {ts : List Kd} {vs : List V} {i : Nat} {t : Kd} (h : ts[i]? = some t) : t ∈ ts := List.mem_of_getElem? h

structure Dta (g : Nat) (xs : List Str) (t : Kd) : Prop where
  nf : t.isFn = false
  dp : t.dp ≤ g
  sz : t.size ≤ sb g
  op : ∀ x ∈ t.opens, x ∈ xs
abbrev tData : Stmt := tp 15
abbrev psData : List Str := ["_law_deck_here", "_law_opens_here", "_law_deep", "_law_small"]
abbrev nData : List Str := ["_law_deck_here", "_law_opens_here", "_law_deep", "_law_small", "_law_way", "_law_first"]
section
variable {P : Program} {w : World} {K : PySem.W.Frag} {mg : Str → Option Value} {base : Heap}
theorem noFn {f : Addr} {fd : FuncData} {ps : List Str} {sp : Sp} {k : Nat} (no : ∀ vs H Q E, ¬ sp vs H Q E) : FnOk P w K mg base CX0 k f fd ps sp :=
  ⟨fun vs H Q E h => absurd h (no vs H Q E), fun A outer s H args us vs Q E _ _ _ _ h => absurd h (no vs H Q E)⟩

theorem scData : FnScope nData psData (defScope tData) := ⟨rfl, rfl, rfl, by decide +kernel, rfl, by decide +kernel, by decide +kernel⟩
def spData (n : Nat) : Sp := fun vs H Q _ => ∃ (d c o : Addr) (xs : List Str) (g : Nat) (b : Bool), vs = [.ref d, .ref o, .int (g : Int), .bl b] ∧ g + 1 ≤ n ∧ Dk H d c ∧ H o = some (.lst (xs.map V.str)) ∧ o ≠ d ∧ o ≠ c ∧ xs.length ≤ 26 ∧ (∀ x ∈ xs, Nm x) ∧
  ∀ (v : V) (t : Kd) (G : Hp), Kp d c H G → Dk G d c → Rp G t v → Dta g xs t → Q v G
theorem okData1 {f fD fP : Addr} {fd fdD fdP : FuncData} {n : Nat} (F : Fun K "_law_data" "_law_data" tData f fd) (bF : Binds K fd psData []) (gF : mg "_law_data" = some (.ref f))
    (GD : FnOk P w K mg base CX0 (n + 2) fD fdD ["_law_deck_here", "_law_most"] spDraw) (bD : Binds K fdD ["_law_deck_here", "_law_most"] []) (gD : mg "_law_draw" = some (.ref fD)) (kD : PySem.W.keepIn K (.ref fD) = true)
    (GP : FnOk P w K mg base CX0 (n + 2) fP fdP psPick spPick) (bP : Binds K fdP psPick []) (gP : mg "_law_pick" = some (.ref fP)) (kP : PySem.W.keepIn K (.ref fP) = true) (mi : mg "int" = none)
    (GI : FnOk P w K mg base CX0 (n + 2) f fd psData (spData n)) : FnOk P w K mg base CX0 (n + 3) f fd psData (spData (n + 1)) := by
  refine F.ok scData (fun vs H Q E h => ?_) (fun cdv A outer s H vs Q E hr h => ?_)
  · obtain ⟨d, c, o, xs, g, b, rfl, _⟩ := h
    rfl
  obtain ⟨d, c, o, xs, g, b, rfl, hg, dk, ho, od, oc, lx, hx, q⟩ := h
  refine ⟨_, pss_cons (ps_set (i := 4) scData.nd rfl (.inl rfl) (pe_call GD hr (by rfl) gD kD bD .nil pass0 (pa_cons (pv 0) (pa_cons (pe_ix ix_list (pe_lst (pa_cons pe_int (pa_cons pe_int pa_nil))) (pe_callTy call_int1 (by rfl) mi (by decide +kernel) (pa_cons (pv 3) pa_nil)) (fun _ _ => rfl)) pa_nil))))
    (C8.pss_cut (ps_if (PW.pt (pw_and (pt_cmpR op_lt (pv 4) pe_int (nomark _)) (pw_and1 (pt_cmpR (op_neD hr.units) (pv 1) (pe_lst pa_nil) (nomark _)))))
      (pss_one (ps_ret (pe_tup (pa_cons pe_str (pa_cons (pe_call GP hr (by rfl) gP kP bP .nil pass0 (pa_cons (pv 0) (pa_cons (pv 1) pa_nil))) pa_nil))))) pss_nil)
    (pss_cons (ps_if (PW.pt (pw_or (pt_cmpR op_eq (pv 2) pe_int (nomark _)) (pw_or1 (pt_cmpR op_lt (pv 4) pe_int (nomark _)))))
      (pss_one (ps_ret (pe_call GP hr (by rfl) gP kP bP .nil pass0 (pa_cons (pv 0) (pa_cons (pe_lst (pa_cons (pe_tup (pa_cons pe_str pa_nil)) (pa_cons (pe_ix ix_list (pe_lst (pa_cons (pe_tup (pa_cons pe_str pa_nil)) (pa_cons (pe_tup (pa_cons pe_str pa_nil)) pa_nil))) (pe_callTy call_int1 (by rfl) mi (by decide +kernel) (pa_cons (pv 3) pa_nil)) (fun _ _ => rfl)) pa_nil))) pa_nil))))) pss_nil)
    (pss_cons (ps_if (pt_cmpR op_gt (pv 4) pe_int (nomark _))
      (pss_one (ps_ret (pe_tup (pa_cons pe_str (pa_cons (pe_call GI hr (by rfl) gF F.kp bF .nil pass0 (pa_cons (pv 0) (pa_cons (pv 1) (pa_cons (pe_op op_sub (pv 2) pe_int) (pa_cons (pv 3) pa_nil))))) pa_nil))))) pss_nil)
    (pss_cons (ps_set (i := 5) scData.nd rfl (.inl rfl) (pe_call GI hr (by rfl) gF F.kp bF .nil pass0 (pa_cons (pv 0) (pa_cons (pv 1) (pa_cons (pe_op op_sub (pv 2) pe_int) (pa_cons (pv 3) pa_nil))))))
    (pss_one (ps_ret (pe_tup (pa_cons (pe_ix ix_list (pe_lst (pa_cons pe_str (pa_cons pe_str pa_nil))) (pe_op op_sub (pv 4) pe_int) (fun _ _ => rfl)) (pa_cons (pv 5) (pa_cons (pe_call GI hr (by rfl) gF F.kp bF .nil pass0 (pa_cons (pv 0) (pa_cons (pv 1) (pa_cons (pe_op op_sub (pv 2) pe_int) (pa_cons (pv 3) pa_nil))))) pa_nil)))))))))), ?_⟩
  obtain ⟨mm, em, mm0, mm1⟩ : ∃ mm : Int, atI [V.int 10, V.int 8] (if b then (1 : Int) else 0) = some (.int mm) ∧ 0 < mm ∧ mm < 1000 := by
    cases b
    · exact ⟨10, rfl, by decide, by decide⟩
    · exact ⟨8, rfl, by decide, by decide⟩
  refine ⟨_, rfl, (by show 2 ≤ sizeLine; decide), fun l0 nl0 => ⟨_, rfl, .inr ⟨b, rfl, l0, _, _, _, rfl, rfl, SqL.of upd_same, em, d, c, mm, rfl, dk.same (newS nl0), mm0, mm1, fun way G1 w0 w1 kp1' dk1 => ?_⟩⟩⟩
  have kp1 : Kp d c H G1 := (Kp.of (newS nl0)).trans kp1'
  have ho1 := kp1 o _ od oc ho
  refine ⟨fun σ G => σ = [some (.ref d), some (.ref o), some (.int g), some (.bl b), some (.int way), none] ∧ Kp d c H G ∧ Dk G d c ∧ G o = some (.lst (xs.map V.str)), ?_, ?b2⟩
  refine ⟨_, rfl, _, _, rfl, rfl, _, rfl, ?_⟩
  refine ite2 (fun _ => ⟨_, rfl, Nat.zero_le _, fun e ne => ⟨.list (xs.map PyData.str), .list [], .lst (SqL.of (newS ne _ _ ho1)) (dpStrs K _ xs), .lst (SqL.of upd_same) .nil, shStrs hx, rfl, _, rfl, ite2 (fun c1 => ?b1) (fun _ => ⟨rfl, kp1.trans (Kp.of (newS ne)), dk1.same (newS ne), newS ne _ _ ho1⟩)⟩⟩) (fun _ => iteF ⟨rfl, kp1, dk1, ho1⟩)
  case b1 =>
    have ho2 := newS (o := .lst []) ne _ _ ho1
    have dk2 := dk1.same (newS (o := .lst []) ne)
    have kp2 : Kp d c H (upd G1 e (.lst [])) := kp1.trans (Kp.of (newS ne))
    rw [eqvNil] at c1
    have l0 : 0 < xs.length := by
      cases xs with
      | nil => cases c1
      | cons x r => exact Nat.succ_pos _
    refine ⟨_, rfl, _, rfl, d, c, o, _, rfl, dk2, ho2, od, oc, by rw [List.length_map]; omega, by rw [List.length_map]; omega, fun v G3 kp3 dk3 hv => ?_⟩
    obtain ⟨x, hxm, rfl⟩ := List.mem_map.mp hv
    refine ⟨(by show 2 ≤ sizeLine; decide), fun p np => ?_⟩
    refine q (.ref p) (.opn x) _ ((kp2.trans kp3).trans (Kp.of (newS np))) (dk3.same (newS np)) ⟨p, rfl, upd_same⟩ ⟨rfl, Nat.zero_le _, sb_pos g, fun y hy => ?_⟩
    rw [List.mem_singleton.mp hy]
    exact hxm
  case b2 =>
    rintro σ G ⟨rfl, kp, dkG, hoG⟩
    refine ⟨_, rfl, rfl, _, rfl, (fun h3 => ite2 (fun _ => iteT h3) (fun hdeep => ⟨_, rfl, _, _, rfl, rfl, _, rfl, ite2 (fun _ => h3) (fun hw6 => ?deep)⟩)) ?leaf⟩
    case leaf =>
      refine ⟨_, rfl, (by show 1 ≤ sizeLine; decide), fun p1 n1 => ⟨(by show 1 ≤ sizeLine; decide), fun p2 n2 => ⟨(by show 1 ≤ sizeLine; decide), fun p3 n3 => ⟨(by show 2 ≤ sizeLine; decide), fun l1 nl1 => ?_⟩⟩⟩⟩
      have s1 := newS (o := .tup [.str "truth"]) n1
      have s2 := newS (o := .tup [.str "num"]) n2
      have s3 := newS (o := .tup [.str "truth"]) n3
      have s4 := newS (o := .lst [V.ref p2, .ref p3]) nl1
      have s14 := s1.trans (s2.trans (s3.trans s4))
      have g1 := s4 _ _ (s3 _ _ (s2 p1 _ upd_same))
      have g2 := s4 _ _ (s3 p2 _ upd_same)
      have g3 := s4 p3 _ upd_same
      obtain ⟨v, ev, tv, rvv, dtv⟩ : ∃ v, atI [V.ref p2, V.ref p3] (if b then (1 : Int) else 0) = some v ∧ ∃ t, Rp (upd (upd (upd (upd G p1 (.tup [.str "truth"])) p2 (.tup [.str "num"])) p3 (.tup [.str "truth"])) l1 (.lst [V.ref p2, .ref p3])) t v ∧ (t = .num ∨ t = .tru) := by
        cases b
        · exact ⟨.ref p2, rfl, .num, ⟨p2, rfl, g2⟩, .inl rfl⟩
        · exact ⟨.ref p3, rfl, .tru, ⟨p3, rfl, g3⟩, .inr rfl⟩
      refine ⟨_, rfl, .inr ⟨b, rfl, l1, _, _, v, rfl, rfl, SqL.of upd_same, ev, (by show 2 ≤ sizeLine; decide), fun l2 nl2 => ?_⟩⟩
      have s5 := newS (o := .lst [V.ref p1, v]) nl2
      have off := (dkG.same s14).off nl2
      refine ⟨d, c, l2, _, rfl, dkG.same (s14.trans s5), upd_same, off.1, off.2, by show 1 ≤ 2; decide, by show 2 ≤ 100; decide, fun u G3 kp3 dk3 hu => ?_⟩
      have kpf := (kp.trans (Kp.of (s14.trans s5))).trans kp3
      have tk := (Tk.of s5).trans (Tk.kp kp3 (dkG.same (s14.trans s5)))
      rcases List.mem_cons.mp hu with e | hu
      · rw [e]
        exact q _ .tru _ kpf dk3 ⟨p1, rfl, tk _ _ g1⟩ ⟨rfl, Nat.zero_le _, sb_pos g, fun x z => (nomatch z)⟩
      · rw [List.mem_singleton.mp hu]
        rcases dtv with e | e
        · rw [e] at rvv
          exact q _ .num _ kpf dk3 (rvv.tk tk) ⟨rfl, Nat.zero_le _, sb_pos g, fun x z => (nomatch z)⟩
        · rw [e] at rvv
          exact q _ .tru _ kpf dk3 (rvv.tk tk) ⟨rfl, Nat.zero_le _, sb_pos g, fun x z => (nomatch z)⟩
    case deep =>
      obtain ⟨j, rfl⟩ : ∃ j, g = j + 1 := by
        cases g with
        | zero => exact absurd (decide_eq_true rfl) hdeep
        | succ j => exact ⟨j, rfl⟩
      have ej : ((j + 1 : Nat) : Int) - 1 = ((j : Nat) : Int) := by omega
      have eL : [V.ref d, V.ref o, V.int (((j + 1 : Nat) : Int) - 1), V.bl b] = [V.ref d, V.ref o, V.int ((j : Nat) : Int), V.bl b] := by rw [ej]
      have w6 : ¬ way < 6 := fun z => hw6 (decide_eq_true z)
      refine ⟨_, rfl, _, _, rfl, rfl, _, rfl, ite2 (fun _ => ?_) (fun hw7 => ?_)⟩
      · refine ⟨_, rfl, _, rfl, _, rfl, _, _, rfl, rfl, _, rfl, d, c, o, xs, j, b, eL, by omega, dkG, hoG, od, oc, lx, hx, fun va a G3 kp3 dk3 ra da => ?_⟩
        refine ⟨(by show 2 ≤ sizeLine; decide), fun p np => ?_⟩
        have s := newS (o := .tup [.str "list", va]) np
        refine q _ (.lst a) _ ((kp.trans kp3).trans (Kp.of s)) (dk3.same s) ⟨p, va, rfl, upd_same, ra.tk (Tk.of s)⟩ ⟨rfl, ?_, ?_, da.op⟩
        · have := da.dp
          show a.dp + 1 ≤ j + 1
          omega
        · have := da.sz
          rw [(Kd.size2 a a).2.2]
          show _ ≤ 2 * sb j + 1
          omega
      · have w7 : ¬ 7 < way := fun z => hw7 (decide_eq_true z)
        obtain ⟨wd, mk, ew, m0, m1, m2, m3, m4⟩ : ∃ (wd : Str) (mk : Kd → Kd → Kd), atI [V.str "pair", V.str "either"] (way - 6) = some (.str wd) ∧ (∀ a b F x y pp, F pp = some (.tup [.str wd, x, y]) → Rp F a x → Rp F b y → Rp F (mk a b) (.ref pp)) ∧
            (∀ a b, (mk a b).isFn = false) ∧ (∀ a b, (mk a b).dp = max a.dp b.dp + 1) ∧ (∀ a b, (mk a b).size = a.size + b.size + 1) ∧ (∀ a b, (mk a b).opens = a.opens ++ b.opens) := by
          have er : way = 6 ∨ way = 7 := by omega
          rcases er with rfl | rfl
          · exact ⟨"pair", .pair, rfl, fun a b F x y pp h1 h2 h3 => ⟨pp, x, y, rfl, h1, h2, h3⟩, fun _ _ => rfl, fun _ _ => rfl, fun a b => (Kd.size2 a b).1, fun _ _ => rfl⟩
          · exact ⟨"either", .eith, rfl, fun a b F x y pp h1 h2 h3 => ⟨pp, x, y, rfl, h1, h2, h3⟩, fun _ _ => rfl, fun _ _ => rfl, fun a b => (Kd.size2 a b).2.1, fun _ _ => rfl⟩
        refine ⟨_, rfl, _, rfl, _, rfl, _, _, rfl, rfl, _, rfl, d, c, o, xs, j, b, eL, by omega, dkG, hoG, od, oc, lx, hx, fun va a G3 kp3 dk3 ra da => ?_⟩
        refine ⟨(by show 2 ≤ sizeLine; decide), fun l nl => ⟨_, rfl, _, _, rfl, rfl, l, _, _, _, rfl, rfl, SqL.of upd_same, ew, ?_⟩⟩
        have sl := newS (o := .lst [V.str "pair", V.str "either"]) nl
        have ho3 := kp3 o _ od oc hoG
        refine ⟨_, rfl, _, rfl, _, rfl, _, rfl, _, _, rfl, rfl, _, rfl, d, c, o, xs, j, b, eL, by omega, dk3.same sl, sl _ _ ho3, od, oc, lx, hx, fun vb b' G4 kp4 dk4 rb db => ?_⟩
        refine ⟨(by show 3 ≤ sizeLine; decide), fun p np => ?_⟩
        have s := newS (o := .tup [.str wd, va, vb]) np
        refine q _ (mk a b') _ ((((kp.trans kp3).trans (Kp.of sl)).trans kp4).trans (Kp.of s)) (dk4.same s) (m0 a b' _ _ _ p upd_same (((ra.tk (Tk.of sl)).tk (Tk.kp kp4 (dk3.same sl))).tk (Tk.of s)) (rb.tk (Tk.of s))) ⟨m1 a b', ?_, ?_, fun x hx' => ?_⟩
        · have := da.dp
          have := db.dp
          rw [m2]
          omega
        · have := da.sz
          have := db.sz
          rw [m3]
          show _ ≤ 2 * sb j + 1
          omega
        · rw [m4] at hx'
          rcases List.mem_append.mp hx' with z | z
          · exact da.op x z
          · exact db.op x z
theorem okData {f fD fP : Addr} {fd fdD fdP : FuncData} (F : Fun K "_law_data" "_law_data" tData f fd) (bF : Binds K fd psData []) (gF : mg "_law_data" = some (.ref f))
    (FD : Fun K "_law_draw" "_law_draw" tDraw fD fdD) (bD : Binds K fdD ["_law_deck_here", "_law_most"] []) (gD : mg "_law_draw" = some (.ref fD)) (FP : Fun K "_law_pick" "_law_pick" tPick fP fdP) (bP : Binds K fdP psPick []) (gP : mg "_law_pick" = some (.ref fP)) (mi : mg "int" = none) (mn : mg "len" = none) :
    ∀ n, FnOk P w K mg base CX0 (n + 2) f fd psData (spData n)
  | 0 => noFn fun vs H Q E h => by
    obtain ⟨d, c, o, xs, g, b, _, hg, _⟩ := h
    omega
  | n + 1 => okData1 F bF gF (okDraw FD) bD gD FD.kp (okPick FP (okDraw FD) bD gD FD.kp mn) bP gP FP.kp mi (okData F bF gF FD bD gD FP bP gP mi mn n)
end
end Kq

namespace Kq
open PySem PySem.Spec PyProof.Rows L2
structure Bd (d z : Nat) (xs : List Str) (t : Kd) : Prop where
  dp : t.dp ≤ d
  sz : t.size ≤ z
  op : ∀ x ∈ t.opens, x ∈ xs
theorem Dta.bd {g d z : Nat} {xs : List Str} {t : Kd} (h : Dta g xs t) (hd : g ≤ d) (hz : sb g ≤ z) : Bd d z xs t := ⟨by have := h.dp; omega, by have := h.sz; omega, h.op⟩
theorem Bd.fn {d z d' z' : Nat} {xs : List Str} {a b : Kd} (ha : Bd d' z' xs a) (hb : Bd d z xs b) (hd : d' ≤ d) : Bd (d + 1) (z + (z' + 1)) xs (.fn a b) := by
  refine ⟨?_, ?_, fun x hx => ?_⟩
  · have := ha.dp
    have := hb.dp
    show max a.dp b.dp + 1 ≤ _
    omega
  · have := ha.sz
    have := hb.sz
    rw [Kd.size_fn]
    omega
  · rcases List.mem_append.mp (show x ∈ a.opens ++ b.opens from hx) with z | z
    · exact ha.op x z
    · exact hb.op x z
theorem Bd.mono {d z d' z' : Nat} {xs : List Str} {t : Kd} (h : Bd d z xs t) (hd : d ≤ d') (hz : z ≤ z') : Bd d' z' xs t := ⟨by have := h.dp; omega, by have := h.sz; omega, h.op⟩
abbrev tHanded : Stmt := tp 16
abbrev tWalked : Stmt := tp 17
abbrev tLArgs : Stmt := tp 18
abbrev tGreat : Stmt := tp 22
abbrev psTwo : List Str := ["_law_deck_here", "_law_opens_here"]
section
variable {P : Program} {w : World} {K : PySem.W.Frag} {mg : Str → Option Value} {base : Heap}
theorem scHanded : FnScope ["_law_deck_here", "_law_opens_here", "_law_way", "_law_kind", "_law_k"] psTwo (defScope tHanded) := ⟨rfl, rfl, rfl, by decide +kernel, rfl, by decide +kernel, by decide +kernel⟩
def spHanded : Sp := fun vs H Q _ => ∃ (d c o : Addr) (xs : List Str), vs = [.ref d, .ref o] ∧ Dk H d c ∧ H o = some (.lst (xs.map V.str)) ∧ o ≠ d ∧ o ≠ c ∧ xs.length ≤ 26 ∧ (∀ x ∈ xs, Nm x) ∧
  ∀ (v : V) (t : Kd) (G : Hp), Kp d c H G → Dk G d c → Rp G t v → Bd 3 11 xs t → Q v G
theorem okHanded {f fD fP fT : Addr} {fd fdD fdP fdT : FuncData} (F : Fun K "_law_handed" "_law_handed" tHanded f fd)
    (GD : FnOk P w K mg base CX0 6 fD fdD ["_law_deck_here", "_law_most"] spDraw) (bD : Binds K fdD ["_law_deck_here", "_law_most"] []) (gD : mg "_law_draw" = some (.ref fD)) (kD : PySem.W.keepIn K (.ref fD) = true)
    (GP : FnOk P w K mg base CX0 6 fP fdP psPick spPick) (bP : Binds K fdP psPick []) (gP : mg "_law_pick" = some (.ref fP)) (kP : PySem.W.keepIn K (.ref fP) = true)
    (GT : FnOk P w K mg base CX0 6 fT fdT psData (spData 4)) (bT : Binds K fdT psData []) (gT : mg "_law_data" = some (.ref fT)) (kT : PySem.W.keepIn K (.ref fT) = true) (mi : mg "int" = none) (mr : mg "range" = none) : FnOk P w K mg base CX0 7 f fd psTwo spHanded := by
  refine F.ok scHanded (fun vs H Q E h => ?_) (fun cdv A outer s H vs Q E hr h => ?_)
  · obtain ⟨d, c, o, xs, rfl, _⟩ := h
    rfl
  obtain ⟨d, c, o, xs, rfl, dk, ho, od, oc, lx, hx, q⟩ := h
  refine ⟨_, pss_cons (ps_set (i := 2) scHanded.nd rfl (.inl rfl) (pe_call GD hr (by rfl) gD kD bD .nil pass0 (pa_cons (pv 0) (pa_cons pe_int pa_nil))))
    (pss_cons (ps_set (i := 3) scHanded.nd rfl (.inl rfl) (pe_ix ix_list (pe_lst (pa_cons (pe_tup (pa_cons pe_str pa_nil)) (pa_cons (pe_call GT hr (by rfl) gT kT bT .nil pass0 (pa_cons (pv 0) (pa_cons (pv 1) (pa_cons pe_int (pa_cons pe_bl pa_nil))))) pa_nil))) (pe_callTy call_int1 (by rfl) mi (by decide +kernel) (pa_cons (pe_cmpR op_eq (pv 2) pe_int (nomark _)) pa_nil)) (fun _ _ => rfl)))
    (C8.pss_cut (ps_if (PW.pt (pw_and (pt_cmpR op_lt (pv 2) pe_int (nomark _)) (pw_and1 (pt_cmpR (op_neD hr.units) (pv 1) (pe_lst pa_nil) (nomark _)))))
      (pss_one (ps_set (i := 3) scHanded.nd rfl (.inl rfl) (pe_tup (pa_cons pe_str (pa_cons (pe_call GP hr (by rfl) gP kP bP .nil pass0 (pa_cons (pv 0) (pa_cons (pv 1) pa_nil))) pa_nil))))) pss_nil)
    (pss_cons (ps_for PassesOwn.never rfl (pi_range1 (by rfl) mr (pa_cons (pe_op op_add pe_int (pe_call GD hr (by rfl) gD kD bD .nil pass0 (pa_cons (pv 0) (pa_cons pe_int pa_nil)))) pa_nil)) (pg_name (i := 4) scHanded.nd rfl (.inl rfl))
      (pss_one (ps_set (i := 3) scHanded.nd rfl (.inl rfl) (pe_tup (pa_cons pe_str (pa_cons (pe_call GT hr (by rfl) gT kT bT .nil pass0 (pa_cons (pv 0) (pa_cons (pv 1) (pa_cons (pe_call GD hr (by rfl) gD kD bD .nil pass0 (pa_cons (pv 0) (pa_cons pe_int pa_nil))) (pa_cons pe_bl pa_nil))))) (pa_cons (pv 3) pa_nil)))))))
    (pss_one (ps_ret (pv 3)))))), ?_⟩
  refine ⟨_, rfl, d, c, 8, rfl, dk, by decide, by decide, fun way G1 w0 w1 kp1 dk1 => ?_⟩
  have ho1 := kp1 o _ od oc ho
  refine ⟨(by show 1 ≤ sizeLine; decide), fun p1 n1 => ?_⟩
  have s1 := newS (o := .tup [.str "truth"]) n1
  refine ⟨_, rfl, _, rfl, d, c, o, xs, 1, false, rfl, by decide, dk1.same s1, s1 _ _ ho1, od, oc, lx, hx, fun va a G2 kp2 dk2 ra da => ?_⟩
  refine ⟨(by show 2 ≤ sizeLine; decide), fun l nl => ?_⟩
  have sl := newS (o := .lst [V.ref p1, va]) nl
  have h1 : G2 p1 = some (.tup [.str "truth"]) := Tk.kp kp2 (dk1.same s1) p1 _ upd_same
  have kpa : Kp d c H (upd G2 l (.lst [V.ref p1, va])) := ((kp1.trans (Kp.of s1)).trans kp2).trans (Kp.of sl)
  have dka := dk2.same sl
  have hoa := sl _ _ (kp2 o _ od oc (s1 _ _ ho1))
  obtain ⟨v, t, ev, rv, bv⟩ : ∃ (v : V) (t : Kd), atI [V.ref p1, va] (if decide (V.int way = V.int 7) then (1 : Int) else 0) = some v ∧ Rp (upd G2 l (.lst [V.ref p1, va])) t v ∧ Bd 1 3 xs t := by
    cases decide (V.int way = V.int 7)
    · exact ⟨.ref p1, .tru, rfl, ⟨p1, rfl, sl _ _ h1⟩, by decide, by decide, fun x z => (nomatch z)⟩
    · exact ⟨va, a, rfl, ra.tk (Tk.of sl), da.bd (by decide) (by decide)⟩
  refine ⟨_, rfl, rfl, .inr ⟨_, rfl, l, _, _, v, rfl, rfl, SqL.of upd_same, ev, ?_⟩⟩
  generalize upd G2 l (.lst [V.ref p1, va]) = G3 at kpa dka hoa rv
  refine ⟨fun σ G => ∃ v t, σ = [some (.ref d), some (.ref o), some (.int way), some v, none] ∧ Kp d c H G ∧ Dk G d c ∧ G o = some (.lst (xs.map V.str)) ∧ Rp G t v ∧ Bd 1 3 xs t, ?_, ?b2⟩
  · refine ⟨_, rfl, _, _, rfl, rfl, _, rfl, ?_⟩
    refine ite2 (fun _ => ⟨_, rfl, Nat.zero_le _, fun e ne => ⟨.list (xs.map PyData.str), .list [], .lst (SqL.of (newS ne _ _ hoa)) (dpStrs K _ xs), .lst (SqL.of upd_same) .nil, shStrs hx, rfl, _, rfl, ite2 (fun c1 => ?_) (fun _ => ⟨v, t, rfl, kpa.trans (Kp.of (newS ne)), dka.same (newS ne), newS ne _ _ hoa, rv.tk (Tk.of (newS ne)), bv⟩)⟩⟩) (fun _ => iteF ⟨v, t, rfl, kpa, dka, hoa, rv, bv⟩)
    have ho2 := newS (o := .lst []) ne _ _ hoa
    have dk2' := dka.same (newS (o := .lst []) ne)
    rw [eqvNil] at c1
    have l0 : 0 < xs.length := by
      cases xs with
      | nil => cases c1
      | cons x r => exact Nat.succ_pos _
    refine ⟨_, rfl, _, rfl, d, c, o, _, rfl, dk2', ho2, od, oc, by rw [List.length_map]; omega, by rw [List.length_map]; omega, fun u G4 kp4 dk4 hu => ?_⟩
    obtain ⟨x, hxm, rfl⟩ := List.mem_map.mp hu
    refine ⟨(by show 2 ≤ sizeLine; decide), fun p np => ⟨.ref p, .opn x, rfl, ((kpa.trans (Kp.of (newS ne))).trans kp4).trans (Kp.of (newS np)), dk4.same (newS np), newS np _ _ (kp4 o _ od oc ho2), ⟨p, rfl, upd_same⟩, ?_⟩⟩
    refine ⟨Nat.zero_le _, by show 1 ≤ 3; decide, fun y hy => ?_⟩
    rw [List.mem_singleton.mp hy]
    exact hxm
  case b2 =>
    rintro σ G ⟨v, t, rfl, kpG, dkG, hoG, rG, bG⟩
    refine ⟨_, rfl, d, c, 2, rfl, dkG, by decide, by decide, fun mm G4 mm0 mm1 kp4 dk4 => ⟨_, _, rfl, rfl, 1 + mm, rfl, by omega, by omega, ?_⟩⟩
    refine for_range (lo := 0) (n := (1 + mm).toNat) (fun i σ G => ∃ v t y, σ = [some (.ref d), some (.ref o), some (.int way), some v, y] ∧ Kp d c H G ∧ Dk G d c ∧ G o = some (.lst (xs.map V.str)) ∧ Rp G t v ∧ Bd (1 + i) (3 + 4 * i) xs t) ?_ (fun i σ G hi z => ?_) (fun σ G z => ?_)
    · exact ⟨v, t, none, rfl, kpG.trans kp4, dk4, kp4 o _ od oc hoG, rG.tk (Tk.kp kp4 dkG), bG⟩
    · obtain ⟨v, t, y, rfl, kpi, dki, hoi, ri, bi⟩ := z
      refine ⟨_, rfl, _, rfl, _, rfl, d, c, 2, rfl, dki, by decide, by decide, fun r G5 r0 r1 kp5 dk5 => ?_⟩
      have er : r = ((r.toNat : Nat) : Int) := by omega
      have eL : [V.ref d, V.ref o, V.int r, V.bl true] = [V.ref d, V.ref o, V.int ((r.toNat : Nat) : Int), V.bl true] := by rw [← er]
      refine ⟨d, c, o, xs, r.toNat, true, eL, by omega, dk5, kp5 o _ od oc hoi, od, oc, lx, hx, fun va a G6 kp6 dk6 ra da => ?_⟩
      refine ⟨_, rfl, (by show 3 ≤ sizeLine; decide), fun p np => ?_⟩
      have s := newS (o := .tup [.str "fun", va, v]) np
      refine ⟨.ref p, .fn a t, _, rfl, (((kpi.trans kp5).trans kp6).trans (Kp.of s)), dk6.same s, s _ _ (kp6 o _ od oc (kp5 o _ od oc hoi)), ⟨p, va, v, rfl, upd_same, ra.tk (Tk.of s), ((ri.tk (Tk.kp kp5 dki)).tk (Tk.kp kp6 dk5)).tk (Tk.of s)⟩, ?_⟩
      have hb : Bd 1 3 xs a := da.bd (by omega) (by
        have : r.toNat = 0 ∨ r.toNat = 1 := by omega
        rcases this with e | e <;> rw [e] <;> decide)
      exact (Bd.fn hb bi (by omega)).mono (by omega) (by omega)
    · obtain ⟨v, t, y, rfl, kpi, dki, hoi, ri, bi⟩ := z
      exact ⟨_, rfl, q v t G kpi dki ri (bi.mono (by omega) (by omega))⟩
/-! _law_walked -/
theorem scWalked : FnScope ["_law_deck_here", "_law_opens_here", "_law_many", "_law_kind", "_law_k", "_law_handed_here", "_law_one"] psTwo (defScope tWalked) := ⟨rfl, rfl, rfl, by decide +kernel, rfl, by decide +kernel, by decide +kernel⟩
def spWalked : Sp := fun vs H Q _ => ∃ (d c o : Addr) (xs : List Str), vs = [.ref d, .ref o] ∧ Dk H d c ∧ H o = some (.lst (xs.map V.str)) ∧ o ≠ d ∧ o ≠ c ∧ xs.length ≤ 26 ∧ (∀ x ∈ xs, Nm x) ∧
  ∀ (v : V) (t : Kd) (G : Hp), Kp d c H G → Dk G d c → Rp G t v → Bd 7 55 xs t → Q v G
theorem okWalked {f fD fP fT fH : Addr} {fd fdD fdP fdT fdH : FuncData} (F : Fun K "_law_walked" "_law_walked" tWalked f fd)
    (GD : FnOk P w K mg base CX0 7 fD fdD ["_law_deck_here", "_law_most"] spDraw) (bD : Binds K fdD ["_law_deck_here", "_law_most"] []) (gD : mg "_law_draw" = some (.ref fD)) (kD : PySem.W.keepIn K (.ref fD) = true)
    (GP : FnOk P w K mg base CX0 7 fP fdP psPick spPick) (bP : Binds K fdP psPick []) (gP : mg "_law_pick" = some (.ref fP)) (kP : PySem.W.keepIn K (.ref fP) = true)
    (GT : FnOk P w K mg base CX0 6 fT fdT psData (spData 4)) (bT : Binds K fdT psData []) (gT : mg "_law_data" = some (.ref fT)) (kT : PySem.W.keepIn K (.ref fT) = true)
    (GH : FnOk P w K mg base CX0 7 fH fdH psTwo spHanded) (bH : Binds K fdH psTwo []) (gH : mg "_law_handed" = some (.ref fH)) (kH : PySem.W.keepIn K (.ref fH) = true) (mr : mg "range" = none) : FnOk P w K mg base CX0 8 f fd psTwo spWalked := by
  refine F.ok scWalked (fun vs H Q E h => ?_) (fun cdv A outer s H vs Q E hr h => ?_)
  · obtain ⟨d, c, o, xs, rfl, _⟩ := h
    rfl
  obtain ⟨d, c, o, xs, rfl, dk, ho, od, oc, lx, hx, q⟩ := h
  refine ⟨_, pss_cons (ps_set (i := 2) scWalked.nd rfl (.inl rfl) (pe_call GP hr (by rfl) gP kP bP .nil pass0 (pa_cons (pv 0) (pa_cons (pe_lst (pa_cons pe_int (pa_cons pe_int (pa_cons pe_int (pa_cons pe_int (pa_cons pe_int (pa_cons pe_int (pa_cons pe_int (pa_cons pe_int pa_nil))))))))) pa_nil))))
    (pss_cons (ps_set (i := 3) scWalked.nd rfl (.inl rfl) (pe_call GT (hr.mono (by decide)) (by rfl) gT kT bT .nil pass0 (pa_cons (pv 0) (pa_cons (pv 1) (pa_cons (pe_op op_add pe_int (pe_call GD hr (by rfl) gD kD bD .nil pass0 (pa_cons (pv 0) (pa_cons pe_int pa_nil)))) (pa_cons pe_bl pa_nil))))))
    (pss_cons (ps_for PassesOwn.never rfl (pi_range1 (by rfl) mr (pa_cons (pv 2) pa_nil)) (pg_name (i := 4) scWalked.nd rfl (.inl rfl))
      (pss_cons (ps_set (i := 5) scWalked.nd rfl (.inl rfl) (pe_cmpR op_eq (pe_call GD hr (by rfl) gD kD bD .nil pass0 (pa_cons (pv 0) (pa_cons pe_int pa_nil))) pe_int (nomark _)))
      (pss_cons (ps_set (i := 6) scWalked.nd rfl (.inl rfl) (pe_call GH hr (by rfl) gH kH bH .nil pass0 (pa_cons (pv 0) (pa_cons (pv 1) pa_nil))))
      (C8.pss_cut (ps_if (pt_not (pt_val (pv 5))) (pss_one (ps_set (i := 6) scWalked.nd rfl (.inl rfl) (pe_call GT (hr.mono (by decide)) (by rfl) gT kT bT .nil pass0 (pa_cons (pv 0) (pa_cons (pv 1) (pa_cons (pe_op op_add pe_int (pe_call GD hr (by rfl) gD kD bD .nil pass0 (pa_cons (pv 0) (pa_cons pe_int pa_nil)))) (pa_cons pe_bl pa_nil))))))) pss_nil)
      (pss_one (ps_set (i := 3) scWalked.nd rfl (.inl rfl) (pe_tup (pa_cons pe_str (pa_cons (pv 6) (pa_cons (pv 3) pa_nil))))))))))
    (pss_one (ps_ret (pv 3))))), ?_⟩
  have two : ∀ (r : Int), 0 ≤ r → r < 2 → [V.ref d, V.ref o, V.int (1 + r), V.bl false] = [V.ref d, V.ref o, V.int (((1 + r).toNat : Nat) : Int), V.bl false] ∧ (1 + r).toNat + 1 ≤ 4 ∧ (1 + r).toNat ≤ 2 ∧ sb (1 + r).toNat ≤ 7 := fun r r0 r1 => by
    have e : (1 + r) = (((1 + r).toNat : Nat) : Int) := by omega
    refine ⟨by rw [← e], by omega, by omega, ?_⟩
    have : r = 0 ∨ r = 1 := by omega
    rcases this with rfl | rfl <;> decide
  refine ⟨_, rfl, (by show 8 ≤ sizeLine; decide), fun l nl => ?_⟩
  have off := dk.off nl
  refine ⟨d, c, l, _, rfl, dk.same (newS nl), upd_same, off.1, off.2, by show 1 ≤ 8; decide, by show 8 ≤ 100; decide, fun mv G1 kp1' dk1 hmv => ?_⟩
  obtain ⟨m, rfl, m0, m4⟩ : ∃ m : Int, mv = .int m ∧ 0 ≤ m ∧ m ≤ 4 := by
    simp only [List.mem_cons, List.not_mem_nil, or_false] at hmv
    rcases hmv with e | e | e | e | e | e | e | e <;> exact ⟨_, e, by decide, by decide⟩
  have kp1 : Kp d c H G1 := (Kp.of (newS nl)).trans kp1'
  have ho1 := kp1 o _ od oc ho
  refine ⟨_, rfl, _, rfl, _, rfl, d, c, 2, rfl, dk1, by decide, by decide, fun r G2 r0 r1 kp2 dk2 => ⟨_, _, rfl, rfl, ?_⟩⟩
  obtain ⟨eL, e1, e2, e3⟩ := two r r0 r1
  have ho2 := kp2 o _ od oc ho1
  refine ⟨d, c, o, xs, _, false, eL, e1, dk2, ho2, od, oc, lx, hx, fun va a G3 kp3 dk3 ra da => ?_⟩
  refine ⟨_, rfl, m, rfl, by omega, by omega, ?_⟩
  refine for_range (lo := 0) (n := m.toNat) (fun i σ G => ∃ v t y4 y5 y6, σ = [some (.ref d), some (.ref o), some (.int m), some v, y4, y5, y6] ∧ Kp d c H G ∧ Dk G d c ∧ G o = some (.lst (xs.map V.str)) ∧ Rp G t v ∧ Bd (3 + i) (7 + 12 * i) xs t) ?_ (fun i σ G hi z => ?_) (fun σ G z => ?_)
  · exact ⟨va, a, _, _, _, rfl, (kp1.trans kp2).trans kp3, dk3, kp3 o _ od oc ho2, ra, da.bd (by omega) e3⟩
  · obtain ⟨v, t, y4, y5, y6, rfl, kpi, dki, hoi, ri, bi⟩ := z
    refine ⟨_, rfl, d, c, 3, rfl, dki, by decide, by decide, fun r2 G4 r20 r21 kp4 dk4 => ⟨rfl, ?_⟩⟩
    have ho4 := kp4 o _ od oc hoi
    refine ⟨_, rfl, _, rfl, d, c, o, xs, rfl, dk4, ho4, od, oc, lx, hx, fun vh th G5 kp5 dk5 rh bh => ?_⟩
    have ho5 := kp5 o _ od oc ho4
    have ri5 := (ri.tk (Tk.kp kp4 dki)).tk (Tk.kp kp5 dk4)
    have kpa := (kpi.trans kp4).trans kp5
    refine ⟨fun σ G => ∃ u tu, σ = [some (.ref d), some (.ref o), some (.int m), some v, some (.int (0 + (i : Int))), some (.bl (decide (V.int r2 = V.int 1))), some u] ∧ Kp d c H G ∧ Dk G d c ∧ G o = some (.lst (xs.map V.str)) ∧ Rp G t v ∧ Rp G tu u ∧ Bd 3 11 xs tu, ?_, ?_⟩
    · refine ⟨_, rfl, _, rfl, ite2 (fun _ => ?_) (fun _ => ⟨vh, th, rfl, kpa, dk5, ho5, ri5, rh, bh⟩)⟩
      refine ⟨_, rfl, _, rfl, _, rfl, d, c, 2, rfl, dk5, by decide, by decide, fun r3 G6 r30 r31 kp6 dk6 => ⟨_, _, rfl, rfl, ?_⟩⟩
      obtain ⟨eL3, e31, e32, e33⟩ := two r3 r30 r31
      have ho6 := kp6 o _ od oc ho5
      refine ⟨d, c, o, xs, _, false, eL3, e31, dk6, ho6, od, oc, lx, hx, fun vb b G7 kp7 dk7 rb db => ?_⟩
      exact ⟨vb, b, rfl, (kpa.trans kp6).trans kp7, dk7, kp7 o _ od oc ho6, (ri5.tk (Tk.kp kp6 dk5)).tk (Tk.kp kp7 dk6), rb, db.bd (by omega) (by omega)⟩
    · rintro σ G ⟨u, tu, rfl, kpu, dku, hou, rv, ru, bu⟩
      refine ⟨_, rfl, _, rfl, (by show 3 ≤ sizeLine; decide), fun p np => ?_⟩
      have s := newS (o := .tup [.str "fun", u, v]) np
      refine ⟨.ref p, .fn tu t, _, _, _, rfl, kpu.trans (Kp.of s), dku.same s, s _ _ hou, ⟨p, u, v, rfl, upd_same, ru.tk (Tk.of s), rv.tk (Tk.of s)⟩, ?_⟩
      exact (Bd.fn bu bi (by omega)).mono (by omega) (by omega)
  · obtain ⟨v, t, y4, y5, y6, rfl, kpi, dki, hoi, ri, bi⟩ := z
    exact ⟨_, rfl, q v t G kpi dki ri (bi.mono (by omega) (by omega))⟩
end
end Kq

namespace Kq
open PySem PySem.Spec PyProof.Rows L2
theorem nd_le : ∀ {l ns : List Str}, l.Nodup → (∀ x ∈ l, x ∈ ns) → l.length ≤ ns.length
  | [], _, _, _ => Nat.zero_le _
  | a :: l, ns, nd, h => by
    obtain ⟨na, nl⟩ := List.nodup_cons.mp nd
    have ha := h a List.mem_cons_self
    have ih := nd_le (l := l) (ns := ns.erase a) nl fun x hx => (List.mem_erase_of_ne (fun z => na (by rw [← z]; exact hx))).mpr (h x (List.mem_cons_of_mem _ hx))
    rw [List.length_erase_of_mem ha] at ih
    have := List.length_pos_of_mem ha
    rw [List.length_cons]
    omega
abbrev tLOpens : Stmt := tp 20
section
variable {P : Program} {w : World} {K : PySem.W.Frag} {mg : Str → Option Value} {base : Heap}
/-! _law_arguments -/
theorem scLArgs : FnScope ["_law_kind", "_law_found"] ["_law_kind"] (defScope tLArgs) := ⟨rfl, rfl, rfl, by decide +kernel, rfl, by decide +kernel, by decide +kernel⟩
def spLArgs : Sp := fun vs H Q _ => ∃ (v : V) (t : Kd), vs = [v] ∧ Rp H t v ∧ t.size ≤ 900 ∧ ∀ (p l : Addr) (us : List V) (u : V) (G : Hp), Same H G → G p = some (.tup [.ref l, u]) → G l = some (.lst us) → RpL G t.args us → Rp G t.res u → Q (.ref p) G
theorem okLArgs {f : Addr} {fd : FuncData} {k : Nat} (F : Fun K "_law_arguments" "_law_arguments" tLArgs f fd) : FnOk P w K mg base CX0 (k + 1) f fd ["_law_kind"] spLArgs := by
  refine F.ok scLArgs (fun vs H Q E h => ?_) (fun cdv A outer s H vs Q E hr h => ?_)
  · obtain ⟨v, t, rfl, _⟩ := h
    rfl
  obtain ⟨v, t, rfl, r, hz, q⟩ := h
  refine ⟨_, pss_cons (ps_set (i := 1) scLArgs.nd rfl (.inl rfl) (pe_lst pa_nil))
    (pss_cons (ps_while PassesOwn.never (pt_cmpR op_eq (pe_ix ix_tup (pv 0) pe_int (fun _ _ => rfl)) pe_str (nomark _))
      (pss_cons (ps_expr (pe_bm PySem.F.plainAttrs_list PySem.F.slot_list_append PySem.F.type_list_append mt_append (pv 1) (pa_cons (pe_ix ix_tup (pv 0) pe_int (fun _ _ => rfl)) pa_nil)))
      (pss_one (ps_set (i := 0) scLArgs.nd rfl (.inl rfl) (pe_ix ix_tup (pv 0) pe_int (fun _ _ => rfl))))))
    (pss_one (ps_ret (pe_tup (pa_cons (pv 1) (pa_cons (pv 0) pa_nil)))))), ?_⟩
  refine ⟨Nat.zero_le _, fun pa npa => ?_⟩
  refine ⟨fun m σ G => ∃ ts c us cv, m = c.size ∧ σ = [some cv, some (.ref pa)] ∧ Same H G ∧ G pa = some (.lst us) ∧ RpL G ts us ∧ Rp G c cv ∧ ts ++ c.args = t.args ∧ c.res = t.res,
    ⟨_, [], t, [], v, rfl, rfl, newS npa, upd_same, trivial, r.tk (Tk.of (newS npa)), rfl, rfl⟩, fun m σ G z => ?_⟩
  obtain ⟨ts, c, us, cv, rfl, rfl, sG, gp, rt, rc, ea, er⟩ := z
  obtain ⟨a0, us0, rfl, ha0, _⟩ := rc.see
  refine ⟨_, rfl, a0, _, _, _, rfl, rfl, SqT.of ha0, atI_nat (j := 0) rfl, rfl, _, rfl, ?_⟩
  rw [Kd.isFn_word]
  refine ite2 (fun e => ?_) (fun e => ?_)
  · cases c with
    | fn a b =>
      obtain ⟨ca, x, y, eca, hc, ra, rb⟩ := rc
      cases eca
      refine ⟨fun σ' G' => ∃ m', m' < (Kd.fn a b).size ∧ ∃ ts c us cv, m' = c.size ∧ σ' = [some cv, some (.ref pa)] ∧ Same H G' ∧ G' pa = some (.lst us) ∧ RpL G' ts us ∧ Rp G' c cv ∧ ts ++ c.args = t.args ∧ c.res = t.res, fun σ' G' z => z, ?_⟩
      have le : ts.length ≤ t.args.length := by
        rw [← ea, List.length_append]
        exact Nat.le_add_right _ _
      have l1 := rt.len
      have l2 := Kd.args_le t
      refine ⟨_, rfl, .inl ⟨rfl, _, SqL.of gp⟩, _, rfl, a0, _, _, x, rfl, rfl, SqT.of hc, atI_nat (j := 1) rfl, pa, _, _, rfl, rfl, gp, small1000 (by omega), ?_⟩
      have t1 : Tk G (upd G pa (.lst (us ++ [x]))) := Tk.rfl.put (fun _ z => by rw [gp] at z; cases z)
      refine ⟨_, rfl, a0, _, _, y, rfl, rfl, SqT.of (t1 _ _ hc), atI_nat (j := 2) rfl, ?_⟩
      refine ⟨_, ?_, ts ++ [a], b, us ++ [x], y, rfl, rfl, smk sG npa, upd_same, RpL.app (us := [a]) (ws := [x]) (rt.tk t1) ⟨ra.tk t1, trivial⟩, rb.tk t1, ?_, er⟩
      · rw [Kd.size_fn]
        omega
      · rw [← ea, List.append_assoc]
        rfl
    | _ => cases e
  · have e0 : c.args = [] ∧ c.res = c := by
      cases c with
      | fn a b => exact absurd rfl e
      | _ => exact ⟨rfl, rfl⟩
    rw [e0.1, List.append_nil] at ea
    rw [e0.2] at er
    refine ⟨_, rfl, _, rfl, (by show 2 ≤ sizeLine; decide), fun p np => ?_⟩
    have s := newS (o := .tup [.ref pa, .ref a0]) np
    exact q p pa us _ _ (sG.trans s) upd_same (s _ _ gp) (by rw [← ea]; exact rt.tk (Tk.of s)) (by rw [← er]; exact rc.tk (Tk.of s))
/-! _law_great -/
theorem scGreat : FnScope ["_law_deck_here", "_law_names_here", "_law_kind", "_law_k", "_law_two"] ["_law_deck_here", "_law_names_here"] (defScope tGreat) := ⟨rfl, rfl, rfl, by decide +kernel, rfl, by decide +kernel, by decide +kernel⟩
def spGreat : Sp := fun vs H Q _ => ∃ (d c o : Addr) (xs : List Str), vs = [.ref d, .ref o] ∧ Dk H d c ∧ H o = some (.lst (xs.map V.str)) ∧ o ≠ d ∧ o ≠ c ∧ 1 ≤ xs.length ∧ xs.length ≤ 26 ∧
  ∀ (v : V) (t : Kd) (G : Hp), Kp d c H G → Dk G d c → Rp G t v → Bd 37 74 xs t → Q v G
theorem okGreat {f fD fP : Addr} {fd fdD fdP : FuncData} {k : Nat} (F : Fun K "_law_great" "_law_great" tGreat f fd)
    (GD : FnOk P w K mg base CX0 (k + 2) fD fdD ["_law_deck_here", "_law_most"] spDraw) (bD : Binds K fdD ["_law_deck_here", "_law_most"] []) (gD : mg "_law_draw" = some (.ref fD)) (kD : PySem.W.keepIn K (.ref fD) = true)
    (GP : FnOk P w K mg base CX0 (k + 2) fP fdP psPick spPick) (bP : Binds K fdP psPick []) (gP : mg "_law_pick" = some (.ref fP)) (kP : PySem.W.keepIn K (.ref fP) = true) (mr : mg "range" = none) : FnOk P w K mg base CX0 (k + 3) f fd ["_law_deck_here", "_law_names_here"] spGreat := by
  refine F.ok scGreat (fun vs H Q E h => ?_) (fun cdv A outer s H vs Q E hr h => ?_)
  · obtain ⟨d, c, o, xs, rfl, _⟩ := h
    rfl
  obtain ⟨d, c, o, xs, rfl, dk, ho, od, oc, l1, lx, q⟩ := h
  refine ⟨_, pss_cons (ps_set (i := 2) scGreat.nd rfl (.inl rfl) (pe_tup (pa_cons pe_str (pa_cons (pe_tup (pa_cons pe_str (pa_cons (pe_ix ix_list (pv 1) pe_int (fun _ _ => rfl)) pa_nil))) pa_nil))))
    (pss_cons (ps_for PassesOwn.never rfl (pi_range1 (by rfl) mr (pa_cons pe_int pa_nil)) (pg_name (i := 3) scGreat.nd rfl (.inl rfl))
      (pss_cons (ps_set (i := 4) scGreat.nd rfl (.inl rfl) (pe_tup (pa_cons (pv 2) (pa_cons (pe_tup (pa_cons pe_str (pa_cons (pe_call GP hr (by rfl) gP kP bP .nil pass0 (pa_cons (pv 0) (pa_cons (pv 1) pa_nil))) pa_nil))) pa_nil))))
      (C8.pss_cut (ps_if (pt_cmpR op_eq (pe_call GD hr (by rfl) gD kD bD .nil pass0 (pa_cons (pv 0) (pa_cons pe_int pa_nil))) pe_int (nomark _)) (pss_one (ps_set (i := 4) scGreat.nd rfl (.inl rfl) (Kt.pe_rev2 (pv 4)))) pss_nil)
      (pss_cons (ps_set (i := 2) scGreat.nd rfl (.inl rfl) (pe_op op_catT (pe_tup (pa_cons (pe_ix ix_list (pe_lst (pa_cons pe_str (pa_cons pe_str pa_nil))) (pe_call GD hr (by rfl) gD kD bD .nil pass0 (pa_cons (pv 0) (pa_cons pe_int pa_nil))) (fun _ _ => rfl)) pa_nil)) (pv 4)))
      (pss_one (ps_set (i := 2) scGreat.nd rfl (.inl rfl) (pe_ifExp (PW.pt (pw_and (pt_cmpR op_eq (pe_op op_mod (pv 3) pe_int) pe_int (nomark _)) (pw_and1 (pt_cmpR op_gt (pv 3) pe_int (nomark _))))) (pe_tup (pa_cons pe_str (pa_cons (pv 2) pa_nil))) (pv 2)))))))
    )
    (pss_one (ps_ret (pv 2)))), ?_⟩
  obtain ⟨x0, xr, rfl⟩ : ∃ x0 xr, xs = x0 :: xr := by
    cases xs with
    | nil => exact absurd l1 (by decide)
    | cons a b => exact ⟨a, b, rfl⟩
  refine ⟨_, rfl, o, _, _, .str x0, rfl, rfl, SqL.of ho, atI_nat (j := 0) rfl, (by show 2 ≤ sizeLine; decide), fun p1 n1 => ⟨(by show 2 ≤ sizeLine; decide), fun p2 n2 => ?_⟩⟩
  have s1 := newS (o := .tup [.str "open", .str x0]) n1
  have s2 := newS (o := .tup [.str "list", .ref p1]) n2
  have s12 := s1.trans s2
  refine ⟨24, rfl, by decide, by decide, ?_⟩
  refine for_range (lo := 0) (n := 24) (fun i σ G => ∃ v t y3 y4, σ = [some (.ref d), some (.ref o), some v, y3, y4] ∧ Kp d c H G ∧ Dk G d c ∧ G o = some (.lst ((x0 :: xr).map V.str)) ∧ Rp G t v ∧ Bd (1 + i + i / 2) (2 + 3 * i) (x0 :: xr) t) ?_ (fun i σ G hi z => ?_) (fun σ G z => ?_)
  · refine ⟨.ref p2, .lst (.opn x0), none, none, rfl, Kp.of s12, dk.same s12, s12 _ _ ho, ⟨p2, .ref p1, rfl, upd_same, p1, rfl, s2 p1 _ upd_same⟩, Nat.le_refl _, Nat.le_refl _, fun x z => ?_⟩
    rw [List.mem_singleton.mp z]
    exact List.mem_cons_self
  · obtain ⟨v, t, y3, y4, rfl, kpi, dki, hoi, ri, bi⟩ := z
    refine ⟨_, rfl, _, rfl, _, rfl, d, c, o, _, rfl, dki, hoi, od, oc, by rw [List.length_map]; exact l1, by rw [List.length_map]; omega, fun u G2 kp2 dk2 hu => ?_⟩
    obtain ⟨x, hxm, rfl⟩ := List.mem_map.mp hu
    refine ⟨(by show 2 ≤ sizeLine; decide), fun p3 n3 => ⟨(by show 2 ≤ sizeLine; decide), fun p4 n4 => ?_⟩⟩
    have s3 := newS (o := .tup [.str "open", .str x]) n3
    have s4 := newS (o := .tup [v, .ref p3]) n4
    have s34 := s3.trans s4
    have ho2 := kp2 o _ od oc hoi
    have r2 := (ri.tk (Tk.kp kp2 dki)).tk (Tk.of s34)
    have r3 : Rp (upd (upd G2 p3 (.tup [.str "open", .str x])) p4 (.tup [v, .ref p3])) (.opn x) (.ref p3) := ⟨p3, rfl, s4 p3 _ upd_same⟩
    have g4 : (upd (upd G2 p3 (.tup [.str "open", .str x])) p4 (.tup [v, .ref p3])) p4 = some (.tup [v, .ref p3]) := upd_same
    have kpa := (kpi.trans kp2).trans (Kp.of s34)
    have dka := dk2.same s34
    have hoa := s34 _ _ ho2
    generalize upd (upd G2 p3 (.tup [.str "open", .str x])) p4 (.tup [v, .ref p3]) = G4 at r2 r3 g4 kpa dka hoa
    refine ⟨fun σ G => ∃ tw a b ta tb, σ = [some (.ref d), some (.ref o), some v, some (.int (0 + (i : Int))), some (.ref tw)] ∧ Kp d c H G ∧ Dk G d c ∧ G o = some (.lst ((x0 :: xr).map V.str)) ∧ G tw = some (.tup [a, b]) ∧ Rp G ta a ∧ Rp G tb b ∧ Bd (1 + i + i / 2) (2 + 3 * i) (x0 :: xr) ta ∧ Bd (1 + i + i / 2) (2 + 3 * i) (x0 :: xr) tb ∧ ta.size + tb.size ≤ 3 + 3 * i, ?_, ?_⟩
    · refine ⟨_, rfl, d, c, 2, rfl, dka, by decide, by decide, fun r G5 r0 r1 kp5 dk5 => ⟨rfl, _, rfl, ?_⟩⟩
      have tk5 := Tk.kp kp5 dka
      have bo : Bd (1 + i + i / 2) (2 + 3 * i) (x0 :: xr) (.opn x) := ⟨Nat.zero_le _, by show 1 ≤ _; omega, fun y hy => by rw [List.mem_singleton.mp hy]; exact hxm⟩
      have szt : t.size + (Kd.opn x).size ≤ 3 + 3 * i := by
        have := bi.sz
        show t.size + 1 ≤ _
        omega
      refine ite2 (fun _ => ?_) (fun _ => ⟨p4, v, .ref p3, t, .opn x, rfl, kpa.trans kp5, dk5, kp5 o _ od oc hoa, tk5 _ _ g4, r2.tk tk5, r3.tk tk5, bi, bo, szt⟩)
      refine ⟨_, rfl, p4, _, _, rfl, SqT.of (tk5 _ _ g4), fun p5 n5 => ?_⟩
      have s5 := newS (o := .tup [.ref p3, v]) n5
      exact ⟨p5, .ref p3, v, .opn x, t, rfl, (kpa.trans kp5).trans (Kp.of s5), dk5.same s5, s5 _ _ (kp5 o _ od oc hoa), upd_same, (r3.tk tk5).tk (Tk.of s5), (r2.tk tk5).tk (Tk.of s5), bo, bi, by omega⟩
    · rintro σ G ⟨tw, va, vb, ta, tb, rfl, kpG, dkG, hoG, gtw, rta, rtb, ba, bb, szz⟩
      refine ⟨(by show 2 ≤ sizeLine; decide), fun l nl => ?_⟩
      have sl := newS (o := .lst [V.str "pair", V.str "either"]) nl
      have offl := dkG.off nl
      refine ⟨_, rfl, d, c, 2, rfl, dkG.same sl, by decide, by decide, fun r G6 r0 r1 kp6 dk6 => ?_⟩
      obtain ⟨wd, mk, ew, m0, m2, m3, m4⟩ : ∃ (wd : Str) (mk : Kd → Kd → Kd), atI [V.str "pair", V.str "either"] r = some (.str wd) ∧ (∀ a b F x y pp, F pp = some (.tup [.str wd, x, y]) → Rp F a x → Rp F b y → Rp F (mk a b) (.ref pp)) ∧
          (∀ a b, (mk a b).dp = max a.dp b.dp + 1) ∧ (∀ a b, (mk a b).size = a.size + b.size + 1) ∧ (∀ a b, (mk a b).opens = a.opens ++ b.opens) := by
        have er : r = 0 ∨ r = 1 := by omega
        rcases er with rfl | rfl
        · exact ⟨"pair", .pair, rfl, fun a b F x y pp h1 h2 h3 => ⟨pp, x, y, rfl, h1, h2, h3⟩, fun _ _ => rfl, fun a b => (Kd.size2 a b).1, fun _ _ => rfl⟩
        · exact ⟨"either", .eith, rfl, fun a b F x y pp h1 h2 h3 => ⟨pp, x, y, rfl, h1, h2, h3⟩, fun _ _ => rfl, fun a b => (Kd.size2 a b).2.1, fun _ _ => rfl⟩
      have tk6 := (Tk.of sl).trans (Tk.kp kp6 (dkG.same sl))
      refine ⟨l, _, _, _, rfl, rfl, SqL.of (kp6 l _ offl.1 offl.2 upd_same), ew, (by show 1 ≤ sizeLine; decide), fun p7 n7 => ?_⟩
      have s7 := newS (o := .tup [.str wd]) n7
      refine ⟨_, rfl, p7, tw, _, _, rfl, rfl, SqT.of upd_same, SqT.of (s7 _ _ (tk6 _ _ gtw)), (fun z => nomatch z), (by show 3 ≤ sizeLine; decide), (fun z => nomatch z), fun _ p8 n8 => ?_⟩
      have s8 := newS (o := .tup ([V.str wd] ++ [va, vb])) n8
      have s78 := s7.trans s8
      have kp8 := ((kpG.trans (Kp.of sl)).trans kp6).trans (Kp.of s78)
      have dk8 := dk6.same s78
      have ho8 := s78 _ _ (kp6 o _ od oc (sl _ _ hoG))
      have rt8 := m0 ta tb _ _ _ p8 (show (upd (upd G6 p7 (.tup [.str wd])) p8 (.tup ([V.str wd] ++ [va, vb]))) p8 = some (.tup [.str wd, va, vb]) from upd_same) ((rta.tk tk6).tk (Tk.of s78)) ((rtb.tk tk6).tk (Tk.of s78))
      have b8 : Bd (1 + i + i / 2 + 1) (4 + 3 * i) (x0 :: xr) (mk ta tb) := by
        refine ⟨?_, ?_, fun y hy => ?_⟩
        · have := ba.dp
          have := bb.dp
          rw [m2]
          omega
        · rw [m3]
          omega
        · rw [m4] at hy
          rcases List.mem_append.mp hy with z | z
          · exact ba.op y z
          · exact bb.op y z
      generalize upd (upd G6 p7 (.tup [.str wd])) p8 (.tup ([V.str wd] ++ [va, vb])) = G8 at kp8 dk8 ho8 rt8
      have done : ∃ v t y3 y4, [some (V.ref d), some (.ref o), some (.ref p8), some (.int (0 + (i : Int))), some (.ref tw)] = [some (.ref d), some (.ref o), some v, y3, y4] ∧ Kp d c H G8 ∧ Dk G8 d c ∧ G8 o = some (.lst ((x0 :: xr).map V.str)) ∧ Rp G8 t v ∧ Bd (1 + (i + 1) + (i + 1) / 2) (2 + 3 * (i + 1)) (x0 :: xr) t :=
        ⟨_, mk ta tb, _, _, rfl, kp8, dk8, ho8, rt8, b8.mono (by omega) (by omega)⟩
      refine ⟨_, rfl, _, _, rfl, rfl, (by show (0 : Int) < 2; decide), rfl, _, rfl, ite2 (fun hodd => ⟨_, rfl, _, _, rfl, rfl, _, rfl, ite2 (fun _ => ?_) (fun _ => ⟨_, rfl, done⟩)⟩) (fun _ => iteF ⟨_, rfl, done⟩)⟩
      have od1 : (0 + (i : Int)) % 2 = 1 := by
        have := of_decide_eq_true hodd
        exact (V.int.inj this)
      refine ⟨_, rfl, (by show 2 ≤ sizeLine; decide), fun p9 n9 => ?_⟩
      have s9 := newS (o := .tup [.str "list", .ref p8]) n9
      refine ⟨.ref p9, .lst (mk ta tb), _, _, rfl, kp8.trans (Kp.of s9), dk8.same s9, s9 _ _ ho8, ⟨p9, .ref p8, rfl, upd_same, rt8.tk (Tk.of s9)⟩, ?_, ?_, b8.op⟩
      · have := b8.dp
        show (mk ta tb).dp + 1 ≤ _
        omega
      · have := b8.sz
        rw [(Kd.size2 (mk ta tb) (mk ta tb)).2.2]
        omega
  · obtain ⟨v, t, y3, y4, rfl, kpi, dki, hoi, ri, bi⟩ := z
    exact ⟨_, rfl, q v t G kpi dki ri bi⟩
/-! _law_opens -/
theorem scLOpens : FnScope ["_law_kind", "_law_found", "_law_part"] ["_law_kind"] (defScope tLOpens) := ⟨rfl, rfl, rfl, by decide +kernel, rfl, by decide +kernel, by decide +kernel⟩
def spLOpens (n : Nat) : Sp := fun vs H Q _ => ∃ (v : V) (t : Kd) (ns : List Str), vs = [v] ∧ t.dp + 1 ≤ n ∧ Rp H t v ∧ ns.length ≤ 26 ∧ (∀ x ∈ t.opens, x ∈ ns) ∧ ∀ (l : Addr) (ys : List Str) (G : Hp), Same H G → G l = some (.lst (ys.map V.str)) → sortedS ys = true → ys.Nodup → (∀ k, k ∈ ys ↔ k ∈ t.opens) → Q (.ref l) G
theorem okLOpens1 {f : Addr} {fd : FuncData} {n : Nat} (F : Fun K "_law_opens" "_law_opens" tLOpens f fd) (bF : Binds K fd ["_law_kind"] []) (gF : mg "_law_opens" = some (.ref f)) (ms : mg "sorted" = none) (mt : mg "set" = none) (GI : FnOk P w K mg base CX0 (n + 1) f fd ["_law_kind"] (spLOpens n)) :
    FnOk P w K mg base CX0 (n + 2) f fd ["_law_kind"] (spLOpens (n + 1)) := by
  refine F.ok scLOpens (fun vs H Q E h => ?_) (fun cdv A outer s H vs Q E hr h => ?_)
  · obtain ⟨v, t, ns, rfl, _⟩ := h
    rfl
  obtain ⟨v, t, ns, rfl, hn, r, ln, hns, q⟩ := h
  obtain ⟨a, us, rfl, ha, hu⟩ := r.see
  refine ⟨_, pss_cons (ps_if (pt_cmpR op_eq (pe_ix ix_tup (pv 0) pe_int (fun _ _ => rfl)) pe_str (nomark _)) (pss_one (ps_ret (pe_lst (pa_cons (pe_ix ix_tup (pv 0) pe_int (fun _ _ => rfl)) pa_nil)))) pss_nil)
    (pss_cons (ps_set (i := 1) scLOpens.nd rfl (.inl rfl) (pe_lst pa_nil))
    (pss_cons (ps_for PassesOwn.never rfl (pi_tup (pe_slice sl_tup (pv 0) (po_some pe_int) po_none)) (pg_name (i := 2) scLOpens.nd rfl (.inl rfl))
      (pss_one (ps_set (i := 1) scLOpens.nd rfl (.inl rfl) (pe_op op_cat (pv 1) (pe_call GI hr (by rfl) gF F.kp bF .nil pass0 (pa_cons (pv 2) pa_nil))))))
    (pss_one (ps_ret (pe_callB (Ks.cr_sortT rfl) (by rfl) ms PyProof.Rows.boot_sorted (pa_cons (pe_callTy (Ks.cr_setT rfl) (by rfl) mt PyProof.Rows.boot_set (pa_cons (pv 1) pa_nil)) pa_nil)))))), ?_⟩
  refine ⟨_, rfl, a, _, _, _, rfl, rfl, SqT.of ha, atI_nat (j := 0) rfl, rfl, _, rfl, ?_⟩
  rw [Kd.isOp_word]
  refine ite2 (fun e => ?_) (fun e => ?_)
  · rcases hu with hu | ⟨x, rfl, rfl⟩
    · rw [hu.1] at e
      cases e
    · exact ⟨_, rfl, a, _, _, _, rfl, rfl, SqT.of ha, atI_nat (j := 1) rfl, (by show 1 ≤ sizeLine; decide), fun l nl => q l [x] _ (newS nl) upd_same rfl (by simp) fun k => Iff.rfl⟩
  · rcases hu with hu | ⟨x, rfl, rfl⟩
    · have ho : t.isOp = false := hu.1
      have hk := hu.2
      refine ⟨Nat.zero_le _, fun fa nfa => ⟨_, rfl, 1, rfl, a, _, rfl, SqT.of (newS nfa _ _ ha), notWhole _ _, fun p np => ?_⟩⟩
      rw [cutFrom1]
      have s2 : Same H (upd (upd H fa (.lst [])) p (.tup us)) := (newS nfa).trans (newS np)
      refine ⟨p, rfl, ⟨_, SqT.of upd_same⟩, for_tup (xs := us) (fun i σ G => ∃ (l : Addr) (y : Option V) (ys : List Str), σ = [some (.ref a), some (.ref l), y] ∧ Same H G ∧ G p = some (.tup us) ∧ G l = some (.lst (ys.map V.str)) ∧ ys.length ≤ 26 * i ∧ ∀ k, k ∈ ys ↔ k ∈ (t.kids.take i).flatMap Kd.opens) ?_ (fun i σ G _ z => ?_) (fun i x σ G hx z => ?_) (fun σ G z => ?_)⟩
      · exact ⟨fa, none, [], rfl, s2, upd_same, by rw [upd_ne (fun z => by rw [← z, upd_same] at np; cases np), upd_same]; rfl, Nat.zero_le _, fun k => by simp⟩
      · obtain ⟨l, y, ys, _, _, gp, _⟩ := z
        exact SqT.of gp
      · obtain ⟨l, y, ys, rfl, sG, gp, gl, ly, hy⟩ := z
        obtain ⟨c, hc, rc⟩ := (hk.tk (Tk.of sG)).get hx
        have hcm := RpL.mem (H := H) (vs := us) hc
        have hd := Kd.kids_dp hcm
        have hi2 : i < 2 := by
          have := (List.getElem?_eq_some_iff.mp hc).1
          have := Kd.kids_le t
          omega
        have tk : t.kids.take (i + 1) = t.kids.take i ++ [c] := by rw [List.take_add_one, hc]; rfl
        have hco : ∀ x ∈ c.opens, x ∈ ns := fun x hx' => hns x (by rw [Kd.kids_opens ho]; exact List.mem_flatMap.mpr ⟨c, hcm, hx'⟩)
        refine ⟨_, rfl, _, rfl, x, c, ns, rfl, by omega, rc, ln, hco, fun l2 zs G2 s3 g2 _ zn hz => ?_⟩
        have lz : zs.length ≤ 26 := Nat.le_trans (nd_le zn fun x hx' => hco x ((hz x).mp hx')) ln
        refine ⟨l, l2, _, _, rfl, rfl, s3 _ _ gl, g2, ?_, fun l3 n3 => ⟨l3, _, ys ++ zs, rfl, (sG.trans s3).trans (newS n3), newS n3 _ _ (s3 _ _ gp), ?_, ?_, fun k => ?_⟩⟩
        · rw [List.length_map, List.length_map]
          exact sz (by omega)
        · rw [upd_same, List.map_append]
        · rw [List.length_append]
          omega
        · rw [tk, List.flatMap_append, List.mem_append, List.mem_append, hy k, hz k]
          simp only [List.flatMap_cons, List.flatMap_nil, List.append_nil]
      · obtain ⟨l, y, ys, rfl, sG, gp, gl, ly, hy⟩ := z
        rw [← hk.len, List.take_length, ← Kd.kids_opens ho] at hy
        have lk := Kd.kids_le t
        have ly' : ys.length ≤ 52 := by
          rw [← hk.len] at ly
          omega
        refine ⟨_, rfl, l, ys, rfl, SqL.of gl, ?_, fun D m hm nD => ?_⟩
        · have : scanBound = 4096 := rfl
          omega
        · refine ⟨D, _, m, rfl, upd_same, by omega, fun zs l2 hs hd hmm _ nl2 => q l2 zs _ (sG.trans ((newS nD).trans (newS nl2))) upd_same hs hd fun k => ?_⟩
          rw [hmm k, ← hy k]
          show decide (k ∈ ys) = true ↔ _
          exact decide_eq_true_iff
    · exact absurd rfl e
theorem okLOpens {f : Addr} {fd : FuncData} (F : Fun K "_law_opens" "_law_opens" tLOpens f fd) (bF : Binds K fd ["_law_kind"] []) (gF : mg "_law_opens" = some (.ref f)) (ms : mg "sorted" = none) (mt : mg "set" = none) : ∀ n, FnOk P w K mg base CX0 (n + 1) f fd ["_law_kind"] (spLOpens n)
  | 0 => noFn fun vs H Q E h => by
    obtain ⟨v, t, ns, _, hn, _⟩ := h
    omega
  | n + 1 => okLOpens1 F bF gF ms mt (okLOpens F bF gF ms mt n)
end
end Kq

namespace Kq
open PySem PySem.Spec PyProof.Rows L2
namespace Kd
def fill (f : Str → Option Kd) : Kd → Kd
  | opn x => (f x).getD (opn x)
  | num => num
  | tru => tru
  | pair a b => pair (fill f a) (fill f b)
  | eith a b => eith (fill f a) (fill f b)
  | lst a => lst (fill f a)
  | fn a b => fn (fill f a) (fill f b)
end Kd
theorem Rp.build {H : Hp} {t : Kd} {f : Str → Option Kd} {p : Addr} {ws : List V} (h : t.isOp = false) (hp : H p = some (.tup (.str t.word :: ws))) (r : RpL H (t.kids.map (Kd.fill f)) ws) : Rp H (t.fill f) (.ref p) := by
  cases t with
  | opn x => cases h
  | num =>
    cases ws with
    | nil => exact ⟨p, rfl, hp⟩
    | cons a b => exact r.elim
  | tru =>
    cases ws with
    | nil => exact ⟨p, rfl, hp⟩
    | cons a b => exact r.elim
  | pair a b =>
    cases ws with
    | nil => exact r.elim
    | cons x ws =>
      cases ws with
      | nil => exact r.2.elim
      | cons y ws =>
        cases ws with
        | nil => exact ⟨p, x, y, rfl, hp, r.1, r.2.1⟩
        | cons _ _ => exact r.2.2.elim
  | eith a b =>
    cases ws with
    | nil => exact r.elim
    | cons x ws =>
      cases ws with
      | nil => exact r.2.elim
      | cons y ws =>
        cases ws with
        | nil => exact ⟨p, x, y, rfl, hp, r.1, r.2.1⟩
        | cons _ _ => exact r.2.2.elim
  | lst a =>
    cases ws with
    | nil => exact r.elim
    | cons x ws =>
      cases ws with
      | nil => exact ⟨p, x, rfl, hp, r.1⟩
      | cons _ _ => exact r.2.elim
  | fn a b =>
    cases ws with
    | nil => exact r.elim
    | cons x ws =>
      cases ws with
      | nil => exact r.2.elim
      | cons y ws =>
        cases ws with
        | nil => exact ⟨p, x, y, rfl, hp, r.1, r.2.1⟩
        | cons _ _ => exact r.2.2.elim
/-- what is told of a name -/
def RV (H : Hp) : Option Kd → Option V → Prop
  | some t, some v => Rp H t v
  | none, none => True
  | _, _ => False
theorem RV.tk {H G : Hp} (k : Tk H G) : ∀ {o : Option Kd} {v : Option V}, RV H o v → RV G o v
  | some _, some _, h => Rp.tk k h
  | none, none, _ => trivial
  | some _, none, h => h.elim
  | none, some _, h => h.elim
/-- a dict of kinds by names -/
def DR (H : Hp) (a : Addr) (f : Str → Option Kd) : Prop := ∃ kvs : List (Key × V), H a = some (.dK kvs) ∧ ∀ x : Str, RV H (f x) (valV kvs (.inr x))
theorem DR.same {H G : Hp} {a : Addr} {f : Str → Option Kd} (h : DR H a f) (s : Same H G) : DR G a f := by
  obtain ⟨kvs, e, r⟩ := h
  exact ⟨kvs, s _ _ e, fun x => (r x).tk (Tk.of s)⟩
theorem DR.get {H : Hp} {a : Addr} {f : Str → Option Kd} (h : DR H a f) (x : Str) : ∃ o : Option V, DGet H a (.str x) o ∧ IsD H a ∧ ∀ (v : V), Rp H (.opn x) v → Rp H ((f x).getD (.opn x)) (o.getD v) := by
  obtain ⟨kvs, e, r⟩ := h
  refine ⟨valV kvs (.inr x), .inl ⟨kvs, .inr x, .inl e, rfl, rfl⟩, .inl ⟨kvs, .inl e⟩, fun v rv => ?_⟩
  have := r x
  cases hf : f x with
  | none =>
    rw [hf] at this
    cases hv : valV kvs (.inr x) with
    | none => exact rv
    | some u => rw [hv] at this; exact this.elim
  | some t =>
    rw [hf] at this
    cases hv : valV kvs (.inr x) with
    | none => rw [hv] at this; exact this.elim
    | some u => rw [hv] at this; exact this
theorem catAK {X : Cx} (K : PySem.W.Frag) (h : X.K = K) : OpR X (binaryOp .Add) (rCatA K) := by
  subst h
  exact op_catA
abbrev tFilled : Stmt := tp 8
abbrev tPutIn : Stmt := tp 9
abbrev tLPut : Stmt := tp 19
abbrev tSo : Stmt := tp 23
section
variable {P : Program} {w : World} {K : PySem.W.Frag} {mg : Str → Option Value} {base : Heap}
/-! put_in -/
theorem scPutIn : FnScope ["kind", "put", "parts", "part"] ["kind", "put"] (defScope tPutIn) := ⟨rfl, rfl, rfl, by decide +kernel, rfl, by decide +kernel, by decide +kernel⟩
def spPutIn (n : Nat) : Sp := fun vs H Q _ => ∃ (v : V) (a : Addr) (t : Kd) (f : Str → Option Kd), vs = [v, .ref a] ∧ t.dp + 1 ≤ n ∧ Rp H t v ∧ DR H a f ∧ ∀ (u : V) (G : Hp), Same H G → Rp G (t.fill f) u → Q u G
theorem okPutIn1 {f : Addr} {fd : FuncData} {n : Nat} (F : Fun K "put_in" "put_in" tPutIn f fd) (bF : Binds K fd ["kind", "put"] []) (gF : mg "put_in" = some (.ref f)) (mt : mg "tuple" = none) (GI : FnOk P w K mg base CX0 (n + 1) f fd ["kind", "put"] (spPutIn n)) :
    FnOk P w K mg base CX0 (n + 2) f fd ["kind", "put"] (spPutIn (n + 1)) := by
  refine F.ok scPutIn (fun vs H Q E h => ?_) (fun cdv A outer s H vs Q E hr h => ?_)
  · obtain ⟨v, a, t, g, rfl, _⟩ := h
    rfl
  obtain ⟨v, da, t, g, rfl, hn, r, hd, q⟩ := h
  obtain ⟨a, us, rfl, ha, hu⟩ := r.see
  refine ⟨_, pss_cons (ps_if (pt_cmpR op_eq (pe_ix ix_tup (pv 0) pe_int (fun _ _ => rfl)) pe_str (nomark _)) (pss_one (ps_ret (pe_dget2 (hu_of hr) (pv 1) (pe_ix ix_tup (pv 0) pe_int (fun _ _ => rfl)) (pv 0) ⟨rfl, rfl, rfl, rfl⟩))) pss_nil)
    (pss_cons (ps_set (i := 2) scPutIn.nd rfl (.inl rfl) (pe_lst (pa_cons (pe_ix ix_tup (pv 0) pe_int (fun _ _ => rfl)) pa_nil)))
    (pss_cons (ps_for PassesOwn.never rfl (pi_tup (pe_slice sl_tup (pv 0) (po_some pe_int) po_none)) (pg_name (i := 3) scPutIn.nd rfl (.inl rfl))
      (pss_one (ps_expr (pe_bm PySem.F.plainAttrs_list PySem.F.slot_list_append PySem.F.type_list_append mt_append (pv 2) (pa_cons (pe_call GI hr (by rfl) gF F.kp bF .nil pass0 (pa_cons (pv 3) (pa_cons (pv 1) pa_nil))) pa_nil)))))
    (pss_one (ps_ret (pe_callTy call_tuple_of (by rfl) mt PyProof.Rows.boot_tuple (pa_cons (pv 2) pa_nil)))))), ?_⟩
  refine ⟨_, rfl, a, _, _, _, rfl, rfl, SqT.of ha, atI_nat (j := 0) rfl, rfl, _, rfl, ?_⟩
  rw [Kd.isOp_word]
  refine ite2 (fun e => ?_) (fun e => ?_)
  · rcases hu with hu | ⟨x, rfl, rfl⟩
    · rw [hu.1] at e
      cases e
    · obtain ⟨o, h1, h2, h3⟩ := hd.get x
      exact ⟨_, rfl, da, rfl, h2, _, rfl, a, _, _, _, rfl, rfl, SqT.of ha, atI_nat (j := 1) rfl, _, rfl, o, h1, q _ H (Same.refl H) (h3 _ r)⟩
  · rcases hu with hu | ⟨x, rfl, rfl⟩
    · have ho : t.isOp = false := hu.1
      have hk := hu.2
      refine ⟨_, rfl, a, _, _, _, rfl, rfl, SqT.of ha, atI_nat (j := 0) rfl, (by show 1 ≤ sizeLine; decide), fun l nl => ⟨_, rfl, 1, rfl, a, _, rfl, SqT.of (newS nl _ _ ha), notWhole _ _, fun p np => ?_⟩⟩
      rw [cutFrom1]
      have lp : l ≠ p := fun z => by
        rw [← z, upd_same] at np
        cases np
      have s2 : Same H (upd (upd H l (.lst [V.str t.word])) p (.tup us)) := (newS nl).trans (newS np)
      refine ⟨p, rfl, ⟨_, SqT.of upd_same⟩, for_tup (xs := us) (fun i σ G => ∃ (y : Option V) (ws : List V), σ = [some (.ref a), some (.ref da), some (.ref l), y] ∧ Same H G ∧ G p = some (.tup us) ∧ G l = some (.lst (.str t.word :: ws)) ∧ RpL G ((t.kids.take i).map (Kd.fill g)) ws) ?_ (fun i σ G _ z => ?_) (fun i x σ G hx z => ?_) (fun σ G z => ?_)⟩
      · exact ⟨none, [], rfl, s2, upd_same, by rw [upd_ne lp, upd_same], trivial⟩
      · obtain ⟨y, ws, _, _, gp, _⟩ := z
        exact SqT.of gp
      · obtain ⟨y, ws, rfl, sG, gp, gl, rw'⟩ := z
        obtain ⟨c, hc, rc⟩ := (hk.tk (Tk.of sG)).get hx
        have hcm := RpL.mem (H := H) (vs := us) hc
        have hdp := Kd.kids_dp hcm
        have li := (List.getElem?_eq_some_iff.mp hc).1
        have lk := Kd.kids_le t
        have lw := rw'.len
        rw [List.length_map, List.length_take] at lw
        have tk : t.kids.take (i + 1) = t.kids.take i ++ [c] := by rw [List.take_add_one, hc]; rfl
        refine ⟨_, rfl, .inl ⟨rfl, _, SqL.of gl⟩, _, rfl, _, rfl, x, da, c, g, rfl, by omega, rc, hd.same sG, fun u G2 s3 ru => ?_⟩
        have gl2 := s3 _ _ gl
        have t1 : Tk G (upd G2 l (.lst (V.str t.word :: ws ++ [u]))) := (Tk.of s3).put (fun _ z => by rw [gl] at z; cases z)
        have t2 : Tk G2 (upd G2 l (.lst (V.str t.word :: ws ++ [u]))) := Tk.rfl.put (fun _ z => by rw [gl2] at z; cases z)
        refine ⟨l, _, u, rfl, rfl, gl2, ?_, _, ws ++ [u], rfl, smk (sG.trans s3) nl, ?_, upd_same, ?_⟩
        · rw [List.length_cons]
          exact small1000 (by omega)
        · rw [upd_ne lp.symm]
          exact s3 _ _ gp
        · rw [tk, List.map_append]
          exact RpL.app (us := [c.fill g]) (ws := [u]) (rw'.tk t1) ⟨ru.tk t2, trivial⟩
      · obtain ⟨y, ws, rfl, sG, gp, gl, rw'⟩ := z
        rw [← hk.len, List.take_length] at rw'
        refine ⟨_, rfl, l, _, rfl, .inl ⟨SqL.of gl, fun m nm => ?_⟩⟩
        have s := newS (o := .tup (V.str t.word :: ws)) nm
        exact q _ _ (sG.trans s) (Rp.build ho upd_same (rw'.tk (Tk.of s)))
    · exact absurd rfl e
theorem okPutIn {f : Addr} {fd : FuncData} (F : Fun K "put_in" "put_in" tPutIn f fd) (bF : Binds K fd ["kind", "put"] []) (gF : mg "put_in" = some (.ref f)) (mt : mg "tuple" = none) : ∀ n, FnOk P w K mg base CX0 (n + 1) f fd ["kind", "put"] (spPutIn n)
  | 0 => noFn fun vs H Q E h => by
    obtain ⟨v, a, t, g, _, hn, _⟩ := h
    omega
  | n + 1 => okPutIn1 F bF gF mt (okPutIn F bF gF mt n)
/-! _law_put_in -/
theorem scLPut : FnScope ["_law_kind", "_law_table", "_law_part"] ["_law_kind", "_law_table"] (defScope tLPut) := ⟨rfl, rfl, rfl, by decide +kernel, rfl, by decide +kernel, by decide +kernel⟩
theorem okLPut1 {f : Addr} {fd : FuncData} {n : Nat} (F : Fun K "_law_put_in" "_law_put_in" tLPut f fd) (bF : Binds K fd ["_law_kind", "_law_table"] []) (gF : mg "_law_put_in" = some (.ref f)) (mt : mg "tuple" = none) (GI : FnOk P w K mg base CX0 (n + 1) f fd ["_law_kind", "_law_table"] (spPutIn n)) :
    FnOk P w K mg base CX0 (n + 2) f fd ["_law_kind", "_law_table"] (spPutIn (n + 1)) := by
  refine F.ok scLPut (fun vs H Q E h => ?_) (fun cdv A outer s H vs Q E hr h => ?_)
  · obtain ⟨v, a, t, g, rfl, _⟩ := h
    rfl
  obtain ⟨v, da, t, g, rfl, hn, r, hd, q⟩ := h
  obtain ⟨a, us, rfl, ha, hu⟩ := r.see
  refine ⟨_, pss_cons (ps_if (pt_cmpR op_eq (pe_ix ix_tup (pv 0) pe_int (fun _ _ => rfl)) pe_str (nomark _)) (pss_one (ps_ret (pe_dget2 (hu_of hr) (pv 1) (pe_ix ix_tup (pv 0) pe_int (fun _ _ => rfl)) (pv 0) ⟨rfl, rfl, rfl, rfl⟩))) pss_nil)
    (pss_one (ps_ret (pe_op op_catA (pe_slice sl_tupA (pv 0) po_none (po_some pe_int)) (pe_callTy call_tuple_of (by rfl) mt PyProof.Rows.boot_tuple (pa_cons
      (pe_lc (own := [("_law_part", 2)]) (g := gName 2) (by rfl) scLPut.nd (pi_tup (pe_slice sl_tup (pv 0) (po_some pe_int) po_none)) (blkOk_by (own := [("_law_part", 2)]) (N := ["_law_kind", "_law_table", "_law_part"]) (sc := defScope tLPut) (by decide +kernel))
        (fun _ _ _ _ _ => pg_name (i := 2) scLPut.nd rfl (.inl rfl)) (fun _ _ _ _ _ => pts_nil)
        (fun _ _ _ _ _ => pe_call GI hr (by rfl) gF F.kp bF .nil pass0 (pa_cons (pv 2) (pa_cons (pv 1) pa_nil)))) pa_nil))))), ?_⟩
  refine ⟨_, rfl, a, _, _, _, rfl, rfl, SqT.of ha, atI_nat (j := 0) rfl, rfl, _, rfl, ?_⟩
  rw [Kd.isOp_word]
  refine ite2 (fun e => ?_) (fun e => ?_)
  · rcases hu with hu | ⟨x, rfl, rfl⟩
    · rw [hu.1] at e
      cases e
    · obtain ⟨o, h1, h2, h3⟩ := hd.get x
      exact ⟨_, rfl, da, rfl, h2, _, rfl, a, _, _, _, rfl, rfl, SqT.of ha, atI_nat (j := 1) rfl, _, rfl, o, h1, q _ H (Same.refl H) (h3 _ r)⟩
  · rcases hu with hu | ⟨x, rfl, rfl⟩
    · have ho : t.isOp = false := hu.1
      have hk := hu.2
      refine ⟨_, rfl, 1, rfl, a, _, rfl, SqT.of ha, (fun hw => ?_), (fun hw p0 np0 => ?_)⟩
      · have us0 : us = [] := by
          have h2 := hw.2
          rw [show HT.sIx (V.str t.word :: us).length (V.str t.word :: us).length (some 1) = min 1 (V.str t.word :: us).length from HT.sIx_nat _ _ 1, List.length_cons] at h2
          exact List.length_eq_zero_iff.mp (by omega)
        have gb : H a = some (.tup [V.str t.word]) := by
          rw [← us0]
          exact ha
        have sG0 : Same H H := Same.refl H
        refine ⟨_, rfl, 1, rfl, a, _, rfl, SqT.of (sG0 _ _ ha), notWhole _ _, fun p np => ?_⟩
        rw [cutFrom1]
        refine ⟨p, rfl, ⟨_, SqT.of upd_same⟩, fun D nD => ?_⟩
        have sp := newS (o := .tup us) np
        have pD : p ≠ D := fun z => by
          rw [← z, upd_same] at nD
          cases nD
        have bD : a ≠ D := ne_of_none (sp _ _ gb) nD
        have s1 := sG0.trans sp
        have hD : H D = none := s1.free nD
        refine lc_tup (xs := us) (fun i G => Same H G ∧ G p = some (.tup us) ∧ G a = some (.tup [V.str t.word]) ∧ ∃ ws, G D = some (.lst ws) ∧ RpL G ((t.kids.take i).map (Kd.fill g)) ws) ?_ (fun i G _ z => SqT.of z.2.1) (fun i x G hx z => ?_) (fun G z => ?_)
        · exact ⟨smk s1 hD, by rw [upd_ne pD, upd_same], by rw [upd_ne bD]; exact sp _ _ gb, [], upd_same, trivial⟩
        · obtain ⟨sG, gp, gB, ws, gD, rw'⟩ := z
          obtain ⟨c, hc, rc⟩ := (hk.tk (Tk.of sG)).get hx
          have hcm := RpL.mem (H := H) (vs := us) hc
          have hdp := Kd.kids_dp hcm
          have li := (List.getElem?_eq_some_iff.mp hc).1
          have lk := Kd.kids_le t
          have lw := rw'.len
          rw [List.length_map, List.length_take] at lw
          have tk : t.kids.take (i + 1) = t.kids.take i ++ [c] := by rw [List.take_add_one, hc]; rfl
          refine ⟨rfl, _, rfl, _, rfl, x, da, c, g, rfl, by omega, rc, hd.same sG, fun u G2 s3 ru => ?_⟩
          have gD2 := s3 _ _ gD
          have t1 : Tk G (upd G2 D (.lst (ws ++ [u]))) := (Tk.of s3).put (fun _ z => by rw [gD] at z; cases z)
          have t2 : Tk G2 (upd G2 D (.lst (ws ++ [u]))) := Tk.rfl.put (fun _ z => by rw [gD2] at z; cases z)
          refine ⟨_, gD2, small1000 (by omega), smk (sG.trans s3) hD, by rw [upd_ne pD]; exact s3 _ _ gp, by rw [upd_ne bD]; exact s3 _ _ gB, ws ++ [u], upd_same, ?_⟩
          rw [tk, List.map_append]
          exact RpL.app (us := [c.fill g]) (ws := [u]) (rw'.tk t1) ⟨ru.tk t2, trivial⟩
        · obtain ⟨sG, gp, gB, ws, gD, rw'⟩ := z
          rw [← hk.len, List.take_length] at rw'
          have lk := Kd.kids_le t
          have lw := rw'.len
          rw [List.length_map] at lw
          refine ⟨D, _, rfl, .inl ⟨SqL.of gD, fun m nm => ?_⟩⟩
          have sm := newS (o := .tup ws) nm
          refine ⟨a, m, _, _, rfl, rfl, SqT.of (sm _ _ gB), SqT.of upd_same, sz (by simp only [List.length_cons, List.length_nil]; omega), (fun z => nomatch z), (fun _ z => ?_), fun _ _ p2 np2 => ?_⟩
          · subst z
            exact q _ _ (sG.trans sm) (Rp.build ho (sm _ _ gB) (rw'.tk (Tk.of sm)))
          · have s4 := newS (o := .tup ([V.str t.word] ++ ws)) np2
            exact q _ _ ((sG.trans sm).trans s4) (Rp.build ho upd_same ((rw'.tk (Tk.of sm)).tk (Tk.of s4)))
      · have e1 : cutV (V.str t.word :: us) none (some 1) = [V.str t.word] := by
          rw [show (some (1 : Int)) = some ((1 : Nat) : Int) from rfl, cutTo (by simp)]
          rfl
        rw [e1]
        have sG0 := newS (o := .tup [V.str t.word]) np0
        have gb : (upd H p0 (.tup [V.str t.word])) p0 = some (.tup [V.str t.word]) := upd_same
        generalize upd H p0 (.tup [V.str t.word]) = G0 at sG0 gb
        refine ⟨_, rfl, 1, rfl, a, _, rfl, SqT.of (sG0 _ _ ha), notWhole _ _, fun p np => ?_⟩
        rw [cutFrom1]
        refine ⟨p, rfl, ⟨_, SqT.of upd_same⟩, fun D nD => ?_⟩
        have sp := newS (o := .tup us) np
        have pD : p ≠ D := fun z => by
          rw [← z, upd_same] at nD
          cases nD
        have bD : p0 ≠ D := ne_of_none (sp _ _ gb) nD
        have s1 := sG0.trans sp
        have hD : H D = none := s1.free nD
        refine lc_tup (xs := us) (fun i G => Same H G ∧ G p = some (.tup us) ∧ G p0 = some (.tup [V.str t.word]) ∧ ∃ ws, G D = some (.lst ws) ∧ RpL G ((t.kids.take i).map (Kd.fill g)) ws) ?_ (fun i G _ z => SqT.of z.2.1) (fun i x G hx z => ?_) (fun G z => ?_)
        · exact ⟨smk s1 hD, by rw [upd_ne pD, upd_same], by rw [upd_ne bD]; exact sp _ _ gb, [], upd_same, trivial⟩
        · obtain ⟨sG, gp, gB, ws, gD, rw'⟩ := z
          obtain ⟨c, hc, rc⟩ := (hk.tk (Tk.of sG)).get hx
          have hcm := RpL.mem (H := H) (vs := us) hc
          have hdp := Kd.kids_dp hcm
          have li := (List.getElem?_eq_some_iff.mp hc).1
          have lk := Kd.kids_le t
          have lw := rw'.len
          rw [List.length_map, List.length_take] at lw
          have tk : t.kids.take (i + 1) = t.kids.take i ++ [c] := by rw [List.take_add_one, hc]; rfl
          refine ⟨rfl, _, rfl, _, rfl, x, da, c, g, rfl, by omega, rc, hd.same sG, fun u G2 s3 ru => ?_⟩
          have gD2 := s3 _ _ gD
          have t1 : Tk G (upd G2 D (.lst (ws ++ [u]))) := (Tk.of s3).put (fun _ z => by rw [gD] at z; cases z)
          have t2 : Tk G2 (upd G2 D (.lst (ws ++ [u]))) := Tk.rfl.put (fun _ z => by rw [gD2] at z; cases z)
          refine ⟨_, gD2, small1000 (by omega), smk (sG.trans s3) hD, by rw [upd_ne pD]; exact s3 _ _ gp, by rw [upd_ne bD]; exact s3 _ _ gB, ws ++ [u], upd_same, ?_⟩
          rw [tk, List.map_append]
          exact RpL.app (us := [c.fill g]) (ws := [u]) (rw'.tk t1) ⟨ru.tk t2, trivial⟩
        · obtain ⟨sG, gp, gB, ws, gD, rw'⟩ := z
          rw [← hk.len, List.take_length] at rw'
          have lk := Kd.kids_le t
          have lw := rw'.len
          rw [List.length_map] at lw
          refine ⟨D, _, rfl, .inl ⟨SqL.of gD, fun m nm => ?_⟩⟩
          have sm := newS (o := .tup ws) nm
          refine ⟨p0, m, _, _, rfl, rfl, SqT.of (sm _ _ gB), SqT.of upd_same, sz (by simp only [List.length_cons, List.length_nil]; omega), (fun z => nomatch z), (fun _ z => ?_), fun _ _ p2 np2 => ?_⟩
          · subst z
            exact q _ _ (sG.trans sm) (Rp.build ho (sm _ _ gB) (rw'.tk (Tk.of sm)))
          · have s4 := newS (o := .tup ([V.str t.word] ++ ws)) np2
            exact q _ _ ((sG.trans sm).trans s4) (Rp.build ho upd_same ((rw'.tk (Tk.of sm)).tk (Tk.of s4)))
    · exact absurd rfl e
theorem okLPut {f : Addr} {fd : FuncData} (F : Fun K "_law_put_in" "_law_put_in" tLPut f fd) (bF : Binds K fd ["_law_kind", "_law_table"] []) (gF : mg "_law_put_in" = some (.ref f)) (mt : mg "tuple" = none) : ∀ n, FnOk P w K mg base CX0 (n + 1) f fd ["_law_kind", "_law_table"] (spPutIn n)
  | 0 => noFn fun vs H Q E h => by
    obtain ⟨v, a, t, g, _, hn, _⟩ := h
    omega
  | n + 1 => okLPut1 F bF gF mt (okLPut F bF gF mt n)
/-! filled_kind -/
/-- a tuple of fills: names and kinds -/
def RF (H : Hp) (p : Addr) (fs : List (Str × Kd)) : Prop := ∃ (o : Obj) (ps : List Addr) (kvs : List (Key × V)), H p = some (.frz o (.tup (ps.map V.ref))) ∧ o.dict = none ∧ o.cls = .type "tuple" ∧ Paired (fun p kv => H p = some (.tup [kV kv.1, kv.2])) ps kvs ∧ Paired (fun (kv : Key × V) (f : Str × Kd) => kv.1 = .inr f.1 ∧ Rp H f.2 kv.2) kvs fs
/-- what the fills tell of a name: the last word -/
def told : List (Str × Kd) → Str → Option Kd
  | [], _ => none
  | f :: fs, x => (told fs x).or (if f.1 = x then some f.2 else none)
theorem merge_rv {H : Hp} {x : Str} : ∀ {kvs : List (Key × V)} {fs : List (Str × Kd)}, Paired (fun (kv : Key × V) (f : Str × Kd) => kv.1 = .inr f.1 ∧ Rp H f.2 kv.2) kvs fs → ∀ (acc : List (Key × V)) (o : Option Kd), RV H o (valV acc (.inr x)) → RV H ((told fs x).or o) (valV (mergeK acc kvs) (.inr x))
  | _, _, .nil, acc, o, h => h
  | _, _, .cons (a := kv) (b := f) (l₁ := kvs) (l₂ := fs) h t, acc, o, r => by
    show RV H (((told fs x).or (if f.1 = x then some f.2 else none)).or o) (valV (mergeK (putK acc kv.1 kv.2) kvs) (.inr x))
    rw [Option.or_assoc]
    refine merge_rv (x := x) t (putK acc kv.1 kv.2) ((if f.1 = x then some f.2 else none).or o) ?_
    · rw [valV_put, h.1]
      by_cases e : f.1 = x
      · rw [if_pos e, if_pos (by rw [e])]
        exact h.2
      · rw [if_neg e, if_neg (fun z => e (Sum.inr.inj z).symm)]
        exact r
theorem RF.same {H G : Hp} {p : Addr} {fs : List (Str × Kd)} (h : RF H p fs) (s : Same H G) : RF G p fs := by
  obtain ⟨o, ps, kvs, h1, h2, h3, h4, h5⟩ := h
  refine ⟨o, ps, kvs, s _ _ h1, h2, h3, ?_, ?_⟩
  · exact Paired.mapP h4 fun _ _ e => s _ _ e
  · exact Paired.mapP h5 fun _ _ e => ⟨e.1, e.2.tk (Tk.of s)⟩
theorem scFilled : FnScope ["kind", "fills"] ["kind", "fills"] (defScope tFilled) := ⟨rfl, rfl, rfl, by decide +kernel, rfl, by decide +kernel, by decide +kernel⟩
def spFilled (n : Nat) : Sp := fun vs H Q _ => ∃ (v : V) (p : Addr) (t : Kd) (fs : List (Str × Kd)), vs = [v, .ref p] ∧ t.dp + 1 ≤ n ∧ Rp H t v ∧ RF H p fs ∧ ∀ (u : V) (G : Hp), Same H G → Rp G (t.fill (told fs)) u → Q u G
theorem okFilled {f fP : Addr} {fd fdP : FuncData} {n : Nat} (F : Fun K "filled_kind" "filled_kind" tFilled f fd) (GP : FnOk P w K mg base CX0 (n + 1) fP fdP ["kind", "put"] (spPutIn n)) (bP : Binds K fdP ["kind", "put"] []) (gP : mg "put_in" = some (.ref fP)) (kP : PySem.W.keepIn K (.ref fP) = true) (md : mg "dict" = none) :
    FnOk P w K mg base CX0 (n + 2) f fd ["kind", "fills"] (spFilled n) := by
  refine F.ok scFilled (fun vs H Q E h => ?_) (fun cdv A outer s H vs Q E hr h => ?_)
  · obtain ⟨v, p, t, fs, rfl, _⟩ := h
    rfl
  obtain ⟨v, p, t, fs, rfl, hn, r, ⟨o, ps, kvs, h1, h2, h3, h4, h5⟩, q⟩ := h
  refine ⟨_, pss_one (ps_ret (pe_call GP hr (by rfl) gP kP bP .nil pass0 (pa_cons (pv 0) (pa_cons (pe_callTy (Kt.call_dictF rfl) (by rfl) md PyProof.Rows.boot_dict (pa_cons (pv 1) pa_nil)) pa_nil)))), ?_⟩
  refine ⟨_, rfl, _, rfl, p, o, ps, kvs, rfl, h1, h2, h3, Paired.mapP h4 fun _ _ e => SqT.of e, fun a na => ?_⟩
  have s' := newS (o := .dK (mergeK [] kvs)) na
  refine ⟨v, a, t, told fs, rfl, hn, r.tk (Tk.of s'), ⟨_, upd_same, fun x => ?_⟩, fun u G sG ru => q u G (s'.trans sG) ru⟩
  have z := merge_rv (H := H) (x := x) h5 [] none trivial
  rw [Option.or_none] at z
  exact z.tk (Tk.of s')
/-! _law_is_so -/
def So (H : Hp) (n : Nat) (vf vd : V) : Prop := (∃ x : Str, vf = .str x ∧ vd = .str x ∧ 1 ≤ n) ∨ ∃ t : Kd, Rp H t vf ∧ Rp H t vd ∧ t.dp + 2 ≤ n
theorem So.same {H G : Hp} {n : Nat} {vf vd : V} (h : So H n vf vd) (s : Same H G) : So G n vf vd := by
  rcases h with h | ⟨t, a, b, c⟩
  · exact .inl h
  · exact .inr ⟨t, a.tk (Tk.of s), b.tk (Tk.of s), c⟩
theorem so_items {H : Hp} {t : Kd} {vf vd : V} {n : Nat} (hf : Rp H t vf) (hd : Rp H t vd) (hn : t.dp + 2 ≤ n + 1) : ∃ a b xs ys, vf = .ref a ∧ vd = .ref b ∧ H a = some (.tup xs) ∧ H b = some (.tup ys) ∧ xs.length = ys.length ∧ ys.length ≤ 3 ∧ ∀ k, k < ys.length → ∃ x y, xs[k]? = some x ∧ ys[k]? = some y ∧ So H n x y := by
  obtain ⟨a, us, rfl, ha, hu⟩ := hf.see
  obtain ⟨b, ws, rfl, hb, hw⟩ := hd.see
  have lk := Kd.kids_le t
  refine ⟨a, b, _, _, rfl, rfl, ha, hb, ?_⟩
  rcases hu with hu | ⟨x, rfl, rfl⟩
  · rcases hw with hw | ⟨y, rfl, _⟩
    · have l1 := hu.2.len
      have l2 := hw.2.len
      refine ⟨by rw [List.length_cons, List.length_cons]; omega, by rw [List.length_cons]; omega, fun k hk => ?_⟩
      cases k with
      | zero => exact ⟨_, _, rfl, rfl, .inl ⟨_, rfl, rfl, by omega⟩⟩
      | succ k =>
        rw [List.length_cons] at hk
        have k1 : k < us.length := by omega
        have k2 : k < ws.length := by omega
        obtain ⟨c1, h1, r1⟩ := hu.2.get (List.getElem?_eq_getElem k1)
        obtain ⟨c2, h2, r2⟩ := hw.2.get (List.getElem?_eq_getElem k2)
        rw [h1] at h2
        cases h2
        have hdp := Kd.kids_dp (List.mem_of_getElem? h1)
        exact ⟨_, _, by rw [List.getElem?_cons_succ, List.getElem?_eq_getElem k1], by rw [List.getElem?_cons_succ, List.getElem?_eq_getElem k2], .inr ⟨c1, r1, r2, by omega⟩⟩
    · exact absurd hu.1 (by simp [Kd.isOp])
  · rcases hw with hw | ⟨y, e, rfl⟩
    · exact absurd hw.1 (by simp [Kd.isOp])
    · cases e
      refine ⟨rfl, by show 2 ≤ 3; decide, fun k hk => ?_⟩
      have hk2 : k < 2 := hk
      have : k = 0 ∨ k = 1 := by omega
      rcases this with rfl | rfl
      · exact ⟨_, _, rfl, rfl, .inl ⟨_, rfl, rfl, by omega⟩⟩
      · exact ⟨_, _, rfl, rfl, .inl ⟨_, rfl, rfl, by omega⟩⟩
theorem scSo : FnScope ["_law_found", "_law_due", "_law_k"] ["_law_found", "_law_due"] (defScope tSo) := ⟨rfl, rfl, rfl, by decide +kernel, rfl, by decide +kernel, by decide +kernel⟩
def spSo (n : Nat) : Sp := fun vs H Q _ => ∃ (vf vd : V), vs = [vf, vd] ∧ So H n vf vd ∧ ∀ G : Hp, Same H G → Q (.bl true) G
theorem okSo1 {f : Addr} {fd : FuncData} {n : Nat} (F : Fun K "_law_is_so" "_law_is_so" tSo f fd) (bF : Binds K fd ["_law_found", "_law_due"] []) (gF : mg "_law_is_so" = some (.ref f)) (mi : mg "isinstance" = none) (mt : mg "tuple" = none) (mst : mg "str" = none) (mn : mg "len" = none) (mr : mg "range" = none)
    (GI : FnOk P w K mg base CX0 (n + 1) f fd ["_law_found", "_law_due"] (spSo n)) : FnOk P w K mg base CX0 (n + 2) f fd ["_law_found", "_law_due"] (spSo (n + 1)) := by
  refine F.ok scSo (fun vs H Q E h => ?_) (fun cdv A outer s H vs Q E hr h => ?_)
  · obtain ⟨vf, vd, rfl, _⟩ := h
    rfl
  obtain ⟨vf, vd, rfl, so, q⟩ := h
  refine ⟨_, pss_cons (ps_if (pt_val (pe_callB (isiK K rfl) (by rfl) mi PyProof.Rows.boot_isinstance (pa_cons (pv 1) (pa_cons (pe_bltn (v := .ty "tuple") (by rfl) mt PyProof.Rows.boot_tuple rfl) pa_nil))))
      (pss_cons (ps_if (PW.pt (pw_or (pt_not (pt_val (pe_callB (isiK K rfl) (by rfl) mi PyProof.Rows.boot_isinstance (pa_cons (pv 0) (pa_cons (pe_bltn (v := .ty "tuple") (by rfl) mt PyProof.Rows.boot_tuple rfl) pa_nil))))) (pw_or1 (pt_cmpR op_ne (pe_callB call_len_seq (by rfl) mn PySem.boot_len (pa_cons (pv 0) pa_nil)) (pe_callB call_len_seq (by rfl) mn PySem.boot_len (pa_cons (pv 1) pa_nil)) (nomark _))))) (pss_one (ps_ret pe_bl)) pss_nil)
      (pss_one (ps_ret (pe_cmpR (op_eqD hr.units) (pe_lc (own := [("_law_k", 2)]) (g := gName 2) (by rfl) scSo.nd (pi_range1 (by rfl) mr (pa_cons (pe_callB call_len_seq (by rfl) mn PySem.boot_len (pa_cons (pv 1) pa_nil)) pa_nil)) (blkOk_by (own := [("_law_k", 2)]) (N := ["_law_found", "_law_due", "_law_k"]) (sc := defScope tSo) (by decide +kernel))
        (fun _ _ _ _ _ => pg_name (i := 2) scSo.nd rfl (.inl rfl)) (fun _ _ _ _ _ => pts_one (pt_not (pt_val (pe_call GI hr (by rfl) gF F.kp bF .nil pass0 (pa_cons (pe_ix (ixTK K rfl) (pv 0) (pv 2) (fun _ _ => rfl)) (pa_cons (pe_ix (ixTK K rfl) (pv 1) (pv 2) (fun _ _ => rfl)) pa_nil)))))) (fun _ _ _ _ _ => pv 2)) (pe_lst pa_nil) (nomark _))))) pss_nil)
    (pss_one (ps_ret (pe_and (pe_callB (isiK K rfl) (by rfl) mi PyProof.Rows.boot_isinstance (pa_cons (pv 0) (pa_cons (pe_bltn (v := .ty "str") (by rfl) mst (by decide +kernel) rfl) pa_nil))) (pe_one (pe_cmpR op_eq (pv 0) (pv 1) (nomark _)))))), ?_⟩
  rcases so with ⟨x, rfl, rfl, _⟩ | ⟨t, hf, hd, hn⟩
  · refine ⟨_, rfl, _, _, _, _, false, rfl, .ty "tuple", .base (.str x), kit_ty (by decide +kernel), _, rfl, ?_⟩
    refine ⟨_, rfl, _, _, _, _, true, rfl, .ty "str", .base (.str x), kit_ty (by decide +kernel), _, rfl, ?_⟩
    refine ⟨_, rfl, _, rfl, rfl, ?_⟩
    have z := q H (Same.refl H)
    have e : decide (V.str x = V.str x) = true := decide_eq_true rfl
    rw [e]
    exact z
  · obtain ⟨a, b, xs, ys, rfl, rfl, ha, hb, hl, l3, item⟩ := so_items hf hd hn
    refine ⟨_, rfl, _, _, _, _, true, rfl, .ty "tuple", .base (.tup hb), kit_ty (by decide +kernel), _, rfl, ?_⟩
    refine ⟨_, rfl, _, _, _, _, true, rfl, .ty "tuple", .base (.tup ha), kit_ty (by decide +kernel), _, rfl, ?_⟩
    refine ⟨_, rfl, a, _, rfl, .inr (SqT.of ha), _, rfl, b, _, rfl, .inr (SqT.of hb), rfl, _, rfl, ?_⟩
    have e : decide (V.int (xs.length : Int) = V.int (ys.length : Int)) = true := decide_eq_true (by rw [hl])
    rw [e]
    refine iteF ?_
    refine ⟨_, rfl, b, _, rfl, .inr (SqT.of hb), (ys.length : Int), rfl, by omega, by omega, fun D nD => ?_⟩
    refine lc_range (lo := 0) (n := (ys.length : Int).toNat) (fun i G => Same H G ∧ G D = some (.lst [])) ⟨newS nD, upd_same⟩ (fun i G hi z => ?_) (fun G z => ?_)
    · obtain ⟨sG, gD⟩ := z
      rw [Int.toNat_natCast] at hi
      obtain ⟨x, y, h1, h2, so⟩ := item i hi
      have e0 : (0 : Int) + (i : Int) = ((i : Nat) : Int) := by omega
      refine ⟨rfl, _, rfl, _, rfl, a, _, _, x, rfl, rfl, SqT.of (sG _ _ ha), by rw [e0]; exact atI_nat h1, _, rfl, _, rfl, b, _, _, y, rfl, rfl, SqT.of (sG _ _ hb), by rw [e0]; exact atI_nat h2, x, y, rfl, so.same sG, fun G2 s3 => ⟨_, rfl, ?_⟩⟩
      exact iteF ⟨sG.trans s3, s3 _ _ gD⟩
    · obtain ⟨sG, gD⟩ := z
      refine ⟨Nat.zero_le _, fun e ne => ⟨.list [], .list [], .lst (SqL.of (newS ne _ _ gD)) .nil, .lst (SqL.of upd_same) .nil, rfl, rfl, ?_⟩⟩
      exact q _ (sG.trans (newS ne))
theorem okSo {f : Addr} {fd : FuncData} (F : Fun K "_law_is_so" "_law_is_so" tSo f fd) (bF : Binds K fd ["_law_found", "_law_due"] []) (gF : mg "_law_is_so" = some (.ref f)) (mi : mg "isinstance" = none) (mt : mg "tuple" = none) (mst : mg "str" = none) (mn : mg "len" = none) (mr : mg "range" = none) : ∀ n, FnOk P w K mg base CX0 (n + 1) f fd ["_law_found", "_law_due"] (spSo n)
  | 0 => noFn fun vs H Q E h => by
    obtain ⟨vf, vd, _, so, _⟩ := h
    rcases so with ⟨_, _, _, h⟩ | ⟨_, _, _, h⟩ <;> omega
  | n + 1 => okSo1 F bF gF mi mt mst mn mr (okSo F bF gF mi mt mst mn mr n)
end
end Kq

namespace Kq
open PySem PySem.Spec PyProof.Rows L2
theorem Paired.snoc {α β : Type} {R : α → β → Prop} : ∀ {l : List α} {m : List β} {a : α} {b : β}, Paired R l m → R a b → Paired R (l ++ [a]) (m ++ [b])
  | _, _, _, _, .nil, h => .cons h .nil
  | _, _, _, _, .cons h t, k => .cons h (Paired.snoc t k)
abbrev tFills : Stmt := tp 21
abbrev psFills : List Str := ["_law_deck_here", "_law_way", "_law_names_here"]
abbrev nFills : List Str := ["_law_deck_here", "_law_way", "_law_names_here", "_law_name", "_law_some", "_law_found", "_law_k", "_law_told"]
section
variable {P : Program} {w : World} {K : PySem.W.Frag} {mg : Str → Option Value} {base : Heap}
theorem scFills : FnScope nFills psFills (defScope tFills) := ⟨rfl, rfl, rfl, by decide +kernel, rfl, by decide +kernel, by decide +kernel⟩
def spFills : Sp := fun vs H Q _ => ∃ (d c o : Addr) (xs : List Str) (way : Int), vs = [.ref d, .int way, .ref o] ∧ Dk H d c ∧ H o = some (.lst (xs.map V.str)) ∧ o ≠ d ∧ o ≠ c ∧ xs.length ≤ 26 ∧ (∀ x ∈ xs, Nm x) ∧ xs.Nodup ∧
  ∀ (p : Addr) (fs : List (Str × Kd)) (G : Hp), Kp d c H G → Dk G d c → RF G p fs → (fs.map (·.1)).Nodup → (∀ f ∈ fs, f.1 ∈ xs ∧ Bd 2 7 xs f.2) → Q (.ref p) G
theorem okFills {f fD fT : Addr} {fd fdD fdT : FuncData} (F : Fun K "_law_fills" "_law_fills" tFills f fd)
    (GD : FnOk P w K mg base CX0 6 fD fdD ["_law_deck_here", "_law_most"] spDraw) (bD : Binds K fdD ["_law_deck_here", "_law_most"] []) (gD : mg "_law_draw" = some (.ref fD)) (kD : PySem.W.keepIn K (.ref fD) = true)
    (GT : FnOk P w K mg base CX0 6 fT fdT psData (spData 4)) (bT : Binds K fdT psData []) (gT : mg "_law_data" = some (.ref fT)) (kT : PySem.W.keepIn K (.ref fT) = true) (ms : mg "sorted" = none) (me : mg "enumerate" = none) (mn : mg "len" = none) (mt : mg "tuple" = none) : FnOk P w K mg base CX0 7 f fd psFills spFills := by
  refine F.ok scFills (fun vs H Q E h => ?_) (fun cdv A outer s H vs Q E hr h => ?_)
  · obtain ⟨d, c, o, xs, way, rfl, _⟩ := h
    rfl
  obtain ⟨d, c, o, xs, way, rfl, dk, ho, od, oc, lx, hx, nx, q⟩ := h
  refine ⟨_, pss_cons (ps_setLc (i := 4) (own := [("_law_name", 3)]) (g := gName 3) (by rfl) scFills.nd rfl rfl (sw_true rfl rfl rfl (by decide +kernel)) (pi_list (pe_callB cr_sortedS (by rfl) ms PyProof.Rows.boot_sorted (pa_cons (pv 2) pa_nil))) (blkOk_by (own := [("_law_name", 3)]) (N := nFills) (sc := defScope tFills) (by decide +kernel))
      (fun _ _ _ _ _ => pg_name (i := 3) scFills.nd rfl (.inl rfl)) (fun _ _ _ _ _ => pts_one (pt_cmpR op_gt (pe_call GD hr (by rfl) gD kD bD .nil pass0 (pa_cons (pv 0) (pa_cons pe_int pa_nil))) pe_int (nomark _))) (fun _ _ _ _ _ => pv 3))
    (pss_cons (ps_set (i := 5) scFills.nd rfl (.inl rfl) (pe_lst pa_nil))
    (pss_cons (ps_for PassesOwn.never rfl (pi_enum (by rfl) me (pa_cons (pv 4) pa_nil)) (pg_tup rfl (pgs_cons (pg_name (i := 6) scFills.nd rfl (.inl rfl)) (pgs_cons (pg_name (i := 3) scFills.nd rfl (.inl rfl)) pgs_nil)))
      (pss_cons (ps_set (i := 7) scFills.nd rfl (.inl rfl) (pe_call GT hr (by rfl) gT kT bT .nil pass0 (pa_cons (pv 0) (pa_cons (pv 2) (pa_cons (pe_call GD hr (by rfl) gD kD bD .nil pass0 (pa_cons (pv 0) (pa_cons pe_int pa_nil))) (pa_cons pe_bl pa_nil))))))
      (C8.pss_cut (ps_if (pt_cmpR op_eq (pv 1) pe_int (nomark _)) (pss_one (ps_set (i := 7) scFills.nd rfl (.inl rfl) (pe_tup (pa_cons pe_str (pa_cons (pe_ix ix_list (pv 4) (pe_op op_mod (pe_op op_add (pv 6) pe_int) (pe_callB call_len_seq (by rfl) mn PySem.boot_len (pa_cons (pv 4) pa_nil))) (fun _ _ => rfl)) pa_nil))))) pss_nil)
      (C8.pss_cut (ps_if (pt_cmpR op_eq (pv 1) pe_int (nomark _)) (pss_one (ps_set (i := 7) scFills.nd rfl (.inl rfl) (pe_tup (pa_cons pe_str (pa_cons (pe_ix ix_list (pv 4) pe_int (fun _ _ => rfl)) pa_nil))))) pss_nil)
      (pss_one (ps_expr (pe_bm PySem.F.plainAttrs_list PySem.F.slot_list_append PySem.F.type_list_append mt_append (pv 5) (pa_cons (pe_tup (pa_cons (pv 3) (pa_cons (pv 7) pa_nil))) pa_nil))))))))
    (pss_one (ps_ret (pe_callTy Kt.call_tupleF (by rfl) mt PyProof.Rows.boot_tuple (pa_cons (pv 5) pa_nil)))))), ?_⟩
  -- the names that are told
  refine ⟨_, rfl, o, xs, rfl, SqL.of ho, by omega, fun ys S pm hs nS => ⟨S, rfl, ⟨_, SqL.of upd_same⟩, fun D nD => ?_⟩⟩
  have sS := newS (o := .lst (ys.map V.str)) nS
  have gS : (upd H S (.lst (ys.map V.str))) S = some (.lst (ys.map V.str)) := upd_same
  have offS := dk.off nS
  have dkS := dk.same sS
  have hoS := sS _ _ ho
  have kpS : Kp d c H (upd H S (.lst (ys.map V.str))) := Kp.of sS
  have yn : ys.Nodup := pm.nodup_iff.mpr nx
  have ly : ys.length = xs.length := pm.length_eq
  generalize upd H S (.lst (ys.map V.str)) = HS at nD gS dkS hoS kpS
  have offD := dkS.off nD
  have hD : H D = none := kpS.free dkS nD
  have oD : o ≠ D := ne_of_none hoS nD
  have SD : S ≠ D := ne_of_none gS nD
  refine lc_list (xs := ys.map V.str) (fun i G => Kp d c H G ∧ Dk G d c ∧ G o = some (.lst (xs.map V.str)) ∧ G S = some (.lst (ys.map V.str)) ∧ ∃ zs : List Str, G D = some (.lst (zs.map V.str)) ∧ zs.Sublist (ys.take i)) ?_ (fun i G _ z => SqL.of z.2.2.2.1) (fun i x G hxi z => ?_) (fun G z => ?_)
  · exact ⟨kpS.mk hD, dkS.put offD.1 offD.2, by rw [upd_ne oD]; exact hoS, by rw [upd_ne SD]; exact gS, [], upd_same, List.nil_sublist _⟩
  · obtain ⟨kpG, dkG, hoG, gSG, zs, gDG, sub⟩ := z
    rw [List.getElem?_map] at hxi
    cases hy : ys[i]? with
    | none => rw [hy] at hxi; cases hxi
    | some y =>
      rw [hy] at hxi
      have ex : V.str y = x := Option.some.inj hxi
      subst ex
      have tk : ys.take (i + 1) = ys.take i ++ [y] := by rw [List.take_add_one, hy]; rfl
      refine ⟨rfl, _, rfl, d, c, 3, rfl, dkG, by decide, by decide, fun r G2 r0 r1 kp2 dk2 => ⟨_, _, rfl, rfl, _, rfl, ?_⟩⟩
      have gD2 := kp2 D _ offD.1 offD.2 gDG
      refine ite2 (fun _ => ?_) (fun _ => ⟨kpG.trans kp2, dk2, kp2 o _ od oc hoG, kp2 S _ offS.1 offS.2 gSG, zs, gD2, by rw [tk]; exact sub.trans (List.sublist_append_left _ _)⟩)
      refine ⟨_, rfl, _, gD2, ?_, (kpG.trans kp2).mk hD, dk2.put offD.1 offD.2, by rw [upd_ne oD]; exact kp2 o _ od oc hoG, by rw [upd_ne SD]; exact kp2 S _ offS.1 offS.2 gSG, zs ++ [y], ?_, ?_⟩
      · have h1 := sub.length_le
        rw [List.length_take] at h1
        rw [List.length_map]
        exact small1000 (by omega)
      · rw [upd_same, List.map_append]
        rfl
      · rw [tk]
        exact List.Sublist.append sub (List.Sublist.refl _)
  obtain ⟨kpG, dkG, hoG, gSG, zs, gDG, sub⟩ := z
  rw [List.length_map, List.take_length] at sub
  have zn : zs.Nodup := yn.sublist sub
  have zx : ∀ z ∈ zs, z ∈ xs := fun z hz => pm.mem_iff.mp (sub.subset hz)
  have lz : zs.length ≤ 26 := by
    have := sub.length_le
    omega
  refine ⟨Nat.zero_le _, fun L nL => ?_⟩
  have offL := dkG.off nL
  have hL : H L = none := kpG.free dkG nL
  have oL : o ≠ L := ne_of_none hoG nL
  have DL : D ≠ L := ne_of_none gDG nL
  refine ⟨_, rfl, D, _, rfl, SqL.of (newS nL _ _ gDG), ?_⟩
  refine for_it (walk_enum (K := K) (a := D) (xs := zs.map V.str)) (fun i σ G => ∃ (y3 y6 y7 : Option V) (ps : List Addr) (kvs : List (Key × V)) (fs : List (Str × Kd)), σ = [some (.ref d), some (.int way), some (.ref o), y3, some (.ref D), some (.ref L), y6, y7] ∧ Kp d c H G ∧ Dk G d c ∧ G o = some (.lst (xs.map V.str)) ∧ G D = some (.lst (zs.map V.str)) ∧
      G L = some (.lst (ps.map V.ref)) ∧ Paired (fun p kv => G p = some (.tup [kV kv.1, kv.2])) ps kvs ∧ Paired (fun (kv : Key × V) (f : Str × Kd) => kv.1 = .inr f.1 ∧ Rp G f.2 kv.2) kvs fs ∧ fs.map (·.1) = zs.take i ∧ ps.length = i ∧ ∀ f ∈ fs, Bd 2 7 xs f.2) ?_ (fun i σ G _ z => ?_) (fun i v σ G G' hi z y => ?_) (fun σ G z => ?_)
  · exact ⟨none, none, none, [], [], [], rfl, kpG.mk hL, dkG.put offL.1 offL.2, by rw [upd_ne oL]; exact hoG, by rw [upd_ne DL]; exact gDG, upd_same, .nil, .nil, rfl, rfl, fun f z => (nomatch z)⟩
  · obtain ⟨y3, y6, y7, ps, kvs, fs, _, _, _, _, gD', _⟩ := z
    exact SqL.of gD'
  · obtain ⟨y3, y6, y7, ps, kvs, fs, rfl, kpi, dki, hoi, gDi, gLi, p1, p2, en, lp, bf⟩ := z
    obtain ⟨T, x1, x2, rfl, nT, rfl, e1, e2⟩ := y
    cases e1
    rw [List.length_map] at hi
    have e2 : (zs.map V.str)[i]? = some x2 := e2
    rw [List.getElem?_map, List.getElem?_eq_getElem hi] at e2
    cases e2
    generalize hzi : zs[i] = zi
    have hz? : zs[i]? = some zi := by rw [List.getElem?_eq_getElem hi, hzi]
    have zix : zi ∈ xs := zx zi (List.mem_of_getElem? hz?)
    have sT := newS (o := .tup [V.int (i : Nat), V.str zi]) nT
    refine ⟨T, _, rfl, SqT.of upd_same, rfl, _, _, rfl, _, _, rfl, rfl, ?_⟩
    have kpT := kpi.trans (Kp.of sT)
    have dkT := dki.same sT
    have hoT := sT _ _ hoi
    have gDT := sT _ _ gDi
    have gLT := sT _ _ gLi
    have p1T := Paired.mapP p1 fun _ _ e => sT _ _ e
    have p2T := Paired.mapP p2 fun _ _ (e : _ ∧ _) => And.intro e.1 (e.2.tk (Tk.of sT))
    generalize upd G T (.tup [V.int (i : Nat), V.str zi]) = GT at kpT dkT hoT gDT gLT p1T p2T
    have keep : ∀ {G1 G2 : Hp}, Kp d c G1 G2 → Dk G1 d c → Paired (fun p kv => G1 p = some (.tup [kV kv.1, kv.2])) ps kvs → Paired (fun (kv : Key × V) (f : Str × Kd) => kv.1 = .inr f.1 ∧ Rp G1 f.2 kv.2) kvs fs → Paired (fun p kv => G2 p = some (.tup [kV kv.1, kv.2])) ps kvs ∧ Paired (fun (kv : Key × V) (f : Str × Kd) => kv.1 = .inr f.1 ∧ Rp G2 f.2 kv.2) kvs fs := fun {G1 G2} k dk a b =>
      ⟨Paired.mapP a fun _ _ e => Tk.kp k dk _ _ e, Paired.mapP b fun _ _ e => ⟨e.1, e.2.tk (Tk.kp k dk)⟩⟩
    refine ⟨_, rfl, _, rfl, _, rfl, d, c, 3, rfl, dkT, by decide, by decide, fun r G2 r0 r1 kp2 dk2 => ?_⟩
    obtain ⟨p1a, p2a⟩ := keep kp2 dkT p1T p2T
    have er : r = ((r.toNat : Nat) : Int) := by omega
    have eL : [V.ref d, V.ref o, V.int r, V.bl false] = [V.ref d, V.ref o, V.int ((r.toNat : Nat) : Int), V.bl false] := by rw [← er]
    refine ⟨d, c, o, xs, r.toNat, false, eL, by omega, dk2, kp2 o _ od oc hoT, od, oc, lx, hx, fun va a G3 kp3 dk3 ra da => ?_⟩
    obtain ⟨p1b, p2b⟩ := keep kp3 dk2 p1a p2a
    have kp23 := kp2.trans kp3
    have ba : Bd 2 7 xs a := da.bd (by omega) (by
      have : r.toNat = 0 ∨ r.toNat = 1 ∨ r.toNat = 2 := by omega
      rcases this with e | e | e <;> rw [e] <;> decide)
    let I : L2.St → Hp → Prop := fun σ G => ∃ (u : V) (tu : Kd), σ = [some (.ref d), some (.int way), some (.ref o), some (.str zi), some (.ref D), some (.ref L), some (.int (i : Nat)), some u] ∧ Kp d c H G ∧ Dk G d c ∧ G o = some (.lst (xs.map V.str)) ∧ G D = some (.lst (zs.map V.str)) ∧
      G L = some (.lst (ps.map V.ref)) ∧ Paired (fun p kv => G p = some (.tup [kV kv.1, kv.2])) ps kvs ∧ Paired (fun (kv : Key × V) (f : Str × Kd) => kv.1 = .inr f.1 ∧ Rp G f.2 kv.2) kvs fs ∧ Rp G tu u ∧ Bd 2 7 xs tu
    have opn : ∀ (G : Hp) (y : Str) (p : Addr), I [some (.ref d), some (.int way), some (.ref o), some (.str zi), some (.ref D), some (.ref L), some (.int (i : Nat)), some va] G ∨ (∃ u, I [some (.ref d), some (.int way), some (.ref o), some (.str zi), some (.ref D), some (.ref L), some (.int (i : Nat)), some u] G) → y ∈ zs → G p = none →
        I [some (.ref d), some (.int way), some (.ref o), some (.str zi), some (.ref D), some (.ref L), some (.int (i : Nat)), some (.ref p)] (upd G p (.tup [.str "open", .str y])) := fun G y p h hy np => by
      obtain ⟨u, h⟩ : ∃ u, I [some (.ref d), some (.int way), some (.ref o), some (.str zi), some (.ref D), some (.ref L), some (.int (i : Nat)), some u] G := by
        rcases h with h | h
        · exact ⟨_, h⟩
        · exact h
      obtain ⟨u', tu, _, a1, a2, a3, a4, a5, a6, a7, a8, a9⟩ := h
      have s := newS (o := .tup [.str "open", .str y]) np
      refine ⟨.ref p, .opn y, rfl, a1.trans (Kp.of s), a2.same s, s _ _ a3, s _ _ a4, s _ _ a5, Paired.mapP a6 fun _ _ e => s _ _ e, Paired.mapP a7 fun _ _ e => ⟨e.1, e.2.tk (Tk.of s)⟩, ⟨p, rfl, upd_same⟩, Nat.zero_le _, by show 1 ≤ 7; decide, fun x hx' => ?_⟩
      rw [List.mem_singleton.mp hx']
      exact zx y hy
    have I0 : I [some (.ref d), some (.int way), some (.ref o), some (.str zi), some (.ref D), some (.ref L), some (.int (i : Nat)), some va] G3 := ⟨va, a, rfl, kpT.trans kp23, dk3, kp23 o _ od oc hoT, kp23 D _ offD.1 offD.2 gDT, kp23 L _ offL.1 offL.2 gLT, p1b, p2b, ra, ba⟩
    refine ⟨I, ⟨_, rfl, rfl, _, rfl, ite2 (fun _ => ?_) (fun _ => I0)⟩, ?_⟩
    · obtain ⟨u', tu, _, a1, a2, a3, a4, a5, a6, a7, a8, a9⟩ := id I0
      have lz0 : 0 < zs.length := by omega
      have hj : ((((i : Nat) : Int) + 1) % ((zs.map V.str).length : Int)) = ((((i + 1) % zs.length : Nat)) : Int) := by
        rw [List.length_map]
        rw [Int.natCast_emod, Int.natCast_add]
        rfl
      have lj : (i + 1) % zs.length < zs.length := Nat.mod_lt _ lz0
      have gat : atI (zs.map V.str) ((((i : Nat) : Int) + 1) % ((zs.map V.str).length : Int)) = some (.str zs[(i + 1) % zs.length]) := by
        rw [hj]
        exact atI_nat (by rw [List.getElem?_map, List.getElem?_eq_getElem lj]; rfl)
      refine ⟨_, rfl, _, rfl, _, _, rfl, rfl, _, rfl, D, _, rfl, .inl (SqL.of a4), _, _, rfl, rfl, (by rw [List.length_map]; omega), D, _, _, _, rfl, rfl, SqL.of a4, gat, (by show 2 ≤ sizeLine; decide), fun p np => ?_⟩
      exact opn _ _ p (.inl I0) (List.getElem_mem lj) np
    rintro σ G ⟨u, tu, rfl, a1, a2, a3, a4, a5, a6, a7, a8, a9⟩
    have I1 : I [some (.ref d), some (.int way), some (.ref o), some (.str zi), some (.ref D), some (.ref L), some (.int (i : Nat)), some u] G := ⟨u, tu, rfl, a1, a2, a3, a4, a5, a6, a7, a8, a9⟩
    refine ⟨I, ⟨_, rfl, rfl, _, rfl, ite2 (fun _ => ?_) (fun _ => I1)⟩, ?_⟩
    · have lz0 : 0 < zs.length := by omega
      have gat : atI (zs.map V.str) 0 = some (.str zs[0]) := atI_nat (j := 0) (by rw [List.getElem?_map, List.getElem?_eq_getElem lz0]; rfl)
      refine ⟨_, rfl, D, _, _, _, rfl, rfl, SqL.of a4, gat, (by show 2 ≤ sizeLine; decide), fun p np => ?_⟩
      exact opn _ _ p (.inr ⟨u, I1⟩) (List.getElem_mem lz0) np
    clear I1 a1 a2 a3 a4 a5 a6 a7 a8 a9 u tu
    rintro σ G ⟨u, tu, rfl, a1, a2, a3, a4, a5, a6, a7, a8, a9⟩
    refine ⟨_, rfl, .inl ⟨rfl, _, SqL.of a5⟩, _, rfl, _, rfl, (by show 2 ≤ sizeLine; decide), fun p np => ?_⟩
    have s := newS (o := .tup [.str zi, u]) np
    refine ⟨L, _, _, rfl, rfl, s _ _ a5, ?_, ?_⟩
    · rw [List.length_map]
      exact small1000 (by omega)
    have gLs := s _ _ a5
    have t1 : Tk G (upd (upd G p (.tup [.str zi, u])) L (.lst (ps.map V.ref ++ [.ref p]))) := (Tk.of s).put (fun _ z => by rw [a5] at z; cases z)
    have t2 : Tk (upd G p (.tup [.str zi, u])) (upd (upd G p (.tup [.str zi, u])) L (.lst (ps.map V.ref ++ [.ref p]))) := Tk.rfl.put (fun _ z => by rw [gLs] at z; cases z)
    refine ⟨_, _, _, ps ++ [p], kvs ++ [(.inr zi, u)], fs ++ [(zi, tu)], rfl, (a1.trans (Kp.of s)).mk hL, (a2.same s).put offL.1 offL.2, by rw [upd_ne oL]; exact s _ _ a3, by rw [upd_ne DL]; exact s _ _ a4, ?_, ?_, ?_, ?_, ?_, fun f hf => ?_⟩
    · rw [upd_same, List.map_append]
      rfl
    · exact Paired.snoc (Paired.mapP a6 fun _ _ e => t1 _ _ e) (t2 _ _ upd_same)
    · exact Paired.snoc (Paired.mapP a7 fun _ _ e => ⟨e.1, e.2.tk t1⟩) ⟨rfl, a8.tk t1⟩
    · rw [List.map_append, en, List.take_add_one, hz?]
      rfl
    · rw [List.length_append, lp]
      rfl
    · rcases List.mem_append.mp hf with z | z
      · exact bf f z
      · rw [List.mem_singleton.mp z]
        exact a9
  · obtain ⟨y3, y6, y7, ps, kvs, fs, rfl, kpi, dki, hoi, gDi, gLi, p1, p2, en, lp, bf⟩ := z
    rw [List.length_map, List.take_length] at en
    refine ⟨_, rfl, L, _, rfl, SqL.of gLi, fun l ob nl h1 h2 => ?_⟩
    have s := newS (o := .frz ob (.tup (ps.map V.ref))) nl
    refine q l fs _ (kpi.trans (Kp.of s)) (dki.same s) ⟨ob, ps, kvs, upd_same, h1, h2, Paired.mapP p1 fun _ _ e => s _ _ e, Paired.mapP p2 fun _ _ e => ⟨e.1, e.2.tk (Tk.of s)⟩⟩ (by rw [en]; exact zn) fun f hf => ⟨zx f.1 ?_, bf f hf⟩
    rw [← en]
    exact List.mem_map_of_mem hf
end
end Kq

namespace Kq
open PySem PySem.Spec PyProof.Rows L2
namespace Kd
theorem fill_fill (F G : Str → Option Kd) : ∀ t : Kd, (t.fill F).fill G = t.fill fun x => ((F x).map (fill G)).or (G x)
  | opn x => by
    show ((F x).getD (opn x)).fill G = ((((F x).map (fill G)).or (G x))).getD (opn x)
    cases F x with
    | none => rfl
    | some k => rfl
  | num => rfl
  | tru => rfl
  | pair a b => by
    show pair _ _ = pair _ _
    rw [fill_fill F G a, fill_fill F G b]
  | eith a b => by
    show eith _ _ = eith _ _
    rw [fill_fill F G a, fill_fill F G b]
  | lst a => by
    show lst _ = lst _
    rw [fill_fill F G a]
  | fn a b => by
    show fn _ _ = fn _ _
    rw [fill_fill F G a, fill_fill F G b]
theorem fill_self {F : Str → Option Kd} (h : ∀ x k, F x = some k → k = opn x) : ∀ t : Kd, t.fill F = t
  | opn x => by
    show (F x).getD (opn x) = opn x
    cases e : F x with
    | none => rfl
    | some k => rw [h x k e]; rfl
  | num => rfl
  | tru => rfl
  | pair a b => by
    show pair _ _ = pair _ _
    rw [fill_self h a, fill_self h b]
  | eith a b => by
    show eith _ _ = eith _ _
    rw [fill_self h a, fill_self h b]
  | lst a => by
    show lst _ = lst _
    rw [fill_self h a]
  | fn a b => by
    show fn _ _ = fn _ _
    rw [fill_self h a, fill_self h b]
end Kd
theorem fill_bd {F : Str → Option Kd} {xs : List Str} (h : ∀ x k, F x = some k → Bd 2 7 xs k) : ∀ {t : Kd}, (∀ x ∈ t.opens, x ∈ xs) → (t.fill F).dp ≤ t.dp + 2 ∧ (t.fill F).size ≤ 7 * t.size ∧ ∀ x ∈ (t.fill F).opens, x ∈ xs := by
  intro t
  induction t with
  | opn x =>
    intro ht
    show ((F x).getD (.opn x)).dp ≤ _ ∧ ((F x).getD (.opn x)).size ≤ 7 * 1 ∧ ∀ y ∈ ((F x).getD (.opn x)).opens, y ∈ xs
    cases e : F x with
    | none => exact ⟨Nat.zero_le _, by show 1 ≤ 7; decide, ht⟩
    | some k =>
      have b := h x k e
      exact ⟨b.dp, b.sz, b.op⟩
  | num => exact fun _ => ⟨Nat.zero_le _, by show 1 ≤ 7; decide, fun x z => (nomatch z)⟩
  | tru => exact fun _ => ⟨Nat.zero_le _, by show 1 ≤ 7; decide, fun x z => (nomatch z)⟩
  | pair a b i j =>
    intro ht
    obtain ⟨a1, a2, a3⟩ := i fun x hx => ht x (List.mem_append_left _ hx)
    obtain ⟨b1, b2, b3⟩ := j fun x hx => ht x (List.mem_append_right _ hx)
    refine ⟨?_, ?_, fun x hx => ?_⟩
    · show max (a.fill F).dp (b.fill F).dp + 1 ≤ max a.dp b.dp + 1 + 2
      omega
    · show (Kd.pair (a.fill F) (b.fill F)).size ≤ _
      rw [(Kd.size2 _ _).1, (Kd.size2 _ _).1]
      omega
    · rcases List.mem_append.mp (show x ∈ (a.fill F).opens ++ (b.fill F).opens from hx) with z | z
      · exact a3 x z
      · exact b3 x z
  | eith a b i j =>
    intro ht
    obtain ⟨a1, a2, a3⟩ := i fun x hx => ht x (List.mem_append_left _ hx)
    obtain ⟨b1, b2, b3⟩ := j fun x hx => ht x (List.mem_append_right _ hx)
    refine ⟨?_, ?_, fun x hx => ?_⟩
    · show max (a.fill F).dp (b.fill F).dp + 1 ≤ max a.dp b.dp + 1 + 2
      omega
    · show (Kd.eith (a.fill F) (b.fill F)).size ≤ _
      rw [(Kd.size2 _ _).2.1, (Kd.size2 _ _).2.1]
      omega
    · rcases List.mem_append.mp (show x ∈ (a.fill F).opens ++ (b.fill F).opens from hx) with z | z
      · exact a3 x z
      · exact b3 x z
  | lst a i =>
    intro ht
    obtain ⟨a1, a2, a3⟩ := i ht
    refine ⟨?_, ?_, a3⟩
    · show (a.fill F).dp + 1 ≤ a.dp + 1 + 2
      omega
    · show (Kd.lst (a.fill F)).size ≤ _
      rw [(Kd.size2 (a.fill F) a).2.2, (Kd.size2 a a).2.2]
      omega
  | fn a b i j =>
    intro ht
    obtain ⟨a1, a2, a3⟩ := i fun x hx => ht x (List.mem_append_left _ hx)
    obtain ⟨b1, b2, b3⟩ := j fun x hx => ht x (List.mem_append_right _ hx)
    refine ⟨?_, ?_, fun x hx => ?_⟩
    · show max (a.fill F).dp (b.fill F).dp + 1 ≤ max a.dp b.dp + 1 + 2
      omega
    · show (Kd.fn (a.fill F) (b.fill F)).size ≤ _
      rw [Kd.size_fn, Kd.size_fn]
      omega
    · rcases List.mem_append.mp (show x ∈ (a.fill F).opens ++ (b.fill F).opens from hx) with z | z
      · exact a3 x z
      · exact b3 x z
theorem told_mem : ∀ {fs : List (Str × Kd)} {x : Str} {k : Kd}, told fs x = some k → (x, k) ∈ fs
  | f :: fs, x, k, h => by
    have h : (told fs x).or (if f.1 = x then some f.2 else none) = some k := h
    cases e : told fs x with
    | some k' =>
      rw [e] at h
      have : k' = k := Option.some.inj h
      rw [← this]
      exact List.mem_cons_of_mem _ (told_mem e)
    | none =>
      rw [e] at h
      have h : (if f.1 = x then some f.2 else none) = some k := h
      by_cases z : f.1 = x
      · rw [if_pos z] at h
        have : f.2 = k := Option.some.inj h
        rw [← this, ← z]
        exact List.mem_cons_self
      · rw [if_neg z] at h
        cases h
theorem told_map (g : Kd → Kd) : ∀ (fs : List (Str × Kd)) (x : Str), told (fs.map fun f => (f.1, g f.2)) x = (told fs x).map g
  | [], _ => rfl
  | f :: fs, x => by
    show (told (fs.map fun f => (f.1, g f.2)) x).or (if f.1 = x then some (g f.2) else none) = ((told fs x).or (if f.1 = x then some f.2 else none)).map g
    rw [told_map g fs x]
    cases told fs x with
    | some k => rfl
    | none =>
      by_cases z : f.1 = x
      · rw [if_pos z, if_pos z]
        rfl
      · rw [if_neg z, if_neg z]
        rfl
theorem told_none {fs : List (Str × Kd)} {x : Str} (h : x ∉ fs.map (·.1)) : told fs x = none := by
  cases e : told fs x with
  | none => rfl
  | some k => exact absurd (List.mem_map_of_mem (f := (·.1)) (told_mem e)) h
theorem told_snoc : ∀ (fs : List (Str × Kd)) (g : Str × Kd) (x : Str), told (fs ++ [g]) x = (if g.1 = x then some g.2 else none).or (told fs x)
  | [], g, x => by
    show (none : Option Kd).or (if g.1 = x then some g.2 else none) = _
    rw [Option.none_or]
    show _ = Option.or _ none
    rw [Option.or_none]
  | f :: fs, g, x => by
    show (told (fs ++ [g]) x).or (if f.1 = x then some f.2 else none) = _
    rw [told_snoc fs g x, Option.or_assoc]
    rfl
/-- the fills put down name by name -/
theorem told_of {B : Str → Option Kd} {D : Str → Kd} : ∀ (ys : List Str), (∀ y ∈ ys, B y = some (D y)) → ∀ x, told (ys.map fun y => (y, D y)) x = if x ∈ ys then B x else none
  | [], _, x => by simp [told]
  | y :: ys, h, x => by
    show (told (ys.map fun y => (y, D y)) x).or (if y = x then some (D y) else none) = _
    rw [told_of ys (fun z hz => h z (List.mem_cons_of_mem _ hz)) x]
    by_cases e : x ∈ ys
    · rw [if_pos e, if_pos (List.mem_cons_of_mem _ e), h x (List.mem_cons_of_mem _ e)]
      rfl
    · rw [if_neg e, Option.none_or]
      by_cases z : y = x
      · rw [if_pos z, if_pos (by rw [← z]; exact List.mem_cons_self), ← z, h y List.mem_cons_self]
      · rw [if_neg z, if_neg (fun w => by
          rcases List.mem_cons.mp w with w | w
          · exact z w.symm
          · exact e w)]
/-! trees as data -/
def toD : Kd → PyData
  | .opn x => .tuple [.str "open", .str x]
  | .num => .tuple [.str "num"]
  | .tru => .tuple [.str "truth"]
  | .pair a b => .tuple [.str "pair", toD a, toD b]
  | .eith a b => .tuple [.str "either", toD a, toD b]
  | .lst a => .tuple [.str "list", toD a]
  | .fn a b => .tuple [.str "fun", toD a, toD b]
theorem dpT (K : PySem.W.Frag) {H : Hp} : ∀ {t : Kd} {v : V}, Rp H t v → Dp K H v (toD t) := by
  intro t
  induction t with
  | opn x =>
    rintro v ⟨a, rfl, h⟩
    exact .tup (SqT.of h) (.cons (.str _) (.cons (.str _) .nil))
  | num =>
    rintro v ⟨a, rfl, h⟩
    exact .tup (SqT.of h) (.cons (.str _) .nil)
  | tru =>
    rintro v ⟨a, rfl, h⟩
    exact .tup (SqT.of h) (.cons (.str _) .nil)
  | pair s t i j =>
    rintro v ⟨a, x, y, rfl, h, p, q⟩
    exact .tup (SqT.of h) (.cons (.str _) (.cons (i p) (.cons (j q) .nil)))
  | eith s t i j =>
    rintro v ⟨a, x, y, rfl, h, p, q⟩
    exact .tup (SqT.of h) (.cons (.str _) (.cons (i p) (.cons (j q) .nil)))
  | lst s i =>
    rintro v ⟨a, x, rfl, h, p⟩
    exact .tup (SqT.of h) (.cons (.str _) (.cons (i p) .nil))
  | fn s t i j =>
    rintro v ⟨a, x, y, rfl, h, p, q⟩
    exact .tup (SqT.of h) (.cons (.str _) (.cons (i p) (.cons (j q) .nil)))
theorem dpTs (K : PySem.W.Frag) {H : Hp} : ∀ {ts : List Kd} {vs : List V}, RpL H ts vs → DpAll K H vs (ts.map toD)
  | [], [], _ => .nil
  | _ :: _, _ :: _, h => .cons (dpT K h.1) (dpTs K h.2)
  | [], _ :: _, h => h.elim
  | _ :: _, [], h => h.elim
theorem layT : ∀ t : Kd, (∀ x ∈ t.opens, Nm x) → (toD t).canLay0 = true ∧ (toD t).depth ≤ t.dp + 1 := by
  have w1 : PyData.strOk "open" = true := by decide +kernel
  have w2 : PyData.strOk "num" = true := by decide +kernel
  have w3 : PyData.strOk "truth" = true := by decide +kernel
  have w4 : PyData.strOk "pair" = true := by decide +kernel
  have w5 : PyData.strOk "either" = true := by decide +kernel
  have w6 : PyData.strOk "list" = true := by decide +kernel
  have w7 : PyData.strOk "fun" = true := by decide +kernel
  intro t
  induction t with
  | opn x =>
    intro h
    have := (h x List.mem_cons_self).ok
    simp [toD, PyData.canLay0, PyData.canLayAll0, PyData.depth, PyData.depthAll, Kd.dp, w1, this]
  | num =>
    intro h
    simp [toD, PyData.canLay0, PyData.canLayAll0, PyData.depth, PyData.depthAll, Kd.dp, w2]
  | tru =>
    intro h
    simp [toD, PyData.canLay0, PyData.canLayAll0, PyData.depth, PyData.depthAll, Kd.dp, w3]
  | pair s t i j =>
    intro h
    obtain ⟨a1, a2⟩ := i fun x hx => h x (List.mem_append_left _ hx)
    obtain ⟨b1, b2⟩ := j fun x hx => h x (List.mem_append_right _ hx)
    simp only [toD, PyData.canLay0, PyData.canLayAll0, PyData.depth, PyData.depthAll, Kd.dp, w4, a1, b1, Bool.and_self, true_and]
    omega
  | eith s t i j =>
    intro h
    obtain ⟨a1, a2⟩ := i fun x hx => h x (List.mem_append_left _ hx)
    obtain ⟨b1, b2⟩ := j fun x hx => h x (List.mem_append_right _ hx)
    simp only [toD, PyData.canLay0, PyData.canLayAll0, PyData.depth, PyData.depthAll, Kd.dp, w5, a1, b1, Bool.and_self, true_and]
    omega
  | lst s i =>
    intro h
    obtain ⟨a1, a2⟩ := i h
    simp only [toD, PyData.canLay0, PyData.canLayAll0, PyData.depth, PyData.depthAll, Kd.dp, w6, a1, Bool.and_self, true_and]
    omega
  | fn s t i j =>
    intro h
    obtain ⟨a1, a2⟩ := i fun x hx => h x (List.mem_append_left _ hx)
    obtain ⟨b1, b2⟩ := j fun x hx => h x (List.mem_append_right _ hx)
    simp only [toD, PyData.canLay0, PyData.canLayAll0, PyData.depth, PyData.depthAll, Kd.dp, w7, a1, b1, Bool.and_self, true_and]
    omega
theorem shT {t : Kd} (h : ∀ x ∈ t.opens, Nm x) (hd : t.dp ≤ 50) : SeqAt.shaped (toD t) = true ∧ (toD t).canLay0 = true := by
  obtain ⟨a, b⟩ := layT t h
  refine ⟨?_, a⟩
  unfold SeqAt.shaped
  rw [a, Bool.true_and]
  exact decide_eq_true (by omega)
theorem shTs {ts : List Kd} (h : ∀ t ∈ ts, (∀ x ∈ t.opens, Nm x) ∧ t.dp ≤ 50) : SeqAt.shaped (.list (ts.map toD)) = true ∧ (PyData.list (ts.map toD)).canLay0 = true := by
  have all : PyData.canLayAll0 (ts.map toD) = true ∧ PyData.depthAll (ts.map toD) ≤ 51 := by
    induction ts with
    | nil => exact ⟨by simp [PyData.canLayAll0], by simp [PyData.depthAll]⟩
    | cons t ts ih =>
      obtain ⟨a, b⟩ := ih fun u hu => h u (List.mem_cons_of_mem _ hu)
      obtain ⟨h1, h2⟩ := h t List.mem_cons_self
      obtain ⟨c, e⟩ := layT t h1
      refine ⟨by simp [PyData.canLayAll0, a, c], ?_⟩
      simp only [List.map_cons, PyData.depthAll]
      omega
  have lay : (PyData.list (ts.map toD)).canLay0 = true := by simp only [PyData.canLay0]; exact all.1
  refine ⟨?_, lay⟩
  unfold SeqAt.shaped
  rw [lay, Bool.true_and]
  refine decide_eq_true ?_
  simp only [PyData.depth]
  omega
theorem neF {d : PyData} (lay : d.canLay0 = true) {A B : Prop} (h : B) : if (!PyData.eqv d d) = true then A else B := by
  rw [SeqAt.eqv_refl d lay]
  exact iteF h
/-! sorted texts -/
theorem rise : ∀ (p : Str) (l : List Str), risingS p l = true → (p :: l).Pairwise fun a b => a.cps.toList ≤ b.cps.toList
  | p, [], _ => List.pairwise_singleton _ _
  | p, x :: r, h => by
    have h' : (!ltCps x.cps.toList p.cps.toList) = true ∧ risingS x r = true := by
      simpa [risingS] using h
    have ih := rise x r h'.2
    have px : p.cps.toList ≤ x.cps.toList := by
      have z := h'.1
      rw [ltCps_eq] at z
      exact List.not_lt.mp (by simpa using z)
    refine List.pairwise_cons.mpr ⟨fun y hy => ?_, ih⟩
    rcases List.mem_cons.mp hy with rfl | hm
    · exact px
    · exact List.le_trans px ((List.pairwise_cons.mp ih).1 y hm)
theorem rise' {l : List Str} (h : sortedS l = true) : l.Pairwise fun a b => a.cps.toList ≤ b.cps.toList := by
  cases l with
  | nil => exact List.Pairwise.nil
  | cons p l => exact rise p l h
theorem sortEq : ∀ {ys zs : List Str}, ys.Pairwise (fun a b => a.cps.toList ≤ b.cps.toList) → zs.Pairwise (fun a b => a.cps.toList ≤ b.cps.toList) → ys.Nodup → zs.Nodup → (∀ k, k ∈ ys ↔ k ∈ zs) → ys = zs
  | [], [], _, _, _, _, _ => rfl
  | [], z :: zs, _, _, _, _, h => absurd ((h z).2 List.mem_cons_self) List.not_mem_nil
  | y :: ys, [], _, _, _, _, h => absurd ((h y).1 List.mem_cons_self) List.not_mem_nil
  | y :: ys, z :: zs, p1, p2, n1, n2, h => by
    obtain ⟨a1, a2⟩ := List.pairwise_cons.mp p1
    obtain ⟨b1, b2⟩ := List.pairwise_cons.mp p2
    obtain ⟨c1, c2⟩ := List.nodup_cons.mp n1
    obtain ⟨d1, d2⟩ := List.nodup_cons.mp n2
    have e : y = z := by
      rcases List.mem_cons.mp ((h y).1 List.mem_cons_self) with q | q
      · exact q
      rcases List.mem_cons.mp ((h z).2 List.mem_cons_self) with r | r
      · exact r.symm
      have le := List.le_antisymm (a1 z r) (b1 y q)
      obtain ⟨yc⟩ := y
      obtain ⟨zc⟩ := z
      have : yc.toList = zc.toList := le
      rw [Array.toList_inj.mp this]
    subst e
    rw [sortEq a2 b2 c2 d2 fun k => ?_]
    constructor
    · intro hk
      rcases List.mem_cons.mp ((h k).1 (List.mem_cons_of_mem _ hk)) with q | q
      · rw [q] at hk
        exact absurd hk c1
      · exact q
    · intro hk
      rcases List.mem_cons.mp ((h k).2 (List.mem_cons_of_mem _ hk)) with q | q
      · rw [q] at hk
        exact absurd hk d1
      · exact q
namespace Kd
theorem led_args : ∀ (ts : List Kd) (t : Kd), t.isFn = false → (ledTo ts t).args = ts ∧ (ledTo ts t).res = t
  | [], t, h => by
    cases t with
    | fn a b => cases h
    | _ => exact ⟨rfl, rfl⟩
  | u :: ts, t, h => by
    obtain ⟨a, b⟩ := led_args ts t h
    exact ⟨congrArg (u :: ·) a, b⟩
theorem led_mem : ∀ (ts : List Kd) (t : Kd), (∀ x ∈ (ledTo ts t).opens, Nm x) → (∀ u ∈ ts, ∀ x ∈ u.opens, Nm x) ∧ ∀ x ∈ t.opens, Nm x
  | [], t, h => ⟨fun u z => (nomatch z), h⟩
  | u :: ts, t, h => by
    obtain ⟨a, b⟩ := led_mem ts t fun x hx => h x (List.mem_append_right _ hx)
    refine ⟨fun v hv => ?_, b⟩
    rcases List.mem_cons.mp hv with z | z
    · rw [z]
      exact fun x hx => h x (List.mem_append_left _ hx)
    · exact a v z
theorem led_dp : ∀ (ts : List Kd) (t : Kd), (∀ u ∈ ts, u.dp ≤ (ledTo ts t).dp) ∧ t.dp ≤ (ledTo ts t).dp
  | [], t => ⟨fun u z => (nomatch z), Nat.le_refl _⟩
  | u :: ts, t => by
    obtain ⟨a, b⟩ := led_dp ts t
    have e : (ledTo (u :: ts) t).dp = max u.dp (ledTo ts t).dp + 1 := rfl
    refine ⟨fun v hv => ?_, by omega⟩
    rcases List.mem_cons.mp hv with z | z
    · rw [z]
      omega
    · have := a v z
      omega
end Kd

theorem shTt {ts : List Kd} (h : ∀ t ∈ ts, (∀ x ∈ t.opens, Nm x) ∧ t.dp ≤ 50) : SeqAt.shaped (.tuple (ts.map toD)) = true ∧ (PyData.tuple (ts.map toD)).canLay0 = true := by
  have all : PyData.canLayAll0 (ts.map toD) = true ∧ PyData.depthAll (ts.map toD) ≤ 51 := by
    induction ts with
    | nil => exact ⟨by simp [PyData.canLayAll0], by simp [PyData.depthAll]⟩
    | cons t ts ih =>
      obtain ⟨a, b⟩ := ih fun u hu => h u (List.mem_cons_of_mem _ hu)
      obtain ⟨h1, h2⟩ := h t List.mem_cons_self
      obtain ⟨c, e⟩ := layT t h1
      refine ⟨by simp [PyData.canLayAll0, a, c], ?_⟩
      simp only [List.map_cons, PyData.depthAll]
      omega
  have lay : (PyData.tuple (ts.map toD)).canLay0 = true := by simp only [PyData.canLay0]; exact all.1
  refine ⟨?_, lay⟩
  unfold SeqAt.shaped
  rw [lay, Bool.true_and]
  refine decide_eq_true ?_
  simp only [PyData.depth]
  omega
theorem shTS {xs : List Str} (h : ∀ x ∈ xs, Nm x) : SeqAt.shaped (.tuple (xs.map PyData.str)) = true ∧ (PyData.tuple (xs.map PyData.str)).canLay0 = true := by
  obtain ⟨a, b⟩ := layStrs xs h
  exact ⟨by simp [SeqAt.shaped, PyData.canLay0, PyData.depth, a, b], by simp [PyData.canLay0, a]⟩
/-! fills as a list of pairs -/
def PR (H : Hp) (q : Addr) (f : Str × Kd) : Prop := ∃ v : V, H q = some (.tup [.str f.1, v]) ∧ Rp H f.2 v
theorem PR.tk {H G : Hp} {q : Addr} {f : Str × Kd} (h : PR H q f) (k : Tk H G) : PR G q f := by
  obtain ⟨v, e, r⟩ := h
  exact ⟨v, k _ _ e, r.tk k⟩
theorem pr_split {H : Hp} : ∀ {ps : List Addr} {fs : List (Str × Kd)}, Paired (PR H) ps fs → ∃ kvs : List (Key × V), Paired (fun p kv => H p = some (.tup [kV kv.1, kv.2])) ps kvs ∧ Paired (fun (kv : Key × V) (f : Str × Kd) => kv.1 = .inr f.1 ∧ Rp H f.2 kv.2) kvs fs
  | _, _, .nil => ⟨[], .nil, .nil⟩
  | _, _, .cons (b := f) h t => by
    obtain ⟨kvs, a, b⟩ := pr_split t
    obtain ⟨v, e, r⟩ := h
    exact ⟨(.inr f.1, v) :: kvs, .cons e a, .cons ⟨rfl, r⟩ b⟩
theorem pr_join {H : Hp} : ∀ {ps : List Addr} {kvs : List (Key × V)} {fs : List (Str × Kd)}, Paired (fun p kv => H p = some (.tup [kV kv.1, kv.2])) ps kvs → Paired (fun (kv : Key × V) (f : Str × Kd) => kv.1 = .inr f.1 ∧ Rp H f.2 kv.2) kvs fs → Paired (PR H) ps fs
  | _, _, _, .nil, .nil => .nil
  | _, _, _, .cons (b := kv) h t, .cons h' t' => .cons ⟨kv.2, by rw [h, h'.1]; rfl, h'.2⟩ (pr_join t t')
theorem RF.see {H : Hp} {p : Addr} {fs : List (Str × Kd)} (h : RF H p fs) : ∃ (o : Obj) (ps : List Addr), H p = some (.frz o (.tup (ps.map V.ref))) ∧ Paired (PR H) ps fs := by
  obtain ⟨o, ps, kvs, h1, _, _, h4, h5⟩ := h
  exact ⟨o, ps, h1, pr_join h4 h5⟩
theorem RF.mk {H : Hp} {p : Addr} {fs : List (Str × Kd)} {o : Obj} {ps : List Addr} (h : H p = some (.frz o (.tup (ps.map V.ref)))) (h1 : o.dict = none) (h2 : o.cls = .type "tuple") (r : Paired (PR H) ps fs) : RF H p fs := by
  obtain ⟨kvs, a, b⟩ := pr_split r
  exact ⟨o, ps, kvs, h, h1, h2, a, b⟩
theorem Paired.getP {α β : Type} {R : α → β → Prop} : ∀ {l : List α} {m : List β} {i : Nat} {a : α}, Paired R l m → l[i]? = some a → ∃ b, m[i]? = some b ∧ R a b
  | _, _, i, a, .nil, h => by simp at h
  | _, _, 0, a, .cons (b := b) r t, h => ⟨b, rfl, by rw [← show _ = a from Option.some.inj h]; exact r⟩
  | _, _, i + 1, a, .cons r t, h => Paired.getP (i := i) t (by simpa using h)
theorem Paired.lenP {α β : Type} {R : α → β → Prop} : ∀ {l : List α} {m : List β}, Paired R l m → l.length = m.length
  | _, _, .nil => rfl
  | _, _, .cons _ t => by rw [List.length_cons, List.length_cons, Paired.lenP t]
/-- text keys alone -/
def KS (kvs : List (Key × V)) (ks : List Str) : Prop := kvs.map (·.1) = ks.map Sum.inr
theorem KS.put {kvs : List (Key × V)} {ks : List Str} (h : KS kvs ks) (x : Str) (v : V) : ∃ ks', KS (putK kvs (.inr x) v) ks' := by
  unfold putK
  split
  · refine ⟨ks, ?_⟩
    unfold KS
    rw [← h, List.map_map]
    refine List.map_congr_left fun kv _ => ?_
    show (if kv.1 = Sum.inr x then (kv.1, v) else kv).1 = kv.1
    split <;> rfl
  · refine ⟨ks ++ [x], ?_⟩
    unfold KS
    rw [List.map_append, List.map_append, h]
    rfl
theorem KS.merge {H : Hp} : ∀ {more : List (Key × V)} {fs : List (Str × Kd)}, Paired (fun (kv : Key × V) (f : Str × Kd) => kv.1 = .inr f.1 ∧ Rp H f.2 kv.2) more fs → ∀ {kvs : List (Key × V)} {ks : List Str}, KS kvs ks → ∃ ks', KS (mergeK kvs more) ks'
  | _, _, .nil, kvs, ks, h => ⟨ks, h⟩
  | _, _, .cons (a := kv) (b := f) r t, kvs, ks, h => by
    obtain ⟨ks1, h1⟩ := h.put f.1 kv.2
    rw [← r.1] at h1
    exact KS.merge t h1
end Kq

set_option maxHeartbeats 8000000
namespace Kq
open PySem PySem.Spec PyProof.Rows L2
theorem tupGK {X : Cx} (K : PySem.W.Frag) (h : X.K = K) {es : List Expr} {k : Nat} {t : TGs} {n : Nat} {pos : Pos} (hc : X.calm = true) (hp : PGs X es t)
    (hn : (assignEach es X.env).length = n := by rfl) (hst : (assignEach es X.env).findIdx? (·.1) = none := by rfl) : PG X (.Tuple es k pos) (gTup K n t) := by
  subst h
  exact pg_tup hc hp hn hst
def rDictF (K : PySem.W.Frag) : List V → Hp → VK → Prop := fun xs H Q => ∃ (a : Addr) (o : Obj) (ps : List Addr) (kvs : List (Key × V)), xs = [.ref a] ∧ H a = some (.frz o (.tup (ps.map V.ref))) ∧ o.dict = none ∧ o.cls = .type "tuple" ∧ Paired (fun p kv => SqT K H p [kV kv.1, kv.2]) ps kvs ∧
    ∀ p, H p = none → Q (.ref p) (upd H p (.dK (mergeK [] kvs)))
theorem dictFK {X : Cx} (K : PySem.W.Frag) (h : X.K = K) (hcalm : X.calm = true) : CallR X (.type "dict") (rDictF K) := by
  subst h
  exact Kt.call_dictF hcalm
theorem args_dp : ∀ {t u : Kd}, u ∈ t.args → u.dp + 1 ≤ t.dp
  | .fn a b, u, h => by
    have h : u ∈ a :: b.args := h
    show _ ≤ max a.dp b.dp + 1
    rcases List.mem_cons.mp h with z | z
    · rw [z]
      omega
    · have := args_dp z
      omega
  | .opn _, _, h => by cases h
  | .num, _, h => by cases h
  | .tru, _, h => by cases h
  | .pair _ _, _, h => by cases h
  | .eith _ _, _, h => by cases h
  | .lst _, _, h => by cases h
theorem args_op : ∀ {t u : Kd}, u ∈ t.args → ∀ x ∈ u.opens, x ∈ t.opens
  | .fn a b, u, h => fun x hx => by
    have h : u ∈ a :: b.args := h
    show x ∈ a.opens ++ b.opens
    rcases List.mem_cons.mp h with z | z
    · rw [z] at hx
      exact List.mem_append_left _ hx
    · exact List.mem_append_right _ (args_op z x hx)
  | .opn _, _, h => by cases h
  | .num, _, h => by cases h
  | .tru, _, h => by cases h
  | .pair _ _, _, h => by cases h
  | .eith _ _, _, h => by cases h
  | .lst _, _, h => by cases h
theorem res_dp : ∀ t : Kd, t.res.dp ≤ t.dp
  | .fn a b => by
    have := res_dp b
    show b.res.dp ≤ max a.dp b.dp + 1
    omega
  | .opn _ => Nat.le_refl _
  | .num => Nat.le_refl _
  | .tru => Nat.le_refl _
  | .pair _ _ => Nat.le_refl _
  | .eith _ _ => Nat.le_refl _
  | .lst _ => Nat.le_refl _
theorem res_op : ∀ (t : Kd) (x : Str), x ∈ t.res.opens → x ∈ t.opens
  | .fn a b, x, h => List.mem_append_right _ (res_op b x h)
  | .opn _, _, h => h
  | .num, _, h => h
  | .tru, _, h => h
  | .pair _ _, _, h => h
  | .eith _ _, _, h => h
  | .lst _, _, h => h
theorem nd_take {α : Type} : ∀ {l : List α} {i : Nat} {a : α}, l.Nodup → l[i]? = some a → a ∉ l.take i
  | [], _, _, _, h => by simp at h
  | _ :: _, 0, _, _, _ => by simp
  | x :: l, i + 1, a, n, h => by
    have h : l[i]? = some a := by simpa using h
    obtain ⟨c1, c2⟩ := List.nodup_cons.mp n
    rw [List.take_succ_cons]
    intro m
    rcases List.mem_cons.mp m with z | z
    · rw [← z] at c1
      exact c1 (List.mem_of_getElem? h)
    · exact nd_take c2 h z
abbrev tRight : Stmt := tp 24
abbrev psRight : List Str := ["_law_kind", "_law_fills_here", "_law_others"]
abbrev nRight : List Str := ["_law_kind", "_law_fills_here", "_law_others", "_law_found", "_law_due", "_law_name", "_law_told", "_law_both", "_law_together", "_law_same", "_law_arguments_here", "_law_result", "_law_one"]
/-- the fills of a law's making -/
structure Fl (xs : List Str) (fs : List (Str × Kd)) : Prop where
  nd : (fs.map (·.1)).Nodup
  bd : ∀ f ∈ fs, f.1 ∈ xs ∧ Bd 2 7 xs f.2
theorem Fl.len {xs : List Str} {fs : List (Str × Kd)} (h : Fl xs fs) (hx : xs.length ≤ 26) : fs.length ≤ 26 := by
  have := nd_le (l := fs.map (·.1)) (ns := xs) h.nd fun x hx' => by
    obtain ⟨f, hf, rfl⟩ := List.mem_map.mp hx'
    exact (h.bd f hf).1
  rw [List.length_map] at this
  omega
theorem Fl.told {xs : List Str} {fs : List (Str × Kd)} (h : Fl xs fs) : ∀ x k, told fs x = some k → Bd 2 7 xs k := fun x k e => (h.bd _ (told_mem e)).2
theorem dr_of {H : Hp} {a : Addr} {kvs : List (Key × V)} {fs : List (Str × Kd)} (s : H a = none) (h : Paired (fun (kv : Key × V) (f : Str × Kd) => kv.1 = .inr f.1 ∧ Rp H f.2 kv.2) kvs fs) : DR (upd H a (.dK (mergeK [] kvs))) a (told fs) := by
  refine ⟨_, upd_same, fun x => ?_⟩
  have z := merge_rv (H := H) (x := x) h [] none trivial
  rw [Option.or_none] at z
  exact z.tk (Tk.of (newS s))
section
variable {P : Program} {w : World} {K : PySem.W.Frag} {mg : Str → Option Value} {base : Heap}
theorem scRight : FnScope nRight psRight (defScope tRight) := ⟨rfl, rfl, rfl, by decide +kernel, rfl, by decide +kernel, by decide +kernel⟩
def spRight : Sp := fun vs H Q _ => ∃ (v : V) (p1 p2 : Addr) (t : Kd) (fs gs : List (Str × Kd)) (xs : List Str), vs = [v, .ref p1, .ref p2] ∧ Rp H t v ∧ Bd 37 74 xs t ∧ RF H p1 fs ∧ RF H p2 gs ∧ Fl xs fs ∧ Fl xs gs ∧ xs.Nodup ∧ xs.length ≤ 26 ∧ (∀ x ∈ xs, Nm x) ∧ ∀ G : Hp, Same H G → Q (.bl true) G
theorem okRight {f fF fP fS fO fA fB fC fE : Addr} {fd fdF fdP fdS fdO fdA fdB fdC fdE : FuncData} (F : Fun K "_law_right" "_law_right" tRight f fd)
    (GF : FnOk P w K mg base CX0 42 fF fdF ["kind", "fills"] (spFilled 40)) (bF : Binds K fdF ["kind", "fills"] []) (gF : mg "filled_kind" = some (.ref fF)) (kF : PySem.W.keepIn K (.ref fF) = true)
    (GP : FnOk P w K mg base CX0 41 fP fdP ["_law_kind", "_law_table"] (spPutIn 40)) (bP : Binds K fdP ["_law_kind", "_law_table"] []) (gP : mg "_law_put_in" = some (.ref fP)) (kP : PySem.W.keepIn K (.ref fP) = true)
    (GS : FnOk P w K mg base CX0 42 fS fdS ["_law_found", "_law_due"] (spSo 41)) (bS : Binds K fdS ["_law_found", "_law_due"] []) (gS : mg "_law_is_so" = some (.ref fS)) (kS : PySem.W.keepIn K (.ref fS) = true)
    (GO : FnOk P w K mg base CX0 41 fO fdO ["_law_kind"] (spLOpens 40)) (bO : Binds K fdO ["_law_kind"] []) (gO : mg "_law_opens" = some (.ref fO)) (kO : PySem.W.keepIn K (.ref fO) = true)
    (GA : FnOk P w K mg base CX0 42 fA fdA ["_law_kind"] spLArgs) (bA : Binds K fdA ["_law_kind"] []) (gA : mg "_law_arguments" = some (.ref fA)) (kA : PySem.W.keepIn K (.ref fA) = true)
    (GB : FnOk P w K mg base CX0 42 fB fdB ["kind"] spArgs) (bB : Binds K fdB ["kind"] []) (gB : mg "arguments_of" = some (.ref fB)) (kB : PySem.W.keepIn K (.ref fB) = true)
    (GC : FnOk P w K mg base CX0 42 fC fdC ["kind"] spRes) (bC : Binds K fdC ["kind"] []) (gC : mg "result_of" = some (.ref fC)) (kC : PySem.W.keepIn K (.ref fC) = true)
    (GE : FnOk P w K mg base CX0 42 fE fdE ["kind"] spOpens) (bE : Binds K fdE ["kind"] []) (gE : mg "opens_in" = some (.ref fE)) (kE : PySem.W.keepIn K (.ref fE) = true)
    (md : mg "dict" = none) (mt : mg "tuple" = none) (ms : mg "sorted" = none) : FnOk P w K mg base CX0 43 f fd psRight spRight := by
  refine F.ok scRight (fun vs H Q E h => ?_) (fun cdv A outer s H vs Q E hr h => ?_)
  · obtain ⟨v, p1, p2, t, fs, gs, xs, rfl, _⟩ := h
    rfl
  obtain ⟨v, p1, p2, t, fs, gs, xs, rfl, rt, bt, r1, r2, f1, f2, nx, lx, hx, q⟩ := h
  have r41 := hr.mono (show 41 ≤ 42 by decide)
  refine ⟨_, pss_cons (ps_set (i := 3) scRight.nd rfl (.inl rfl) (pe_call GF hr (by rfl) gF kF bF .nil pass0 (pa_cons (pv 0) (pa_cons (pv 1) pa_nil))))
    (pss_cons (ps_set (i := 4) scRight.nd rfl (.inl rfl) (pe_call GP r41 (by rfl) gP kP bP .nil pass0 (pa_cons (pv 0) (pa_cons (pe_callTy (dictFK K rfl rfl) (by rfl) md PyProof.Rows.boot_dict (pa_cons (pv 1) pa_nil)) pa_nil))))
    (pss_cons (ps_if (PW.pt (pw_or (pt_not (pt_val (pe_call GS hr (by rfl) gS kS bS .nil pass0 (pa_cons (pv 3) (pa_cons (pv 4) pa_nil))))) (pw_or1 (pt_cmpR (op_neD hr.units) (pe_call GF hr (by rfl) gF kF bF .nil pass0 (pa_cons (pv 0) (pa_cons (pv 1) pa_nil))) (pv 3) (nomark _))))) (pss_one (ps_ret pe_bl)) pss_nil)
    (pss_cons (ps_set (i := 7) scRight.nd rfl (.inr rfl) (pe_callTy (call_dictP rfl) (by rfl) md PyProof.Rows.boot_dict (pa_cons
      (pe_lc (own := [("_law_name", 5), ("_law_told", 6)]) (g := gTup K 2 (gCons (gName 5) (gCons (gName 6) gNil))) (by rfl) scRight.nd (pi_tup (pv 1)) (blkOk_by (own := [("_law_name", 5), ("_law_told", 6)]) (N := nRight) (sc := defScope tRight) (by decide +kernel))
        (fun _ _ _ _ _ => tupGK K rfl rfl (pgs_cons (pg_name (i := 5) scRight.nd rfl (.inl rfl)) (pgs_cons (pg_name (i := 6) scRight.nd rfl (.inl rfl)) pgs_nil))) (fun _ _ _ _ _ => pts_nil)
        (fun _ _ _ _ _ => pe_tup (pa_cons (pv 5) (pa_cons (pe_call GP r41 (by rfl) gP kP bP .nil pass0 (pa_cons (pv 6) (pa_cons (pe_callTy (dictFK K rfl rfl) (by rfl) md PyProof.Rows.boot_dict (pa_cons (pv 2) pa_nil)) pa_nil))) pa_nil)))) pa_nil)))
    (pss_cons (ps_for PassesOwn.never rfl (pi_tup (pv 2)) (tupGK K rfl rfl (pgs_cons (pg_name (i := 5) scRight.nd rfl (.inl rfl)) (pgs_cons (pg_name (i := 6) scRight.nd rfl (.inl rfl)) pgs_nil)))
      (pss_one (ps_asg (pe_dget2 (hu_of hr) (pv 7) (pv 5) (pv 6) ⟨rfl, rfl, rfl, rfl⟩) (pg_sub (pv 7) (pv 5) (set_dict (hu_of hr))))))
    (pss_cons (ps_set (i := 8) scRight.nd rfl (.inl rfl) (pe_callTy Kt.call_tupleF (by rfl) mt PyProof.Rows.boot_tuple (pa_cons
      (pe_lc (own := [("_law_name", 5)]) (g := gName 5) (by rfl) scRight.nd (pi_list (pe_callB (call_sortedD rfl) (by rfl) ms PyProof.Rows.boot_sorted (pa_cons (pv 7) pa_nil))) (blkOk_by (own := [("_law_name", 5)]) (N := nRight) (sc := defScope tRight) (by decide +kernel))
        (fun _ _ _ _ _ => pg_name (i := 5) scRight.nd rfl (.inl rfl)) (fun _ _ _ _ _ => pts_nil)
        (fun _ _ _ _ _ => pe_tup (pa_cons (pv 5) (pa_cons (pe_dget (hu_of hr) (pv 7) (pv 5) (fun _ _ => rfl)) pa_nil)))) pa_nil)))
    (pss_cons (ps_if (pt_cmpR (op_neD hr.units) (pe_call GF hr (by rfl) gF kF bF .nil pass0 (pa_cons (pv 3) (pa_cons (pv 2) pa_nil))) (pe_call GF hr (by rfl) gF kF bF .nil pass0 (pa_cons (pv 0) (pa_cons (pv 8) pa_nil))) (nomark _)) (pss_one (ps_ret pe_bl)) pss_nil)
    (pss_cons (ps_set (i := 9) scRight.nd rfl (.inl rfl) (pe_callTy Kt.call_tupleF (by rfl) mt PyProof.Rows.boot_tuple (pa_cons
      (pe_lc (own := [("_law_one", 12)]) (g := gName 12) (by rfl) scRight.nd (pi_list (pe_call GO r41 (by rfl) gO kO bO .nil pass0 (pa_cons (pv 0) pa_nil))) (blkOk_by (own := [("_law_one", 12)]) (N := nRight) (sc := defScope tRight) (by decide +kernel))
        (fun _ _ _ _ _ => pg_name (i := 12) scRight.nd rfl (.inl rfl)) (fun _ _ _ _ _ => pts_nil)
        (fun _ _ _ _ _ => pe_tup (pa_cons (pv 12) (pa_cons (pe_tup (pa_cons pe_str (pa_cons (pv 12) pa_nil))) pa_nil)))) pa_nil)))
    (pss_cons (ps_if (PW.pt (pw_or (pt_cmpR (op_neD hr.units) (pe_call GF hr (by rfl) gF kF bF .nil pass0 (pa_cons (pv 0) (pa_cons Kt.pe_tup0 pa_nil))) (pv 0) (nomark _)) (pw_or1 (pt_cmpR (op_neD hr.units) (pe_call GF hr (by rfl) gF kF bF .nil pass0 (pa_cons (pv 0) (pa_cons (pv 9) pa_nil))) (pv 0) (nomark _))))) (pss_one (ps_ret pe_bl)) pss_nil)
    (pss_cons (ps_asg (pe_call GA hr (by rfl) gA kA bA .nil pass0 (pa_cons (pv 4) pa_nil)) (tupGK K rfl rfl (pgs_cons (pg_name (i := 10) scRight.nd rfl (.inl rfl)) (pgs_cons (pg_name (i := 11) scRight.nd rfl (.inl rfl)) pgs_nil))))
    (pss_cons (ps_if (PW.pt (pw_or (pt_cmpR (op_neD hr.units) (pe_call GB hr (by rfl) gB kB bB .nil pass0 (pa_cons (pv 3) pa_nil)) (pe_callTy call_tuple_of (by rfl) mt PyProof.Rows.boot_tuple (pa_cons (pv 10) pa_nil)) (nomark _)) (pw_or1 (pt_cmpR (op_neD hr.units) (pe_call GC hr (by rfl) gC kC bC .nil pass0 (pa_cons (pv 3) pa_nil)) (pv 11) (nomark _))))) (pss_one (ps_ret pe_bl)) pss_nil)
    (pss_one (ps_ret (pe_cmpR (op_eqD hr.units) (pe_call GE hr (by rfl) gE kE bE .nil pass0 (pa_cons (pv 3) pa_nil)) (pe_callTy call_tuple_of (by rfl) mt PyProof.Rows.boot_tuple (pa_cons (pe_call GO r41 (by rfl) gO kO bO .nil pass0 (pa_cons (pv 4) pa_nil)) pa_nil)) (nomark _)))))))))))))), ?_⟩
  obtain ⟨d1, z1, o1⟩ := fill_bd f1.told bt.op
  obtain ⟨d2, z2, o2⟩ := fill_bd f2.told o1
  have tdp := bt.dp
  have tsz := bt.sz
  generalize ht1 : t.fill (told fs) = t1 at d1 z1 o1 d2 z2 o2
  have nm0 : ∀ x ∈ t.opens, Nm x := fun x h => hx x (bt.op x h)
  have nm1 : ∀ x ∈ t1.opens, Nm x := fun x h => hx x (o1 x h)
  have nm2 : ∀ x ∈ (t1.fill (told gs)).opens, Nm x := fun x h => hx x (o2 x h)
  obtain ⟨sh0, ly0⟩ := shT nm0 (by omega)
  obtain ⟨sh1, ly1⟩ := shT nm1 (by omega)
  obtain ⟨sh2, ly2⟩ := shT nm2 (by omega)
  have lf := f1.len lx
  have lg := f2.len lx
  -- found, due
  refine ⟨_, rfl, _, rfl, v, p1, t, fs, rfl, by omega, rt, r1, fun vfo G1 s1 rfo => ?_⟩
  rw [ht1] at rfo
  obtain ⟨oa, psa, kva, h1, h2, h3, h4, h5⟩ := r1.same s1
  refine ⟨_, rfl, _, rfl, p1, oa, psa, kva, rfl, h1, h2, h3, Paired.mapP h4 fun _ _ e => SqT.of e, fun a1 na1 => ?_⟩
  refine ⟨v, a1, t, told fs, rfl, by omega, (rt.tk (Tk.of s1)).tk (Tk.of (newS na1)), dr_of na1 h5, fun vdu G2 s2 rdu => ?_⟩
  rw [ht1] at rdu
  have sA2 : Same H G2 := s1.trans ((newS na1).trans s2)
  have rfo2 := rfo.tk (Tk.of ((newS (o := .dK (mergeK [] kva)) na1).trans s2))
  clear h1 h2 h3 h4 h5 na1 s1 s2 rfo
  refine ⟨_, rfl, _, rfl, vfo, vdu, rfl, .inr ⟨t1, rfo2, rdu, by omega⟩, fun G3 s3 => ⟨_, rfl, iteF ?_⟩⟩
  refine ⟨_, rfl, _, rfl, v, p1, t, fs, rfl, by omega, rt.tk (Tk.of (sA2.trans s3)), r1.same (sA2.trans s3), fun vf2 G4 s4 rf2 => ?_⟩
  rw [ht1] at rf2
  have sA4 : Same H G4 := sA2.trans (s3.trans s4)
  have rfo4 := rfo2.tk (Tk.of (s3.trans s4))
  have rdu4 := rdu.tk (Tk.of (s3.trans s4))
  refine ⟨_, rfl, toD t1, toD t1, dpT K rf2, dpT K rfo4, sh1, sh1, _, rfl, neF ly1 ?_⟩
  clear sA2 rfo2 rdu s3 s4 rf2
  -- both, from the fills
  obtain ⟨ob, psb, hb1, prb⟩ := (r1.same sA4).see
  refine ⟨_, rfl, p1, rfl, ⟨_, .inl (.inr ⟨ob, hb1⟩)⟩, fun D nD => ?_⟩
  have hD : H D = none := sA4.free nD
  refine lc_tup (xs := psb.map V.ref) (fun i G => Same G4 G ∧ ∃ qs : List Addr, G D = some (.lst (qs.map V.ref)) ∧ Paired (PR G) qs ((fs.take i).map fun f => (f.1, f.2.fill (told gs)))) ⟨newS nD, [], upd_same, .nil⟩ (fun i G _ z => .inl (.inr ⟨ob, z.1 _ _ hb1⟩)) (fun i x G hxi z => ?_) (fun G5 z => ?_)
  · obtain ⟨sG, qs, gD, pq⟩ := z
    rw [List.getElem?_map] at hxi
    cases hq0 : psb[i]? with
    | none => rw [hq0] at hxi; cases hxi
    | some q0 =>
      rw [hq0] at hxi
      have ex : V.ref q0 = x := Option.some.inj hxi
      subst ex
      obtain ⟨f0, hf0, v0, e0, r0⟩ := Paired.getP prb hq0
      have tk : (fs.take (i + 1)).map (fun f => (f.1, f.2.fill (told gs))) = (fs.take i).map (fun f => (f.1, f.2.fill (told gs))) ++ [(f0.1, f0.2.fill (told gs))] := by
        rw [List.take_add_one, hf0, List.map_append]
        rfl
      obtain ⟨o5, ps5, kv5, g1, g2, g3, g4, g5⟩ := r2.same (sA4.trans sG)
      have bf0 := (f1.bd f0 (List.mem_of_getElem? hf0)).2.dp
      refine ⟨q0, _, rfl, SqT.of (sG _ _ e0), rfl, _, _, rfl, _, _, rfl, rfl, rfl, _, rfl, _, rfl, _, rfl, p2, o5, ps5, kv5, rfl, g1, g2, g3, Paired.mapP g4 fun _ _ e => SqT.of e, fun a2 na2 => ?_⟩
      refine ⟨v0, a2, f0.2, told gs, rfl, by omega, (r0.tk (Tk.of sG)).tk (Tk.of (newS na2)), dr_of na2 g5, fun u G6 s6 ru => ⟨(by show 2 ≤ sizeLine; decide), fun q nq => ?_⟩⟩
      have s26 := (newS (o := .dK (mergeK [] kv5)) na2).trans s6
      have sq := newS (o := .tup [V.str f0.1, u]) nq
      have gDq := sq _ _ (s26 _ _ gD)
      have t1' : Tk G (upd (upd G6 q (.tup [V.str f0.1, u])) D (.lst (qs.map V.ref ++ [.ref q]))) := (Tk.of (s26.trans sq)).put (fun _ z => by rw [gD] at z; cases z)
      have t2' : Tk (upd G6 q (.tup [V.str f0.1, u])) (upd (upd G6 q (.tup [V.str f0.1, u])) D (.lst (qs.map V.ref ++ [.ref q]))) := Tk.rfl.put (fun _ z => by rw [gDq] at z; cases z)
      refine ⟨_, gDq, ?_, smk (sG.trans (s26.trans sq)) nD, qs ++ [q], ?_, ?_⟩
      · have l1 := Paired.lenP pq
        rw [List.length_map, List.length_take] at l1
        rw [List.length_map]
        exact small1000 (by omega)
      · rw [upd_same, List.map_append]
        rfl
      · rw [tk]
        exact Paired.snoc (Paired.mapP pq fun _ _ e => e.tk t1') ⟨u, t2' _ _ upd_same, (ru.tk (Tk.of sq)).tk t2'⟩
  obtain ⟨sG5, qs, gD, pq⟩ := z
  have lpb := Paired.lenP prb
  rw [List.length_map, lpb, List.take_length] at pq
  generalize hfs' : (fs.map fun f => (f.1, f.2.fill (told gs))) = fs' at pq
  obtain ⟨kvq, pq1, pq2⟩ := pr_split pq
  refine ⟨D, qs, kvq, rfl, SqL.of gD, Paired.mapP pq1 fun _ _ e => SqT.of e, fun b nb => ?_⟩
  have sb6 := newS (o := .dK (mergeK [] kvq)) nb
  obtain ⟨ks0, hks0⟩ := KS.merge pq2 (kvs := []) (ks := []) rfl
  have lkv : (mergeK [] kvq).length ≤ 26 := by
    have l1 := length_mergeK kvq []
    have l2 := Paired.lenP pq2
    rw [← hfs', List.length_map] at l2
    rw [List.length_nil] at l1
    omega
  have gb6 : (upd G5 b (.dK (mergeK [] kvq))) b = some (.dK (mergeK [] kvq)) := upd_same
  have rv6 : ∀ x, RV (upd G5 b (.dK (mergeK [] kvq))) (told fs' x) (valV (mergeK [] kvq) (.inr x)) := fun x => by
    have z := merge_rv (x := x) pq2 [] none trivial
    rw [Option.or_none] at z
    exact z.tk (Tk.of sb6)
  have sA6 : Same H (upd G5 b (.dK (mergeK [] kvq))) := sA4.trans (sG5.trans sb6)
  have hb : H b = none := (sA4.trans sG5).free nb
  have rfo6 := rfo4.tk (Tk.of (sG5.trans sb6))
  have rdu6 := rdu4.tk (Tk.of (sG5.trans sb6))
  generalize upd G5 b (.dK (mergeK [] kvq)) = G6 at gb6 rv6 sA6 rfo6 rdu6
  generalize mergeK [] kvq = kv6 at hks0 lkv gb6 rv6
  clear rfo4 rdu4 sG5 sb6 gD pq pq1 pq2 nb prb hb1 lpb nD hD sA4
  -- the others
  obtain ⟨oc', psc, hc1, prc⟩ := (r2.same sA6).see
  have lpc := Paired.lenP prc
  have keepS : ∀ {G : Hp}, (∀ bb o, bb ≠ b → G6 bb = some o → G bb = some o) → Same H G := fun {G} kk bb o e => kk bb o (ne_of_none e hb) (sA6 _ _ e)
  have keepT : ∀ {G : Hp}, (∀ bb o, bb ≠ b → G6 bb = some o → G bb = some o) → Tk G6 G := fun {G} kk bb o e => kk bb _ (fun z => by rw [z, gb6] at e; cases e) e
  refine ⟨_, rfl, p2, rfl, ⟨_, .inl (.inr ⟨oc', hc1⟩)⟩, for_tup (xs := psc.map V.ref) (fun i σ G => (∃ y5 y6, σ = [some v, some (.ref p1), some (.ref p2), some vfo, some vdu, y5, y6, some (.ref b), none, none, none, none, none]) ∧ (∀ bb o, bb ≠ b → G6 bb = some o → G bb = some o) ∧
      ∃ (kvs : List (Key × V)) (ks : List Str), G b = some (.dK kvs) ∧ KS kvs ks ∧ kvs.length ≤ 26 + i ∧ ∀ x, RV G ((told fs' x).or (told (gs.take i) x)) (valV kvs (.inr x))) ?_ (fun i σ G _ z => ?_) (fun i x σ G hxi z => ?_) (fun σ G7 z => ?_)⟩
  · exact ⟨⟨_, _, rfl⟩, fun _ _ _ e => e, kv6, ks0, gb6, hks0, lkv, fun x => by rw [List.take_zero]; show RV G6 ((told fs' x).or none) _; rw [Option.or_none]; exact rv6 x⟩
  · have e := keepS z.2.1
    exact .inl (.inr ⟨oc', z.2.1 _ _ (fun w => by rw [w, gb6] at hc1; cases hc1) hc1⟩)
  · obtain ⟨⟨y5, y6, rfl⟩, kk, kvs, ks, gb, hks, lk, rv⟩ := z
    rw [List.getElem?_map] at hxi
    cases hq0 : psc[i]? with
    | none => rw [hq0] at hxi; cases hxi
    | some q0 =>
      rw [hq0] at hxi
      have ex : V.ref q0 = x := Option.some.inj hxi
      subst ex
      obtain ⟨g0, hg0, v0, e0, r0⟩ := Paired.getP prc hq0
      have li : i < gs.length := (List.getElem?_eq_some_iff.mp hg0).1
      have e0' := keepT kk _ _ e0
      have r0' := r0.tk (keepT kk)
      have tk : gs.take (i + 1) = gs.take i ++ [g0] := by rw [List.take_add_one, hg0]; rfl
      have no : told (gs.take i) g0.1 = none := by
        refine told_none fun hm => ?_
        rw [List.map_take] at hm
        have hgm : (gs.map (·.1))[i]? = some g0.1 := by rw [List.getElem?_map, hg0]; rfl
        exact nd_take f2.nd hgm hm
      refine ⟨q0, _, rfl, SqT.of e0', rfl, _, _, rfl, _, _, rfl, rfl, ?_⟩
      refine ⟨_, rfl, b, rfl, .inl ⟨kvs, .inl gb⟩, _, rfl, _, rfl, _, .inl ⟨kvs, .inr g0.1, .inl gb, rfl, rfl⟩, _, rfl, _, rfl, b, _, rfl, .inl ⟨kvs, .inr g0.1, gb, rfl, small1000 (by omega), rfl⟩, ?_⟩
      obtain ⟨ks', hks'⟩ := hks.put g0.1 ((valV kvs (.inr g0.1)).getD v0)
      have tb : Tk G (upd G b (.dK (putK kvs (.inr g0.1) ((valV kvs (.inr g0.1)).getD v0)))) := Tk.rfl.put (fun _ z => by rw [gb] at z; cases z)
      refine ⟨⟨_, _, rfl⟩, fun bb o ne e => by rw [upd_ne ne]; exact kk bb o ne e, _, ks', upd_same, hks', ?_, fun x => ?_⟩
      · have l1 := length_mergeK [(.inr g0.1, (valV kvs (.inr g0.1)).getD v0)] kvs
        have l2 : (putK kvs (.inr g0.1) ((valV kvs (.inr g0.1)).getD v0)).length ≤ kvs.length + 1 := l1
        omega
      · rw [tk, told_snoc, valV_put]
        by_cases e : g0.1 = x
        · rw [if_pos e, if_pos (by rw [e])]
          have z := rv x
          rw [← e, no, Option.or_none] at z
          rw [← e]
          show RV _ ((told fs' g0.1).or ((some g0.2).or (told (gs.take i) g0.1))) (some ((valV kvs (.inr g0.1)).getD v0))
          generalize hnv : (valV kvs (.inr g0.1)).getD v0 = nv at tb ⊢
          cases hv : valV kvs (.inr g0.1) with
          | none =>
            rw [hv] at z hnv
            have hnv : v0 = nv := hnv
            cases ht : told fs' g0.1 with
            | none =>
              show Rp _ g0.2 nv
              rw [← hnv]
              rw [← hnv] at tb
              exact r0'.tk tb
            | some k => rw [ht] at z; exact z.elim
          | some u =>
            rw [hv] at z hnv
            have hnv : u = nv := hnv
            cases ht : told fs' g0.1 with
            | none => rw [ht] at z; exact z.elim
            | some k =>
              rw [ht] at z
              show Rp _ k nv
              rw [← hnv]
              rw [← hnv] at tb
              exact Rp.tk tb z
        · rw [if_neg e, if_neg (fun z => e (Sum.inr.inj z).symm), Option.none_or]
          exact (rv x).tk tb
  obtain ⟨⟨y5, y6, rfl⟩, kk, kvs, ks, gb, hks, lk, rv⟩ := z
  rw [List.length_map, lpc, List.take_length] at rv
  rw [List.length_map, lpc] at lk
  have sA7 : Same H G7 := keepS kk
  have rfo7 := rfo6.tk (keepT kk)
  have rdu7 := rdu6.tk (keepT kk)
  clear keepS keepT kk rfo6 rdu6 sA6 rv6 gb6 hks0 lkv prc hc1
  have lks : ks.length = kvs.length := by
    have := congrArg List.length hks
    rw [List.length_map, List.length_map] at this
    exact this.symm
  -- together
  generalize hB : (fun x => (told fs' x).or (told gs x)) = B
  have rvB : ∀ x, RV G7 (B x) (valV kvs (.inr x)) := fun x => by rw [← hB]; exact rv x
  refine ⟨_, rfl, b, kvs, ks, rfl, .inl gb, hks, by omega, fun ys S pm _ nS => ⟨S, rfl, ⟨_, SqL.of upd_same⟩, fun D2 nD2 => ?_⟩⟩
  have sS := newS (o := .lst (ys.map V.str)) nS
  have gS : (upd G7 S (.lst (ys.map V.str))) S = some (.lst (ys.map V.str)) := upd_same
  generalize upd G7 S (.lst (ys.map V.str)) = GS' at sS gS nD2
  have inB : ∀ y, y ∈ ys → ∃ k u, B y = some k ∧ valV kvs (.inr y) = some u ∧ Rp G7 k u := fun y hy => by
    have z := rvB y
    cases hv : valV kvs (.inr y) with
    | none =>
      exact absurd (by rw [hks]; exact List.mem_map_of_mem (pm.mem_iff.mp hy)) (valV_not hv)
    | some u =>
      rw [hv] at z
      cases ht : B y with
      | none => rw [ht] at z; exact z.elim
      | some k => rw [ht] at z; exact ⟨k, u, rfl, rfl, z⟩
  generalize hDy : (fun y => (B y).getD Kd.num) = Dy
  have dB : ∀ y ∈ ys, B y = some (Dy y) := fun y hy => by
    obtain ⟨k, u, e, _, _⟩ := inB y hy
    rw [← hDy]
    show B y = some ((B y).getD Kd.num)
    rw [e]
    rfl
  have lys : ys.length ≤ 52 := by
    rw [pm.length_eq]
    omega
  refine lc_list (xs := ys.map V.str) (fun i G => Same GS' G ∧ ∃ qs : List Addr, G D2 = some (.lst (qs.map V.ref)) ∧ Paired (PR G) qs ((ys.take i).map fun y => (y, Dy y))) ⟨newS nD2, [], upd_same, .nil⟩ (fun i G _ z => SqL.of (z.1 _ _ gS)) (fun i x G hxi z => ?_) (fun G8 z => ?_)
  · obtain ⟨sG, qs2, gD2, pq2⟩ := z
    rw [List.getElem?_map] at hxi
    cases hy : ys[i]? with
    | none => rw [hy] at hxi; cases hxi
    | some y =>
      rw [hy] at hxi
      have ex : V.str y = x := Option.some.inj hxi
      subst ex
      obtain ⟨k, u, e1, e2, e3⟩ := inB y (List.mem_of_getElem? hy)
      have gbG := sG _ _ (sS _ _ gb)
      have tk : (ys.take (i + 1)).map (fun y => (y, Dy y)) = (ys.take i).map (fun y => (y, Dy y)) ++ [(y, Dy y)] := by
        rw [List.take_add_one, hy, List.map_append]
        rfl
      have dk : Dy y = k := by rw [← hDy]; show (B y).getD Kd.num = k; rw [e1]; rfl
      refine ⟨rfl, _, rfl, _, rfl, _, rfl, b, u, rfl, .inl ⟨kvs, .inr y, .inl gbG, rfl, e2.symm⟩, (by show 2 ≤ sizeLine; decide), fun q nq => ?_⟩
      have sq := newS (o := .tup [V.str y, u]) nq
      have gDq := sq _ _ gD2
      have t1' : Tk G (upd (upd G q (.tup [V.str y, u])) D2 (.lst (qs2.map V.ref ++ [.ref q]))) := (Tk.of sq).put (fun _ z => by rw [gD2] at z; cases z)
      have t2' : Tk (upd G q (.tup [V.str y, u])) (upd (upd G q (.tup [V.str y, u])) D2 (.lst (qs2.map V.ref ++ [.ref q]))) := Tk.rfl.put (fun _ z => by rw [gDq] at z; cases z)
      refine ⟨_, gDq, ?_, smk (sG.trans sq) nD2, qs2 ++ [q], ?_, ?_⟩
      · have l1 := Paired.lenP pq2
        rw [List.length_map, List.length_take] at l1
        rw [List.length_map]
        exact small1000 (by omega)
      · rw [upd_same, List.map_append]
        rfl
      · rw [tk]
        refine Paired.snoc (Paired.mapP pq2 fun _ _ e => e.tk t1') ⟨u, t2' _ _ upd_same, ?_⟩
        show Rp _ (Dy y) u
        rw [dk]
        exact e3.tk ((Tk.of (sS.trans sG)).trans t1')
  obtain ⟨sG8, qs2, gD2, pq2⟩ := z
  rw [List.length_map, List.take_length] at pq2
  refine ⟨D2, _, rfl, SqL.of gD2, fun l ol nl hl1 hl2 => ?_⟩
  have sl := newS (o := .frz ol (.tup (qs2.map V.ref))) nl
  have rf9 : RF (upd G8 l (.frz ol (.tup (qs2.map V.ref)))) l (ys.map fun y => (y, Dy y)) := RF.mk upd_same hl1 hl2 (Paired.mapP pq2 fun _ _ e => e.tk (Tk.of sl))
  have s79 := sS.trans (sG8.trans sl)
  have sA9 := sA7.trans s79
  have rfo9 := rfo7.tk (Tk.of s79)
  have rdu9 := rdu7.tk (Tk.of s79)
  generalize upd G8 l (.frz ol (.tup (qs2.map V.ref))) = G9 at rf9 s79 sA9 rfo9 rdu9
  have toldB : told (ys.map fun y => (y, Dy y)) = B := by
    funext x
    rw [told_of ys dB x]
    by_cases e : x ∈ ys
    · rw [if_pos e]
    · rw [if_neg e]
      have z := rvB x
      cases hv : valV kvs (.inr x) with
      | none =>
        rw [hv] at z
        cases ht : B x with
        | none => rfl
        | some k => rw [ht] at z; exact z.elim
      | some u =>
        have h1 := valV_in hv
        rw [hks] at h1
        obtain ⟨y, hy, ey⟩ := List.mem_map.mp h1
        cases ey
        exact absurd (pm.mem_iff.mpr hy) e
  have both : t1.fill (told gs) = t.fill B := by
    rw [← ht1, Kd.fill_fill, ← hB, ← hfs']
    congr 1
    funext x
    rw [told_map]
  clear inB dB sS gS nD2 gD2 pq2 nl sl sG8 rvB rv hks gb
  refine ⟨_, rfl, _, rfl, vfo, p2, t1, gs, rfl, by omega, rfo9, r2.same sA9, fun w1 Ga sa rw1 => ?_⟩
  refine ⟨_, rfl, _, rfl, v, l, t, _, rfl, by omega, rt.tk (Tk.of (sA9.trans sa)), rf9.same sa, fun w2 Gb sb' rw2 => ?_⟩
  rw [toldB, ← both] at rw2
  refine ⟨toD (t1.fill (told gs)), toD (t1.fill (told gs)), dpT K (rw1.tk (Tk.of sb')), dpT K rw2, sh2, sh2, _, rfl, neF ly2 ?_⟩
  have sAb := sA9.trans (sa.trans sb')
  have rfob := rfo9.tk (Tk.of (sa.trans sb'))
  have rdub := rdu9.tk (Tk.of (sa.trans sb'))
  clear rw1 rw2 sa sb' rfo9 rdu9 sA9 s79
  -- the same
  refine ⟨_, rfl, v, t, xs, rfl, by omega, rt.tk (Tk.of sAb), lx, bt.op, fun lo zs Gc sc' gl _ _ hz => ⟨lo, rfl, ⟨_, SqL.of gl⟩, fun D3 nD3 => ?_⟩⟩
  have lzs : zs.length ≤ 900 := by
    have := Kd.opens_le t
    rename_i hnd
    exact Nat.le_trans (nd_le hnd fun x h => (hz x).mp h) (by omega)
  refine lc_list (xs := zs.map V.str) (fun i G => Same Gc G ∧ ∃ qs : List Addr, G D3 = some (.lst (qs.map V.ref)) ∧ Paired (PR G) qs ((zs.take i).map fun y => (y, Kd.opn y))) ⟨newS nD3, [], upd_same, .nil⟩ (fun i G _ z => SqL.of (z.1 _ _ gl)) (fun i x G hxi z => ?_) (fun Gd z => ?_)
  · obtain ⟨sG, qs3, gD3, pq3⟩ := z
    rw [List.getElem?_map] at hxi
    cases hy : zs[i]? with
    | none => rw [hy] at hxi; cases hxi
    | some y =>
      rw [hy] at hxi
      have ex : V.str y = x := Option.some.inj hxi
      subst ex
      have tk : (zs.take (i + 1)).map (fun y => (y, Kd.opn y)) = (zs.take i).map (fun y => (y, Kd.opn y)) ++ [(y, Kd.opn y)] := by
        rw [List.take_add_one, hy, List.map_append]
        rfl
      have li : i < zs.length := (List.getElem?_eq_some_iff.mp hy).1
      refine ⟨rfl, _, rfl, _, rfl, (by show 2 ≤ sizeLine; decide), fun q1 nq1 => ⟨(by show 2 ≤ sizeLine; decide), fun q nq => ?_⟩⟩
      have s1' := newS (o := .tup [V.str "open", V.str y]) nq1
      have sq := newS (o := .tup [V.str y, .ref q1]) nq
      have s12 := s1'.trans sq
      have gDq := s12 _ _ gD3
      have t1' : Tk G (upd (upd (upd G q1 (.tup [V.str "open", V.str y])) q (.tup [V.str y, .ref q1])) D3 (.lst (qs3.map V.ref ++ [.ref q]))) := (Tk.of s12).put (fun _ z => by rw [gD3] at z; cases z)
      have t2' : Tk (upd (upd G q1 (.tup [V.str "open", V.str y])) q (.tup [V.str y, .ref q1])) (upd (upd (upd G q1 (.tup [V.str "open", V.str y])) q (.tup [V.str y, .ref q1])) D3 (.lst (qs3.map V.ref ++ [.ref q]))) := Tk.rfl.put (fun _ z => by rw [gDq] at z; cases z)
      refine ⟨_, gDq, ?_, smk (sG.trans s12) nD3, qs3 ++ [q], ?_, ?_⟩
      · have l1 := Paired.lenP pq3
        rw [List.length_map, List.length_take] at l1
        rw [List.length_map]
        exact small1000 (by omega)
      · rw [upd_same, List.map_append]
        rfl
      · rw [tk]
        exact Paired.snoc (Paired.mapP pq3 fun _ _ e => e.tk t1') ⟨.ref q1, t2' _ _ upd_same, q1, rfl, t2' _ _ (sq q1 _ upd_same)⟩
  obtain ⟨sGd, qs3, gD3, pq3⟩ := z
  rw [List.length_map, List.take_length] at pq3
  refine ⟨D3, _, rfl, SqL.of gD3, fun l2 ol2 nl2 hl21 hl22 => ?_⟩
  have sl2 := newS (o := .frz ol2 (.tup (qs3.map V.ref))) nl2
  have rfe : RF (upd Gd l2 (.frz ol2 (.tup (qs3.map V.ref)))) l2 (zs.map fun y => (y, Kd.opn y)) := RF.mk upd_same hl21 hl22 (Paired.mapP pq3 fun _ _ e => e.tk (Tk.of sl2))
  have sbe := sc'.trans (sGd.trans sl2)
  have sAe := sAb.trans sbe
  have rfoe := rfob.tk (Tk.of sbe)
  have rdue := rdub.tk (Tk.of sbe)
  generalize upd Gd l2 (.frz ol2 (.tup (qs3.map V.ref))) = Ge at rfe sbe sAe rfoe rdue
  clear rfob rdub sAb gD3 pq3 nl2 sl2 sGd nD3 gl sc'
  have fn0 : t.fill (told []) = t := Kd.fill_self (fun x k e => by cases e) t
  have fn1 : t.fill (told (zs.map fun y => (y, Kd.opn y))) = t := Kd.fill_self (fun x k e => by
    obtain ⟨y, _, ey⟩ := List.mem_map.mp (told_mem e)
    cases ey
    rfl) t
  refine ⟨_, rfl, fun p0 oo np0 ho1 ho2 => ?_⟩
  have s0 := newS (o := .frz oo (.tup [])) np0
  refine ⟨v, p0, t, [], rfl, by omega, (rt.tk (Tk.of sAe)).tk (Tk.of s0), RF.mk (ps := []) upd_same ho1 ho2 .nil, fun w3 Gf sf rw3 => ?_⟩
  rw [fn0] at rw3
  have sAf := sAe.trans (s0.trans sf)
  refine ⟨_, rfl, toD t, toD t, dpT K rw3, dpT K (rt.tk (Tk.of sAf)), sh0, sh0, _, rfl, neF ly0 ?_⟩
  refine ⟨_, rfl, _, rfl, v, l2, t, _, rfl, by omega, rt.tk (Tk.of sAf), rfe.same (s0.trans sf), fun w4 Gg sg' rw4 => ?_⟩
  rw [fn1] at rw4
  have sAg := sAf.trans sg'
  have seg := (s0.trans sf).trans sg'
  refine ⟨_, rfl, toD t, toD t, dpT K rw4, dpT K (rt.tk (Tk.of sAg)), sh0, sh0, _, rfl, neF ly0 ?_⟩
  have rfog := rfoe.tk (Tk.of seg)
  have rdug := rdue.tk (Tk.of seg)
  clear rfoe rdue rfe rw3 rw4 s0 sf sg' seg sAe sAf sbe
  -- arguments, result
  refine ⟨_, rfl, vdu, t1, rfl, rdug, by omega, fun pp la us u Gh sh gpp gla rus ru => ?_⟩
  refine ⟨pp, _, rfl, SqT.of gpp, rfl, _, _, rfl, _, _, rfl, rfl, ?_⟩
  have sAh := sAg.trans sh
  have rfoh := rfog.tk (Tk.of sh)
  have rduh := rdug.tk (Tk.of sh)
  refine ⟨_, rfl, vfo, t1, rfl, rfoh, by omega, fun pb ub Gi si gpb rub => ?_⟩
  refine ⟨_, rfl, la, _, rfl, .inl ⟨SqL.of (si _ _ gla), fun pt npt => ?_⟩⟩
  have spt := newS (o := .tup us) npt
  have hargs : ∀ c ∈ t1.args, (∀ x ∈ c.opens, Nm x) ∧ c.dp ≤ 50 := fun c hc => ⟨fun x hx' => nm1 x (args_op hc x hx'), by have := args_dp hc; omega⟩
  obtain ⟨sh3, ly3⟩ := shTt hargs
  refine ⟨.tuple (t1.args.map toD), .tuple (t1.args.map toD), .tup (SqT.of (spt _ _ gpb)) (dpTs K (rub.tk (Tk.of spt))), .tup (SqT.of upd_same) (dpTs K (rus.tk (Tk.of (si.trans spt)))), sh3, sh3, _, rfl, neF ly3 ?_⟩
  have sij := si.trans spt
  refine ⟨_, rfl, vfo, t1, rfl, rfoh.tk (Tk.of sij), fun w5 rw5 => ?_⟩
  have hres : (∀ x ∈ t1.res.opens, Nm x) ∧ t1.res.dp ≤ 50 := ⟨fun x hx' => nm1 x (res_op t1 x hx'), by have := res_dp t1; omega⟩
  obtain ⟨sh4, ly4⟩ := shT hres.1 hres.2
  refine ⟨_, rfl, toD t1.res, toD t1.res, dpT K rw5, dpT K (ru.tk (Tk.of sij)), sh4, sh4, _, rfl, neF ly4 ?_⟩
  -- open names
  refine ⟨_, rfl, vfo, t1, rfl, rfoh.tk (Tk.of sij), by omega, ⟨xs, nx, by omega, o1⟩, fun px ys1 Gk sk gpx hs1 hn1 hm1 => ?_⟩
  refine ⟨_, rfl, vdu, t1, xs, rfl, by omega, (rduh.tk (Tk.of sij)).tk (Tk.of sk), lx, o1, fun ly ys2 Gl sl' gly hs2 hn2 hm2 => ?_⟩
  refine ⟨ly, _, rfl, .inl ⟨SqL.of gly, fun pz npz => ?_⟩⟩
  have spz := newS (o := .tup (ys2.map V.str)) npz
  have eys : ys1 = ys2 := sortEq (rise' hs1) (rise' hs2) hn1 hn2 fun k => (hm1 k).trans (hm2 k).symm
  subst eys
  obtain ⟨sh5, ly5⟩ := shTS (xs := ys1) fun x h => nm1 x ((hm1 x).mp h)
  refine ⟨.tuple (ys1.map PyData.str), .tuple (ys1.map PyData.str), .tup (SqT.of (spz _ _ (sl' _ _ gpx))) (dpStrs K _ ys1), .tup (SqT.of upd_same) (dpStrs K _ ys1), sh5, sh5, ?_⟩
  rw [SeqAt.eqv_refl _ ly5]
  exact q _ (sAh.trans (sij.trans (sk.trans (sl'.trans spz))))
end
end Kq

namespace Kq
open PySem PySem.Spec PyProof.Rows L2
theorem RF.kp {H G : Hp} {d c p : Addr} {fs : List (Str × Kd)} (h : RF H p fs) (k : Kp d c H G) (dk : Dk H d c) : RF G p fs := by
  obtain ⟨o, ps, kvs, h1, h2, h3, h4, h5⟩ := h
  have tk := Tk.kp k dk
  refine ⟨o, ps, kvs, ?_, h2, h3, ?_, ?_⟩
  · obtain ⟨n, ⟨s, k0, hd⟩, ⟨ns, hc, _⟩⟩ := dk
    refine k p _ (fun z => ?_) (fun z => ?_) h1
    · rw [z, hd] at h1
      cases h1
    · rw [z, hc] at h1
      cases h1
  · exact Paired.mapP h4 fun _ _ e => tk _ _ e
  · exact Paired.mapP h5 fun _ _ e => ⟨e.1, e.2.tk tk⟩
theorem cutS (xs : List Str) (lo hi : Option Int) : ∃ ys : List Str, cutV (xs.map V.str) lo hi = ys.map V.str ∧ (∀ y ∈ ys, y ∈ xs) ∧ ys.length ≤ xs.length := by
  refine ⟨(xs.drop (HT.sIx (xs.map V.str).length 0 lo)).take (HT.sIx (xs.map V.str).length (xs.map V.str).length hi - HT.sIx (xs.map V.str).length 0 lo), ?_, fun y hy => List.mem_of_mem_drop (List.mem_of_mem_take hy), ?_⟩
  · unfold cutV
    rw [List.map_take, List.map_drop]
  · rw [List.length_take, List.length_drop]
    omega
theorem Bd.sub {d z : Nat} {xs ys : List Str} {t : Kd} (h : Bd d z ys t) (s : ∀ y ∈ ys, y ∈ xs) : Bd d z xs t := ⟨h.dp, h.sz, fun x hx => s x (h.op x hx)⟩
abbrev tLaw : Stmt := tp 25
abbrev nLaw : List Str := ["_law_script", "_law_deck_here", "_law_great_here", "_law_turn", "_law_ways", "_law_names_here", "_law_opens_here", "_law_kind"]
section
variable {P : Program} {w : World} {K : PySem.W.Frag} {mg : Str → Option Value} {base : Heap}
theorem scLaw : FnScope nLaw ["_law_script"] (defScope tLaw) := ⟨rfl, rfl, rfl, by decide +kernel, rfl, by decide +kernel, by decide +kernel⟩
def spLaw (K : PySem.W.Frag) : Sp := fun vs H Q _ => ∃ (a : Addr) (ns : List Int), vs = [.ref a] ∧ SqL K H a (ns.map V.int) ∧ ns.length ≤ 63 ∧ ∀ G, Q (.bl true) G
theorem okLaw {f fK fD fN fP fT fH fW fG fF fR : Addr} {fd fdK fdD fdN fdP fdT fdH fdW fdG fdF fdR : FuncData} (F : Fun K "law" "law" tLaw f fd)
    (GK : FnOk P w K mg base CX0 43 fK fdK ["_law_script"] (spDeck K)) (bK : Binds K fdK ["_law_script"] []) (gK : mg "_law_deck" = some (.ref fK)) (kK : PySem.W.keepIn K (.ref fK) = true)
    (GD : FnOk P w K mg base CX0 43 fD fdD ["_law_deck_here", "_law_most"] spDraw) (bD : Binds K fdD ["_law_deck_here", "_law_most"] []) (gD : mg "_law_draw" = some (.ref fD)) (kD : PySem.W.keepIn K (.ref fD) = true)
    (GN : FnOk P w K mg base CX0 43 fN fdN ["_law_deck_here", "_law_many"] spNames) (bN : Binds K fdN ["_law_deck_here", "_law_many"] []) (gN : mg "_law_names" = some (.ref fN)) (kN : PySem.W.keepIn K (.ref fN) = true)
    (GP : FnOk P w K mg base CX0 43 fP fdP psPick spPick) (bP : Binds K fdP psPick []) (gP : mg "_law_pick" = some (.ref fP)) (kP : PySem.W.keepIn K (.ref fP) = true)
    (GT : FnOk P w K mg base CX0 6 fT fdT psData (spData 4)) (bT : Binds K fdT psData []) (gT : mg "_law_data" = some (.ref fT)) (kT : PySem.W.keepIn K (.ref fT) = true)
    (GH : FnOk P w K mg base CX0 7 fH fdH psTwo spHanded) (bH : Binds K fdH psTwo []) (gH : mg "_law_handed" = some (.ref fH)) (kH : PySem.W.keepIn K (.ref fH) = true)
    (GW : FnOk P w K mg base CX0 8 fW fdW psTwo spWalked) (bW : Binds K fdW psTwo []) (gW : mg "_law_walked" = some (.ref fW)) (kW : PySem.W.keepIn K (.ref fW) = true)
    (GG : FnOk P w K mg base CX0 43 fG fdG ["_law_deck_here", "_law_names_here"] spGreat) (bG : Binds K fdG ["_law_deck_here", "_law_names_here"] []) (gG : mg "_law_great" = some (.ref fG)) (kG : PySem.W.keepIn K (.ref fG) = true)
    (GF : FnOk P w K mg base CX0 7 fF fdF psFills spFills) (bF : Binds K fdF psFills []) (gF : mg "_law_fills" = some (.ref fF)) (kF : PySem.W.keepIn K (.ref fF) = true)
    (GR : FnOk P w K mg base CX0 43 fR fdR psRight spRight) (bR : Binds K fdR psRight []) (gR : mg "_law_right" = some (.ref fR)) (kR : PySem.W.keepIn K (.ref fR) = true)
    (mr : mg "range" = none) : FnOk P w K mg base CX0 44 f fd ["_law_script"] (spLaw K) := by
  refine F.ok scLaw (fun vs H Q E h => ?_) (fun cdv A outer s H vs Q E hr h => ?_)
  · obtain ⟨a, ns, rfl, _⟩ := h
    rfl
  obtain ⟨a, ns, rfl, hS, hl, q⟩ := h
  have r6 := hr.mono (show 6 ≤ 43 by decide)
  have r7 := hr.mono (show 7 ≤ 43 by decide)
  have r8 := hr.mono (show 8 ≤ 43 by decide)
  refine ⟨_, pss_cons (ps_set (i := 1) scLaw.nd rfl (.inl rfl) (pe_call GK hr (by rfl) gK kK bK .nil pass0 (pa_cons (pv 0) pa_nil)))
    (pss_cons (ps_set (i := 2) scLaw.nd rfl (.inl rfl) (pe_cmpR op_eq (pe_call GD hr (by rfl) gD kD bD .nil pass0 (pa_cons (pv 1) (pa_cons pe_int pa_nil))) pe_int (nomark _)))
    (pss_cons (ps_for PassesOwn.never rfl (pi_range1 (by rfl) mr (pa_cons pe_int pa_nil)) (pg_name (i := 3) scLaw.nd rfl (.inl rfl))
      (pss_cons (ps_set (i := 4) scLaw.nd rfl (.inl rfl) (pe_lst (pa_cons (pe_call GD hr (by rfl) gD kD bD .nil pass0 (pa_cons (pv 1) (pa_cons pe_int pa_nil))) (pa_cons (pe_call GD hr (by rfl) gD kD bD .nil pass0 (pa_cons (pv 1) (pa_cons pe_int pa_nil))) pa_nil))))
      (pss_cons (ps_set (i := 5) scLaw.nd rfl (.inl rfl) (pe_call GN hr (by rfl) gN kN bN .nil pass0 (pa_cons (pv 1) (pa_cons pe_int pa_nil))))
      (pss_cons (ps_set (i := 6) scLaw.nd rfl (.inl rfl) (pe_slice sl_list (pv 5) po_none (po_some (pe_call GD hr (by rfl) gD kD bD .nil pass0 (pa_cons (pv 1) (pa_cons pe_int pa_nil))))))
      (pss_cons (ps_set (i := 7) scLaw.nd rfl (.inl rfl) (pe_call GP hr (by rfl) gP kP bP .nil pass0 (pa_cons (pv 1) (pa_cons (pe_lst (pa_cons pe_int (pa_cons pe_int (pa_cons pe_int (pa_cons pe_int pa_nil))))) pa_nil))))
      (C8.pss_cut (ps_if (pt_cmpR op_eq (pv 7) pe_int (nomark _)) (pss_one (ps_set (i := 7) scLaw.nd rfl (.inl rfl) (pe_call GT r6 (by rfl) gT kT bT .nil pass0 (pa_cons (pv 1) (pa_cons (pv 6) (pa_cons pe_int (pa_cons pe_bl pa_nil)))))))
        (pss_one (ps_if (pt_cmpR op_eq (pv 7) pe_int (nomark _)) (pss_one (ps_set (i := 7) scLaw.nd rfl (.inl rfl) (pe_call GH r7 (by rfl) gH kH bH .nil pass0 (pa_cons (pv 1) (pa_cons (pv 6) pa_nil)))))
          (pss_one (ps_set (i := 7) scLaw.nd rfl (.inl rfl) (pe_call GW r8 (by rfl) gW kW bW .nil pass0 (pa_cons (pv 1) (pa_cons (pv 6) pa_nil))))))))
      (C8.pss_cut (ps_if (PW.pt (pw_and (pt_val (pv 2)) (pw_and1 (pt_cmpR op_eq (pv 3) pe_int (nomark _))))) (pss_one (ps_set (i := 7) scLaw.nd rfl (.inl rfl) (pe_call GG hr (by rfl) gG kG bG .nil pass0 (pa_cons (pv 1) (pa_cons (pv 5) pa_nil))))) pss_nil)
      (pss_one (ps_if (pt_not (pt_val (pe_call GR hr (by rfl) gR kR bR .nil pass0 (pa_cons (pv 7)
          (pa_cons (pe_call GF r7 (by rfl) gF kF bF .nil pass0 (pa_cons (pv 1) (pa_cons (pe_ix ix_list (pv 4) pe_int (fun _ _ => rfl)) (pa_cons (pv 5) pa_nil))))
          (pa_cons (pe_call GF r7 (by rfl) gF kF bF .nil pass0 (pa_cons (pv 1) (pa_cons (pe_ix ix_list (pv 4) pe_int (fun _ _ => rfl)) (pa_cons (pv 5) pa_nil)))) pa_nil)))))) (pss_one (ps_ret pe_bl)) pss_nil)))))))))
    (pss_one (ps_ret pe_bl)))), ?_⟩
  refine ⟨_, rfl, a, ns, rfl, hS, hl, fun d c G0 dk0 => ?_⟩
  refine ⟨_, rfl, d, c, 8, rfl, dk0, by decide, by decide, fun rg Gz _ _ _ dkz => ⟨rfl, ?_⟩⟩
  generalize decide (V.int rg = V.int 5) = gb
  refine ⟨6, rfl, by decide, by decide, for_range (lo := 0) (n := 6) (fun i σ G => Dk G d c ∧ ∃ y3 y4 y5 y6 y7, σ = [some (.ref a), some (.ref d), some (.bl gb), y3, y4, y5, y6, y7]) ⟨dkz, _, _, _, _, _, rfl⟩ (fun i σ G _ z => ?_) (fun σ G z => q G)⟩
  obtain ⟨dk, y3, y4, y5, y6, y7, rfl⟩ := z
  refine ⟨_, rfl, d, c, 4, rfl, dk, by decide, by decide, fun w1 G1 _ _ kp1 dk1 => ?_⟩
  refine ⟨_, rfl, d, c, 4, rfl, dk1, by decide, by decide, fun w2 G2 _ _ kp2 dk2 => ⟨(by show 2 ≤ sizeLine; decide), fun lw nlw => ?_⟩⟩
  have offw := dk2.off nlw
  have sw := newS (o := .lst [V.int w1, V.int w2]) nlw
  have gw2 : (upd G2 lw (.lst [V.int w1, V.int w2])) lw = some (.lst [V.int w1, V.int w2]) := upd_same
  have dk2 := dk2.same sw
  generalize upd G2 lw (.lst [V.int w1, V.int w2]) = G2' at gw2 dk2 sw
  refine ⟨_, rfl, d, c, 4, rfl, dk2, by decide, by decide, fun o xs G3 kp3 dk3 no go lx hx nx => ?_⟩
  have lx4 : xs.length = 4 := lx
  have offo := dk2.off no
  have gw3 := kp3 lw _ offw.1 offw.2 gw2
  refine ⟨_, rfl, _, rfl, d, c, 5, rfl, dk3, by decide, by decide, fun r G4 r0 r1 kp4 dk4 => ⟨r, rfl, o, _, rfl, SqL.of (kp4 o _ offo.1 offo.2 go), fun po npo => ?_⟩⟩
  obtain ⟨ys, ey, hy, ly⟩ := cutS xs none (some r)
  rw [ey]
  have offp := dk4.off npo
  have sp := newS (o := .lst (ys.map V.str)) npo
  have gp5 : (upd G4 po (.lst (ys.map V.str))) po = some (.lst (ys.map V.str)) := upd_same
  have dk5 := dk4.same sp
  have go5 := sp _ _ (kp4 o _ offo.1 offo.2 go)
  have gw5 := sp _ _ (kp4 lw _ offw.1 offw.2 gw3)
  generalize upd G4 po (.lst (ys.map V.str)) = G5 at gp5 dk5 go5 gw5
  refine ⟨_, rfl, (by show 4 ≤ sizeLine; decide), fun l nl => ?_⟩
  have sl := newS (o := .lst [V.int 0, V.int 1, V.int 2, V.int 2]) nl
  have off := dk5.off nl
  refine ⟨d, c, l, _, rfl, dk5.same sl, upd_same, off.1, off.2, by show 1 ≤ 4; decide, by show 4 ≤ 100; decide, fun mv G6 kp6' dk6 hmv => ?_⟩
  obtain ⟨m, rfl⟩ : ∃ m : Int, mv = .int m := by
    simp only [List.mem_cons, List.not_mem_nil, or_false] at hmv
    rcases hmv with e | e | e | e <;> exact ⟨_, e⟩
  have kp6 : Kp d c G5 G6 := (Kp.of sl).trans kp6'
  have go6 := kp6 o _ offo.1 offo.2 go5
  have gw6 := kp6 lw _ offw.1 offw.2 gw5
  have gp6 := kp6 po _ offp.1 offp.2 gp5
  have hy' : ∀ y ∈ ys, Nm y := fun y h => hx y (hy y h)
  let I : L2.St → Hp → Prop := fun σ G => ∃ (u : V) (t : Kd), σ = [some (.ref a), some (.ref d), some (.bl gb), some (.int (0 + (i : Int))), some (.ref lw), some (.ref o), some (.ref po), some u] ∧ Dk G d c ∧ G o = some (.lst (xs.map V.str)) ∧ G lw = some (.lst [V.int w1, V.int w2]) ∧ Rp G t u ∧ Bd 37 74 xs t
  refine ⟨I, ⟨_, rfl, rfl, _, rfl, ite2 (fun _ => ?_) (fun _ => ⟨_, rfl, rfl, _, rfl, ite2 (fun _ => ?_) (fun _ => ?_)⟩)⟩, ?_⟩
  · refine ⟨_, rfl, _, rfl, d, c, po, ys, 3, false, rfl, by decide, dk6, gp6, offp.1, offp.2, by omega, hy', fun v t G7 kp7 dk7 rv da => ?_⟩
    exact ⟨v, t, rfl, dk7, kp7 o _ offo.1 offo.2 go6, kp7 lw _ offw.1 offw.2 gw6, rv, (da.bd (by decide) (by decide)).sub hy⟩
  · refine ⟨_, rfl, _, rfl, d, c, po, ys, rfl, dk6, gp6, offp.1, offp.2, by omega, hy', fun v t G7 kp7 dk7 rv da => ?_⟩
    exact ⟨v, t, rfl, dk7, kp7 o _ offo.1 offo.2 go6, kp7 lw _ offw.1 offw.2 gw6, rv, (da.mono (by decide) (by decide)).sub hy⟩
  · refine ⟨_, rfl, _, rfl, d, c, po, ys, rfl, dk6, gp6, offp.1, offp.2, by omega, hy', fun v t G7 kp7 dk7 rv da => ?_⟩
    exact ⟨v, t, rfl, dk7, kp7 o _ offo.1 offo.2 go6, kp7 lw _ offw.1 offw.2 gw6, rv, (da.mono (by decide) (by decide)).sub hy⟩
  rintro σ G ⟨u, t, rfl, dkG, goG, gwG, ru, bt⟩
  refine ⟨I, ⟨_, rfl, _, rfl, ite2 (fun _ => ⟨_, rfl, rfl, _, rfl, ite2 (fun _ => ?_) (fun _ => ⟨u, t, rfl, dkG, goG, gwG, ru, bt⟩)⟩) (fun _ => iteF ⟨u, t, rfl, dkG, goG, gwG, ru, bt⟩)⟩, ?_⟩
  · refine ⟨_, rfl, _, rfl, d, c, o, xs, rfl, dkG, goG, offo.1, offo.2, by omega, by omega, fun v t G7 kp7 dk7 rv da => ?_⟩
    exact ⟨v, t, rfl, dk7, kp7 o _ offo.1 offo.2 goG, kp7 lw _ offw.1 offw.2 gwG, rv, da⟩
  clear dkG goG gwG ru bt u t
  rintro σ G ⟨u, t, rfl, dkG, goG, gwG, ru, bt⟩
  refine ⟨_, rfl, _, rfl, _, rfl, lw, _, _, _, rfl, rfl, SqL.of gwG, rfl, _, rfl, d, c, o, xs, w1, rfl, dkG, goG, offo.1, offo.2, by omega, hx, nx, fun p1 fs G8 kp8 dk8 rf1 nd1 bd1 => ?_⟩
  have go8 := kp8 o _ offo.1 offo.2 goG
  have gw8 := kp8 lw _ offw.1 offw.2 gwG
  refine ⟨_, rfl, _, rfl, lw, _, _, _, rfl, rfl, SqL.of gw8, rfl, _, rfl, d, c, o, xs, w2, rfl, dk8, go8, offo.1, offo.2, by omega, hx, nx, fun p2 gs G9 kp9 dk9 rf2 nd2 bd2 => ?_⟩
  refine ⟨u, p1, p2, t, fs, gs, xs, rfl, (ru.tk (Tk.kp kp8 dkG)).tk (Tk.kp kp9 dk8), bt, rf1.kp kp9 dk8, rf2, ⟨nd1, bd1⟩, ⟨nd2, bd2⟩, nx, by omega, hx, fun Ge se => ⟨_, rfl, iteF ?_⟩⟩
  exact ⟨dk9.same se, _, _, _, _, _, rfl⟩
end
end Kq

namespace Kq
open PySem PySem.Spec PyProof.Rows L2
theorem all_mk {l : PySem.W.OpenLaw} {w : World} {K : PySem.W.Frag} {h : Heap} {mg : Str → Option Value} {fa f1 f2 f3 f4 f5 f6 f7 f8 f9 f10 f11 f12 f13 f14 f15 f16 f17 f18 f19 f20 f21 f22 f23 : Addr} (X : K.In h) (G : h.Ns mainGlobals mg) (hfa : mg "law" = some (.ref fa))
    {od1 an1 od2 an2 od3 an3 od4 an4 od5 an5 od6 an6 od7 an7 od8 an8 od9 an9 od10 an10 od11 an11 od12 an12 od13 an13 od14 an14 od15 an15 od16 an16 od17 an17 od18 an18 od19 an19 od20 an20 od21 an21 od22 an22 od23 an23 : Option Addr} {sl1 sl2 sl3 sl4 sl5 sl6 sl7 sl8 sl9 sl10 sl11 sl12 sl13 sl14 sl15 sl16 sl17 sl18 sl19 sl20 sl21 sl22 sl23 : Array (Option Value)} {oc1 kV1 dc1 pm1 cd1 ct1 oc2 kV2 dc2 pm2 cd2 ct2 oc3 kV3 dc3 pm3 cd3 ct3 oc4 kV4 dc4 pm4 cd4 ct4 oc5 kV5 dc5 pm5 cd5 ct5 oc6 kV6 dc6 pm6 cd6 ct6 oc7 kV7 dc7 pm7 cd7 ct7 oc8 kV8 dc8 pm8 cd8 ct8 oc9 kV9 dc9 pm9 cd9 ct9 oc10 kV10 dc10 pm10 cd10 ct10 oc11 kV11 dc11 pm11 cd11 ct11 oc12 kV12 dc12 pm12 cd12 ct12 oc13 kV13 dc13 pm13 cd13 ct13 oc14 kV14 dc14 pm14 cd14 ct14 oc15 kV15 dc15 pm15 cd15 ct15 oc16 kV16 dc16 pm16 cd16 ct16 oc17 kV17 dc17 pm17 cd17 ct17 oc18 kV18 dc18 pm18 cd18 ct18 oc19 kV19 dc19 pm19 cd19 ct19 oc20 kV20 dc20 pm20 cd20 ct20 oc21 kV21 dc21 pm21 cd21 ct21 oc22 kV22 dc22 pm22 cd22 ct22 oc23 kV23 dc23 pm23 cd23 ct23 : Value}
    (a1 : PySem.W.nsIn K mainGlobals "kinds_within" = some (some (.ref f1))) (l1 : K.lookup f1 = some ⟨oc1, od1, .func (PySem.W.fnOf "kinds_within" "kinds_within" (defArgs tWithin) (defBody tWithin) (defScope tWithin) .none kV1 dc1 pm1 an1 cd1 ct1), sl1⟩)
      (c1 : PySem.W.codeIn K cd1 "kinds_within" = true) (k1 : PySem.W.keepIn K (.ref f1) = true)
    (a2 : PySem.W.nsIn K mainGlobals "leads" = some (some (.ref f2))) (l2 : K.lookup f2 = some ⟨oc2, od2, .func (PySem.W.fnOf "leads" "leads" (defArgs tLeads) (defBody tLeads) (defScope tLeads) .none kV2 dc2 pm2 an2 cd2 ct2), sl2⟩)
      (c2 : PySem.W.codeIn K cd2 "leads" = true) (k2 : PySem.W.keepIn K (.ref f2) = true)
    (a3 : PySem.W.nsIn K mainGlobals "parts_of" = some (some (.ref f3))) (l3 : K.lookup f3 = some ⟨oc3, od3, .func (PySem.W.fnOf "parts_of" "parts_of" (defArgs tParts) (defBody tParts) (defScope tParts) .none kV3 dc3 pm3 an3 cd3 ct3), sl3⟩)
      (c3 : PySem.W.codeIn K cd3 "parts_of" = true) (k3 : PySem.W.keepIn K (.ref f3) = true)
    (a4 : PySem.W.nsIn K mainGlobals "arguments_of" = some (some (.ref f4))) (l4 : K.lookup f4 = some ⟨oc4, od4, .func (PySem.W.fnOf "arguments_of" "arguments_of" (defArgs tArgs) (defBody tArgs) (defScope tArgs) .none kV4 dc4 pm4 an4 cd4 ct4), sl4⟩)
      (c4 : PySem.W.codeIn K cd4 "arguments_of" = true) (k4 : PySem.W.keepIn K (.ref f4) = true)
    (a5 : PySem.W.nsIn K mainGlobals "result_of" = some (some (.ref f5))) (l5 : K.lookup f5 = some ⟨oc5, od5, .func (PySem.W.fnOf "result_of" "result_of" (defArgs tRes) (defBody tRes) (defScope tRes) .none kV5 dc5 pm5 an5 cd5 ct5), sl5⟩)
      (c5 : PySem.W.codeIn K cd5 "result_of" = true) (k5 : PySem.W.keepIn K (.ref f5) = true)
    (a6 : PySem.W.nsIn K mainGlobals "opens_in" = some (some (.ref f6))) (l6 : K.lookup f6 = some ⟨oc6, od6, .func (PySem.W.fnOf "opens_in" "opens_in" (defArgs tOpens) (defBody tOpens) (defScope tOpens) .none kV6 dc6 pm6 an6 cd6 ct6), sl6⟩)
      (c6 : PySem.W.codeIn K cd6 "opens_in" = true) (k6 : PySem.W.keepIn K (.ref f6) = true)
    (a7 : PySem.W.nsIn K mainGlobals "filled_kind" = some (some (.ref f7))) (l7 : K.lookup f7 = some ⟨oc7, od7, .func (PySem.W.fnOf "filled_kind" "filled_kind" (defArgs tFilled) (defBody tFilled) (defScope tFilled) .none kV7 dc7 pm7 an7 cd7 ct7), sl7⟩)
      (c7 : PySem.W.codeIn K cd7 "filled_kind" = true) (k7 : PySem.W.keepIn K (.ref f7) = true)
    (a8 : PySem.W.nsIn K mainGlobals "put_in" = some (some (.ref f8))) (l8 : K.lookup f8 = some ⟨oc8, od8, .func (PySem.W.fnOf "put_in" "put_in" (defArgs tPutIn) (defBody tPutIn) (defScope tPutIn) .none kV8 dc8 pm8 an8 cd8 ct8), sl8⟩)
      (c8 : PySem.W.codeIn K cd8 "put_in" = true) (k8 : PySem.W.keepIn K (.ref f8) = true)
    (a9 : PySem.W.nsIn K mainGlobals "_law_deck" = some (some (.ref f9))) (l9 : K.lookup f9 = some ⟨oc9, od9, .func (PySem.W.fnOf "_law_deck" "_law_deck" (defArgs tDeck) (defBody tDeck) (defScope tDeck) .none kV9 dc9 pm9 an9 cd9 ct9), sl9⟩)
      (c9 : PySem.W.codeIn K cd9 "_law_deck" = true) (k9 : PySem.W.keepIn K (.ref f9) = true)
    (a10 : PySem.W.nsIn K mainGlobals "_law_draw" = some (some (.ref f10))) (l10 : K.lookup f10 = some ⟨oc10, od10, .func (PySem.W.fnOf "_law_draw" "_law_draw" (defArgs tDraw) (defBody tDraw) (defScope tDraw) .none kV10 dc10 pm10 an10 cd10 ct10), sl10⟩)
      (c10 : PySem.W.codeIn K cd10 "_law_draw" = true) (k10 : PySem.W.keepIn K (.ref f10) = true)
    (a11 : PySem.W.nsIn K mainGlobals "_law_pick" = some (some (.ref f11))) (l11 : K.lookup f11 = some ⟨oc11, od11, .func (PySem.W.fnOf "_law_pick" "_law_pick" (defArgs tPick) (defBody tPick) (defScope tPick) .none kV11 dc11 pm11 an11 cd11 ct11), sl11⟩)
      (c11 : PySem.W.codeIn K cd11 "_law_pick" = true) (k11 : PySem.W.keepIn K (.ref f11) = true)
    (a12 : PySem.W.nsIn K mainGlobals "_law_names" = some (some (.ref f12))) (l12 : K.lookup f12 = some ⟨oc12, od12, .func (PySem.W.fnOf "_law_names" "_law_names" (defArgs tNames) (defBody tNames) (defScope tNames) .none kV12 dc12 pm12 an12 cd12 ct12), sl12⟩)
      (c12 : PySem.W.codeIn K cd12 "_law_names" = true) (k12 : PySem.W.keepIn K (.ref f12) = true)
    (a13 : PySem.W.nsIn K mainGlobals "_law_data" = some (some (.ref f13))) (l13 : K.lookup f13 = some ⟨oc13, od13, .func (PySem.W.fnOf "_law_data" "_law_data" (defArgs tData) (defBody tData) (defScope tData) .none kV13 dc13 pm13 an13 cd13 ct13), sl13⟩)
      (c13 : PySem.W.codeIn K cd13 "_law_data" = true) (k13 : PySem.W.keepIn K (.ref f13) = true)
    (a14 : PySem.W.nsIn K mainGlobals "_law_handed" = some (some (.ref f14))) (l14 : K.lookup f14 = some ⟨oc14, od14, .func (PySem.W.fnOf "_law_handed" "_law_handed" (defArgs tHanded) (defBody tHanded) (defScope tHanded) .none kV14 dc14 pm14 an14 cd14 ct14), sl14⟩)
      (c14 : PySem.W.codeIn K cd14 "_law_handed" = true) (k14 : PySem.W.keepIn K (.ref f14) = true)
    (a15 : PySem.W.nsIn K mainGlobals "_law_walked" = some (some (.ref f15))) (l15 : K.lookup f15 = some ⟨oc15, od15, .func (PySem.W.fnOf "_law_walked" "_law_walked" (defArgs tWalked) (defBody tWalked) (defScope tWalked) .none kV15 dc15 pm15 an15 cd15 ct15), sl15⟩)
      (c15 : PySem.W.codeIn K cd15 "_law_walked" = true) (k15 : PySem.W.keepIn K (.ref f15) = true)
    (a16 : PySem.W.nsIn K mainGlobals "_law_arguments" = some (some (.ref f16))) (l16 : K.lookup f16 = some ⟨oc16, od16, .func (PySem.W.fnOf "_law_arguments" "_law_arguments" (defArgs tLArgs) (defBody tLArgs) (defScope tLArgs) .none kV16 dc16 pm16 an16 cd16 ct16), sl16⟩)
      (c16 : PySem.W.codeIn K cd16 "_law_arguments" = true) (k16 : PySem.W.keepIn K (.ref f16) = true)
    (a17 : PySem.W.nsIn K mainGlobals "_law_put_in" = some (some (.ref f17))) (l17 : K.lookup f17 = some ⟨oc17, od17, .func (PySem.W.fnOf "_law_put_in" "_law_put_in" (defArgs tLPut) (defBody tLPut) (defScope tLPut) .none kV17 dc17 pm17 an17 cd17 ct17), sl17⟩)
      (c17 : PySem.W.codeIn K cd17 "_law_put_in" = true) (k17 : PySem.W.keepIn K (.ref f17) = true)
    (a18 : PySem.W.nsIn K mainGlobals "_law_opens" = some (some (.ref f18))) (l18 : K.lookup f18 = some ⟨oc18, od18, .func (PySem.W.fnOf "_law_opens" "_law_opens" (defArgs tLOpens) (defBody tLOpens) (defScope tLOpens) .none kV18 dc18 pm18 an18 cd18 ct18), sl18⟩)
      (c18 : PySem.W.codeIn K cd18 "_law_opens" = true) (k18 : PySem.W.keepIn K (.ref f18) = true)
    (a19 : PySem.W.nsIn K mainGlobals "_law_fills" = some (some (.ref f19))) (l19 : K.lookup f19 = some ⟨oc19, od19, .func (PySem.W.fnOf "_law_fills" "_law_fills" (defArgs tFills) (defBody tFills) (defScope tFills) .none kV19 dc19 pm19 an19 cd19 ct19), sl19⟩)
      (c19 : PySem.W.codeIn K cd19 "_law_fills" = true) (k19 : PySem.W.keepIn K (.ref f19) = true)
    (a20 : PySem.W.nsIn K mainGlobals "_law_great" = some (some (.ref f20))) (l20 : K.lookup f20 = some ⟨oc20, od20, .func (PySem.W.fnOf "_law_great" "_law_great" (defArgs tGreat) (defBody tGreat) (defScope tGreat) .none kV20 dc20 pm20 an20 cd20 ct20), sl20⟩)
      (c20 : PySem.W.codeIn K cd20 "_law_great" = true) (k20 : PySem.W.keepIn K (.ref f20) = true)
    (a21 : PySem.W.nsIn K mainGlobals "_law_is_so" = some (some (.ref f21))) (l21 : K.lookup f21 = some ⟨oc21, od21, .func (PySem.W.fnOf "_law_is_so" "_law_is_so" (defArgs tSo) (defBody tSo) (defScope tSo) .none kV21 dc21 pm21 an21 cd21 ct21), sl21⟩)
      (c21 : PySem.W.codeIn K cd21 "_law_is_so" = true) (k21 : PySem.W.keepIn K (.ref f21) = true)
    (a22 : PySem.W.nsIn K mainGlobals "_law_right" = some (some (.ref f22))) (l22 : K.lookup f22 = some ⟨oc22, od22, .func (PySem.W.fnOf "_law_right" "_law_right" (defArgs tRight) (defBody tRight) (defScope tRight) .none kV22 dc22 pm22 an22 cd22 ct22), sl22⟩)
      (c22 : PySem.W.codeIn K cd22 "_law_right" = true) (k22 : PySem.W.keepIn K (.ref f22) = true)
    (a23 : PySem.W.nsIn K mainGlobals "law" = some (some (.ref f23))) (l23 : K.lookup f23 = some ⟨oc23, od23, .func (PySem.W.fnOf "law" "law" (defArgs tLaw) (defBody tLaw) (defScope tLaw) .none kV23 dc23 pm23 an23 cd23 ct23), sl23⟩)
      (c23 : PySem.W.codeIn K cd23 "law" = true) (k23 : PySem.W.keepIn K (.ref f23) = true)
    (z1 : PySem.W.nsIn K mainGlobals "range" = some none) (z2 : PySem.W.nsIn K mainGlobals "len" = some none) (z3 : PySem.W.nsIn K mainGlobals "list" = some none) (z4 : PySem.W.nsIn K mainGlobals "reversed" = some none) (z5 : PySem.W.nsIn K mainGlobals "tuple" = some none) (z6 : PySem.W.nsIn K mainGlobals "sorted" = some none) (z7 : PySem.W.nsIn K mainGlobals "sum" = some none) (z8 : PySem.W.nsIn K mainGlobals "isinstance" = some none) (z9 : PySem.W.nsIn K mainGlobals "set" = some none) (z10 : PySem.W.nsIn K mainGlobals "int" = some none) (z11 : PySem.W.nsIn K mainGlobals "dict" = some none) (z12 : PySem.W.nsIn K mainGlobals "enumerate" = some none) (z13 : PySem.W.nsIn K mainGlobals "str" = some none) :
    ∃ fd : FuncData, (∀ (s : Shared) (v : Value), BindsTo s fd ⟨[v], []⟩ [("_law_script", v)]) ∧ ∀ base : Heap, K.In base → base.Ns mainGlobals mg → FnOk l.prog w K mg base CX0 44 fa fd ["_law_script"] (spLaw K) := by
  have e := hfa.symm.trans (PySem.W.mg_of X G a23)
  cases e
  have F1 := fun_mk (st := tWithin) l1 c1 k1
  have b1 := F1.binds (ps := ["kind"]) fun _ _ _ _ _ _ us hl => match us, hl with | [_], _ => rfl
  have g1 := PySem.W.mg_of X G a1
  have F2 := fun_mk (st := tLeads) l2 c2 k2
  have b2 := F2.binds (ps := ["kind"]) fun _ _ _ _ _ _ us hl => match us, hl with | [_], _ => rfl
  have g2 := PySem.W.mg_of X G a2
  have F3 := fun_mk (st := tParts) l3 c3 k3
  have b3 := F3.binds (ps := ["kind"]) fun _ _ _ _ _ _ us hl => match us, hl with | [_], _ => rfl
  have g3 := PySem.W.mg_of X G a3
  have F4 := fun_mk (st := tArgs) l4 c4 k4
  have b4 := F4.binds (ps := ["kind"]) fun _ _ _ _ _ _ us hl => match us, hl with | [_], _ => rfl
  have g4 := PySem.W.mg_of X G a4
  have F5 := fun_mk (st := tRes) l5 c5 k5
  have b5 := F5.binds (ps := ["kind"]) fun _ _ _ _ _ _ us hl => match us, hl with | [_], _ => rfl
  have g5 := PySem.W.mg_of X G a5
  have F6 := fun_mk (st := tOpens) l6 c6 k6
  have b6 := F6.binds (ps := ["kind"]) fun _ _ _ _ _ _ us hl => match us, hl with | [_], _ => rfl
  have g6 := PySem.W.mg_of X G a6
  have F7 := fun_mk (st := tFilled) l7 c7 k7
  have b7 := F7.binds (ps := ["kind", "fills"]) fun _ _ _ _ _ _ us hl => match us, hl with | [_, _], _ => rfl
  have g7 := PySem.W.mg_of X G a7
  have F8 := fun_mk (st := tPutIn) l8 c8 k8
  have b8 := F8.binds (ps := ["kind", "put"]) fun _ _ _ _ _ _ us hl => match us, hl with | [_, _], _ => rfl
  have g8 := PySem.W.mg_of X G a8
  have F9 := fun_mk (st := tDeck) l9 c9 k9
  have b9 := F9.binds (ps := ["_law_script"]) fun _ _ _ _ _ _ us hl => match us, hl with | [_], _ => rfl
  have g9 := PySem.W.mg_of X G a9
  have F10 := fun_mk (st := tDraw) l10 c10 k10
  have b10 := F10.binds (ps := ["_law_deck_here", "_law_most"]) fun _ _ _ _ _ _ us hl => match us, hl with | [_, _], _ => rfl
  have g10 := PySem.W.mg_of X G a10
  have F11 := fun_mk (st := tPick) l11 c11 k11
  have b11 := F11.binds (ps := psPick) fun _ _ _ _ _ _ us hl => match us, hl with | [_, _], _ => rfl
  have g11 := PySem.W.mg_of X G a11
  have F12 := fun_mk (st := tNames) l12 c12 k12
  have b12 := F12.binds (ps := ["_law_deck_here", "_law_many"]) fun _ _ _ _ _ _ us hl => match us, hl with | [_, _], _ => rfl
  have g12 := PySem.W.mg_of X G a12
  have F13 := fun_mk (st := tData) l13 c13 k13
  have b13 := F13.binds (ps := psData) fun _ _ _ _ _ _ us hl => match us, hl with | [_, _, _, _], _ => rfl
  have g13 := PySem.W.mg_of X G a13
  have F14 := fun_mk (st := tHanded) l14 c14 k14
  have b14 := F14.binds (ps := psTwo) fun _ _ _ _ _ _ us hl => match us, hl with | [_, _], _ => rfl
  have g14 := PySem.W.mg_of X G a14
  have F15 := fun_mk (st := tWalked) l15 c15 k15
  have b15 := F15.binds (ps := psTwo) fun _ _ _ _ _ _ us hl => match us, hl with | [_, _], _ => rfl
  have g15 := PySem.W.mg_of X G a15
  have F16 := fun_mk (st := tLArgs) l16 c16 k16
  have b16 := F16.binds (ps := ["_law_kind"]) fun _ _ _ _ _ _ us hl => match us, hl with | [_], _ => rfl
  have g16 := PySem.W.mg_of X G a16
  have F17 := fun_mk (st := tLPut) l17 c17 k17
  have b17 := F17.binds (ps := ["_law_kind", "_law_table"]) fun _ _ _ _ _ _ us hl => match us, hl with | [_, _], _ => rfl
  have g17 := PySem.W.mg_of X G a17
  have F18 := fun_mk (st := tLOpens) l18 c18 k18
  have b18 := F18.binds (ps := ["_law_kind"]) fun _ _ _ _ _ _ us hl => match us, hl with | [_], _ => rfl
  have g18 := PySem.W.mg_of X G a18
  have F19 := fun_mk (st := tFills) l19 c19 k19
  have b19 := F19.binds (ps := psFills) fun _ _ _ _ _ _ us hl => match us, hl with | [_, _, _], _ => rfl
  have g19 := PySem.W.mg_of X G a19
  have F20 := fun_mk (st := tGreat) l20 c20 k20
  have b20 := F20.binds (ps := ["_law_deck_here", "_law_names_here"]) fun _ _ _ _ _ _ us hl => match us, hl with | [_, _], _ => rfl
  have g20 := PySem.W.mg_of X G a20
  have F21 := fun_mk (st := tSo) l21 c21 k21
  have b21 := F21.binds (ps := ["_law_found", "_law_due"]) fun _ _ _ _ _ _ us hl => match us, hl with | [_, _], _ => rfl
  have g21 := PySem.W.mg_of X G a21
  have F22 := fun_mk (st := tRight) l22 c22 k22
  have b22 := F22.binds (ps := psRight) fun _ _ _ _ _ _ us hl => match us, hl with | [_, _, _], _ => rfl
  have g22 := PySem.W.mg_of X G a22
  have F23 := fun_mk (st := tLaw) l23 c23 k23
  have m1 := PySem.W.mg_none_of X G z1
  have m2 := PySem.W.mg_none_of X G z2
  have m3 := PySem.W.mg_none_of X G z3
  have m4 := PySem.W.mg_none_of X G z4
  have m5 := PySem.W.mg_none_of X G z5
  have m6 := PySem.W.mg_none_of X G z6
  have m7 := PySem.W.mg_none_of X G z7
  have m8 := PySem.W.mg_none_of X G z8
  have m9 := PySem.W.mg_none_of X G z9
  have m10 := PySem.W.mg_none_of X G z10
  have m11 := PySem.W.mg_none_of X G z11
  have m12 := PySem.W.mg_none_of X G z12
  have m13 := PySem.W.mg_none_of X G z13
  refine ⟨PySem.W.fnOf "law" "law" (defArgs tLaw) (defBody tLaw) (defScope tLaw) .none kV23 dc23 pm23 an23 cd23 ct23, fun s v => .of_eq rfl, fun base _ _ => ?_⟩
  have T0 := okData (P := l.prog) (w := w) (base := base) F13 b13 g13 F10 b10 g10 F11 b11 g11 m10 m2 4
  have H0 := okHanded (P := l.prog) (w := w) (base := base) F14 (okDraw (k := 5) F10) b10 g10 k10 (okPick (k := 4) F11 (okDraw (k := 4) F10) b10 g10 k10 m2) b11 g11 k11 T0 b13 g13 k13 m10 m1
  have W0 := okWalked (P := l.prog) (w := w) (base := base) F15 (okDraw (k := 6) F10) b10 g10 k10 (okPick (k := 5) F11 (okDraw (k := 5) F10) b10 g10 k10 m2) b11 g11 k11 T0 b13 g13 k13 H0 b14 g14 k14 m1
  have S0 := okFills (P := l.prog) (w := w) (base := base) F19 (okDraw (k := 5) F10) b10 g10 k10 T0 b13 g13 k13 m6 m12 m2 m5
  have R0 := okRight (P := l.prog) (w := w) (base := base) F22
    (okFilled (n := 40) F7 (okPutIn F8 b8 g8 m5 40) b8 g8 k8 m11) b7 g7 k7
    (okLPut F17 b17 g17 m5 40) b17 g17 k17
    (okSo F21 b21 g21 m8 m5 m13 m2 m1 41) b21 g21 k21
    (okLOpens F18 b18 g18 m6 m9 40) b18 g18 k18
    (okLArgs (k := 41) F16) b16 g16 k16
    (okArgs (k := 40) F4 F2 b2 g2 m5) b4 g4 k4
    (okRes (k := 40) F5 F2 b2 g2) b5 g5 k5
    (okOpens (k := 39) F6 (okParts (k := 39) F3 F1 b1 g1) b3 g3 k3 m5 m6) b6 g6 k6
    m11 m5 m6
  exact okLaw F23 (okDeck (k := 42) F9 m3 m4 m7 m2) b9 g9 k9 (okDraw (k := 42) F10) b10 g10 k10
    (okNames (k := 41) F12 (okDraw (k := 41) F10) b10 g10 k10 m2 m1) b12 g12 k12 (okPick (k := 41) F11 (okDraw (k := 41) F10) b10 g10 k10 m2) b11 g11 k11 T0 b13 g13 k13 H0 b14 g14 k14 W0 b15 g15 k15
    (okGreat (k := 40) F20 (okDraw (k := 41) F10) b10 g10 k10 (okPick (k := 40) F11 (okDraw (k := 40) F10) b10 g10 k10 m2) b11 g11 k11 m1) b20 g20 k20 S0 b19 g19 k19 R0 b22 g22 k22 m1
end Kq
open PySem PySem.W PyProof.Rows
set_option maxRecDepth 100000 in
set_option maxHeartbeats 0 in
theorem PySem.Challenge.cw_kindalone_k22_filled_kinds_holds : PySem.Challenge.rw_kindalone_k22_filled_kinds.Holds := by
  w_on; o_law; k_head; (case hw => w_witness2)
  k_fill
  refine L2.walk_of (l := PySem.Challenge.rw_kindalone_k22_filled_kinds) (n := 63) (k := 44) (x := "_law_script") (CX := fun _ => L2.CX0) (sp := fun w => Kq.spLaw _) rfl (by decide) rfl ⟨rfl, by decide, by decide⟩ (fun w h Y => PySem.W.kIn_of Y) ?F (fun _ _ a ns hl _ hS => ⟨a, ns, rfl, hS, hl, fun _ => rfl⟩) (fun _ _ _ _ _ h => h)
  case F =>
    intro w mg fa h KX G hmg
    refine' Kq.all_mk KX G hmg ?a1 ?l1 ?c1 ?k1 ?a2 ?l2 ?c2 ?k2 ?a3 ?l3 ?c3 ?k3 ?a4 ?l4 ?c4 ?k4 ?a5 ?l5 ?c5 ?k5 ?a6 ?l6 ?c6 ?k6 ?a7 ?l7 ?c7 ?k7 ?a8 ?l8 ?c8 ?k8 ?a9 ?l9 ?c9 ?k9 ?a10 ?l10 ?c10 ?k10 ?a11 ?l11 ?c11 ?k11 ?a12 ?l12 ?c12 ?k12 ?a13 ?l13 ?c13 ?k13 ?a14 ?l14 ?c14 ?k14 ?a15 ?l15 ?c15 ?k15 ?a16 ?l16 ?c16 ?k16 ?a17 ?l17 ?c17 ?k17 ?a18 ?l18 ?c18 ?k18 ?a19 ?l19 ?c19 ?k19 ?a20 ?l20 ?c20 ?k20 ?a21 ?l21 ?c21 ?k21 ?a22 ?l22 ?c22 ?k22 ?a23 ?l23 ?c23 ?k23 ?z1 ?z2 ?z3 ?z4 ?z5 ?z6 ?z7 ?z8 ?z9 ?z10 ?z11 ?z12 ?z13
    (case a1 => k_is); (case l1 => k_is); (case c1 => k_is); (case k1 => k_is)
    (case a2 => k_is); (case l2 => k_is); (case c2 => k_is); (case k2 => k_is)
    (case a3 => k_is); (case l3 => k_is); (case c3 => k_is); (case k3 => k_is)
    (case a4 => k_is); (case l4 => k_is); (case c4 => k_is); (case k4 => k_is)
    (case a5 => k_is); (case l5 => k_is); (case c5 => k_is); (case k5 => k_is)
    (case a6 => k_is); (case l6 => k_is); (case c6 => k_is); (case k6 => k_is)
    (case a7 => k_is); (case l7 => k_is); (case c7 => k_is); (case k7 => k_is)
    (case a8 => k_is); (case l8 => k_is); (case c8 => k_is); (case k8 => k_is)
    (case a9 => k_is); (case l9 => k_is); (case c9 => k_is); (case k9 => k_is)
    (case a10 => k_is); (case l10 => k_is); (case c10 => k_is); (case k10 => k_is)
    (case a11 => k_is); (case l11 => k_is); (case c11 => k_is); (case k11 => k_is)
    (case a12 => k_is); (case l12 => k_is); (case c12 => k_is); (case k12 => k_is)
    (case a13 => k_is); (case l13 => k_is); (case c13 => k_is); (case k13 => k_is)
    (case a14 => k_is); (case l14 => k_is); (case c14 => k_is); (case k14 => k_is)
    (case a15 => k_is); (case l15 => k_is); (case c15 => k_is); (case k15 => k_is)
    (case a16 => k_is); (case l16 => k_is); (case c16 => k_is); (case k16 => k_is)
    (case a17 => k_is); (case l17 => k_is); (case c17 => k_is); (case k17 => k_is)
    (case a18 => k_is); (case l18 => k_is); (case c18 => k_is); (case k18 => k_is)
    (case a19 => k_is); (case l19 => k_is); (case c19 => k_is); (case k19 => k_is)
    (case a20 => k_is); (case l20 => k_is); (case c20 => k_is); (case k20 => k_is)
    (case a21 => k_is); (case l21 => k_is); (case c21 => k_is); (case k21 => k_is)
    (case a22 => k_is); (case l22 => k_is); (case c22 => k_is); (case k22 => k_is)
    (case a23 => k_is); (case l23 => k_is); (case c23 => k_is); (case k23 => k_is)
    (case z1 => k_is); (case z2 => k_is); (case z3 => k_is); (case z4 => k_is); (case z5 => k_is); (case z6 => k_is); (case z7 => k_is); (case z8 => k_is); (case z9 => k_is); (case z10 => k_is); (case z11 => k_is); (case z12 => k_is); (case z13 => k_is)
