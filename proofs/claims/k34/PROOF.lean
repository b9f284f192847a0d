import PyProof.Rows.All
import Wide.All
import OpenK.AllK
import Wide.FinOn
import HandS.ForMost
import HandS.Rev
import HandS.Set
import HandS.SetBool
import HandS.TupSets
import HandS.SetFor
import HandS.Dict
import HandS.TupAny
import HandS.Style
import KE.KDictPairs
import HandS.EndOwn
import HandS.ExcOwn
import HandS.StrMore
import HandS.IsInst
import HandS.Replace
import HandS.Codes
import HandS.More
import HandS.Star
import HandS.FStrTup
import PyProof.Rows.RegReprOcc
import HandS.Walk
import PySem.Challenge.RW_kindalone_k34_sayings_made
set_option Elab.async false
set_option linter.all false
set_option maxRecDepth 100000
set_option maxHeartbeats 4000000
namespace Kr
open PySem PySem.Spec PyProof.Rows L2 RT
section
variable {prog : Program} {w : World} {A : Around} {E : Value → Shared → Prop} {s : Shared}
/-- a list grows by what a walk from behind over another list gives -/
theorem growRev {R : Result → Shared → Prop} {it l S : Addr} {its : Array Value} {res : Value} {c0 : Nat} (hh : A.handled = none) (hit : s.heap.IsRevIter it l ((its.size : Int) - 1))
    (hl : s.heap.IsList l its) (hne : l ≠ it) (hn : its.size ≤ sizeLine) (hS : s.heap.get? S = some { cls := .type "list", data := .seq #[] c0 }) (hSi : S ≠ it) (hSl : S ≠ l)
    (hR : ∀ (h' : Heap) (tk : Nat) (acc : Array Value) (c : Nat), (∀ b o, b ≠ it → b ≠ S → s.heap.get? b = some o → h'.get? b = some o) →
      h'.get? S = some { cls := .type "list", dict := none, data := .seq acc c, slots := #[] } → ItemsOf (fun i v => its[its.size - 1 - i]? = some v) acc its.size → R (.ok (.ret res)) { s with heap := h', toks := tk }) :
    wpAny (model prog w) A.in1 (Builtin.List.listExtendWith (.ref S) (.ref it) res)
      (fun fin s' => match fin with
        | .done f => R (.ok f) s'
        | .again c' => c'.quiet = true ∧ codeAny (model prog w) A c' R s') (fun e s' => R (.error e) s') s := by
  have W := (Walks.listRev (prog := prog) (w := w) (A := A.in1) hh it l hne its).toS
  have out : S ∉ [it, l] := by
    intro z
    rcases List.mem_cons.mp z with z | z
    · exact hSi z
    · exact hSl (List.mem_singleton.mp z)
  have ty : s.TypeIs (.ref it) "list_reverseiterator" := hit.typeIs
  have no : Builtin.List.listSameRef (.ref S) (.ref it) = false := by
    simp [Builtin.List.listSameRef, hSi]
  unfold Builtin.List.listExtendWith
  refine wpAny_bind (wpAny_typeOf ty ?_)
  rw [if_neg (by rw [no]; decide)]
  refine wpAny_bind (wpAny_pyIter_revIter hit ?_)
  refine wpAny_bind (wpAny_holding ?_)
  unfold Builtin.List.listLengthHint
  refine wpAny_bind (wpAny_specialOf ty RT.nolen_lri ?_)
  show wpAny _ A.in1 (specialOf (.ref it) (Str.ofString "__length_hint__") >>= _) _ _ _
  refine wpAny_bind (wpAny_specialOf ty RT.hint_lri ?_)
  generalize hid : ("list_reverseiterator.__length_hint__" : String) = nm
  wp_delta
  have sp : splitId nm = some ("list_reverseiterator", "__length_hint__") := by
    subst hid
    decide +kernel
  rw [sp]
  subst hid
  refine wpAny_bind (wpAny_isInstance (b := true) ty (by rw [isSubtype_type]; kernel_rfl) ?_)
  refine wpAny_pure ?_
  rw [if_neg (by decide)]
  have z0 : ((its.size : Nat) : Int) - 1 - ((0 : Nat) : Int) = (its.size : Int) - 1 := by omega
  have st0 : s.heap.IsRevIter it l ((its.size : Int) - 1 - ((0 : Nat) : Int)) := by rw [z0]; exact hit
  refine wpAny_pure ⟨plainId_quiet F.plain_extend_loop _, ?_⟩
  refine codeAny_extend_loopS W hn S out res its.size 0 _ _ _ rfl (Nat.zero_le _) ⟨Nat.zero_le _, st0, hl⟩ hS (ItemsOf.nil _) (fun s' acc' c' mv hS' hacc => ?_)
  rw [Moved.eq_with mv]
  refine hR s'.heap s'.toks acc' c' (fun b o h1 h2 e => mv.heap b o (fun z => ?_) e) hS' hacc
  rcases List.mem_cons.mp z with z | z
  · exact h2 z
  · exact h1 (List.mem_singleton.mp z)
theorem call_list_rev {Q : Value → Shared → Prop} {it l : Addr} {its : Array Value} (hh : A.handled = none) (hit : s.heap.IsRevIter it l ((its.size : Int) - 1)) (hl : s.heap.IsList l its) (hne : l ≠ it) (hn : its.size ≤ sizeLine)
    (hQ : ∀ (h' : Heap) (tk : Nat) (acc : Array Value) (c : Nat), (∀ b o, b ≠ it → s.heap.get? b = some o → h'.get? b = some o) →
      h'.get? s.heap.objs.size = some { cls := .type "list", dict := none, data := .seq acc c, slots := #[] } → ItemsOf (fun i v => its[its.size - 1 - i]? = some v) acc its.size → Q (.ref s.heap.objs.size) { s with heap := h', toks := tk }) :
    wpAny (model prog w) A (call (.type "list") [.ref it]) Q E s := by
  obtain ⟨oi, hoi, _⟩ := id hit
  obtain ⟨ol, hol, _⟩ := id hl
  have n1 : s.heap.objs.size ≠ it := Nat.ne_of_gt (Heap.lt_size hoi)
  have n2 : s.heap.objs.size ≠ l := Nat.ne_of_gt (Heap.lt_size hol)
  refine callType_codes (Q₁ := fun obj s₁ => obj = .ref s.heap.objs.size ∧ s₁ = { s with heap := s.heap.push { cls := .type "list", data := .seq #[] } })
    F.called_list (F.typeCall_list_1 _) F.entry_list_init (code_list_new _ ⟨rfl, rfl⟩) (fun obj s₁ h₁ => ?_)
  obtain ⟨rfl, rfl⟩ := h₁
  have hS : (s.heap.push { cls := .type "list", data := .seq #[] }).get? s.heap.objs.size
      = some { cls := .type "list", data := .seq #[] } := Heap.get?_push_size _ rfl
  refine ⟨⟨_, hS, rfl⟩, F.args_list_init_2 _ _, ?_⟩
  show wpAny _ _ (do
    let old ← Builtin.List.listItems (.ref s.heap.objs.size)
    Builtin.List.listUpdate (.ref s.heap.objs.size) (fun _ => #[])
    letGo old.toList.reverse
    Builtin.List.listExtendWith (.ref s.heap.objs.size) (.ref it) .none) _ _ _
  refine wpAny_bind ?_
  unfold Builtin.List.listItems
  refine wpAny_bind (wpAny_seqItems hS rfl (wpAny_pure ?_))
  show wpAny _ _ (do
    updateSeq s.heap.objs.size (fun _ => #[])
    letGo (#[] : Array Value).toList.reverse
    Builtin.List.listExtendWith (.ref s.heap.objs.size) (.ref it) .none) _ _ _
  refine wpAny_bind (wpAny_updateSeq hS rfl ?_)
  have hS2 := Heap.get?_update_self (Obj.mapSeq fun _ => (#[] : Array Value)) hS rfl
  refine wpAny_bind (wpAny_letGo ?_)
  generalize hh2 : (s.heap.push { cls := .type "list", data := .seq #[] }).update s.heap.objs.size (Obj.mapSeq fun _ => (#[] : Array Value)) = h2 at hS2 ⊢
  have kp : ∀ b o, s.heap.get? b = some o → h2.get? b = some o := fun b o e => by
    rw [← hh2, Heap.get?_update_other _ _ (Nat.ne_of_gt (Heap.lt_size e))]
    exact Heap.get?_push_of_some _ e
  have hl2 : h2.IsList l its := by
    obtain ⟨o, e, r⟩ := id hl
    exact ⟨o, kp _ _ e, r⟩
  refine growRev (A := A.in1) (s := { s with heap := h2 }) hh (hit.at fun o e => kp _ _ e) hl2 hne hn hS2 n1 n2 (fun h' tk acc c k e i => ?_)
  exact ⟨rfl, hQ h' tk acc c (fun b o hb hbo => k b o hb (Nat.ne_of_lt (Heap.lt_size hbo)) (kp b o hbo)) e i⟩
end
/-- list(reversed(x)), x a list -/
def tListRev (K : PySem.W.Frag) (te : TE) : TE := fun σ H Q => te σ H fun v G => ∃ (a : Addr) (xs : List V), v = .ref a ∧ SqL K G a xs ∧ ∀ q, G q = none → Q (.ref q) (upd G q (.lst xs.reverse))
theorem pe_listRev {X : Cx} {e : Expr} {te : TE} {p p2 pos pos2 : Pos} (hc : X.calm = true) (hg : Gl X "list") (hm : X.mg "list" = none) (hg2 : Gl X "reversed") (hm2 : X.mg "reversed" = none) (he : PE X e te)
    (hs : starEach [e] X.env = (false, eval e X.env) :: starEach [] X.env := by rfl)
    (hs2 : starEach [.Call (.Name "reversed" p2) [e] [] pos2] X.env = (false, eval (.Call (.Name "reversed" p2) [e] [] pos2) X.env) :: starEach [] X.env := by rfl) :
    PE X (.Call (.Name "list" p) [.Call (.Name "reversed" p2) [e] [] pos2] [] pos) (tListRev X.K te) := by
  refine ⟨fun pins s σ H Q I h => ?_⟩
  have inner := fun (Q' : Value → Shared → Prop) (k : ∀ (a : Addr) (xs : List V) (its : List Value) (s1 : Shared) (G : Hp), Inv X pins σ G s1 → SqL X.K G a xs → Vals xs its → PlainL s1.heap a its.toArray → xs.length ≤ sizeLine →
      (∀ q, G q = none → Q (.ref q) (upd G q (.lst xs.reverse))) → Q' (.ref s1.heap.objs.size) { s1 with heap := s1.heap.push (revObj a ((its.toArray.size : Int) - 1)) }) =>
    show wpAny (model X.prog X.w) X.A (eval (.Call (.Name "reversed" p2) [e] [] pos2) X.env) Q' X.xe s from
      Call_ (ld_blt I hg2 hm2 PyProof.Rows.boot_reversed (PyProof.Rows.callWith_type1 (args_cons (thn (he.run pins s σ H _ I h) fun u s1 ⟨v, G, I1, r1, a, xs, ev, hq, q⟩ => args_nil (by
        subst ev
        obtain rfl : u = Value.ref a := r1
        obtain ⟨its, rv, pl, hz⟩ := I1.list hq
        exact call_reversed_list pl.isList (k a xs its s1 G I1 hq rv pl hz q))) hs) hs rfl))
  refine Call_ (ld_blt I hg hm boot_list (PyProof.Rows.callWith_type1 (args_cons (inner _ fun a xs its s1 G I1 hq rv pl hz q => args_nil ?_) hs2) hs2 rfl))
  have k0 : ∀ b o, s1.heap.get? b = some o → (s1.heap.push (revObj a ((its.toArray.size : Int) - 1))).get? b = some o := fun b o z => Heap.get?_push_of_some _ z
  obtain ⟨ol, hol, _⟩ := id pl.isList
  have hne : a ≠ s1.heap.objs.size := Nat.ne_of_lt (Heap.lt_size hol)
  have hn : its.toArray.size ≤ sizeLine := by rw [List.size_toArray, ← rv.length]; exact hz
  generalize hh3 : s1.heap.push (revObj a ((its.toArray.size : Int) - 1)) = h3 at k0 ⊢
  have it3 : h3.IsRevIter s1.heap.objs.size a ((its.toArray.size : Int) - 1) := by
    rw [← hh3]
    exact ⟨_, Heap.get?_push_size _ rfl, rfl, rfl⟩
  have l3 : h3.IsList a its.toArray := by
    rw [← hh3]
    exact pl.isList.push _
  have lt3 : s1.heap.objs.size < h3.objs.size := by
    obtain ⟨o, e, _⟩ := id it3
    exact Heap.lt_size e
  refine call_list_rev (s := { s1 with heap := h3 }) (I1.ok.hd hc) it3 l3 hne hn fun h' tk acc c hk hS hi => ?_
  have hgo : G h3.objs.size = none := I1.hok.fresh (Nat.le_of_lt lt3)
  refine ⟨.ref h3.objs.size, upd G h3.objs.size (.lst xs.reverse), I1.laid (t' := tk) (fun b o z => hk b o (Nat.ne_of_lt (Heap.lt_size z)) (k0 b o z)) (Nat.le_of_lt lt3)
    (show ObjOk X.prog X.w _ _ _ (.lst xs.reverse) from ⟨by rw [List.length_reverse]; exact hz, acc.toList, c, vals_rev rv hi, by rw [Array.toArray_toList]; exact hS⟩), rfl, q _ hgo⟩
/-- xs.extend(t), t a tuple -/
def rExtT (K : PySem.W.Frag) : V → List V → Hp → VK → Prop := fun x vs H Q => ∃ l b xs zs, x = .ref l ∧ vs = [.ref b] ∧ H l = some (.lst xs) ∧ SqT K H b zs ∧ xs.length + zs.length ≤ sizeLine ∧ Q .non (upd H l (.lst (xs ++ zs)))
theorem mt_extT {X : Cx} : MtM X "list.extend" (rExtT X.K) := by
  intro pins s σ H x vs v us Q I rx rv h
  obtain ⟨l, b, xs, zs, rfl, rfl, hl, hb, hz, q⟩ := h
  cases rx
  obtain ⟨u, rfl, ru⟩ := rv.one
  cases ru
  obtain ⟨z1, its, n, r1, _, e1⟩ := I.lstM hl
  obtain ⟨jts, r2, ⟨o, eo, oc, m, od⟩, z2⟩ := I.tuple hb
  have n1 := r1.length
  have n2 := r2.length
  have sm : its.toArray.size + jts.toArray.size ≤ sizeLine := by
    rw [List.size_toArray, List.size_toArray]
    omega
  have ty : s.TypeIs (.ref b) "tuple" := ⟨o, eo, oc⟩
  refine wpAny_call_entry F.slot_list_extend ⟨_, e1, rfl⟩ F.entry_list_extend ?_ (F.args_list_extend_2 _ _)
  show wpAny _ _ (Builtin.List.listExtendWith (.ref l) (.ref b) .none) _ _ _
  unfold Builtin.List.listExtendWith
  refine wpAny_bind (wpAny_typeOf ty ?_)
  have yes : (Builtin.List.listSameRef (.ref l) (.ref b) || Value.type "tuple" == Value.type "list" || Value.type "tuple" == Value.type "tuple") = true := by simp
  rw [if_pos yes]
  refine wpAny_bind ?_
  unfold Builtin.List.listItems
  refine wpAny_bind (wpAny_seqItems eo od (wpAny_pure ?_))
  refine wpAny_bind ?_
  refine wpAny_bind (wpAny_seqItems e1 rfl (wpAny_pure ?_))
  have long : (!its.toArray.isEmpty && Builtin.List.listTooLong (its.toArray.size + jts.toArray.size)) = false := by
    rw [notLongL sm, Bool.and_false]
  rw [if_neg (by rw [long]; exact Bool.false_ne_true)]
  refine wpAny_bind ?_
  show wpAny _ _ (updateSeq l (· ++ jts.toArray)) _ _ _
  refine wpAny_updateSeq e1 rfl ?_ (by rw [List.size_toArray]; omega) (by rw [Array.size_append]; omega)
  refine wpAny_pure ⟨_, rfl, ?_⟩
  refine ⟨.non, _, I.lset (its' := its ++ jts) hl e1 (by simp) (r1.append r2) ?_, rfl, q⟩
  rw [List.length_append]
  exact hz
end Kr

namespace Ks
open PySem PySem.Spec PyProof.Rows L2
/-! a set of texts -/
def tx (e : Int × Value) : Str := match e.2 with
  | .str x _ => x
  | _ => Str.empty
def GoodT (w : World) (e : Int × Value) : Prop := ∃ x t, e.2 = Value.str x t ∧ e.1 = hashStr w x
structure SetT (w : World) (es : Array (Int × Value)) (t : SetTable) (S : Str → Bool) (n : Nat) : Prop where
  good : ∀ e ∈ es.toList, GoodT w e
  nd : (es.toList.map tx).Nodup
  mem : ∀ k, S k = true ↔ k ∈ es.toList.map tx
  few : es.size < scanBound
  fit : t.fits es.size = true
  num : es.size = n
  ris : Ris t.place.toList
  led : w.params.followText "set-order" = true ∨ t.led = true
def SetS (w : World) (h : Heap) (a : Addr) (S : Str → Bool) (n : Nat) : Prop :=
  ∃ o es ep t, h.get? a = some o ∧ o.ExactSet ∧ o.data = .set es ep t ∧ SetT w es t S n
section
variable {P : Program} {w : World} {A : Around} {E : Value → Shared → Prop} {s : Shared} {a : Addr} {S : Str → Bool} {n : Nat}
theorem kis (x : Str) (t : Tok) : (PySem.strKind P w).is x (.str x t) = true := by
  show Value.isStrOf x (.str x t) = true
  simp [Value.isStrOf]
theorem goodElems {l : List (Int × Value)} (g : ∀ e ∈ l, GoodT w e) : ElemsOf (PySem.strKind P w) l := fun e he => by
  obtain ⟨x, t, h1, h2⟩ := g e he
  refine ⟨⟨x, ?_, h2⟩, ?_⟩
  · rw [h1]
    exact kis x t
  · rw [h1] <;> rfl
theorem goodMem {l : List (Int × Value)} (g : ∀ e ∈ l, GoodT w e) (k : Str) : k ∈ l.map tx ↔ ∃ e ∈ l, (PySem.strKind P w).is k e.2 = true := by
  have one : ∀ e ∈ l, ((PySem.strKind P w).is k e.2 = true ↔ tx e = k) := fun e he => by
    obtain ⟨x, t, h1, _⟩ := g e he
    unfold tx
    rw [h1]
    constructor
    · intro z
      obtain ⟨u, hu⟩ := Value.isStrOf_shape (show Value.isStrOf k (.str x t) = true from z)
      injection hu
    · intro z
      show (PySem.strKind P w).is k (.str x t) = true
      have z' : x = k := z
      rw [z']
      exact kis k t
  rw [List.mem_map]
  exact ⟨fun ⟨e, he, q⟩ => ⟨e, he, (one e he).2 q⟩, fun ⟨e, he, q⟩ => ⟨e, he, (one e he).1 q⟩⟩
theorem typ (R : SetS w s.heap a S n) : s.TypeIs (.ref a) "set" := by
  obtain ⟨o, es, ep, t, ho, hx, _⟩ := R
  exact ⟨o, ho, hx.1⟩
theorem after {h : Heap} {o : Obj} {es es' : Array (Int × Value)} {ep : Nat} {t t' : SetTable} (ho : h.get? a = some o) (hd : o.data = .set es ep t) :
    (h.update a (Obj.putSet es' t')).get? a = some { o with data := .set es' (ep + 1) t' } := by
  have q := Heap.get?_update_self (Obj.putSet es' t') ho (by rw [putSet_of es' t' hd]; rfl)
  rw [putSet_of es' t' hd] at q
  exact q
theorem tail {g : Bool → Sem Unit} (hg : ∀ (b : Bool) (s₁ : Shared) (Q' : Unit → Shared → Prop), Q' () s₁ → wpAny (model P w) A (g b) Q' E s₁)
    {o : Obj} {es : Array (Int × Value)} {ep : Nat} {t : SetTable} (ho : s.heap.get? a = some o) (hex : o.ExactSet) (hd : o.data = .set es ep t)
    {fs : Array (Int × Value)} {u : SetTable} {S' : Str → Bool} (T : SetT w fs u S' fs.size) {wd : Bool} {R : Option Bool → Shared → Prop}
    (hR : ∀ h', Heap.SameBut a s.heap h' → SetS w h' a S' fs.size → R (some true) { s with heap := h' }) :
    wpAny (model P w) A (do
        storeSet a fs u
        if (!wd && u.tooFull) = true then do
            g (relayAll u fs (SetTable.grown fs.size)).2.2
            storeSet a (relayAll u fs (SetTable.grown fs.size)).1 (relayAll u fs (SetTable.grown fs.size)).2.1
            pure (some true)
          else pure (some true)) R E s := by
  refine wpAny_bind (wpAny_storeSet_of ho hd ?_ (fits_of_scanBound T.few))
  have o1 := after (es' := fs) (t' := u) ho hd
  have sb := Heap.SameBut.update s.heap a (Obj.putSet fs u)
  split
  · have pm := relayAll_perm u fs (SetTable.grown fs.size)
    have f3 := relayAll_fits u fs (SetTable.grown fs.size)
    have r3 := relayAll_ris u fs (SetTable.grown fs.size)
    have l3 := relayAll_led u fs (SetTable.grown fs.size)
    generalize relayAll u fs (SetTable.grown fs.size) = Z at pm f3 r3 l3 ⊢
    obtain ⟨gs, v, gave⟩ := Z
    dsimp only at pm f3 r3 l3 ⊢
    have e : gs.size = fs.size := by
      rw [← Array.length_toList, pm.length_eq, Array.length_toList]
    have few : gs.size < scanBound := by
      rw [e]
      exact T.few
    refine wpAny_bind (hg _ _ _ ?_)
    refine wpAny_bind (wpAny_storeSet_of o1 rfl ?_ (fits_of_scanBound few))
    have o2 := after (es' := gs) (t' := v) o1 rfl
    refine wpAny_pure (hR _ (sb.trans (Heap.SameBut.update _ a _)) ⟨_, gs, _, v, o2, hex, rfl, ?_⟩)
    exact ⟨fun x hx => T.good x (pm.mem_iff.mp hx), (pm.map tx).nodup_iff.mpr T.nd, fun k => (T.mem k).trans (pm.map tx).mem_iff.symm, few, f3, e, r3, T.led.imp id fun z => by rw [l3]; exact z⟩
  · exact wpAny_pure (hR _ sb ⟨_, fs, _, u, o1, hex, rfl, T⟩)
theorem addHashed {k : Str} {tk : Tok} {Q : Bool → Shared → Prop} (R : SetS w s.heap a S n) (room : n + 1 < scanBound)
    (hQ : ∀ h', Heap.SameBut a s.heap h' → SetS w h' a (fun j => S j || decide (j = k)) (if S k = true then n else n + 1) → Q (!S k) { s with heap := h' }) :
    wpAny (model P w) A (setAddHashed a (.str k tk) ((PySem.strKind P w).hash k)) Q E s := by
  obtain ⟨o, es, ep, t, ho, hex, hd, T⟩ := R
  have key := kis (P := P) (w := w) k tk
  have sc : (Value.str k tk).scannable = true := rfl
  have el : ElemsOf (PySem.strKind P w) es.toList := goodElems T.good
  unfold setAddHashed setAddHashedIn
  refine wpAny_holding (wpAny_bind (wpAny_setState_of ho hd T.fit ?_))
  dsimp only
  rw [byScan_of sc T.few el]
  simp only [↓reduceIte]
  unfold setAddByScan
  refine wpAny_bind ?_
  refine wpAny_bind (wpAny_rule ?_)
  refine wpAny_bind (wpAny_setScan_of key ho hd T.fit el ?_)
  cases fi : List.findIdx? (fun e => (PySem.strKind P w).is k e.2) es.toList with
  | some j =>
    dsimp only
    obtain ⟨hj, pj, _⟩ := List.findIdx?_eq_some_iff_getElem.mp fi
    have yes : S k = true := (T.mem k).2 ((goodMem (P := P) T.good k).2 ⟨es.toList[j], List.getElem_mem hj, pj⟩)
    refine wpAny_pure (wpAny_pure ?_)
    have q := hQ s.heap (Heap.SameBut.refl a s.heap) ⟨o, es, ep, t, ho, hex, hd, T.good, T.nd, fun i => by
      rw [Bool.or_eq_true, decide_eq_true_eq, ← T.mem i]
      exact ⟨fun z => z.elim id (fun e => e ▸ yes), .inl⟩, T.few, T.fit, by rw [if_pos yes]; exact T.num, T.ris, T.led⟩
    rw [yes] at q
    exact q
  | none =>
    dsimp only
    have out : k ∉ es.toList.map tx := fun z => by
      obtain ⟨e, he, q⟩ := (goodMem (P := P) T.good k).1 z
      have c := List.findIdx?_eq_none_iff.mp fi e he
      rw [q] at c
      cases c
    have no : S k = false := by
      cases q : S k with
      | false => rfl
      | true => exact absurd ((T.mem k).1 q) out
    have gw : ∀ (b : Bool) {s₁ : Shared} {Q' : Unit → Shared → Prop}, Q' () s₁ → wpAny (model P w) A (match b with
        | true => rule "set.scan.the-table-gave-way"
        | false => pure ()) Q' E s₁ := fun b s₁ Q' q => by
      cases b
      · exact wpAny_pure q
      · exact wpAny_rule q
    have pm := layNew_perm t es ((PySem.strKind P w).hash k) (.str k tk)
    have f1 := layNew_fits t es ((PySem.strKind P w).hash k) (.str k tk)
    have r1 := layNew_ris t es ((PySem.strKind P w).hash k) (.str k tk) T.ris
    have l1 := layNew_led t es ((PySem.strKind P w).hash k) (.str k tk)
    generalize layNew t es ((PySem.strKind P w).hash k) (.str k tk) = Z at pm f1 r1 l1 ⊢
    obtain ⟨fs, u, wd, gave⟩ := Z
    dsimp only at pm f1 r1 l1 ⊢
    rw [Array.toList_push] at pm
    have pc : fs.toList.Perm (((PySem.strKind P w).hash k, Value.str k tk) :: es.toList) := pm.trans (List.perm_append_singleton _ _)
    have pk : (fs.toList.map tx).Perm (k :: es.toList.map tx) := pc.map tx
    have e1 : fs.size = n + 1 := by
      rw [← Array.length_toList, pc.length_eq, List.length_cons, Array.length_toList, T.num]
    have T1 : SetT w fs u (fun j => S j || decide (j = k)) fs.size := by
      refine ⟨fun e he => ?_, pk.nodup_iff.mpr (List.nodup_cons.mpr ⟨out, T.nd⟩), fun i => ?_, by rw [e1]; exact room, f1, rfl, r1, T.led.imp id fun z => by rw [l1]; exact z⟩
      · rcases List.mem_cons.mp (pc.mem_iff.mp he) with z | z
        · rw [z]
          exact ⟨k, tk, rfl, rfl⟩
        · exact T.good e z
      · rw [Bool.or_eq_true, decide_eq_true_eq, T.mem i, pk.mem_iff, List.mem_cons]
        exact Or.comm
    have fin : ∀ h', Heap.SameBut a s.heap h' → SetS w h' a (fun j => S j || decide (j = k)) fs.size → Q true { s with heap := h' } := fun h' sb r => by
      have q := hQ h' sb
      rw [no] at q
      rw [e1] at r
      exact q r
    refine wpAny_bind (gw _ ?_)
    split
    · refine wpAny_bind ?_
      rw [hashByValue_scannable 8 sc]
      refine wpAny_pure ?_
      have T2 : SetT w fs (if plainKind (.str k tk) = true then u else { u with plain := false }) (fun j => S j || decide (j = k)) fs.size := by
        split
        · exact T1
        · exact { T1 with fit := SetTable.fits_plain_off T1.fit, ris := T1.ris, led := T1.led }
      refine tail (S' := fun j => S j || decide (j = k)) ?_ ho hex hd T2 ?_
      · intro b s₁ Q' q
        exact gw b q
      · intro h' sb r
        dsimp only
        exact wpAny_pure (fin h' sb r)
    · refine wpAny_bind (wpAny_pure ?_)
      simp only [↓reduceIte]
      refine tail (S' := fun j => S j || decide (j = k)) ?_ ho hex hd T1 ?_
      · intro b s₁ Q' q
        exact gw b q
      · intro h' sb r
        dsimp only
        exact wpAny_pure (fin h' sb r)
/-- set.add of a text -/
theorem addCall {k : Str} {tk : Tok} {Q : Value → Shared → Prop} (R : SetS w s.heap a S n) (room : n + 1 < scanBound)
    (hQ : ∀ h', Heap.SameBut a s.heap h' → SetS w h' a (fun j => S j || decide (j = k)) (if S k = true then n else n + 1) → Q .none { s with heap := h', toks := s.toks + 1 }) :
    wpAny (model P w) A (call (.builtin "set.add") [.ref a, .str k tk]) Q E s := by
  refine wpAny_call_entry F.slot_set_add (typ R) F.entry_set_add ?_ (F.args_set_add_2 _ _)
  unfold Builtin.«set.add» Builtin.Frozenset.oneOther
  simp only [List.isEmpty_nil, bind_assoc]
  unfold Builtin.Frozenset.addrOf setAdd
  refine wpAny_bind (wpAny_pure ?_)
  try dsimp only
  refine wpAny_bind (wpAny_pure ?_)
  try dsimp only
  refine wpAny_bind ?_
  refine wpAny_holding ?_
  refine wpAny_bind ((PySem.strKind P w).pyHash (kis k tk) ?_)
  refine addHashed (s := { s with toks := s.toks + 1 }) R room (fun h' sb r => ?_)
  show wpAny _ _ (ret Value.none) _ _ _
  exact wpAny_pure ⟨_, rfl, hQ h' sb r⟩
theorem fresh {h : Heap} (w : World) : SetS w (h.push { cls := .type "set", dict := none, data := .set #[] 0 (.fresh 0 0 (!w.params.followText "set-order")) }) h.objs.size (fun _ => false) 0 := by
  refine ⟨_, #[], 0, _, Heap.get?_push_size _ rfl, ⟨rfl, rfl, rfl⟩, rfl, ⟨fun e he => ?_, ?_, fun k => ?_, ?_, ?_, rfl, List.Pairwise.nil, ?_⟩⟩
  · simp at he
  · simp
  · simp
  · decide
  · rfl
  · show _ ∨ (!w.params.followText "set-order") = true
    cases w.params.followText "set-order"
    · exact .inr rfl
    · exact .inl rfl
end
/-- the set of texts at a, as a tracked thing -/
def SetH (w : World) (a : Addr) (S : Str → Bool) (n : Nat) : HO := .ext fun h => SetS w h a S n
theorem setH_new {w : World} {P : Program} {H : Hp} {h : Heap} {a : Addr} {S : Str → Bool} {n : Nat} (R : SetS w h a S n) : ObjOk P w H h a (SetH w a S n) := by
  have ⟨o, es, ep, t, ho, r⟩ := R
  refine ⟨R, ⟨o, ho⟩, fun h1 h2 p k => ?_⟩
  obtain ⟨o, es, ep, t, ho, r⟩ := p
  exact ⟨o, es, ep, t, k o ho, r⟩
section
variable {X : Cx} {pins : List (Addr × Obj)} {σ : L2.St} {H : Hp} {s : Shared}
theorem setH_get {a : Addr} {S : Str → Bool} {n : Nat} (I : Inv X pins σ H s) (ha : H a = some (SetH X.w a S n)) : SetS X.w s.heap a S n := (I.hok a _ ha).1
theorem addIn {E : Value → Shared → Prop} {D : Addr} {S : Str → Bool} {n : Nat} {y : Str} {tk : Tok} {Q : Value → Shared → Prop} (I : Inv X pins σ H s) (hD : H D = some (SetH X.w D S n)) (room : n + 1 < scanBound)
    (h : ∀ s', Inv X pins σ (upd H D (SetH X.w D (fun j => S j || decide (j = y)) (if S y = true then n else n + 1))) s' → Q .none s') : wpAny (model X.prog X.w) X.A (call (.builtin "set.add") [.ref D, .str y tk]) Q E s := by
  refine addCall (setH_get I hD) room fun h' sb new => h _ ?_
  have he : ∃ u, h'.get? D = some u := let ⟨o, _, _, _, ho, _⟩ := new; ⟨o, ho⟩
  exact I.write (e := D) (t' := s.toks + 1) (by rw [hD]; trivial) (.inl rfl) (fun b u hb hu => (sb.2 b hb).trans hu) he (setH_new new)
end
end Ks

namespace Ks
open PySem PySem.Spec PyProof.Rows L2
section
variable {P : Program} {w : World} {A : Around} {E : Value → Shared → Prop} {s : Shared} {a : Addr} {S : Str → Bool} {n : Nat}
theorem strsOf {l : List Value} (h : ∀ v ∈ l, ∃ x t, v = Value.str x t) : ∃ xs, StrsAre l xs := by
  induction l with
  | nil => exact ⟨[], .nil⟩
  | cons v l ih =>
    obtain ⟨x, t, rfl⟩ := h v List.mem_cons_self
    obtain ⟨xs, hx⟩ := ih fun u hu => h u (List.mem_cons_of_mem _ hu)
    exact ⟨x :: xs, .cons x t hx⟩
def txv (v : Value) : Str := match v with
  | .str x _ => x
  | _ => Str.empty
theorem strs_eq {l : List Value} {xs : List Str} (h : StrsAre l xs) : xs = l.map txv := by
  induction h with
  | nil => rfl
  | cons x t _ ih =>
    rw [List.map_cons, ← ih]
    rfl
/-- sorted(a set of texts) -/
theorem sortedSet {Q : Value → Shared → Prop} (R : SetS w s.heap a S n) (hh : A.handled = none) (h64 : n < 64)
    (hQ : ∀ (s' : Shared) (p : Addr) (out : Array Value) (c : Nat) (ys : List Str), (∀ b o, s.heap.get? b = some o → s'.heap.get? b = some o) → s'.gens = s.gens → s'.os = s.os → s.heap.objs.size ≤ p →
      s'.heap.get? p = some (seqObj "list" out c) → StrsAre out.toList ys → sortedS ys = true → ys.Nodup → (∀ k, k ∈ ys ↔ S k = true) → ys.length = n → Q (.ref p) s') :
    wpAny (model P w) A (call (.builtin "sorted") [.ref a]) Q E s := by
  obtain ⟨o, es, ep, t, ho, hex, hd, T⟩ := R
  refine Calls.call_function_entry kind_sorted plain_sorted entry_sorted (args_sorted1 _) ?_
  unfold Builtin.«sorted»
  refine wpAny_bind (m := checkCount "sorted" 1 1 _) (wpAny_pure ?_)
  refine wpAny_bind (collect_set (A := A.in1) hh ⟨o, ho, hex.1, hd⟩ T.fit T.few T.ris T.led fun s1 vs k1 z1 g1 o1 pm => ?_)
  have len : vs.length = n := by
    rw [pm.length_eq, List.length_map, Array.length_toList]
    exact T.num
  obtain ⟨xs, hx⟩ := strsOf (l := vs) fun v hv => by
    obtain ⟨e, he, q⟩ := List.mem_map.mp (pm.mem_iff.mp hv)
    obtain ⟨x, t, h1, _⟩ := T.good e he
    exact ⟨x, t, by rw [← q]; exact h1⟩
  have px : xs.Perm (es.toList.map tx) := by
    have q := pm.map txv
    rw [List.map_map] at q
    rw [strs_eq hx]
    exact q
  refine wpAny_bind (wpAny_newList ?_ (by rw [len, sizeLine_eq]; omega))
  have oL : (s1.heap.push (seqObj "list" vs.toArray 0)).get? s1.heap.objs.size = some (seqObj "list" vs.toArray 0) := Heap.get?_push_size _ rfl
  refine wpAny_bind (wpAny_holding (wpAny_call_entry slot_list_sort ⟨_, oL, rfl⟩ entry_list_sort (list_sort_treeK strKind_oneLt oL hx.keysOf
    (fun v₁ v₂ rest e => keyKind_strs (by rw [← e]; exact hx)) (by rw [len]; exact h64) fun st' hp hs => ⟨_, rfl, ?_⟩) (args_list_sort _)))
  obtain ⟨ys, a1, a2, a3⟩ := sorted_out_str hx hp hs
  obtain ⟨c, hc⟩ := sortedHeap_at (vs := vs) (out := (arrOf st').map (·.2)) oL
  have py : ys.Perm (es.toList.map tx) := a2.trans px
  refine wpAny_pure ⟨_, rfl, hQ _ s1.heap.objs.size _ c ys (fun b u e => ?_) g1 o1 z1 hc a1 a3 (py.nodup_iff.mpr T.nd) (fun k => by rw [py.mem_iff, ← T.mem k]) ?_⟩
  · have q := k1 b u e
    have lt := Heap.lt_size q
    show (sortedHeap (s1.heap.push (seqObj "list" vs.toArray 0)) s1.heap.objs.size vs _).get? b = some u
    rw [sortedHeap_old (Nat.ne_of_lt lt) (by rw [size_push']; exact Nat.lt_succ_of_lt lt)]
    exact Heap.get?_push_of_some _ q
  · rw [py.length_eq, List.length_map, Array.length_toList]
    exact T.num
end
section
variable {X : Cx}
def rSortT (w : World) : List V → Hp → VK → Prop := fun vs H Q => ∃ (a : Addr) (S : Str → Bool) (n : Nat), vs = [V.ref a] ∧ H a = some (SetH w a S n) ∧ n < 64 ∧
  ∀ (ys : List Str) (p : Addr), sortedS ys = true → ys.Nodup → (∀ k : Str, k ∈ ys ↔ S k = true) → ys.length = n → H p = none → Q (.ref p) (upd H p (.lst (ys.map V.str)))
theorem cr_sortT (hc : X.calm = true) : CallR X (.builtin "sorted") (rSortT X.w) := by
  intro pins s σ H vs us Q I r h
  obtain ⟨a, S, n, rfl, ha, h64, q⟩ := h
  rw [Vals.ref1 r]
  refine sortedSet (setH_get I ha) (I.ok.hd hc) h64 fun s' p out c ys k g o hp hg hi hs hd hm hl => ?_
  have len : (ys.map V.str).length ≤ sizeLine := by
    rw [List.length_map, hl, sizeLine_eq]
    omega
  have hn : H p = none := I.hok.fresh hp
  have e : s' = { s with heap := s'.heap, gens := s'.gens, drawn := s'.drawn, toks := s'.toks } := by
    cases s'
    cases s
    cases o
    rfl
  have J : Inv X pins σ (upd H p (.lst (ys.map V.str))) { s with heap := s'.heap, gens := s'.gens, drawn := s'.drawn, toks := s'.toks } :=
    I.call (ch := []) (Un.laid k hp hn) (I.hok.laid k hp ⟨len, out.toList, c, vals_of_strs hi, hg⟩) (by rw [g]; exact I.bare) (fun _ z => nomatch z)
  rw [e]
  exact ⟨.ref p, _, J, rfl, q ys p hs hd hm hl hn⟩
end
end Ks

namespace Ks
open PySem PySem.Spec PyProof.Rows L2
def inL (l : List Str) : Str → Bool := fun k => decide (k ∈ l)
section
variable {P : Program} {w : World} {A : Around} {E : Value → Shared → Prop} {s : Shared}
theorem SetS.keep {h h' : Heap} {a : Addr} {S : Str → Bool} {n : Nat} (R : SetS w h a S n) (k : ∀ o, h.get? a = some o → h'.get? a = some o) : SetS w h' a S n := by
  obtain ⟨o, es, ep, t, ho, r⟩ := R
  exact ⟨o, es, ep, t, k o ho, r⟩
theorem SetS.as {h : Heap} {a : Addr} {S S' : Str → Bool} {n : Nat} (R : SetS w h a S n) (e : ∀ k, S' k = S k) : SetS w h a S' n := by
  have q : S' = S := funext e
  rw [q]
  exact R
theorem strGet {l : List Value} {xs : List Str} (h : StrsAre l xs) : ∀ (i : Nat) (v : Value), l[i]? = some v → ∃ x t, xs[i]? = some x ∧ v = .str x t := by
  induction h with
  | nil =>
    intro i v z
    simp at z
  | cons x t _ ih =>
    intro i v z
    cases i with
    | zero => exact ⟨x, t, rfl, (Option.some.inj z).symm⟩
    | succ i => exact ih i v z
/-- the loop of set.update over texts -/
theorem updLoop {I : Addr} {fp wr : List Addr} {G : Array GenState → Array GenState → Prop} {n : Nat} {Pv : Nat → Value → Prop} {St : Nat → Shared → Prop} {R : Result → Shared → Prop}
    (W : WalksS P w A.in1 I fp wr G n Pv St) (D : Addr) (hDf : D ∉ fp) (xs : List Str) (hn : n = xs.length) (few : n + 1 < scanBound) (hval : ∀ i v, Pv i v → ∃ x t, xs[i]? = some x ∧ v = .str x t) :
    ∀ (k i : Nat) (s : Shared), n - i = k → i ≤ n → St i s → (∃ m, m ≤ i ∧ SetS w s.heap D (inL (xs.take i)) m) →
      (∀ s' m, m ≤ n → Moved (D :: wr) G s s' → SetS w s'.heap D (inL xs) m → R (.ok (.ret .none)) s') → codeAny (model P w) A (.builtin "set.update.loop" ⟨[.ref D, .ref I], []⟩) R s := by
  have hDw : D ∉ wr := fun z => hDf (W.sub _ z)
  have sub : ∀ b ∈ wr, b ∈ D :: wr := fun b hb => List.mem_cons_of_mem _ hb
  intro k
  induction k with
  | zero =>
    intro i s hk hi st ⟨m, hm, hS⟩ hR
    have e : i = n := by omega
    refine codeAny_builtin F.entry_set_update_loop ?_
    rw [Around.under_plainId F.plain_set_update_loop _]
    show wpAny _ A.in1 (pyNext (.ref I) >>= _) _ _ s
    rw [e] at st
    refine wpAny_bind (W.done s _ _ st fun s' mv => ?_)
    show wpAny _ A.in1 (ret Value.none) _ _ s'
    refine wpAny_pure (hR s' m (by omega) (mv.mono sub) ?_)
    rw [e, hn, List.take_length] at hS
    exact hS.keep fun o z => mv.heap D o hDw z
  | succ k ih =>
    intro i s hk hi st ⟨m, hm, hS⟩ hR
    have lt : i < n := by omega
    refine codeAny_builtin F.entry_set_update_loop ?_
    rw [Around.under_plainId F.plain_set_update_loop _]
    show wpAny _ A.in1 (pyNext (.ref I) >>= _) _ _ s
    refine wpAny_bind (W.item i s _ _ lt st fun v s' hP st' mv => ?_)
    obtain ⟨x, t, hx, rfl⟩ := hval i v hP
    have hS' : SetS w s'.heap D (inL (xs.take i)) m := hS.keep fun o z => mv.heap D o hDw z
    show wpAny _ A.in1 (holding [Value.str x t] (setAdd D (.str x t)) >>= _) _ _ s'
    refine wpAny_bind (wpAny_holding ?_)
    unfold setAdd
    refine wpAny_holding ?_
    refine wpAny_bind ((PySem.strKind P w).pyHash (kis x t) ?_)
    refine addHashed (s := { s' with toks := s'.toks + 1 }) hS' (by omega) (fun h' sb S2 => ?_)
    have grow : xs.take (i + 1) = xs.take i ++ [x] := by rw [List.take_add_one, hx]; rfl
    have S3 : ∃ q, q ≤ i + 1 ∧ SetS w h' D (inL (xs.take (i + 1))) q := by
      refine ⟨_, ?_, S2.as fun j => ?_⟩
      · split <;> omega
      · unfold inL
        rw [grow, ← Bool.decide_or]
        exact decide_eq_decide.mpr (by rw [List.mem_append, List.mem_singleton])
    refine wpAny_pure ⟨plainId_quiet F.plain_set_update_loop _, ih (i + 1) _ (by omega) lt (W.frame _ s' _ _ st' (Nat.le_succ _) fun b hb o z => ?_) S3 (fun s'' q hq mv' S4 => ?_)⟩
    · rw [sb.2 b (fun y : b = D => hDf (by rw [← y]; exact hb))]
      exact z
    · refine hR s'' q hq (Moved.trans W.gtrans ((mv.mono sub).then_heap (Nat.le_succ _) fun b o hb z => ?_) mv') S4
      rw [sb.2 b (fun y : b = D => hb (by rw [y]; exact List.mem_cons_self))]
      exact z
abbrev set0 (w : World) : Obj := { cls := .type "set", dict := none, data := .set #[] 0 (.fresh 0 0 (!w.params.followText "set-order")) }
/-- set(a list of texts) -/
theorem callSet {l : Addr} {items : Array Value} (xs : List Str) {Q : Value → Shared → Prop} (hh : A.handled = none) (hl : s.heap.IsList l items) (hit : StrsAre items.toList xs) (few : xs.length + 1 < scanBound)
    (h : ∀ (h' : Heap) (tk m : Nat), m ≤ xs.length → SetS w h' s.heap.objs.size (inL xs) m → (∀ b o, s.heap.get? b = some o → h'.get? b = some o) → Q (.ref s.heap.objs.size) { s with heap := h', toks := tk }) :
    wpAny (model P w) A (call (.type "set") [.ref l]) Q E s := by
  have hsz : items.size = xs.length := by
    rw [← Array.length_toList]
    exact StrsAre.len_eq hit
  obtain ⟨c, tl, hmro⟩ := F.called_set.mro
  have hmade := F.called_set.made
  have hsub := F.called_set.sub
  refine wpAny_call (codeAny_of_tree ?_)
  show wpAny _ _ (callAny (.type "set") _) _ _ _
  refine wpAny_pure ⟨Code.quiet_builtin _ (by decide +kernel), codeAny_builtin F.entry_type_call ?_⟩
  rw [Around.under_plain (weight_type_call_type "set" [.ref l] []) rfl]
  have h1 := F.called_set.notType
  have h2 := F.called_set.canCreate
  have h3 := F.typeCall_set_1 (.ref l)
  repeat (any_goals (first | assumption | wp_step))
  refine codeAny_mono (code_set_led1 (.ref l) (E := E) (Q₁ := fun obj s₁ => obj = .ref s.heap.objs.size ∧ s₁ = { s with heap := s.heap.push (set0 w) }) ⟨rfl, rfl⟩) (fun r s₁ hr => ?_)
  cases r with
  | error e => exact hr
  | ok fl =>
    cases fl with
    | ret obj =>
      obtain ⟨rfl, rfl⟩ := hr
      have hS : (s.heap.push (set0 w)).get? s.heap.objs.size = some (set0 w) := Heap.get?_push_size _ rfl
      have hT : Shared.TypeIs { s with heap := s.heap.push (set0 w) } (.ref s.heap.objs.size) "set" := ⟨_, hS, rfl⟩
      have hli := F.called_set.init.lookup
      have hbi := F.called_set.init.bind (.ref s.heap.objs.size)
      repeat (any_goals (first | assumption | wp_step))
      refine codeAny_mono (codeAny_call_builtin (R := wants (fun r s₂ => r = .none ∧ ∃ h' tk m, m ≤ xs.length ∧ s₂ = { s with heap := h', toks := tk } ∧ SetS w h' s.heap.objs.size (inL xs) m ∧
          (∀ b o, s.heap.get? b = some o → h'.get? b = some o)) E) F.called_set.init.plain F.entry_set_init (check_set_init_1 hT ?_)) (fun r₂ s₂ hr₂ => ?_)
      · obtain ⟨ol, hol, hcl, nl, hdl⟩ := hl
        obtain ⟨ocls, odict, odata, oslots⟩ := ol
        simp only at hcl hdl
        subst hcl
        subst hdl
        have hol' : (s.heap.push (set0 w)).get? l = some { cls := .type "list", dict := odict, data := .seq items nl, slots := oslots } := Heap.get?_push_of_some _ hol
        have hsls := F.sub_list_set
        have hslf := F.sub_list_frozenset
        have hne : (Value.type "list" == Value.type "dict") = false := by decide
        have hl1 : (s.heap.push (set0 w)).IsList l items := ⟨_, hol', rfl, nl, rfl⟩
        unfold Builtin.«set.__init__» noKeywords Builtin.Frozenset.updateFrom
        generalize hPI : pyIter = PI
        wp_walk
        subst hPI
        refine wpAny_pyIter_list hl1 ?_
        refine wpAny_bind (wpAny_runValue ?_)
        have ll : l < s.heap.objs.size := Heap.lt_size hol
        have hh3 : A.in1.in1.in1.handled = none := by simp [hh]
        have zz : (s.heap.push (set0 w)).objs.size = s.heap.objs.size + 1 := Heap.size_push ..
        have nI : l ≠ (s.heap.push (set0 w)).objs.size := by
          rw [zz]
          exact Nat.ne_of_lt (Nat.lt_succ_of_lt ll)
        have out : s.heap.objs.size ∉ [(s.heap.push (set0 w)).objs.size, l] := by
          rw [zz]
          intro z
          rcases List.mem_cons.mp z with z | z
          · exact Nat.lt_irrefl _ (Nat.lt_of_lt_of_eq (Nat.lt_succ_self _) z.symm)
          · exact Nat.lt_irrefl _ (Nat.lt_of_lt_of_eq ll (List.mem_singleton.mp z))
        have hval : ∀ (i : Nat) (v : Value), items[i]? = some v → ∃ x t, xs[i]? = some x ∧ v = .str x t := fun i v hv => by
          exact strGet hit i v (by rw [Array.getElem?_toList]; exact hv)
        refine updLoop ((Walks.list hh3 _ l nI items).toS) s.heap.objs.size out xs hsz (by omega) hval (items.size - 0) 0 _ (by omega) (Nat.zero_le _)
          ⟨⟨_, Heap.get?_push_size _ rfl, rfl, rfl⟩, (hl1.push _)⟩ ⟨0, Nat.le_refl _, ?_⟩ (fun s' m hm mv S4 => ?_)
        · refine ((fresh w).keep fun o z => Heap.get?_push_of_some _ z).as fun k => ?_
          unfold inL
          exact decide_eq_false (by rw [List.take_zero]; exact List.not_mem_nil)
        · obtain ⟨h', g2, d', tk', os'⟩ := s'
          have eg : g2 = s.gens := mv.gens
          have ed : d' = s.drawn := mv.drawn
          have eo : os' = s.os := mv.os
          subst eg
          subst ed
          subst eo
          show wpAny _ _ _ _ _ _
          refine wpAny_pure ?_
          show wpAny _ _ (ret Value.none) _ _ _
          refine wpAny_pure ⟨rfl, h', tk', m, by omega, rfl, S4, fun b o z => mv.heap b o (fun y => ?_) (Heap.get?_push_of_some _ (Heap.get?_push_of_some _ z))⟩
          have lb := Heap.lt_size z
          rcases List.mem_cons.mp y with y | y
          · rw [y] at lb
            exact Nat.lt_irrefl _ lb
          · rw [List.mem_singleton.mp y, zz] at lb
            exact Nat.lt_irrefl _ (Nat.lt_of_succ_lt lb)
      · cases r₂ with
        | error e => exact hr₂
        | ok fl₂ =>
          cases fl₂ with
          | ret r =>
            obtain ⟨rfl, h', tk, m, hm, rfl, S4, kp⟩ := hr₂
            repeat (any_goals (first | assumption | wp_step))
            exact h _ _ _ hm S4 kp
          | _ => exact hr₂.elim
    | _ => exact hr.elim
end
section
variable {X : Cx}
def rSetT (K : PySem.W.Frag) (w : World) : List V → Hp → VK → Prop := fun vs H Q => ∃ (l : Addr) (xs : List Str), vs = [V.ref l] ∧ SqL K H l (xs.map V.str) ∧ xs.length + 1 < scanBound ∧
  ∀ (p : Addr) (m : Nat), m ≤ xs.length → H p = none → Q (.ref p) (upd H p (SetH w p (inL xs) m))
theorem cr_setT (hc : X.calm = true) : CallR X (.type "set") (rSetT X.K X.w) := by
  intro pins s σ H vs us Q I r h
  obtain ⟨l, xs, rfl, hq, few, q⟩ := h
  rw [Vals.ref1 r]
  obtain ⟨its, rv, pl, hz⟩ := I.list hq
  refine callSet xs (I.ok.hd hc) pl.isList (by rw [List.toList_toArray]; exact rv.strs) few fun h' tk m hm S kp => ?_
  have hn : H s.heap.objs.size = none := I.hok.fresh (Nat.le_refl _)
  exact ⟨.ref _, _, I.laid (t' := tk) kp (Nat.le_refl _) (setH_new S), rfl, q _ m hm hn⟩
end
end Ks

namespace Ks
open PySem PySem.Spec PyProof.Rows L2
section
variable {X : Cx}
/-- {elt for target in iter if ..}, elt a text: D the new set -/
def tScT (w : World) (wi : TI) (g : TG) (tt : TT) (te : TE) (vs : List Nat) : TE := fun σ H Q => wi σ H fun J G => ∀ D, G D = none →
  ∃ W : Nat → Nat → Hp → Prop, (∃ m, W 0 m (upd G D (SetH w D (fun _ => false) 0))) ∧ ∀ i m H, W i m H →
    (J.stop i H ∧ Q (.ref D) H) ∨ (J.go i H ∧ ∃ N : Hp → Prop, (∀ H', N H' → ∃ m', m' < m ∧ W (i + 1) m' H') ∧ ∀ x H', J.yld i H x H' →
      g x (wipe σ vs) H' fun τ H2 => wipe τ vs = wipe σ vs ∧ tt τ H2 fun b H3 => if b = true then
        te τ H3 fun y H4 => ∃ (c : Str) (S : Str → Bool) (n : Nat), y = .str c ∧ H4 D = some (SetH w D S n) ∧ n + 1 < scanBound ∧ N (upd H4 D (SetH w D (fun j => S j || decide (j = c)) (if S c = true then n else n + 1)))
      else N H3)
theorem pe_scT {elt tg iter : Expr} {ifs : List Expr} {scope : Scope} {own : List (PySem.Str × Nat)} {pos : Pos} {wi : TI} {g : TG} {tt : TT} {te : TE} (hc : X.calm = true) (hN : X.N.Nodup) (hi : PI X tg iter wi) (ok : BlkOk X.N X.env.scope scope own)
    (hg : ∀ (s : Shared) (H : Hp) (C : Addr) (cl : List (PySem.Str × Addr)) (fp : List Addr), PG (X.blk s H scope (compEnvC scope cl C X.env) fp) tg g)
    (ht : ∀ (s : Shared) (H : Hp) (C : Addr) (cl : List (PySem.Str × Addr)) (fp : List Addr), PTs (X.blk s H scope (compEnvC scope cl C X.env) fp) ifs tt)
    (he : ∀ (s : Shared) (H : Hp) (C : Addr) (cl : List (PySem.Str × Addr)) (fp : List Addr), PE (X.blk s H scope (compEnvC scope cl C X.env) fp) elt te)
    (hs : ∀ x, foldedSetIterable iter X.env x = pure x := by intro _; rfl) :
    PE X (.SetComp elt [⟨tg, iter, ifs, 0⟩] scope pos) (tScT X.w wi g tt te (own.map (·.2))) := by
  refine ⟨fun pins s σ H Q I h => ?_⟩
  rw [PpSet.eval_SetComp]
  have hfree : ∀ y ∈ scope.names, y.2 = .free → ∃ c, X.env.cells.lookup y.1 = some c := fun y hy e => (ok.free y hy e).elim (fun k => I.ok.has _ (.inl k)) fun k => I.ok.has _ (.inr k)
  refine wpAny_comprehension_free (use := none) rfl hs (closure_ok hfree) ok.kind (fun y hy e => by rw [ok.uniq y hy, e])
    (thn (hi.run pins s σ H _ I h) fun xv s1 hx => thn hx fun itv s2 h2 => ?_)
  obtain ⟨it, fp, tn, J, G, e, I2, T, st2, f2, q⟩ := h2
  subst e
  refine PpSet.newSet_ok (newEnv_comp ?_)
  generalize hD : s2.heap.objs.size = D
  have free : G D = none := I2.hok.fresh (Nat.le_of_eq hD)
  obtain ⟨W, ⟨m0, w0⟩, turn⟩ := q D free
  generalize e3 : ({ s2 with heap := s2.heap.push { cls := .type "set", dict := none, data := .set #[] 0 (.fresh 0 0 (!X.w.params.followText "set-order")) } } : Shared) = s3
  have kp : ∀ b o, s2.heap.get? b = some o → s3.heap.get? b = some o := fun b o z => by
    rw [← e3]
    exact Heap.get?_push_of_some _ z
  have I3 : Inv X pins σ (upd G D (SetH X.w D (fun _ => false) 0)) s3 := by
    rw [← e3]
    refine I2.laid (t' := s2.toks) (fun b o z => Heap.get?_push_of_some _ z) (Nat.le_of_eq hD) ?_
    rw [← hD]
    exact setH_new (fresh X.w)
  have f3 : ∀ b ∈ fp, FpOk X pins (upd G D (SetH X.w D (fun _ => false) 0)) b ∧ b < s3.heap.objs.size := fun b hb => by
    obtain ⟨o, z, _⟩ := T.obj _ _ st2 b hb
    have lt := Heap.lt_size z
    refine ⟨⟨?_, (f2 b hb).2⟩, Heap.lt_size (kp b o z)⟩
    rw [upd_ne (by rw [← hD]; exact Nat.ne_of_lt lt)]
    exact (f2 b hb).1
  have st3 : tn 0 s3.heap := T.keep _ _ _ st2 fun b _ o z => kp b o z
  have I4 := block_start I3 ok hN f3
  generalize eH : upd G D (SetH X.w D (fun _ => false) 0) = H3 at I3 I4 w0 f3
  have pg := hg s3 H3 s3.heap.objs.size (cellsFrom (s3.heap.objs.size + 1) scope.names (cloFrom X.env.cells scope.names [])) fp
  have pt := ht s3 H3 s3.heap.objs.size (cellsFrom (s3.heap.objs.size + 1) scope.names (cloFrom X.env.cells scope.names [])) fp
  have pe := he s3 H3 s3.heap.objs.size (cellsFrom (s3.heap.objs.size + 1) scope.names (cloFrom X.env.cells scope.names [])) fp
  have nfp : ∀ b ∈ fp, H3 b = none := fun b hb => (f3 b hb).1.1
  show codeAny _ _ (.compStart (.SetComp elt [⟨tg, iter, ifs, 0⟩] scope pos) 0 (.ref it) (.ref D)
      (compEnvC scope (cellsFrom (s3.heap.objs.size + 1) scope.names (cloFrom X.env.cells scope.names [])) s3.heap.objs.size X.env))
    (compPost (model X.prog X.w) X.A X.xe none (EP X pins σ Q) (.ref D) s3.heap.objs.size)
    { s3 with heap := pushCells (s3.heap.push { cls := .type "dict", data := .dict #[] }) scope.names }
  generalize ece : compEnvC scope (cellsFrom (s3.heap.objs.size + 1) scope.names (cloFrom X.env.cells scope.names [])) s3.heap.objs.size X.env = ce at I4 pg pt pe ⊢
  have cL : ce.locals = s3.heap.objs.size := by
    subst ece
    rfl
  generalize e4 : ({ s3 with heap := pushCells (s3.heap.push { cls := .type "dict", data := .dict #[] }) scope.names } : Shared) = s4 at I4 ⊢
  have st4 : tn 0 s4.heap := T.keep _ _ _ st3 fun b _ o z => by
    rw [← e4]
    exact pushCells_keeps _ _ _ _ (Heap.get?_push_of_some _ z)
  have sta : ∀ {τ : L2.St} {F : Hp} {s' : Shared}, Inv (X.blk s3 H3 scope ce fp) [] τ F s' → (∀ b ∈ fp, F b = none) → ∀ b ∈ fp, FpOk (X.blk s3 H3 scope ce fp) [] F b := fun {τ F s'} K hn b hb =>
    ⟨hn b hb, (K.ok.exf b hb).1, K.ok.exfs b hb, .inl hb, fun x c z => (K.ok.exf b hb).2 x c z, fun p hp => absurd (show p ∈ ([] : List (Addr × Obj)) ++ [] from hp) (by simp)⟩
  have done : ∀ (s' : Shared) (m : Str → Option Value) (F : Hp), Inv X pins σ F s' → Q (.ref D) F → s'.heap.Ns s3.heap.objs.size m → FpOk X pins F s3.heap.objs.size →
      compPost (model X.prog X.w) X.A X.xe none (EP X pins σ Q) (.ref D) s3.heap.objs.size (.ok .next) s' := fun s' m F K k hn f => ⟨m, hn, fun h'' sb => by
    obtain ⟨f0, f1, f2, f3, f4, f5⟩ := f
    exact ⟨.ref D, F, K.turned (t' := s'.toks) (fun b o hb z => (sb.2 b hb).trans z) f0 f1 f3 f4 f5, rfl, k⟩⟩
  have loop : codeAny (model X.prog X.w) X.A (.compLoop (.SetComp elt [⟨tg, iter, ifs, 0⟩] scope pos) 0 (.ref it) (.ref D) ce) (compPost (model X.prog X.w) X.A X.xe none (EP X pins σ Q) (.ref D) s3.heap.objs.size) s4 := by
    refine PpSet.compLoopS_any (fun n s' => ∃ i F, Inv (X.blk s3 H3 scope ce fp) [] (wipe σ (own.map (·.2))) F s' ∧ tn i s'.heap ∧ (∀ b ∈ fp, F b = none) ∧ W i n F) ?_ m0 ⟨0, H3, I4, st4, nfp, w0⟩
    rintro n s5 ⟨i, H5, I5, st5, n5, w5⟩
    rcases turn i n H5 w5 with ⟨stop, qq⟩ | ⟨go, N, hNx, step⟩
    · have td := T.done (X.blk s3 H3 scope ce fp) rfl rfl rfl hc i [] s5 _ H5 (fun _ _ => False) I5 (sta I5 n5) st5 stop
      refine thnF td fun r s6 ⟨hr, I6⟩ => ?_
      subst hr
      have I7 : Inv X pins σ H5 s6 := I3.call' (ch := fp) I6.os I6.base I6.hok I6.bare fun b hb =>
        let z := (f3 b hb).1
        ⟨z.2.2.2.1, z.2.1, z.2.2.2.2.1, z.2.2.2.2.2⟩
      have nC : H5 s3.heap.objs.size = none := by
        rw [← cL]
        exact I6.free
      obtain ⟨m, hn, _⟩ := I6.loc
      have hn : s6.heap.Ns ce.locals m := hn
      rw [cL] at hn
      exact done s6 m H5 I7 qq hn (I3.fpOk (Nat.le_refl _) nC)
    · have ti := T.item (X.blk s3 H3 scope ce fp) rfl rfl rfl hc i [] s5 _ H5 (fun _ _ => False) I5 (sta I5 n5) st5 go
      refine thnF ti fun r s6 ⟨u, hr, h6⟩ => ?_
      subst hr
      refine thnF h6 fun _ s7 ⟨x, H7, I7, r7, y7, st7, n7⟩ => ?_
      have J7 := I7.pinned (sta I7 n7) (T.obj _ _ st7)
      refine thnF (pg.run _ s7 _ H7 x u _ J7 r7 (step x H7 y7)) fun _ s8 ⟨τ, H8, I8, hw, q8⟩ => ?_
      refine thnF (pt.run _ s8 τ H8 _ I8 q8) fun b s9 ⟨H9, I9, q9⟩ => ?_
      have fin : ∀ {s' : Shared} {F : Hp}, Inv (X.blk s3 H3 scope ce fp) ([] ++ pinsAt fp s7.heap) τ F s' → N F →
          ∃ m, m < n ∧ ∃ i F, Inv (X.blk s3 H3 scope ce fp) [] (wipe σ (own.map (·.2))) F s' ∧ tn i s'.heap ∧ (∀ b ∈ fp, F b = none) ∧ W i m F := fun {s' F} K nx => by
        obtain ⟨m', hm, w'⟩ := hNx F nx
        have pin : ∀ b ∈ fp, ∀ o, s7.heap.get? b = some o → s'.heap.get? b = some o ∧ F b = none := fun b hb o z =>
          let y := K.pin (b, o) (List.mem_append_right _ (List.mem_append_right _ (mem_pinsAt hb z)))
          ⟨y.1, y.2.1⟩
        have hl : (wipe σ (own.map (·.2))).length = τ.length := by
          rw [← hw, wipe_length]
        refine ⟨m', hm, i + 1, F, (K.unpinned (pins := [])).weak hl (fun j v z => ?_), T.keep _ _ _ st7 fun b hb o z => (pin b hb o z).1, fun b hb => ?_, w'⟩
        · rw [← hw] at z
          exact (wipe_some z).1
        · obtain ⟨o, z, _⟩ := T.obj _ _ st7 b hb
          exact (pin b hb o z).2
      cases b with
      | false =>
        simp only [Bool.false_eq_true, if_false] at q9 ⊢
        exact fin I9 q9
      | true =>
        simp only [if_true] at q9 ⊢
        refine thnF (pe.run _ s9 τ H9 _ I9 q9) fun z s10 ⟨yv, H10, I10, r10, cb, S0, n0, ey, hD10, hz10, nx⟩ => ?_
        subst ey
        obtain ⟨tk, rfl⟩ := r10
        exact addIn (X := X.blk s3 H3 scope ce fp) I10 hD10 hz10 fun s11 I11 => fin I11 nx
  exact PpSet.codeAny_compStart_set loop (T.self X.A 0 _ _ _ st4 loop)
end
end Ks

/-! dict(..) of a tuple of pairs, a tuple of two turned about -/
namespace Kt
open PySem PySem.Spec PyProof.Rows L2
section
variable {X : Cx}
/-- tuple(l): the object is known -/
theorem call_tupleF : CallR X (.type "tuple") (fun xs H Q => ∃ p ys, xs = [.ref p] ∧ SqL X.K H p ys ∧ ∀ l (o : Obj), H l = none → o.dict = none → o.cls = .type "tuple" → Q (.ref l) (upd H l (.frz o (.tup ys)))) := by
  intro pins s σ H xs us Q I r h
  obtain ⟨p, ys, rfl, hq, q⟩ := h
  obtain ⟨u, rfl, rx⟩ := vals1 r
  cases rx
  obtain ⟨its, r', pl, hz⟩ := I.list hq
  have hlen := r'.length
  refine call_tuple_list pl.isList (fun h' kp => ?_) (by simp only [List.size_toArray] <;> omega)
  have I1 : Inv X pins σ H { s with heap := h' } := I.kept (t' := s.toks) kp
  have I2 : Inv X pins σ (upd H h'.objs.size (.frz { cls := .type "tuple", data := .seq its.toArray } (.tup ys))) { s with heap := h'.push { cls := .type "tuple", data := .seq its.toArray } } :=
    I1.laid (t' := s.toks) (fun b o e => Heap.get?_push_of_some _ e) (Nat.le_refl _) (show ObjOk X.prog X.w _ _ _ (.frz _ (.tup ys)) from ⟨Heap.get?_push_size _ rfl, hz, its, r', IsTup.new _ _⟩)
  exact ⟨.ref h'.objs.size, _, I2, rfl, q _ _ (I1.hok.fresh (Nat.le_refl _)) rfl rfl⟩
/-- () -/
def tTup0 : TE := fun _ H Q => ∀ p (o : Obj), H p = none → o.dict = none → o.cls = .type "tuple" → Q (.ref p) (upd H p (.frz o (.tup [])))
theorem pe_tup0 {x1 : Nat} {pos : Pos} : PE X (.Tuple [] x1 pos) tTup0 := by
  refine ⟨fun pins s σ H Q I h => ?_⟩
  refine wpAny_Tuple_spliced (thn ((pa_nil (X := X)).run pos pins s σ H (fun xs H1 => xs = [] ∧ H1 = H) I ⟨rfl, rfl⟩) fun us s1 ⟨xs, H1, I1, r, e1, e2⟩ => ?_)
  subst e1 e2
  cases r
  refine ⟨Nat.zero_le _, ?_⟩
  refine ⟨.ref s1.heap.objs.size, _, I1.laid (t' := s1.toks) (o := .frz { cls := .type "tuple", data := .seq ([] : List Value).toArray } (.tup [])) (fun b u e => Heap.get?_push_of_some _ e) (Nat.le_refl _) ?_, rfl, h _ _ (I1.hok.fresh (Nat.le_refl _)) rfl rfl⟩
  exact ⟨Heap.get?_push_size _ rfl, Nat.zero_le _, [], .nil, IsTup.new _ _⟩
theorem raws_of {pins : List (Addr × Obj)} {σ : L2.St} {H : Hp} {s : Shared} (I : Inv X pins σ H s) : ∀ {ps : List Addr} {kvs : List (Key × V)}, Paired (fun p kv => SqT X.K H p [kV kv.1, kv.2]) ps kvs →
    ∃ (prs : List (Key × Value)) (raws : List (Value × Value)), KV kvs prs ∧ prs.length = ps.length ∧ raws.length = ps.length ∧ ∀ (j : Nat) (u v : Value), raws[j]? = some (u, v) → ∃ (b : Addr) (k : Key), ps[j]? = some b ∧ IsTup s.heap b #[u, v] ∧ prs[j]? = some (k, v) ∧ keyIs k u = true
  | _, _, .nil => ⟨[], [], .nil, rfl, rfl, fun j u v e => by simp at e⟩
  | _, _, .cons (a := p) (b := kv) h t => by
    obtain ⟨prs, raws, r, hl, hl2, hp⟩ := raws_of I t
    obtain ⟨its, rv, ht, _⟩ := I.tuple h
    obtain ⟨u, y, ei, ru, ry⟩ := vals2 rv
    subst ei
    refine ⟨(kv.1, y) :: prs, (u, y) :: raws, .cons ⟨rfl, ry⟩ r, by rw [List.length_cons, List.length_cons, hl], by rw [List.length_cons, List.length_cons, hl2], fun j u' v' e => ?_⟩
    cases j with
    | zero =>
      have e' : (u, y) = (u', v') := Option.some.inj e
      cases e'
      exact ⟨p, kv.1, rfl, ht, rfl, kV_is (P := X.prog) (w := X.w) ru⟩
    | succ j =>
      obtain ⟨b, k, e1, e2, e3, e4⟩ := hp j u' v' (by simpa using e)
      exact ⟨b, k, by simpa using e1, e2, by simpa using e3, e4⟩
/-- dict(t) of a tuple of pairs -/
theorem call_dictF (hcalm : X.calm = true) : CallR X (.type "dict") (fun xs H Q => ∃ (a : Addr) (o : Obj) (ps : List Addr) (kvs : List (Key × V)), xs = [.ref a] ∧ H a = some (.frz o (.tup (ps.map V.ref))) ∧ o.dict = none ∧ o.cls = .type "tuple" ∧ Paired (fun p kv => SqT X.K H p [kV kv.1, kv.2]) ps kvs ∧
    ∀ p, H p = none → Q (.ref p) (upd H p (.dK (mergeK [] kvs)))) := by
  intro pins s σ H xs us Q I r q
  obtain ⟨a, o, ps, kvs, ex, hq, hod, hoc, hp, q⟩ := q
  subst ex
  obtain ⟨u, eu, rx⟩ := vals1 r
  subst eu
  cases rx
  obtain ⟨ho, hz, its, rv, o2, ho2, hc2, n2, hdat⟩ := I.hok a _ hq
  rw [ho] at ho2
  cases ho2
  have ei := refs_at rv
  subst ei
  rw [List.length_map] at hz
  obtain ⟨prs, raws, rel, hl, hl2, hpr⟩ := raws_of I hp
  have PA := PairArg.tuple (prog := X.prog) (w := X.w) a (ps.map Value.ref).toArray (fun j => (ps[j]?).getD 0) raws
  refine PySem.call_dict_pairs (knd := mixKind X.prog X.w) (kvs := prs) PA (I.ok.hd hcalm) ⟨⟨o, n2, ho, hoc, hod, hdat⟩, by simp [hl2], fun j k v e => ?_⟩ ⟨by rw [hl, hl2], fun i key v e => ?_⟩ (by rw [hl2]; exact hz) fun h' tk hd' k => ?_
  · obtain ⟨b, kk, e1, e2, e3, e4⟩ := hpr j k v e
    refine ⟨by simp [e1], .inl ?_⟩
    show s.heap.IsTuple ((ps[j]?).getD 0) #[k, v]
    rw [e1]
    exact e2
  · obtain ⟨b, kk, e1, e2, e3, e4⟩ := hpr i key v e
    exact ⟨kk, e3, e4⟩
  · have hm : (s.heap.objs.size == sysModules) = false := beq_eq_false_iff_ne.mpr (Nat.ne_of_gt I.big)
    have hlen : (mergeK [] kvs).length ≤ sizeLine := by
      refine Nat.le_trans (length_mergeK kvs []) ?_
      rw [List.length_nil, Nat.zero_add, rel.length, hl]
      exact hz
    exact ⟨.ref s.heap.objs.size, upd H s.heap.objs.size (.dK (mergeK [] kvs)), I.laid (t' := tk) (fun b o e => k b o (by simp) e) (Nat.le_refl _) (show ObjOk X.prog X.w _ _ _ (.dK (mergeK [] kvs)) from ⟨hlen, hm, merged [] prs, KV.merge rel .nil, hd'⟩), rfl, q _ (I.hok.fresh (Nat.le_refl _))⟩
end
/-! t[::-1], t of two -/
section
variable {prog : Program} {w : World} {A : Around} {E : Value → Shared → Prop} {s : Shared}
theorem getItem_two {t sl : Addr} {x y vl vu vs : Value} {Q : Value → Shared → Prop} (ht : IsTup s.heap t #[x, y]) (hs : s.heap.IsSliceOf sl vl vu vs) (pl : IsPart vl none) (pu : IsPart vu none) (ps : IsPart vs (some (-1)))
    (h : Q (.ref s.heap.objs.size) { s with heap := s.heap.push { cls := .type "tuple", data := .seq #[y, x] } }) : wpAny (model prog w) A (getItem (.ref t) (.ref sl)) Q E s := by
  have htake : sizeOk (.seq #[y, x]) := by
    show 2 ≤ sizeLine
    decide
  obtain ⟨os, hos, hcs, hds⟩ := id hs
  have hTs : s.TypeIs (.ref sl) "slice" := ⟨os, hos, hcs⟩
  unfold getItem
  try with_reducible refine wpAny_holding ?_
  first | refine wpAny_bind (wpAny_pure ?_) | skip
  refine wpAny_bind (wpAny_sequenceKey ht.typeIs (by decide) ?_)
  refine wpAny_bind (wpAny_callSpecial?_slot (name := Str.ofString "__getitem__") ht.typeIs PyProof.Rows.slot_tuple_getitem
    (wpAny_call_entry PyProof.Rows.slot_tuple_getitem ht.typeIs entry_tuple_getitem ?_ (args_tuple_getitem _ _)))
  show wpAny _ _ (Builtin.Tuple.tupleItemsOf (.ref t) >>= _) _ _ s
  refine wpAny_bind (tupleItemsOf_ ht ?_)
  refine wpAny_bind (wpAny_typeOf hTs ?_)
  rw [if_pos (by decide)]
  refine wpAny_bind ?_
  unfold Builtin.Slice.sliceApplied Builtin.Slice.sliceFields
  refine wpAny_bind (wpAny_bind (wpAny_field hos hds (x := vl) rfl (wpAny_bind (wpAny_field hos hds (x := vu) rfl (wpAny_bind (wpAny_field hos hds (x := vs) rfl (wpAny_pure ?_)))))))
  refine wpAny_bind (HT.slicePart_ ps ?_)
  show wpAny _ _ (if ((-1 : Int) == 0) = true then _ else _) _ _ s
  rw [if_neg (by decide)]
  refine wpAny_bind (HT.slicePart_ pl (wpAny_bind (HT.slicePart_ pu (wpAny_bind (wpAny_pure ?_)))))
  refine wpAny_pure ?_
  show wpAny _ _ (if (((1 : Int) == 0 && (-1 : Int) == 1 && (2 : Nat) == 2) = true) then _ else _) _ _ s
  rw [if_neg (by decide)]
  generalize hA : (List.filterMap _ (List.range _)).toArray = arr
  have eA : arr = #[y, x] := by
    rw [← hA]
    first
      | rfl
      | kernel_rfl
      | with_unfolding_all rfl
  subst eA
  show wpAny _ _ (Builtin.Tuple.tupleExact #[y, x] >>= fun v => ret v) _ _ s
  have e : ((List.range 2).filterMap fun (m : Nat) => (#[x, y] : Array Value)[((1 : Int) + (m : Int) * (-1)).toNat]?).toArray = #[y, x] := rfl
  first
    | exact wpAny_bind (m := Builtin.Tuple.tupleExact _) (wpAny_newObj_type (wpAny_pure ⟨_, rfl, wpAny_pure h⟩) htake)
    | exact wpAny_bind (m := Builtin.Tuple.tupleExact _) (wpAny_newObj_type (wpAny_bind (wpAny_pure (wpAny_pure ⟨_, rfl, wpAny_pure h⟩))) htake)
    | exact wpAny_bind (wpAny_bind (m := Builtin.Tuple.tupleExact _) (wpAny_newObj_type (wpAny_pure (wpAny_pure ⟨_, rfl, wpAny_pure h⟩)) htake))
    | exact wpAny_bind (wpAny_bind (m := Builtin.Tuple.tupleExact _) (wpAny_newObj_type (wpAny_pure ⟨_, rfl, wpAny_pure h⟩) htake))
end
section
variable {X : Cx}
def tRev2 (K : PySem.W.Frag) (te : TE) : TE := fun σ H Q => te σ H fun x H1 => ∃ a y z, x = .ref a ∧ SqT K H1 a [y, z] ∧ ∀ p, H1 p = none → Q (.ref p) (upd H1 p (.tup [z, y]))
theorem pe_rev2 {e : Expr} {te : TE} {k : Nat} {p1 p2 p3 pos : Pos} (he : PE X e te) : PE X (.Subscript e (.Slice none none (some (.UnaryOp .USub (.Constant (.int 1) k p1) p2)) p3) pos) (tRev2 X.K te) := by
  refine ⟨fun pins s σ H Q I h => ?_⟩
  refine Subscript_ (thn (he.run pins s σ H _ I h) fun v s1 ⟨x, H1, I1, r1, q1⟩ => ?_)
  obtain ⟨a, y, z, ex, hx, q⟩ := q1
  subst ex
  cases r1
  have hst : PO X (some (.UnaryOp .USub (.Constant (.int 1) k p1) p2)) (tPart (tUn (rU fun i => .int (-i)) (tC (.int 1)))) := po_some (pe_un un_neg pe_int)
  refine wpAny_Slice (thn (po_none.run pins s1 σ H1 (fun o H2 => o = none ∧ H2 = H1) I1 ⟨rfl, rfl⟩) fun vl s2 ⟨l, H2, I2, pl, el, e2⟩ => ?_)
  subst el e2
  refine thn (po_none.run pins s2 σ H2 (fun o H3 => o = none ∧ H3 = H2) I2 ⟨rfl, rfl⟩) fun vu s3 ⟨u, H3, I3, pu, eu, e3⟩ => ?_
  subst eu e3
  refine thn (hst.run pins s3 σ H3 (fun o H4 => o = some (-1) ∧ H4 = H3) I3 ⟨1, rfl, -1, rfl, rfl, rfl⟩) fun vs s4 ⟨o, H4, I4, ps, eo, e4⟩ => ?_
  subst eo e4
  have I5 : Inv X pins σ H4 { s4 with heap := s4.heap.push { cls := .type "slice", data := .fields #[vl, vu, vs] } } := I4.kept (t' := s4.toks) fun b ob q => Heap.get?_push_of_some _ q
  obtain ⟨its, r, ht, hz⟩ := I5.tuple hx
  obtain ⟨yv, zv, ei, ry, rz⟩ := vals2 r
  subst ei
  show wpAny (model X.prog X.w) X.A (subscriptTail e (.Slice none none (some (.UnaryOp .USub (.Constant (.int 1) k p1) p2)) p3) (.ref a) (.ref s4.heap.objs.size)) (EP X pins σ Q) X.xe { s4 with heap := s4.heap.push { cls := .type "slice", data := .fields #[vl, vu, vs] } }
  refine tail_any (ops := [.ref a, .ref s4.heap.objs.size]) ht.typeIs (PyProof.Rows.slot_tuple_getitem.lookup) ?_ (by with_unfolding_all rfl)
  refine getItem_two ht (Heap.IsSliceOf.new _ vl vu vs) pl pu ps ?_
  refine ⟨.ref _, _, I5.laid (t' := s4.toks) (o := .tup [z, y]) (fun b ob q => Heap.get?_push_of_some _ q) (Nat.le_refl _) ?_, rfl, q _ (I5.hok.fresh (Nat.le_refl _))⟩
  exact ⟨by show 2 ≤ sizeLine; decide, [zv, yv], .cons rz (.cons ry .nil), IsTup.new _ _⟩
end
end Kt

/-! defs that are called where no repr is under way -/
namespace Kf
open PySem PySem.Spec PyProof.Rows L2 LamX
/-- no repr is under way -/
abbrev Still (A : Around) : Prop := A.guards = some []
/-- a def's promise, called where no repr is under way -/
structure FnG (P : Program) (w : World) (K : PySem.W.Frag) (mg : Str → Option Value) (base : Heap) (CX : CXT) (k : Nat) (f : Addr) (fd : FuncData) (ps : List Str) (sp : Sp) : Prop where
  cnt : ∀ vs H Q E, sp vs H Q E → vs.length = ps.length
  go : ∀ (A : Around) (o : List Env) (s : Shared) (H : Hp) (r : Args) (us : List Value) (vs : List V) (Q : VK) (E : XK), Still A → Room k A → Env0 P w K mg base A o s H → BindsTo s fd r (ps.zip us) → Vals vs us → sp vs H Q E →
    codeAny (model P w) A (.call (.ref f) r) (CR CX o P w H s Q E) s
section
variable {P : Program} {w : World} {K : PySem.W.Frag} {mg : Str → Option Value} {base : Heap} {CX : CXT}
theorem FnG.of {k : Nat} {f : Addr} {fd : FuncData} {ps : List Str} {sp : Sp} (F : FnOk P w K mg base CX k f fd ps sp) : FnG P w K mg base CX k f fd ps sp :=
  ⟨F.len, fun A o s H r us vs Q E _ => F.run A o s H r us vs Q E⟩
theorem FnG.up {j k : Nat} {f : Addr} {fd : FuncData} {ps : List Str} {sp : Sp} (F : FnG P w K mg base CX j f fd ps sp) (h : j ≤ k) : FnG P w K mg base CX k f fd ps sp :=
  ⟨F.cnt, fun A o s H r us vs Q E g hr => F.go A o s H r us vs Q E g (hr.mono h)⟩
/-- a def by its body -/
theorem fnG_of {k : Nat} {f : Addr} {nm ql : Str} {prm : Arguments} {bd : List Stmt} {sco : Scope} {dV kV doc pm cdv ct oc : Value} {an od : Option Addr} {sl : Array (Option Value)} {N ps : List Str} {sp : Sp}
    (at' : K.lookup f = some ⟨oc, od, .func (PySem.W.fnOf nm ql prm bd sco dV kV doc pm an cdv ct), sl⟩) (hc : PySem.W.codeIn K cdv ql = true) (S : FnScope N ps sco) (cnt : ∀ vs H Q E, sp vs H Q E → vs.length = ps.length)
    (body : ∀ (A : Around) (o : List Env) (s : Shared) (H : Hp) (vs : List V) (Q : VK) (E : XK), Still A → Room k (A.deeper (envOfC ql sco s.heap.objs.size f cdv)) → sp vs H Q E →
      ∃ t, PSs (cxOf CX P w K mg base N ql sco f cdv A o s H E) bd t ∧ t { nx := fun _ G => Q .non G, rt := Q } (start N vs) H) : FnG P w K mg base CX (k + 1) f (PySem.W.fnOf nm ql prm bd sco dV kV doc pm an cdv ct) ps sp where
  cnt := cnt
  go := by
    intro A o s H r us vs Q E still room e0 binds vals hsp
    have hold := fun b u (z : base.get? b = some u) => (e0.bs b u z).1
    have kx := e0.mod.kin.keeps hold
    have par : ∀ z ∈ ps.zip us, sco.names.lookup z.1 = some .local ∨ (sco.names.lookup z.1 = some .cell ∧ ((cellsFrom (s.heap.objs.size + 1) sco.names []).lookup z.1).isSome = true) := by
      intro z hz
      have hm : z.1 ∈ ps := (List.of_mem_zip (a := z.1) (b := z.2) hz).1
      exact (S.par z.1 hm).imp id fun q => ⟨q, PySem.W.cellsFrom_some _ _ _ (.inl q)⟩
    refine codeAny_call_function room.depth (kx _ _ at') rfl S.co S.gen rfl (PySem.W.codeRec_of kx hc) (binds _ _ _ _ (wpAny_newFunctionEnv_cells S.kind par ?_))
    rintro env rfl s1 x
    refine ⟨(e0.mod.nolimit.keeps hold).keeps x.toInCall.keep, codeAny_func ?_⟩
    obtain ⟨t, ht, hq⟩ := body A o s H vs Q E still (room.deeper _) hsp
    refine wpAny_mono (ht.run [] s1 (start N vs) H _ (inv_start S room.hd e0 (cnt _ _ _ _ hsp) vals x) hq) ?_ (fun _ _ z => z)
    intro fl s2 z
    match fl, z with
    | .ret u, ⟨v, _, G, J, rv, q⟩ => exact ⟨v, G, J.os, J.bare, J.base, J.hok, rv, q⟩
    | .next, ⟨_, G, J, q⟩ => exact ⟨V.non, G, J.os, J.bare, J.base, J.hok, rfl, q⟩
    | .brk, ⟨_, _, _, q⟩ => exact q.elim
    | .cont, ⟨_, _, _, q⟩ => exact q.elim
/-- a def of the text that lets nothing out -/
theorem okG {x ql : Str} {st : Stmt} {f : Addr} {fd : FuncData} {N ps : List Str} {k : Nat} {sp : Sp} (F : Fun K x ql st f fd) (S : FnScope N ps (defScope st)) (cnt : ∀ vs H Q E, sp vs H Q E → vs.length = ps.length)
    (body : ∀ (cdv : Value) (A : Around) (o : List Env) (s : Shared) (H : Hp) (vs : List V) (Q : VK) (E : XK), Still A → Room k (A.deeper (envOfC ql (defScope st) s.heap.objs.size f cdv)) → sp vs H Q E →
      ∃ t, PSs (cxOf CX0 P w K mg base N ql (defScope st) f cdv A o s H E).nox (defBody st) t ∧ t { nx := fun _ G => Q .non G, rt := Q } (start N vs) H) : FnG P w K mg base CX0 (k + 1) f fd ps sp := by
  obtain ⟨oc, od, kV, doc, pm, an, cdv, ct, sl, rfl, hl, hc⟩ := F.ex
  exact fnG_of hl hc S cnt fun A o s H vs Q E g hr h => (body cdv A o s H vs Q E g hr h).imp fun t z => ⟨z.1.nox, z.2⟩
end
section
variable {X : Cx} {CX : CXT} {k : Nat} {f : Addr} {fd : FuncData} {ps : List Str} {sp : Sp} {dvs : List V} {ds : List Value} {E : XK} {x : Str} {p pos : Pos} {e : Expr} {es : List Expr} {t : TA}
theorem goG {pins : List (Addr × Obj)} {σ : L2.St} {H : Hp} {s : Shared} {Q : VK} {us : List Value} {vs : List V} (F : FnG X.prog X.w X.K X.mg X.base CX k f fd ps sp) (g : Still X.A) (hr : Room k X.A) (hb : Binds X.K fd ps ds) (hd : Vals dvs ds) (hx : Passes CX X E) (I : Inv X pins σ H s) (rv : Vals vs us)
    (h : sp (vs ++ dvs) H Q E) : wpAny (model X.prog X.w) X.A (call (.ref f) us) (EP X pins σ Q) X.xe s := by
  have both := rv.append hd
  have n : (us ++ ds).length = ps.length := both.length.symm.trans (F.cnt _ _ _ _ h)
  refine wpAny_call (codeAny_mono (F.go X.A X.stack s H ⟨us, []⟩ _ _ Q E g hr I.env0 (hb s us I.kIn n) both h) ?_)
  intro r s2 z
  match r, z with
  | .error u, z => exact hx pins σ H s u s2 I z
  | .ok (.ret u), z => exact I.after z
  | .ok .next, z => exact z.elim
  | .ok .brk, z => exact z.elim
  | .ok .cont, z => exact z.elim
/-- f(e, ..) -/
theorem pe_callG (F : FnG X.prog X.w X.K X.mg X.base CX k f fd ps sp) (g : Still X.A) (hr : Room k X.A) (hg : Gl X x) (hm : X.mg x = some (.ref f)) (hk : PySem.W.keepIn X.K (.ref f) = true) (hb : Binds X.K fd ps ds) (hd : Vals dvs ds) (hx : Passes CX X E) (ha : PA X (e :: es) t)
    (hn : (x == ("__debug__" : Str)) = false := by decide) (h1 : starEach (e :: es) X.env = (false, eval e X.env) :: starEach es X.env := by rfl) (h2 : (backTo pos (starEach es X.env)).any (·.1) = false := by rfl) : PE X (.Call (.Name x p) (e :: es) [] pos) (tCall sp dvs E t) := by
  constructor
  intro pins s σ H Q I h
  refine wpAny_Call_Name_kw (ld_glob I hg hm (PySem.W.callWith_K (h₀ := X.base) I.ok.mod.kin hk (thn (ha.run pos pins s σ H _ I h) ?_) h1 h2) hn)
  rintro us s2 ⟨vs, G, J, rv, q⟩
  exact ⟨J.kIn, goG F g hr hb hd hx J rv q⟩
end
end Kf

/-! repr of data -/
namespace Kf
open PySem PySem.Spec PyProof.Rows L2
/-- data that shows as it is, of at most so many in one another -/
structure Shows (n : Nat) (d : PyData) : Prop where
  ok : d.showable = true
  nd : d.hasDict = false
  dp : d.depth ≤ n
  sz : d.shown.length ≤ sizeLine
def rShow (K : PySem.W.Frag) (n : Nat) : List V → Hp → VK → Prop := fun xs H Q => ∃ (a : Addr) (d : PyData), xs = [.ref a] ∧ Dp K H (.ref a) d ∧ Shows n d ∧ Q (.str d.shown) H
theorem call_show {X : Cx} {n : Nat} (g : Still X.A) (hu : X.A.units + (n + 1) < cLine) : CallR X (.builtin "repr") (rShow X.K n) := by
  intro pins s σ H xs us Q I r h
  obtain ⟨a, d, rfl, hd, sh, q⟩ := h
  rw [Vals.ref1 r]
  obtain ⟨as, rd⟩ := Dp.reads I d _ (.ref a) hd rfl
  exact repr_of_reads' rd sh.ok (PyData.noDict_hsm sh.nd) g (by have := sh.dp; omega) (fun _ _ e => e) (fun h' u tk hk => ⟨.str d.shown, H, I.kept hk, ⟨u, rfl⟩, q⟩) sh.sz
end Kf

/-! the end of a law whose defs show things -/
namespace Kf
open PySem PySem.Spec PyProof.Rows L2 LamX
/-- the heap at the law's call: the written part, the tables cs, the script -/
structure Beg (h : Heap) (K : PySem.W.Frag) (mg : Str → Option Value) (cs : List (Addr × Addr)) (a : Addr) (us : Array Value) : Prop where
  kin : K.In h
  gl : h.Ns mainGlobals mg
  bl : ∃ m, h.Ns builtinsNs m ∧ ∀ y : Str, y ≠ "__name__" → m y = bootBuiltins y
  nl : h.NoLimit
  tb : ∀ p ∈ cs, h.get? p.2 = some { cls := .none, data := .fields #[] }
  nk : ∀ p ∈ cs, K.lookup p.2 = none
  cd : ∀ p ∈ cs, PySem.W.CodeHd h p.1 p.2
  bm : ∃ (z : Addr) (q : Obj), mg "__builtins__" = some (.ref z) ∧ z ≠ builtinsNs ∧ h.get? z = some q ∧ q.cls = .type "module" ∧ q.dict = some builtinsNs ∧ q.data = .plain
  sc : h.get? a = some { cls := .type "list", data := .seq us }
/-- tracked are the tables, and perhaps the script -/
structure Fit (H : Hp) (K : PySem.W.Frag) (cs : List (Addr × Addr)) (a : Addr) : Prop where
  tb : ∀ p ∈ cs, H p.2 = some (.tbl #[])
  no : ∀ b u, H b = some u → (∃ p ∈ cs, p.2 = b ∧ u = .tbl #[]) ∨ (b = a ∧ K.lookup a = none ∧ ∃ o xs, u = .frz o (.lst xs))
section
variable {h : Heap} {K : PySem.W.Frag} {mg : Str → Option Value} {cs : List (Addr × Addr)} {a : Addr} {us : Array Value} {H : Hp}
theorem Fit.off (F : Fit H K cs a) (B : Beg h K mg cs a us) {b : Addr} {o : Obj} (e : h.get? b = some o) (n1 : ∀ vs n, o.data ≠ .seq vs n) (n2 : o.data ≠ .fields #[]) : H b = none := by
  match q : H b with
  | none => rfl
  | some u =>
    rcases F.no b u q with ⟨p, hp, rfl, _⟩ | ⟨rfl, _⟩
    · have z := (B.tb p hp).symm.trans e
      exact absurd (congrArg Obj.data (Option.some.inj z)).symm n2
    · have z := B.sc.symm.trans e
      exact absurd (congrArg Obj.data (Option.some.inj z)).symm (n1 _ _)
theorem Fit.dic (F : Fit H K cs a) (B : Beg h K mg cs a us) {b : Addr} {m : Str → Option Value} (N : h.Ns b m) : (hidT h H).Ns b m := by
  obtain ⟨o, es, n, e, d, r⟩ := N
  refine ⟨o, es, n, hidT_get e (F.off B e ?_ ?_), d, r⟩
  · intro vs k z
    rw [d] at z
    cases z
  · intro z
    rw [d] at z
    cases z
theorem Fit.kin (F : Fit H K cs a) (B : Beg h K mg cs a us) : K.In (hidT h H) := fun b o e => hidT_get (B.kin b o e) <| by
  match q : H b with
  | none => rfl
  | some u =>
    rcases F.no b u q with ⟨p, hp, rfl, _⟩ | ⟨rfl, n, _⟩
    · rw [B.nk p hp] at e
      cases e
    · rw [n] at e
      cases e
theorem Fit.mod (F : Fit H K cs a) (B : Beg h K mg cs a us) : L2.Mod K mg (hidT h H) := by
  obtain ⟨m, m1, m2⟩ := B.bl
  obtain ⟨c, c1, c2⟩ := B.nl
  exact ⟨F.kin B, F.dic B B.gl, ⟨m, F.dic B m1, m2⟩, ⟨c, F.dic B c1, c2⟩⟩
theorem Fit.tabs (F : Fit H K cs a) (B : Beg h K mg cs a us) : ∀ p ∈ cs, TabB (hidT h H) mg p.1 p.2 := by
  intro p hp
  have tp := B.tb p hp
  have gP : mainGlobals ≠ p.2 := by
    intro z
    obtain ⟨o, es, n, e, d, _⟩ := B.gl
    rw [z, tp] at e
    cases e
    cases d
  refine ⟨?_, ?_, gP⟩
  · obtain ⟨o, vs, fl, tf, fg, tg, iF, tx, tt, e, r1, r2, r3, r⟩ := B.cd p hp
    refine ⟨o, vs, fl, tf, fg, tg, iF, tx, tt, hidT_get e (F.off B e (fun vs n z => ?_) (fun z => ?_)), r1, r2, r3, r⟩
    · rw [r2] at z
      cases z
    · rw [r2] at z
      cases z
      simp at r3
  · obtain ⟨z, q, b1, b2, b3, b4, b5, b6⟩ := B.bm
    refine ⟨z, q, b1, b2, fun y => ?_, fun y => ?_, hidT_get b3 (F.off B b3 (fun vs n y => ?_) (fun y => ?_)), b4, b5, b6⟩
    · obtain ⟨o, es, n, e, d, _⟩ := B.gl
      rw [← y, b3] at e
      cases e
      rw [b6] at d
      cases d
    · rw [y, tp] at b3
      cases b3
      cases b6
    · rw [b6] at y
      cases y
    · rw [b6] at y
      cases y
/-- what stood stands, behind the call -/
theorem Fit.old (F : Fit H K cs a) (B : Beg h K mg cs a us) {P : Program} {w : World} {G : Hp} {h' : Heap} (U : Un [] [] H G h h') (o1 : HOk P w H h) (o2 : HOk P w G h') : OldK h h' := by
  have tab : ∀ p ∈ cs, ∃ m : Array Value, h'.get? p.2 = some { cls := .none, data := .fields m } := fun p hp => by
    obtain ⟨m, z⟩ := U.tbls p.2 #[] (F.tb p hp)
    exact ⟨_, o2 p.2 _ z⟩
  have rest : ∀ b o, h.get? b = some o → (∃ p ∈ cs, p.2 = b) ∨ h'.get? b = some o := fun b o e => by
    match q : H b with
    | none => exact .inr (U.keep b o e q (by simp) (by simp))
    | some u =>
      rcases F.no b u q with ⟨p, hp, z, _⟩ | ⟨_, _, ob, xs, rfl⟩
      · exact .inl ⟨p, hp, z⟩
      · have e1 := (o1 b _ q).1
        have e2 := (o2 b _ (U.frzs b ob _ q)).1
        rw [e] at e1
        cases e1
        exact .inr e2
  constructor
  · intro b o e
    rcases rest b o e with ⟨p, hp, rfl⟩ | z
    · obtain ⟨m, hm⟩ := tab p hp
      have tp := B.tb p hp
      rw [tp] at e
      cases e
      exact .inr (.inl ⟨((B.cd p hp).tab tp).isCodeTable, rfl, #[], m, rfl, by rw [Array.empty_append]; exact hm⟩)
    · exact .inl z
  · intro b o e
    rcases rest b o e with ⟨p, hp, rfl⟩ | z
    · obtain ⟨m, hm⟩ := tab p hp
      exact ⟨_, hm⟩
    · exact ⟨o, z⟩
end
/-- such a heap there is -/
theorem fit_of {h : Heap} {K : PySem.W.Frag} {mg : Str → Option Value} {cs : List (Addr × Addr)} {a : Addr} {vs : List Value} {ns : List Int} (P : Program) (w : World) (B : Beg h K mg cs a vs.toArray) (hi : IntsAre vs ns) (hl : ns.length ≤ sizeLine) :
    ∃ H : Hp, Fit H K cs a ∧ SqL K H a (ns.map V.int) ∧ HOk P w H h := by
  have lv := hi.length
  have isT : ∀ b, (∃ p ∈ cs, p.2 = b) → h.get? b = some { cls := .none, data := .fields #[] } := by
    rintro b ⟨p, hp, rfl⟩
    exact B.tb p hp
  have na : ¬ ∃ p ∈ cs, p.2 = a := fun z => by
    have y := congrArg Obj.data (Option.some.inj ((isT a z).symm.trans B.sc))
    cases y
  open Classical in
  let T : Hp := fun b => if ∃ p ∈ cs, p.2 = b then some (.tbl #[]) else none
  have Ty : ∀ p ∈ cs, T p.2 = some (.tbl #[]) := fun p hp => if_pos ⟨p, hp, rfl⟩
  have Tn : ∀ b u, T b = some u → (∃ p ∈ cs, p.2 = b) ∧ u = .tbl #[] := fun b u z => by
    by_cases c : ∃ p ∈ cs, p.2 = b
    · exact ⟨c, (Option.some.inj ((if_pos c).symm.trans z)).symm⟩
    · have y := (if_neg c).symm.trans z
      cases y
  match hk : K.lookup a with
  | some o =>
    have e := B.kin a o hk
    rw [B.sc] at e
    cases e
    refine ⟨T, ⟨Ty, fun b u z => ?_⟩, .inr ⟨_, vs.toArray, _, hk, rfl, rfl, rfl, by rw [List.size_toArray, lv]; exact hl, by simpa using vals_ints hi⟩, fun b u z => ?_⟩
    · obtain ⟨⟨p, hp, e⟩, e2⟩ := Tn b u z
      exact .inl ⟨p, hp, e, e2⟩
    · obtain ⟨c, rfl⟩ := Tn b u z
      exact isT b c
  | none =>
    refine ⟨upd T a (.frz { cls := .type "list", data := .seq vs.toArray } (.lst (ns.map V.int))), ⟨fun p hp => ?_, fun b u z => ?_⟩, .inl (.inr ⟨_, upd_same⟩), fun b u z => ?_⟩
    · rw [upd_ne (fun y => na ⟨p, hp, y⟩)]
      exact Ty p hp
    · by_cases c : b = a
      · subst c
        rw [upd_same] at z
        cases z
        exact .inr ⟨rfl, hk, _, _, rfl⟩
      · rw [upd_ne c] at z
        obtain ⟨⟨p, hp, e⟩, e2⟩ := Tn b u z
        exact .inl ⟨p, hp, e, e2⟩
    · by_cases c : b = a
      · subst c
        rw [upd_same] at z
        cases z
        exact ⟨B.sc, by rw [List.length_map]; exact hl, vs, _, vals_ints hi, B.sc⟩
      · rw [upd_ne c] at z
        obtain ⟨c, rfl⟩ := Tn b u z
        exact isT b c
/-- what is known of the law's promise at the head's heap -/
def LawG (l : PySem.W.OpenLaw) (w : World) (K : PySem.W.Frag) (CX : CXT) (k n : Nat) (x : Str) (mg : Str → Option Value) (fa : Addr) (h : Heap) : Prop :=
  ∃ (fd : FuncData) (cs : List (Addr × Addr)) (sp : Sp), (∀ p ∈ cs, h.get? p.2 = some { cls := .none, data := .fields #[] } ∧ K.lookup p.2 = none ∧ PySem.W.CodeHd h p.1 p.2) ∧ (∀ (s : Shared) (u : Value), BindsTo s fd ⟨[u], []⟩ [(x, u)]) ∧
    (∀ (H : Hp) (a : Addr) (ns : List Int), ns.length ≤ n → (∀ z ∈ ns, Builtin.Int.intBits z ≤ 1048576) → (∀ p ∈ cs, H p.2 = some (.tbl #[])) → SqL K H a (ns.map V.int) → sp [.ref a] H (fun v _ => v = .bl true) E0) ∧
    ∀ base : Heap, K.In base → base.Ns mainGlobals mg → (∀ p ∈ cs, TabB base mg p.1 p.2) → FnG l.prog w K mg base CX k fa fd [x] sp
/-- the end; names: the defs with generator expressions -/
theorem walk_ofG {l : PySem.W.OpenLaw} {n k : Nat} {q : Program} {loose : List Str} {XP : (Str → Option Value) → Heap → Prop} {YP : World → Heap → Prop} {d : DefRec} {K : Params → PySem.W.Frag} {CX : World → CXT} {x : Str}
    (hn : l.most = some n) (hz : n ≤ sizeLine) (hdf : d.params.defaults = []) (hr : Room k callerA) (hY : ∀ (w : World) (h : Heap), YP w h → (K w.params).In h)
    (F : ∀ (w : World) (mg : Str → Option Value) (fa : Addr) (h : Heap), YP w h → (K w.params).In h → h.Ns mainGlobals mg → mg d.name = some (.ref fa) →
      (∀ e ∈ recsOf q, ∃ (a : Addr) (o : Obj) (fd : FuncData) (c p : Addr), mg e.name = some (.ref a) ∧ h.get? a = some o ∧ o.data = .func fd ∧ fd.code = .ref c ∧ h.IsCode c p #[] ∧ h.TableAt c p #[]) → LawG l w (K w.params) (CX w) k n x mg fa h)
    (hX : ∀ (w : World) (H : Hp) (s : Shared) (e : Value) (t : Shared), CX w [] H s E0 e t → False) :
    PySem.W.WalkO q loose XP YP l.row.toRowW d [] (fun f vs => PySem.call f vs) := by
  refine Att.attach_callB hn hdf ?_
  intro w s₀ s mg mb fa o pm cd doc a vs ns G Y _ _ _ hmg ha hi hlen bits hg
  have KX := hY w _ Y
  obtain ⟨fd, cs, sp, tabs, bind, start, run⟩ := F w mg fa _ Y KX G.T.g hmg fun e he => G.T.tab e he
  have B : Beg s.heap (K w.params) mg cs a vs.toArray := ⟨KX, G.T.g, ⟨mb, G.T.b, G.T.builtins⟩, G.T.nolimit, fun p hp => (tabs p hp).1, fun p hp => (tabs p hp).2.1, fun p hp => (tabs p hp).2.2, G.T.bmain, ha⟩
  obtain ⟨H, Ft, sq, ok⟩ := fit_of l.prog w B hi (Nat.le_trans hlen hz)
  have e0 : Env0 l.prog w (K w.params) mg (hidT s.heap H) callerA [] s H := ⟨rfl, Ft.mod B, fun b u e => of_hidT e, Nat.le_of_eq (hidT_size _ _), trivial, by simp [frs], ok, .of_eq hg⟩
  refine codeAny_mono ((run _ (Ft.kin B) (Ft.dic B G.T.g) (Ft.tabs B)).go callerA [] s H ⟨[.ref a], []⟩ [.ref a] [.ref a] _ E0 rfl hr e0 (bind s (.ref a)) (.cons rfl .nil) (start H a ns hlen bits Ft.tb sq)) ?_
  intro r t z
  match r, z with
  | .error e, z => exact (hX w H s e t z).elim
  | .ok .next, z => exact z.elim
  | .ok .brk, z => exact z.elim
  | .ok .cont, z => exact z.elim
  | .ok (.ret u), ⟨v, G', os, bare, un, ok', rv, e⟩ =>
    have e : v = .bl true := e
    subst e
    obtain rfl : u = Value.bool true := rv
    exact ⟨rfl, Ft.old B un ok ok', os, bare⟩
end Kf

namespace Kq
open PySem PySem.Spec PyProof.Rows L2
/-! the program's defs, by their places -/
def tp (i : Nat) : Stmt := PySem.Challenge.pw_kindalone_k34_sayings_made.main.body.getD i (.Pass ⟨0, 0, 0, 0⟩)
/-! heaps -/
theorem newS {H : Hp} {p : Addr} {o : HO} (h : H p = none) : Same H (upd H p o) := fun b u e => by
  rw [upd_ne (ne_of_none e h)]
  exact e
/-- but for d and c all that stood stands -/
def Kp (d c : Addr) (H G : Hp) : Prop := ∀ b o, b ≠ d → b ≠ c → H b = some o → G b = some o
theorem Kp.rfl {d c : Addr} {H : Hp} : Kp d c H H := fun _ _ _ _ e => e
theorem Kp.trans {d c : Addr} {H G F : Hp} (a : Kp d c H G) (b : Kp d c G F) : Kp d c H F := fun x o h1 h2 e => b x o h1 h2 (a x o h1 h2 e)
theorem Kp.of {d c : Addr} {H G : Hp} (a : Same H G) : Kp d c H G := fun x o _ _ e => a x o e
theorem Kp.at1 {d c : Addr} {H : Hp} {o : HO} : Kp d c H (upd H d o) := fun x u h1 _ e => by rw [upd_ne h1]; exact e
theorem Kp.at2 {d c : Addr} {H : Hp} {o : HO} : Kp d c H (upd H c o) := fun x u _ h2 e => by rw [upd_ne h2]; exact e
/-- the deck of drawn cells -/
structure Dk (H : Hp) (d c : Addr) : Prop where
  ne : d ≠ c
  dd : ∃ seed k : Int, H d = some (.lst [.ref c, .int seed, .int k])
  cc : ∃ ns : List Int, H c = some (.lst (ns.map V.int)) ∧ ns.length ≤ 63
theorem Dk.same {H G : Hp} {d c : Addr} (x : Dk H d c) (s : Same H G) : Dk G d c := by
  obtain ⟨n, ⟨a, b, e⟩, ⟨ns, f, l⟩⟩ := x
  exact ⟨n, ⟨a, b, s _ _ e⟩, ⟨ns, s _ _ f, l⟩⟩
theorem sz {n : Nat} (h : n ≤ 1000) : n ≤ sizeLine := Nat.le_of_lt (small1000 h)
theorem Kp.mk {d c p : Addr} {H G : Hp} {o : HO} (a : Kp d c H G) (h : H p = none) : Kp d c H (upd G p o) := fun b u h1 h2 e => by
  rw [upd_ne (ne_of_none e h)]
  exact a b u h1 h2 e
theorem Dk.put {G : Hp} {d c p : Addr} {o : HO} (x : Dk G d c) (h : p ≠ d) (h' : p ≠ c) : Dk (upd G p o) d c := by
  obtain ⟨n, ⟨a, b, e⟩, ⟨ns, f, l⟩⟩ := x
  exact ⟨n, ⟨a, b, by rw [upd_ne h.symm]; exact e⟩, ⟨ns, by rw [upd_ne h'.symm]; exact f, l⟩⟩
theorem Dk.off {H : Hp} {d c p : Addr} (x : Dk H d c) (h : H p = none) : p ≠ d ∧ p ≠ c := by
  obtain ⟨n, ⟨a, b, e⟩, ⟨ns, f, l⟩⟩ := x
  exact ⟨(ne_of_none e h).symm, (ne_of_none f h).symm⟩
/-! texts of letters -/
def lets : Str := "abcdefghijklmnopqrstuvwxyz"
def sg (i : Nat) : Str := ⟨#[97 + i]⟩
theorem lets_at : ∀ i : Fin 26, lets.cps.toList[i.val]? = some (97 + i.val) := by decide +kernel
theorem lets_ix : ∀ i : Fin 26, Builtin.Str.occurrences lets (sg i.val) 0 lets.length 1 = [i.val] := by decide +kernel
structure Nm (x : Str) : Prop where
  low : ∀ c ∈ x.cps.toList, 97 ≤ c ∧ c < 123
  few : x.cps.toList.length ≤ 8
  one : 1 ≤ x.cps.toList.length
theorem app_cps (x y : Str) : (x ++ y).cps.toList = x.cps.toList ++ y.cps.toList := by
  show (x.cps ++ y.cps).toList = _
  rw [Array.toList_append]
theorem join_low : ∀ ks : List Nat, (∀ k ∈ ks, k < 26) → (∀ c ∈ (Txt.join (Str.ofString "") (ks.map sg)).cps.toList, 97 ≤ c ∧ c < 123) ∧ (Txt.join (Str.ofString "") (ks.map sg)).cps.toList.length = ks.length := by
  intro ks h
  rw [show ∀ a b, Txt.join a b = Str.join a b from TL.join_eq]
  induction ks with
  | nil => exact ⟨fun c z => absurd z (by simp [Str.join, Str.empty]), by simp [Str.join, Str.empty]⟩
  | cons k ks ih =>
    have hk := h k List.mem_cons_self
    have ih := ih fun j hj => h j (List.mem_cons_of_mem _ hj)
    cases ks with
    | nil =>
      refine ⟨fun c z => ?_, rfl⟩
      have e : c = 97 + k := by simpa [Str.join, sg] using z
      omega
    | cons j r =>
      have e : Str.join (Str.ofString "") ((k :: j :: r).map sg) = sg k ++ Str.ofString "" ++ Str.join (Str.ofString "") ((j :: r).map sg) := rfl
      rw [e, app_cps, app_cps]
      have e0 : (Str.ofString "").cps.toList = [] := by decide
      rw [e0, List.append_nil]
      refine ⟨fun c z => ?_, ?_⟩
      · rcases List.mem_append.mp z with z | z
        · have e : c = 97 + k := by simpa [sg] using z
          omega
        · exact ih.1 c z
      · rw [List.length_append, ih.2]
        show 1 + _ = _
        simp only [List.length_cons]
        omega
theorem join_nm {ks : List Nat} (h : ∀ k ∈ ks, k < 26) (h1 : 1 ≤ ks.length) (h8 : ks.length ≤ 8) : Nm (Txt.join (Str.ofString "") (ks.map sg)) := by
  obtain ⟨a, b⟩ := join_low ks h
  exact ⟨a, by omega, by omega⟩
theorem cutTo {xs : List V} {j : Nat} (h : j ≤ xs.length) : cutV xs none (some (j : Int)) = xs.take j := by
  unfold cutV
  rw [HT.sIx_nat, HT.sIx_none, Nat.min_eq_left h]
  rfl
theorem Kp.free {d c p : Addr} {H G : Hp} (a : Kp d c H G) (k : Dk G d c) (h : G p = none) : H p = none := by
  obtain ⟨h1, h2⟩ := k.off h
  cases e : H p with
  | none => rfl
  | some o =>
    rw [a p o h1 h2 e] at h
    cases h
theorem sg_len (ks : List Nat) : ((ks.map sg).map (·.length)).sum = ks.length := by
  induction ks with
  | nil => rfl
  | cons k ks ih =>
    rw [List.map_cons, List.map_cons, List.sum_cons, ih, List.length_cons]
    show 1 + ks.length = _
    omega
theorem lets_get {r : Int} (h0 : 0 ≤ r) (h1 : r < 26) : atI lets.cps.toList r = some (97 + r.toNat) := by
  have e : r = ((r.toNat : Nat) : Int) := by omega
  have q := atI_nat (lets_at ⟨r.toNat, by omega⟩)
  rw [← show r = (((⟨r.toNat, by omega⟩ : Fin 26).val : Nat) : Int) from e] at q
  exact q
theorem cutKs {ks : List Nat} {j : Nat} (h : j ≤ ks.length) : cutV ((ks.map sg).map V.str) none (some (j : Int)) = ((ks.take j).map sg).map V.str := by
  rw [cutTo (by rw [List.length_map, List.length_map]; exact h), List.map_take, List.map_take]
theorem lets_len : lets.length ≤ sizeLine := by decide
/-! rules for the inside of a comprehension, the written part named -/
theorem slK {X : Cx} (K : PySem.W.Frag) (h : X.K = K) : SlR X (rSlL K) := by
  subst h
  exact sl_list
def rJn (K : PySem.W.Frag) : V → List V → Hp → VK → Prop := fun x xs H Q => ∃ a p, ∃ ys : List Str, x = .str a ∧ xs = [.ref p] ∧ (SqL K H p (ys.map V.str) ∨ SqT K H p (ys.map V.str)) ∧ (ys.map (·.length)).sum + ys.length * a.length ≤ 16777216 ∧ Q (.str (Txt.join a ys)) H
theorem pe_joinK {X : Cx} (K : PySem.W.Frag) (h : X.K = K) {o e : Expr} {apos pos : Pos} {to te : TE} (ho : PE X o to) (he : PE X e te) (hbase : attributeBase o "join" X.env (eval o X.env) = eval o X.env := by rfl) (hline : (apos.endLine == pos.line) = true := by rfl)
    (hs : starEach [e] X.env = [(false, eval e X.env)] := by rfl) : PE X (.Call (.Attribute o "join" apos) [e] [] pos) (tM1 (rJn K) to te) := by
  subst h
  exact pe_join ho he hs hbase hline
theorem dpInts (K : PySem.W.Frag) (H : Hp) : ∀ ns : List Int, DpAll K H (ns.map V.int) (ns.map PyData.int)
  | [] => .nil
  | n :: ns => .cons (.int n) (dpInts K H ns)

theorem ixNat {n j : Nat} (hj : j < n) : ixN n (j : Int) = some j := by
  have h1 : (0 : Int) ≤ (j : Int) := by omega
  have h2 : (j : Int) < (n : Int) := by omega
  simp [ixN, h1, h2]
theorem join_cps : ∀ ks : List Nat, (Txt.join (Str.ofString "") (ks.map sg)).cps.toList = ks.map (97 + ·) := by
  intro ks
  rw [show ∀ a b, Txt.join a b = Str.join a b from TL.join_eq]
  induction ks with
  | nil => rfl
  | cons k ks ih =>
    cases ks with
    | nil => rfl
    | cons j r =>
      have e : Str.join (Str.ofString "") ((k :: j :: r).map sg) = sg k ++ Str.ofString "" ++ Str.join (Str.ofString "") ((j :: r).map sg) := rfl
      rw [e, app_cps, app_cps, ih]
      rfl
theorem nodupR {f : Nat → Str} : ∀ n, (∀ i j, i < n → j < n → f i = f j → i = j) → ((List.range n).map f).Nodup
  | 0, _ => List.nodup_nil
  | n + 1, h => by
    rw [List.range_succ, List.map_append]
    refine List.nodup_append.mpr ⟨nodupR n fun i j hi hj e => h i j (by omega) (by omega) e, (by simp), fun x hx y hy e => ?_⟩
    obtain ⟨i, hi, rfl⟩ := List.mem_map.mp hx
    have ey : y = f n := List.mem_singleton.mp hy
    rw [ey] at e
    have hi := List.mem_range.mp hi
    have := h i n (by omega) (by omega) e
    omega
abbrev tDeck : Stmt := tp 9
abbrev tDraw : Stmt := tp 10
abbrev tPick : Stmt := tp 11
abbrev tNames : Stmt := tp 12
section
variable {P : Program} {w : World} {K : PySem.W.Frag} {mg : Str → Option Value} {base : Heap}
theorem scDraw : FnScope ["_law_deck_here", "_law_most", "_law_cell", "_law_number"] ["_law_deck_here", "_law_most"] (defScope tDraw) := ⟨rfl, rfl, rfl, by decide +kernel, rfl, by decide +kernel, by decide +kernel⟩
def spDraw : Sp := fun vs H Q _ => ∃ (d c : Addr) (m : Int), vs = [.ref d, .int m] ∧ Dk H d c ∧ 0 < m ∧ m < 1000 ∧ ∀ (r : Int) (G : Hp), 0 ≤ r → r < m → Kp d c H G → Dk G d c → Q (.int r) G
theorem okDraw {f : Addr} {fd : FuncData} {k : Nat} (F : Fun K "_law_draw" "_law_draw" tDraw f fd) : FnOk P w K mg base CX0 (k + 1) f fd ["_law_deck_here", "_law_most"] spDraw := by
  refine F.ok scDraw (fun vs H Q E h => ?_) (fun cdv A outer s H vs Q E hr h => ?_)
  · obtain ⟨d, c, m, rfl, _⟩ := h
    rfl
  obtain ⟨d, c, m, rfl, ⟨ndc, ⟨seed, k0, hd⟩, ⟨ns, hc, hl⟩⟩, m0, m1, q⟩ := h
  refine ⟨_, pss_cons (ps_asg (pe_op op_add (pe_ix ix_list (pv 0) pe_int (fun _ _ => rfl)) pe_int) (pg_sub (pv 0) pe_int set_list))
    (C8.pss_cut (ps_set (i := 2) scDraw.nd rfl (.inl rfl) (pe_ifExp (pt_cmpR (op_eqD hr.units) (pe_ix ix_list (pv 0) pe_int (fun _ _ => rfl)) (pe_lst pa_nil) (nomark _)) (pe_ix ix_list (pv 0) pe_int (fun _ _ => rfl)) (pe_bm0 PySem.F.plainAttrs_list PySem.F.slot_list_pop PySem.F.type_list_pop mt_pop (pe_ix ix_list (pv 0) pe_int (fun _ _ => rfl)))))
    (pss_cons (ps_if (pt_cmpR op_ge (pv 2) (pe_op op_pow pe_int pe_int) (nomark _))
      (pss_cons (ps_expr (pe_bm PySem.F.plainAttrs_list PySem.F.slot_list_append PySem.F.type_list_append mt_append (pe_ix ix_list (pv 0) pe_int (fun _ _ => rfl)) (pa_cons (pe_op op_fdiv (pv 2) (pv 1)) pa_nil)))
      (pss_one (ps_ret (pe_op op_mod (pv 2) (pv 1))))) pss_nil)
    (pss_cons (ps_set (i := 3) scDraw.nd rfl (.inl rfl) (pe_op op_mod (pe_op op_mul (pe_op op_add (pe_op op_add (pe_op op_mod (pv 2) pe_int) (pe_op op_mul pe_int (pe_ix ix_list (pv 0) pe_int (fun _ _ => rfl)))) pe_int) pe_int) pe_int))
    (pss_cons (ps_set (i := 3) scDraw.nd rfl (.inl rfl) (pe_op op_mod (pe_op op_add (pe_op op_add (pe_op op_mul (pv 3) (pv 3)) (pe_op op_mul pe_int (pe_ix ix_list (pv 0) pe_int (fun _ _ => rfl)))) pe_int) pe_int))
    (pss_one (ps_ret (pe_op op_mod (pe_op op_fdiv (pe_op op_mod (pe_op op_mul (pv 3) (pe_op op_add (pe_op op_fdiv (pv 3) pe_int) pe_int)) pe_int) pe_int) (pv 1)))))))), ?_⟩
  refine ⟨_, rfl, d, _, _, _, rfl, rfl, SqL.of hd, atI_nat (j := 2) rfl, _, _, rfl, rfl, _, rfl, d, _, _, 2, rfl, rfl, hd, rfl, ?_⟩
  generalize hH1 : upd H d _ = H1
  have d1 : H1 d = some (.lst [.ref c, .int seed, .int (k0 + 1)]) := by rw [← hH1, upd_same]; rfl
  have c1 : H1 c = some (.lst (ns.map V.int)) := by rw [← hH1, upd_ne ndc.symm]; exact hc
  have p1 : Kp d c H H1 := by rw [← hH1]; exact Kp.at1
  clear hH1
  refine ⟨fun σ G => ∃ (cell : Int) (ms : List Int), σ = [some (.ref d), some (.int m), some (.int cell), none] ∧ Kp d c H G ∧ G d = some (.lst [.ref c, .int seed, .int (k0 + 1)]) ∧ G c = some (.lst (ms.map V.int)) ∧ ms.length ≤ 62, ?_, ?b2⟩
  · refine ⟨_, rfl, d, _, _, _, rfl, rfl, SqL.of d1, atI_nat (j := 0) rfl, Nat.zero_le _, fun p np => ?_⟩
    have sp : Same H1 (upd H1 p (.lst [])) := newS np
    have d2 := sp _ _ d1
    have c2 := sp _ _ c1
    have p2 : Kp d c H (upd H1 p (.lst [])) := p1.trans (.of sp)
    refine ⟨.list (ns.map PyData.int), .list [], .lst (SqL.of c2) (dpInts K _ ns), .lst (SqL.of upd_same) .nil, PySem.W.ke_shaped_ints ns, rfl, _, rfl, ?_⟩
    generalize upd H1 p (.lst []) = H2 at d2 c2 p2
    refine ite2 (fun he => ?_) (fun hne => ?_)
    · have n0 : ns = [] := by
        cases ns with
        | nil => rfl
        | cons a b => simp [PyData.eqv, PyData.eqvAll] at he
      subst n0
      exact ⟨_, rfl, d, _, _, _, rfl, rfl, SqL.of d2, atI_nat (j := 1) rfl, seed, [], rfl, p2, d2, c2, Nat.zero_le _⟩
    · have nn : ns ≠ [] := fun z => hne (by rw [z]; rfl)
      obtain ⟨n, hn⟩ : ∃ n, (ns.map V.int)[(ns.map V.int).length - 1]? = some (.int n) := by
        have h0 : 0 < ns.length := List.length_pos_iff.mpr nn
        rw [List.length_map, List.getElem?_map, List.getElem?_eq_getElem (by omega)]
        exact ⟨_, rfl⟩
      have ed : (ns.map V.int).dropLast = ns.dropLast.map V.int := by rw [List.map_dropLast]
      refine ⟨_, rfl, d, _, _, _, rfl, rfl, SqL.of d2, atI_nat (j := 0) rfl, .inl ⟨rfl, _, SqL.of c2⟩, c, _, _, rfl, rfl, c2, hn, ?_⟩
      rw [ed]
      refine ⟨n, ns.dropLast, rfl, p2.trans Kp.at2, by rw [upd_ne ndc]; exact d2, upd_same, ?_⟩
      rw [List.length_dropLast]
      omega
  case b2 =>
    rintro σ G ⟨cell, ms, rfl, kp, gd, gc, lm⟩
    refine ⟨_, rfl, _, _, rfl, rfl, ⟨by decide, by decide, by decide⟩, _, _, rfl, rfl, _, rfl, ite2 (fun _ => ?_) (fun _ => ?_)⟩
    · refine ⟨_, rfl, d, _, _, _, rfl, rfl, SqL.of gd, atI_nat (j := 0) rfl, .inl ⟨rfl, _, SqL.of gc⟩, _, rfl, _, rfl, _, _, rfl, rfl, ⟨m0, by omega⟩, c, _, _, rfl, rfl, gc, (by rw [List.length_map]; exact small1000 (by omega)), ?_⟩
      refine ⟨_, rfl, _, rfl, _, _, rfl, rfl, m0, q _ _ (Int.emod_nonneg _ (by omega)) (Int.emod_lt_of_pos _ m0) (kp.trans Kp.at2) ⟨ndc, ⟨seed, k0 + 1, (by rw [upd_ne ndc]; exact gd)⟩, ⟨ms ++ [cell / m], ?_, ?_⟩⟩⟩
      · rw [upd_same, List.map_append]
        rfl
      · rw [List.length_append]
        show _ + 1 ≤ 63
        omega
    · refine ⟨_, rfl, _, _, rfl, rfl, (by show (0 : Int) < 2147483629; decide), _, rfl, d, _, _, _, rfl, rfl, SqL.of gd, atI_nat (j := 2) rfl, _, _, rfl, rfl, .inl ⟨by decide, by decide⟩, _, _, rfl, rfl, _, _, rfl, rfl, _, _, rfl, rfl, .inr ⟨by decide, by decide⟩, _, _, rfl, rfl, (by show (0 : Int) < 2147483647; decide), ?_⟩
      generalize hx : (cell % 2147483629 + 104729 * (k0 + 1) + 1) * 48271 % 2147483647 = x
      have x0 : 0 ≤ x := by rw [← hx]; exact Int.emod_nonneg _ (by decide)
      have x1 : x < 2147483647 := by rw [← hx]; exact Int.emod_lt_of_pos _ (by decide)
      refine ⟨_, rfl, _, rfl, _, _, rfl, rfl, .inl ⟨by omega, by omega⟩, _, rfl, d, _, _, _, rfl, rfl, SqL.of gd, atI_nat (j := 2) rfl, _, _, rfl, rfl, .inl ⟨by decide, by decide⟩, _, _, rfl, rfl, _, _, rfl, rfl, _, _, rfl, rfl, (by show (0 : Int) < 2147483587; decide), ?_⟩
      generalize hy : (x * x + 69621 * (k0 + 1) + 7) % 2147483587 = y
      have y0 : 0 ≤ y := by rw [← hy]; exact Int.emod_nonneg _ (by decide)
      have y1 : y < 2147483587 := by rw [← hy]; exact Int.emod_lt_of_pos _ (by decide)
      refine ⟨_, rfl, _, rfl, _, _, rfl, rfl, ⟨by decide, by decide⟩, _, _, rfl, rfl, _, _, rfl, rfl, .inl ⟨by omega, by omega⟩, _, _, rfl, rfl, (by show (0 : Int) < 2305843009213693951; decide), _, _, rfl, rfl, ⟨by decide, by decide⟩, _, rfl, _, _, rfl, rfl, m0, ?_⟩
      exact q _ _ (Int.emod_nonneg _ (by omega)) (Int.emod_lt_of_pos _ m0) kp ⟨ndc, ⟨_, _, gd⟩, ⟨ms, gc, by omega⟩⟩
/-! _law_deck -/
theorem scDeck : FnScope ["_law_script", "_law_cells"] ["_law_script"] (defScope tDeck) := ⟨rfl, rfl, rfl, by decide +kernel, rfl, by decide +kernel, by decide +kernel⟩
def spDeck (K : PySem.W.Frag) : Sp := fun vs H Q _ => ∃ (a : Addr) (ns : List Int), vs = [.ref a] ∧ SqL K H a (ns.map V.int) ∧ ns.length ≤ 63 ∧ ∀ (d c : Addr) (G : Hp), Same H G → H d = none → H c = none → Dk G d c → Q (.ref d) G
theorem okDeck {f : Addr} {fd : FuncData} {k : Nat} (F : Fun K "_law_deck" "_law_deck" tDeck f fd) (ml : mg "list" = none) (mr : mg "reversed" = none) (ms : mg "sum" = none) (mn : mg "len" = none) : FnOk P w K mg base CX0 (k + 1) f fd ["_law_script"] (spDeck K) := by
  refine F.ok scDeck (fun vs H Q E h => ?_) (fun cdv A outer s H vs Q E hr h => ?_)
  · obtain ⟨a, ns, rfl, _⟩ := h
    rfl
  obtain ⟨a, ns, rfl, hS, hl, q⟩ := h
  refine ⟨_, pss_cons (ps_set (i := 1) scDeck.nd rfl (.inl rfl) (Kr.pe_listRev rfl (by rfl) ml (by rfl) mr (pe_slice sl_list (pv 0) po_none (po_some pe_int))))
    (pss_one (ps_ret (pe_lst (pa_cons (pv 1) (pa_cons (pe_op op_add (pe_op op_mod (pe_callB (cr_sum rfl) (by rfl) ms PyProof.Rows.boot_sum (pa_cons (pv 1) pa_nil)) pe_int) (pe_op op_mul pe_int (pe_callB call_len_seq (by rfl) mn PySem.boot_len (pa_cons (pv 1) pa_nil)))) (pa_cons pe_int pa_nil)))))), ?_⟩
  refine ⟨_, rfl, 63, rfl, a, _, rfl, hS, fun p np => ?_⟩
  refine ⟨p, _, rfl, SqL.of upd_same, fun c nc => ?_⟩
  have e0 : cutV (ns.map V.int) none (some 63) = (ns.take 63).map V.int := by
    rw [List.take_of_length_le hl]
    unfold cutV
    rw [HT.sIx_none, show HT.sIx (ns.map V.int).length (ns.map V.int).length (some 63) = min 63 (ns.map V.int).length from HT.sIx_nat _ _ 63, List.drop_zero, List.take_of_length_le]
    rw [List.length_map]
    omega
  rw [e0, ← List.map_reverse]
  generalize hm : (ns.take 63).reverse = ms'
  have lm : ms'.length ≤ 63 := by rw [← hm, List.length_reverse, List.length_take]; omega
  generalize hG : upd (upd H p _) c (.lst (ms'.map V.int)) = G
  have gc : G c = some (.lst (ms'.map V.int)) := by rw [← hG, upd_same]
  have hc : H c = none := (newS np).free nc
  have hcp : c ≠ p := fun z => by
    rw [z, upd_same] at nc
    cases nc
  have sG : Same H G := by
    rw [← hG]
    exact (newS np).trans (newS (by rw [upd_ne hcp]; exact hc))
  refine ⟨_, rfl, _, rfl, c, _, rfl, SqL.of gc, _, _, rfl, rfl, (by show (0 : Int) < 2147483629; decide), _, rfl, c, _, rfl, .inl (SqL.of gc), _, _, rfl, rfl, .inl ⟨by decide, by decide⟩, _, _, rfl, rfl, (by show 3 ≤ sizeLine; decide), fun d nd => q d c _ (sG.trans (newS nd)) (sG.free nd) hc ⟨(ne_of_none gc nd).symm, ⟨_, _, upd_same⟩, ⟨ms', ?_, lm⟩⟩⟩
  rw [upd_ne (ne_of_none gc nd)]
  exact gc
/-! _law_pick -/
theorem scPick : FnScope ["_law_deck_here", "_law_some"] ["_law_deck_here", "_law_some"] (defScope tPick) := ⟨rfl, rfl, rfl, by decide +kernel, rfl, by decide +kernel, by decide +kernel⟩
abbrev psPick : List Str := ["_law_deck_here", "_law_some"]
def spPick : Sp := fun vs H Q _ => ∃ (d c a : Addr) (us : List V), vs = [.ref d, .ref a] ∧ Dk H d c ∧ H a = some (.lst us) ∧ a ≠ d ∧ a ≠ c ∧ 1 ≤ us.length ∧ us.length ≤ 100 ∧ ∀ (v : V) (G : Hp), Kp d c H G → Dk G d c → v ∈ us → Q v G
theorem okPick {f fD : Addr} {fd fdD : FuncData} {k : Nat} (F : Fun K "_law_pick" "_law_pick" tPick f fd) (GD : FnOk P w K mg base CX0 (k + 1) fD fdD ["_law_deck_here", "_law_most"] spDraw) (bD : Binds K fdD ["_law_deck_here", "_law_most"] []) (gD : mg "_law_draw" = some (.ref fD)) (kD : PySem.W.keepIn K (.ref fD) = true)
    (mn : mg "len" = none) : FnOk P w K mg base CX0 (k + 2) f fd psPick spPick := by
  refine F.ok scPick (fun vs H Q E h => ?_) (fun cdv A outer s H vs Q E hr h => ?_)
  · obtain ⟨d, c, a, us, rfl, _⟩ := h
    rfl
  obtain ⟨d, c, a, us, rfl, dk, ha, ad, ac, l1, l2, q⟩ := h
  refine ⟨_, pss_one (ps_ret (pe_ix ix_list (pv 1) (pe_call GD hr (by rfl) gD kD bD .nil pass0 (pa_cons (pv 0) (pa_cons (pe_callB call_len_seq (by rfl) mn PySem.boot_len (pa_cons (pv 1) pa_nil)) pa_nil))) (fun _ _ => rfl))), ?_⟩
  refine ⟨_, rfl, _, rfl, _, rfl, a, _, rfl, .inl (SqL.of ha), d, c, _, rfl, dk, by omega, by omega, fun r G r0 r1 kp dk2 => ?_⟩
  have lr : r.toNat < us.length := by omega
  have er : r = ((r.toNat : Nat) : Int) := by omega
  have gat : atI us r = some us[r.toNat] := by
    have z := atI_nat (xs := us) (j := r.toNat) (List.getElem?_eq_getElem lr)
    rw [← er] at z
    exact z
  exact ⟨a, _, _, _, rfl, rfl, SqL.of (kp a _ ad ac ha), gat, q _ G kp dk2 (List.getElem_mem lr)⟩
end
end Kq

namespace Kq
open PySem PySem.Spec PyProof.Rows L2
abbrev nNames : List Str := ["_law_deck_here", "_law_many", "_law_letters", "_law_k", "_law_word", "_law_at", "_law_found", "_law_sign"]
theorem smk {H G : Hp} {p : Addr} {o : HO} (a : Same H G) (h : H p = none) : Same H (upd G p o) := fun b u e => by
  rw [upd_ne (ne_of_none e h)]
  exact a b u e
def nmAt (ks : List Nat) (a j : Nat) : Str := Txt.join (Str.ofString "") ((ks.set a ((ks.getD a 0 + j + 1) % 26)).map sg)
theorem nmAt_inj {ks : List Nat} {a i j : Nat} (ha : a < ks.length) (hi : i < 26) (hj : j < 26) (h : nmAt ks a i = nmAt ks a j) : i = j := by
  have e : (ks.set a ((ks.getD a 0 + i + 1) % 26)).map (97 + ·) = (ks.set a ((ks.getD a 0 + j + 1) % 26)).map (97 + ·) := by
    rw [← join_cps, ← join_cps]
    exact congrArg (fun s : Str => s.cps.toList) h
  have e2 := congrArg (fun l => l[a]?) e
  simp only [List.getElem?_map, List.getElem?_set_self ha, Option.map_some] at e2
  have e3 := Option.some.inj e2
  omega
section
variable {P : Program} {w : World} {K : PySem.W.Frag} {mg : Str → Option Value} {base : Heap}
theorem scNames : FnScope nNames ["_law_deck_here", "_law_many"] (defScope tNames) := ⟨rfl, rfl, rfl, by decide +kernel, rfl, by decide +kernel, by decide +kernel⟩
def spNames : Sp := fun vs H Q _ => ∃ (d c : Addr) (m : Int), vs = [.ref d, .int m] ∧ Dk H d c ∧ 0 ≤ m ∧ m ≤ 26 ∧
  ∀ (l : Addr) (xs : List Str) (G : Hp), Kp d c H G → Dk G d c → H l = none → G l = some (.lst (xs.map V.str)) → xs.length = m.toNat → (∀ x ∈ xs, Nm x) → xs.Nodup → Q (.ref l) G
theorem okNames {f fD : Addr} {fd fdD : FuncData} {k : Nat} (F : Fun K "_law_names" "_law_names" tNames f fd) (GD : FnOk P w K mg base CX0 (k + 1) fD fdD ["_law_deck_here", "_law_most"] spDraw) (bD : Binds K fdD ["_law_deck_here", "_law_most"] []) (gD : mg "_law_draw" = some (.ref fD)) (kD : PySem.W.keepIn K (.ref fD) = true)
    (mn : mg "len" = none) (mr : mg "range" = none) : FnOk P w K mg base CX0 (k + 2) f fd ["_law_deck_here", "_law_many"] spNames := by
  refine F.ok scNames (fun vs H Q E h => ?_) (fun cdv A outer s H vs Q E hr h => ?_)
  · obtain ⟨d, c, m, rfl, _⟩ := h
    rfl
  obtain ⟨d, c, m, rfl, dk, m0, m1, q⟩ := h
  refine ⟨_, pss_cons (ps_set (i := 2) scNames.nd rfl (.inr rfl) pe_str)
    (pss_cons (ps_setLc (i := 4) (own := [("_law_k", 3)]) (g := gName 3) (by rfl) scNames.nd rfl rfl (sw_true rfl rfl rfl (by decide +kernel)) (pi_range1 (by rfl) mr (pa_cons (pe_op op_add pe_int (pe_call GD hr (by rfl) gD kD bD .nil pass0 (pa_cons (pv 0) (pa_cons pe_int pa_nil)))) pa_nil)) (blkOk_by (own := [("_law_k", 3)]) (N := nNames) (sc := defScope tNames) (by decide +kernel))
        (fun _ _ _ _ _ => pg_name (i := 3) scNames.nd rfl (.inl rfl)) (fun _ _ _ _ _ => pts_nil)
        (fun _ _ _ _ _ => pe_call GD hr (by rfl) gD kD bD .nil pass0 (pa_cons (pv 0) (pa_cons pe_int pa_nil))))
    (pss_cons (ps_set (i := 5) scNames.nd rfl (.inl rfl) (pe_call GD hr (by rfl) gD kD bD .nil pass0 (pa_cons (pv 0) (pa_cons (pe_callB call_len_seq (by rfl) mn PySem.boot_len (pa_cons (pv 4) pa_nil)) pa_nil))))
    (pss_cons (ps_set (i := 6) scNames.nd rfl (.inl rfl) (pe_lst pa_nil))
    (pss_cons (ps_for PassesOwn.never rfl (pi_range1 (by rfl) mr (pa_cons (pv 1) pa_nil)) (pg_name (i := 3) scNames.nd rfl (.inl rfl))
      (pss_cons (ps_asg (pe_op op_mod (pe_op op_add (pe_ix ix_list (pv 4) (pv 5) (fun _ _ => rfl)) pe_int) pe_int) (pg_sub (pv 4) (pv 5) set_list))
      (pss_one (ps_expr (pe_bm PySem.F.plainAttrs_list PySem.F.slot_list_append PySem.F.type_list_append mt_append (pv 6) (pa_cons (pe_joinK K rfl pe_str
        (pe_lc (own := [("_law_sign", 7)]) (g := gName 7) (by rfl) scNames.nd (pi_list (pv 4)) (blkOk_by (own := [("_law_sign", 7)]) (N := nNames) (sc := defScope tNames) (by decide +kernel))
          (fun _ _ _ _ _ => pg_name (i := 7) scNames.nd rfl (.inl rfl)) (fun _ _ _ _ _ => pts_nil) (fun _ _ _ _ _ => pe_ix ix_str (pv 2) (pv 7) (fun _ _ => rfl)))) pa_nil))))))
    (pss_one (ps_ret (pv 6))))))), ?_⟩
  refine ⟨_, rfl, d, c, 8, rfl, dk, by decide, by decide, fun mm G1 mm0 mm1 kp1 dk1 => ⟨_, _, rfl, rfl, ?_⟩⟩
  refine ⟨1 + mm, rfl, by omega, by omega, fun D nD => ?_⟩
  have offD := dk1.off nD
  have hD : H D = none := kp1.free dk1 nD
  refine lc_range (lo := 0) (n := (1 + mm).toNat) (fun i G => Kp d c H G ∧ Dk G d c ∧ ∃ ks : List Nat, ks.length = i ∧ (∀ k ∈ ks, k < 26) ∧ G D = some (.lst (ks.map fun k : Nat => V.int (k : Int)))) ?_ (fun i G hi z => ?_) (fun G z => ?_)
  · exact ⟨kp1.mk hD, dk1.put offD.1 offD.2, [], rfl, fun k z => (nomatch z), upd_same⟩
  · obtain ⟨kpi, dki, ks, lk, hk, gD'⟩ := z
    refine ⟨rfl, _, rfl, d, c, 26, rfl, dki, by decide, by decide, fun r G2 r0 r1 kp2 dk2 => ?_⟩
    have er : r = ((r.toNat : Nat) : Int) := by omega
    refine ⟨_, kp2 D _ offD.1 offD.2 gD', ?_, (kpi.trans kp2).mk hD, dk2.put offD.1 offD.2, ks ++ [r.toNat], ?_, fun k hk' => ?_, ?_⟩
    · rw [List.length_map, lk]
      exact small1000 (by omega)
    · rw [List.length_append, lk]
      rfl
    · rcases List.mem_append.mp hk' with z | z
      · exact hk k z
      · rw [List.mem_singleton.mp z]
        omega
    · rw [upd_same, List.map_append]
      show _ = some (HO.lst (_ ++ [V.int ((r.toNat : Nat) : Int)]))
      rw [← er]
  obtain ⟨kpi, dki, ks, lk, hk, gD'⟩ := z
  refine ⟨_, rfl, _, rfl, D, _, rfl, .inl (SqL.of gD'), d, c, _, rfl, dki, by rw [List.length_map]; omega, by rw [List.length_map]; omega, fun r G2 r0 r1 kp2 dk2 => ?_⟩
  rw [List.length_map] at r1
  have gD2 := kp2 D _ offD.1 offD.2 gD'
  refine ⟨Nat.zero_le _, fun L nL => ?_⟩
  have offL := dk2.off nL
  have LD : L ≠ D := (ne_of_none gD2 nL).symm
  have kpa := kpi.trans kp2
  have hL : H L = none := kpa.free dk2 nL
  have er : r = ((r.toNat : Nat) : Int) := by omega
  have lr : r.toNat < ks.length := by omega
  have l8 : ks.length ≤ 8 := by omega
  refine ⟨_, rfl, m, rfl, by omega, by omega, ?_⟩
  refine for_range (lo := 0) (n := m.toNat) (fun i σ G => (∃ y3, σ = [some (.ref d), some (.int m), some (.str lets), y3, some (.ref D), some (.int r), some (.ref L), none]) ∧ Kp d c H G ∧ Dk G d c ∧
      G D = some (.lst ((ks.set r.toNat ((ks.getD r.toNat 0 + i) % 26)).map fun k : Nat => V.int (k : Int))) ∧ G L = some (.lst (((List.range i).map (nmAt ks r.toNat)).map V.str))) ?_ (fun i σ G hi z => ?_) (fun σ G z => ?_)
  · refine ⟨⟨none, rfl⟩, kpa.mk hL, dk2.put offL.1 offL.2, ?_, upd_same⟩
    rw [upd_ne LD.symm, gD2]
    have h26 : (ks.getD r.toNat 0 + 0) % 26 = ks[r.toNat] := by
      have e1 : ks.getD r.toNat 0 = ks[r.toNat] := by simp [List.getD, List.getElem?_eq_getElem lr]
      have := hk _ (List.getElem_mem lr)
      rw [e1]
      omega
    rw [h26, List.set_getElem_self]
  · obtain ⟨⟨y3, rfl⟩, kpG, dkG, gDG, gLG⟩ := z
    generalize hks : ks.set r.toNat ((ks.getD r.toNat 0 + i) % 26) = ki at gDG
    have lki : ki.length = ks.length := by rw [← hks, List.length_set]
    have kat : ki[r.toNat]? = some ((ks.getD r.toNat 0 + i) % 26) := by rw [← hks, List.getElem?_set_self lr]
    have gat : atI (ki.map fun k : Nat => V.int (k : Int)) r = some (V.int (((ks.getD r.toNat 0 + i) % 26 : Nat) : Int)) := by
      have z := atI_nat (xs := ki.map fun k : Nat => V.int (k : Int)) (j := r.toNat) (v := V.int (((ks.getD r.toNat 0 + i) % 26 : Nat) : Int)) (by rw [List.getElem?_map, kat]; rfl)
      rw [← er] at z
      exact z
    have ix : ixN (ki.map fun k : Nat => V.int (k : Int)).length r = some r.toNat := by
      have z := ixNat (n := (ki.map fun k : Nat => V.int (k : Int)).length) (j := r.toNat) (by rw [List.length_map, lki]; exact lr)
      rw [← er] at z
      exact z
    refine ⟨_, rfl, _, rfl, D, _, _, _, rfl, rfl, SqL.of gDG, gat, _, _, rfl, rfl, _, _, rfl, rfl, (by show (0 : Int) < 26; decide), _, rfl, _, rfl, D, _, _, r.toNat, rfl, rfl, gDG, ix, ?_⟩
    have ev : (V.int ((((ks.getD r.toNat 0 + i) % 26 : Nat) : Int) + 1) = V.int ((((ks.getD r.toNat 0 + i) % 26 : Nat) : Int) + 1)) := rfl
    have en : ((((ks.getD r.toNat 0 + i) % 26 : Nat) : Int) + 1) % 26 = (((ks.getD r.toNat 0 + i + 1) % 26 : Nat) : Int) := by omega
    have eset : (ki.map fun k : Nat => V.int (k : Int)).set r.toNat (V.int (((((ks.getD r.toNat 0 + i) % 26 : Nat) : Int) + 1) % 26)) = (ks.set r.toNat ((ks.getD r.toNat 0 + i + 1) % 26)).map fun k : Nat => V.int (k : Int) := by
      rw [en, ← hks, ← List.map_set (f := fun k : Nat => V.int (k : Int)), List.set_set]
    rw [eset]
    generalize hk2 : ks.set r.toNat ((ks.getD r.toNat 0 + i + 1) % 26) = k2
    have lk2 : k2.length = ks.length := by rw [← hk2, List.length_set]
    have hk26 : ∀ k ∈ k2, k < 26 := fun k hk' => by
      rw [← hk2] at hk'
      rcases List.mem_or_eq_of_mem_set hk' with z | z
      · exact hk k z
      · rw [z]
        exact Nat.mod_lt _ (by decide)
    have gL2 : (upd G D (.lst (k2.map fun k : Nat => V.int (k : Int)))) L = some (.lst (((List.range i).map (nmAt ks r.toNat)).map V.str)) := by rw [upd_ne LD]; exact gLG
    have gDn : (upd G D (.lst (k2.map fun k : Nat => V.int (k : Int)))) D = some (.lst (k2.map fun k : Nat => V.int (k : Int))) := upd_same
    have kp3 : Kp d c H (upd G D (.lst (k2.map fun k : Nat => V.int (k : Int)))) := kpG.mk hD
    have dk3 := dkG.put (o := .lst (k2.map fun k : Nat => V.int (k : Int))) offD.1 offD.2
    generalize upd G D (.lst (k2.map fun k : Nat => V.int (k : Int))) = G3 at gL2 gDn kp3 dk3
    refine ⟨_, rfl, .inl ⟨rfl, _, SqL.of gL2⟩, ⟨_, rfl⟩, _, rfl, D, rfl, ⟨_, SqL.of gDn⟩, fun J nJ => ?_⟩
    have JD : D ≠ J := ne_of_none gDn nJ
    have JL : L ≠ J := ne_of_none gL2 nJ
    have offJ := dk3.off nJ
    have hJ : H J = none := kp3.free dk3 nJ
    refine lc_list (xs := k2.map fun k : Nat => V.int (k : Int)) (fun i G => Same G3 G ∧ G J = some (.lst (((k2.take i).map sg).map V.str))) ⟨newS nJ, upd_same⟩ (fun i G _ z => SqL.of (z.1 _ _ gDn)) (fun i' x G hx z => ?_) (fun G z => ?_)
    · obtain ⟨sG, gJ⟩ := z
      rw [List.getElem?_map] at hx
      cases hu : k2[i']? with
      | none => rw [hu] at hx; cases hx
      | some kk =>
        rw [hu] at hx
        have ex : V.int (kk : Int) = x := Option.some.inj hx
        subst ex
        have hkk := hk26 kk (List.mem_of_getElem? hu)
        have li : i' < k2.length := (List.getElem?_eq_some_iff.mp hu).1
        have tk : k2.take (i' + 1) = k2.take i' ++ [kk] := by rw [List.take_add_one, hu]; rfl
        have lg := lets_get (r := ((kk : Nat) : Int)) (by omega) (by omega)
        rw [Int.toNat_natCast] at lg
        refine ⟨rfl, _, rfl, _, rfl, lets, _, _, rfl, rfl, lets_len, lg, _, gJ, ?_, smk sG nJ, ?_⟩
        · rw [List.length_map, List.length_map, List.length_take]
          exact small1000 (by omega)
        · rw [upd_same, tk, List.map_append, List.map_append]
          rfl
    · obtain ⟨sG, gJ⟩ := z
      rw [List.length_map, List.take_length] at gJ
      refine ⟨_, J, k2.map sg, rfl, rfl, .inl (SqL.of gJ), ?_, L, _, _, rfl, rfl, sG _ _ gL2, ?_, ?_⟩
      · rw [sg_len, List.length_map]
        show k2.length + k2.length * 0 ≤ _
        omega
      · rw [List.length_map, List.length_map, List.length_range]
        exact small1000 (by omega)
      · refine ⟨⟨_, rfl⟩, (kp3.trans (Kp.of sG)).mk hL, (dk3.same sG).put offL.1 offL.2, ?_, ?_⟩
        · rw [upd_ne LD.symm]
          exact sG _ _ gDn
        · rw [upd_same, List.range_succ, List.map_append, List.map_append]
          show _ = some (HO.lst (_ ++ [V.str (Txt.join (Str.ofString "") ((ks.set r.toNat ((ks.getD r.toNat 0 + i + 1) % 26)).map sg))]))
          rw [hk2]
  · obtain ⟨⟨y3, rfl⟩, kpG, dkG, gDG, gLG⟩ := z
    refine ⟨_, rfl, q L _ G kpG dkG hL gLG (by rw [List.length_map, List.length_range]) (fun x hx => ?_) (nodupR _ fun i j hi hj e => nmAt_inj lr (by omega) (by omega) e)⟩
    obtain ⟨j, _, rfl⟩ := List.mem_map.mp hx
    refine join_nm (fun k hk' => ?_) (by rw [List.length_set]; omega) (by rw [List.length_set]; omega)
    rcases List.mem_or_eq_of_mem_set hk' with z | z
    · exact hk k z
    · rw [z]
      exact Nat.mod_lt _ (by decide)
end
end Kq

namespace Kq
open PySem PySem.Spec PyProof.Rows L2
/-! kinds as trees -/
inductive Kd where
  | opn (x : Str)
  | num
  | tru
  | pair (a b : Kd)
  | eith (a b : Kd)
  | lst (a : Kd)
  | fn (a b : Kd)
namespace Kd
def word : Kd → Str
  | opn _ => "open"
  | num => "num"
  | tru => "truth"
  | pair _ _ => "pair"
  | eith _ _ => "either"
  | lst _ => "list"
  | fn _ _ => "fun"
def kids : Kd → List Kd
  | pair a b => [a, b]
  | eith a b => [a, b]
  | lst a => [a]
  | fn a b => [a, b]
  | _ => []
def isFn : Kd → Bool
  | fn _ _ => true
  | _ => false
def isOp : Kd → Bool
  | opn _ => true
  | _ => false
def nodes : Kd → List Kd
  | opn x => [opn x]
  | num => [num]
  | tru => [tru]
  | pair a b => pair a b :: (nodes a ++ nodes b)
  | eith a b => eith a b :: (nodes a ++ nodes b)
  | lst a => lst a :: nodes a
  | fn a b => fn a b :: (nodes a ++ nodes b)
def size (t : Kd) : Nat := t.nodes.length
def dp : Kd → Nat
  | pair a b => max a.dp b.dp + 1
  | eith a b => max a.dp b.dp + 1
  | lst a => a.dp + 1
  | fn a b => max a.dp b.dp + 1
  | _ => 0
def opens : Kd → List Str
  | opn x => [x]
  | num => []
  | tru => []
  | pair a b => opens a ++ opens b
  | eith a b => opens a ++ opens b
  | lst a => opens a
  | fn a b => opens a ++ opens b
def args : Kd → List Kd
  | fn a b => a :: args b
  | _ => []
def res : Kd → Kd
  | fn _ b => res b
  | t => t
def ledTo (ts : List Kd) (t : Kd) : Kd := ts.foldr fn t
theorem nodes_eq (t : Kd) : t.nodes = t :: t.kids.flatMap nodes := by
  cases t <;> simp [nodes, kids]
theorem isFn_word (t : Kd) : decide (V.str t.word = V.str "fun") = t.isFn := by
  cases t <;> rfl
theorem isOp_word (t : Kd) : decide (V.str t.word = V.str "open") = t.isOp := by
  cases t <;> rfl
end Kd
/-- the tuples stay -/
def Tk (H G : Hp) : Prop := ∀ b xs, H b = some (.tup xs) → G b = some (.tup xs)
theorem Tk.of {H G : Hp} (s : Same H G) : Tk H G := fun b xs e => s b _ e
theorem Tk.rfl {H : Hp} : Tk H H := fun _ _ e => e
theorem Tk.trans {H G F : Hp} (a : Tk H G) (b : Tk G F) : Tk H F := fun x o e => b x o (a x o e)
theorem Tk.kp {H G : Hp} {d c : Addr} (a : Kp d c H G) (k : Dk H d c) : Tk H G := fun b xs e => by
  obtain ⟨n, ⟨s, k0, hd⟩, ⟨ns, hc, _⟩⟩ := k
  refine a b _ (fun z => ?_) (fun z => ?_) e
  · rw [z, hd] at e
    cases e
  · rw [z, hc] at e
    cases e
theorem Tk.put {H G : Hp} {p : Addr} {o : HO} (a : Tk H G) (h : ∀ xs, H p ≠ some (.tup xs)) : Tk H (upd G p o) := fun b xs e => by
  rw [upd_ne (fun z => h xs (by rw [← z]; exact e))]
  exact a b xs e
/-- the tree stands at v -/
def Rp (H : Hp) : Kd → V → Prop
  | .opn x, v => ∃ a, v = .ref a ∧ H a = some (.tup [.str "open", .str x])
  | .num, v => ∃ a, v = .ref a ∧ H a = some (.tup [.str "num"])
  | .tru, v => ∃ a, v = .ref a ∧ H a = some (.tup [.str "truth"])
  | .pair s t, v => ∃ a x y, v = .ref a ∧ H a = some (.tup [.str "pair", x, y]) ∧ Rp H s x ∧ Rp H t y
  | .eith s t, v => ∃ a x y, v = .ref a ∧ H a = some (.tup [.str "either", x, y]) ∧ Rp H s x ∧ Rp H t y
  | .lst s, v => ∃ a x, v = .ref a ∧ H a = some (.tup [.str "list", x]) ∧ Rp H s x
  | .fn s t, v => ∃ a x y, v = .ref a ∧ H a = some (.tup [.str "fun", x, y]) ∧ Rp H s x ∧ Rp H t y
def RpL (H : Hp) : List Kd → List V → Prop
  | [], [] => True
  | t :: ts, v :: vs => Rp H t v ∧ RpL H ts vs
  | _, _ => False
theorem Rp.tk {H G : Hp} (k : Tk H G) : ∀ {t : Kd} {v : V}, Rp H t v → Rp G t v := by
  intro t
  induction t with
  | opn x => exact fun ⟨a, e, h⟩ => ⟨a, e, k _ _ h⟩
  | num => exact fun ⟨a, e, h⟩ => ⟨a, e, k _ _ h⟩
  | tru => exact fun ⟨a, e, h⟩ => ⟨a, e, k _ _ h⟩
  | pair s t i j => exact fun ⟨a, x, y, e, h, p, q⟩ => ⟨a, x, y, e, k _ _ h, i p, j q⟩
  | eith s t i j => exact fun ⟨a, x, y, e, h, p, q⟩ => ⟨a, x, y, e, k _ _ h, i p, j q⟩
  | lst s i => exact fun ⟨a, x, e, h, p⟩ => ⟨a, x, e, k _ _ h, i p⟩
  | fn s t i j => exact fun ⟨a, x, y, e, h, p, q⟩ => ⟨a, x, y, e, k _ _ h, i p, j q⟩
theorem RpL.tk {H G : Hp} (k : Tk H G) : ∀ {ts : List Kd} {vs : List V}, RpL H ts vs → RpL G ts vs
  | [], [], _ => trivial
  | _ :: _, _ :: _, h => ⟨h.1.tk k, RpL.tk k h.2⟩
  | [], _ :: _, h => h.elim
  | _ :: _, [], h => h.elim
theorem RpL.len {H : Hp} : ∀ {ts : List Kd} {vs : List V}, RpL H ts vs → ts.length = vs.length
  | [], [], _ => rfl
  | _ :: _, _ :: _, h => congrArg (· + 1) (RpL.len h.2)
  | [], _ :: _, h => h.elim
  | _ :: _, [], h => h.elim
theorem RpL.app {H : Hp} : ∀ {ts us : List Kd} {vs ws : List V}, RpL H ts vs → RpL H us ws → RpL H (ts ++ us) (vs ++ ws)
  | [], _, [], _, _, h => h
  | _ :: _, _, _ :: _, _, h, k => ⟨h.1, RpL.app h.2 k⟩
  | [], _, _ :: _, _, h, _ => h.elim
  | _ :: _, _, [], _, h, _ => h.elim
theorem RpL.get {H : Hp} : ∀ {ts : List Kd} {vs : List V} {i : Nat} {v : V}, RpL H ts vs → vs[i]? = some v → ∃ t, ts[i]? = some t ∧ Rp H t v
  | [], [], i, v, _, e => by simp at e
  | t :: _, w :: _, 0, v, h, e => ⟨t, rfl, by rw [← show w = v from Option.some.inj e]; exact h.1⟩
  | _ :: ts, _ :: vs, i + 1, v, h, e => RpL.get (ts := ts) (vs := vs) (i := i) h.2 e
  | [], _ :: _, _, _, h, _ => h.elim
  | _ :: _, [], _, _, h, _ => h.elim
theorem RpL.last {H : Hp} : ∀ {ts : List Kd} {vs : List V}, RpL H ts vs → vs ≠ [] → ∃ us u ws w, ts = us ++ [u] ∧ vs = ws ++ [w] ∧ RpL H us ws ∧ Rp H u w
  | [t], [v], h, _ => ⟨[], t, [], v, rfl, rfl, trivial, h.1⟩
  | t :: t' :: ts, v :: v' :: vs, h, _ => by
    obtain ⟨us, u, ws, w, e1, e2, k, r⟩ := RpL.last (ts := t' :: ts) (vs := v' :: vs) h.2 (by simp)
    exact ⟨t :: us, u, v :: ws, w, by rw [e1]; rfl, by rw [e2]; rfl, ⟨h.1, k⟩, r⟩
  | [], [], _, n => absurd rfl n
  | [], _ :: _, h, _ => h.elim
  | _ :: _, [], h, _ => h.elim
  | [_], _ :: _ :: _, h, _ => h.2.elim
  | _ :: _ :: _, [_], h, _ => h.2.elim
/-- the tuple at v: the word, and the rest -/
theorem Rp.see {H : Hp} {t : Kd} {v : V} (h : Rp H t v) : ∃ a vs, v = .ref a ∧ H a = some (.tup (.str t.word :: vs)) ∧ ((t.isOp = false ∧ RpL H t.kids vs) ∨ ∃ x, t = .opn x ∧ vs = [.str x]) := by
  cases t with
  | opn x =>
    obtain ⟨a, e, g⟩ := h
    exact ⟨a, _, e, g, .inr ⟨x, rfl, rfl⟩⟩
  | num =>
    obtain ⟨a, e, g⟩ := h
    exact ⟨a, [], e, g, .inl ⟨rfl, trivial⟩⟩
  | tru =>
    obtain ⟨a, e, g⟩ := h
    exact ⟨a, [], e, g, .inl ⟨rfl, trivial⟩⟩
  | pair s t =>
    obtain ⟨a, x, y, e, g, p, q⟩ := h
    exact ⟨a, _, e, g, .inl ⟨rfl, p, q, trivial⟩⟩
  | eith s t =>
    obtain ⟨a, x, y, e, g, p, q⟩ := h
    exact ⟨a, _, e, g, .inl ⟨rfl, p, q, trivial⟩⟩
  | lst s =>
    obtain ⟨a, x, e, g, p⟩ := h
    exact ⟨a, _, e, g, .inl ⟨rfl, p, trivial⟩⟩
  | fn s t =>
    obtain ⟨a, x, y, e, g, p, q⟩ := h
    exact ⟨a, _, e, g, .inl ⟨rfl, p, q, trivial⟩⟩
theorem cutFrom1 (x : V) (vs : List V) : cutV (x :: vs) (some 1) none = vs := by
  unfold cutV
  rw [show HT.sIx (x :: vs).length 0 (some 1) = min 1 (x :: vs).length from HT.sIx_nat _ _ 1, HT.sIx_none, List.length_cons, Nat.min_eq_left (by omega)]
  show (vs.take (vs.length + 1 - 1)) = vs
  rw [Nat.add_sub_cancel, List.take_length]
theorem notWhole (x : V) (vs : List V) : ¬ (HT.sIx (x :: vs).length 0 (some 1) = 0 ∧ HT.sIx (x :: vs).length (x :: vs).length none = (x :: vs).length) := by
  rw [show HT.sIx (x :: vs).length 0 (some 1) = min 1 (x :: vs).length from HT.sIx_nat _ _ 1, List.length_cons, Nat.min_eq_left (by omega)]
  rintro ⟨h, _⟩
  cases h
abbrev tWithin : Stmt := tp 1

abbrev tParts : Stmt := tp 2


section
variable {P : Program} {w : World} {K : PySem.W.Frag} {mg : Str → Option Value} {base : Heap}
/-! kinds_within -/
theorem scWithin : FnScope ["kind"] ["kind"] (defScope tWithin) := ⟨rfl, rfl, rfl, by decide +kernel, rfl, by decide +kernel, by decide +kernel⟩
def spWithin : Sp := fun vs H Q _ => ∃ (v : V) (t : Kd), vs = [v] ∧ Rp H t v ∧ ∀ (p : Addr) (us : List V) (G : Hp), Same H G → G p = some (.tup us) → RpL G t.kids us → Q (.ref p) G
theorem okWithin {f : Addr} {fd : FuncData} {k : Nat} (F : Fun K "kinds_within" "kinds_within" tWithin f fd) : FnOk P w K mg base CX0 (k + 1) f fd ["kind"] spWithin := by
  refine F.ok scWithin (fun vs H Q E h => ?_) (fun cdv A outer s H vs Q E hr h => ?_)
  · obtain ⟨v, t, rfl, _⟩ := h
    rfl
  obtain ⟨v, t, rfl, r, q⟩ := h
  obtain ⟨a, us, rfl, ha, hu⟩ := r.see
  refine ⟨_, pss_cons (ps_if (pt_cmpR op_eq (pe_ix ix_tup (pv 0) pe_int (fun _ _ => rfl)) pe_str (nomark _)) (pss_one (ps_ret (pe_tup pa_nil))) pss_nil)
    (pss_one (ps_ret (pe_slice sl_tup (pv 0) (po_some pe_int) po_none))), ?_⟩
  refine ⟨_, rfl, a, _, _, _, rfl, rfl, SqT.of ha, atI_nat (j := 0) rfl, rfl, _, rfl, ?_⟩
  rw [Kd.isOp_word]
  refine ite2 (fun e => ?_) (fun e => ?_)
  · refine ⟨Nat.zero_le _, fun p np => q p [] _ (newS np) upd_same ?_⟩
    cases t with
    | opn x => trivial
    | _ => cases e
  · refine ⟨_, rfl, 1, rfl, a, _, rfl, SqT.of ha, notWhole _ _, fun p np => ?_⟩
    rw [cutFrom1]
    refine q p us _ (newS np) upd_same ?_
    rcases hu with hu | ⟨x, rfl, _⟩
    · exact hu.2.tk (Tk.of (newS np))
    · exact absurd rfl e
/-! parts_of -/
theorem scParts : FnScope ["kind", "parts", "waiting", "part"] ["kind"] (defScope tParts) := ⟨rfl, rfl, rfl, by decide +kernel, rfl, by decide +kernel, by decide +kernel⟩
def spParts : Sp := fun vs H Q _ => ∃ (v : V) (t : Kd), vs = [v] ∧ Rp H t v ∧ t.size ≤ 900 ∧ ∀ (p : Addr) (ts : List Kd) (us : List V) (G : Hp), Same H G → G p = some (.lst us) → RpL G ts us → ts.Perm t.nodes → Q (.ref p) G
theorem okParts {f fW : Addr} {fd fdW : FuncData} {k : Nat} (F : Fun K "parts_of" "parts_of" tParts f fd) (FW : Fun K "kinds_within" "kinds_within" tWithin fW fdW) (bW : Binds K fdW ["kind"] []) (gW : mg "kinds_within" = some (.ref fW)) : FnOk P w K mg base CX0 (k + 2) f fd ["kind"] spParts := by
  have GW : FnOk P w K mg base CX0 (k + 1) fW fdW ["kind"] spWithin := okWithin FW
  refine F.ok scParts (fun vs H Q E h => ?_) (fun cdv A outer s H vs Q E hr h => ?_)
  · obtain ⟨v, t, rfl, _⟩ := h
    rfl
  obtain ⟨v, t, rfl, r, hz, q⟩ := h
  refine ⟨_, pss_cons (ps_set (i := 1) scParts.nd rfl (.inl rfl) (pe_lst pa_nil))
    (pss_cons (ps_set (i := 2) scParts.nd rfl (.inl rfl) (pe_lst (pa_cons (pv 0) pa_nil)))
    (pss_cons (ps_while PassesOwn.never (pt_truth (pv 2) (by intro _; rfl))
      (pss_cons (ps_set (i := 3) scParts.nd rfl (.inl rfl) (pe_bm0 PySem.F.plainAttrs_list PySem.F.slot_list_pop PySem.F.type_list_pop mt_pop (pv 2)))
      (pss_cons (ps_expr (pe_bm PySem.F.plainAttrs_list PySem.F.slot_list_append PySem.F.type_list_append mt_append (pv 1) (pa_cons (pv 3) pa_nil)))
      (pss_one (ps_expr (pe_bm PySem.F.plainAttrs_list PySem.F.slot_list_extend PySem.F.type_list_extend Kr.mt_extT (pv 2) (pa_cons (pe_call GW hr (by rfl) gW FW.kp bW .nil pass0 (pa_cons (pv 3) pa_nil)) pa_nil)))))))
    (pss_one (ps_ret (pv 1))))), ?_⟩
  refine ⟨Nat.zero_le _, fun pa npa => ?_⟩
  refine ⟨_, rfl, (by show 1 ≤ sizeLine; decide), fun wa nwa => ?_⟩
  have s2 : Same H (upd (upd H pa (.lst [])) wa (.lst [v])) := (newS npa).trans (newS nwa)
  have hpw : pa ≠ wa := fun z => by
    rw [z, upd_same] at nwa
    cases nwa
  have hwa : H wa = none := (newS npa).free nwa
  refine ⟨fun m σ G => ∃ ts ws us vs y, m = (ws.flatMap Kd.nodes).length ∧ σ = [some v, some (.ref pa), some (.ref wa), y] ∧ Same H G ∧ G pa = some (.lst us) ∧ G wa = some (.lst vs) ∧ RpL G ts us ∧ RpL G ws vs ∧ (ts ++ ws.flatMap Kd.nodes).Perm t.nodes,
    ⟨_, [], [t], [], [v], none, rfl, rfl, s2, ?_, upd_same, trivial, ⟨r.tk (Tk.of s2), trivial⟩, ?_⟩, fun m σ G z => ?_⟩
  · rw [upd_ne hpw, upd_same]
  · rw [List.flatMap_cons, List.flatMap_nil, List.append_nil, List.nil_append]
  obtain ⟨ts, ws, us, vs, y, rfl, rfl, sG, gp, gw, rt, rw', pm⟩ := z
  refine ⟨_, rfl, _, .inl ⟨vs, SqL.of gw, rfl⟩, ?_⟩
  have lens : ts.length + (ws.flatMap Kd.nodes).length = t.size := by
    have e := pm.length_eq
    rw [List.length_append] at e
    exact e
  refine ite2 (fun e => ?_) (fun e => ?_)
  · have nn : vs ≠ [] := fun z => by
      rw [z] at e
      cases e
    obtain ⟨xs, u, zs, x, rfl, rfl, rx, ru⟩ := rw'.last nn
    refine ⟨fun σ' G' => ∃ m', m' < _ ∧ (∃ ts ws us vs y, m' = (ws.flatMap Kd.nodes).length ∧ σ' = [some v, some (.ref pa), some (.ref wa), y] ∧ Same H G' ∧ G' pa = some (.lst us) ∧ G' wa = some (.lst vs) ∧ RpL G' ts us ∧ RpL G' ws vs ∧ (ts ++ ws.flatMap Kd.nodes).Perm t.nodes), fun σ' G' z => z, ?_⟩
    refine ⟨_, rfl, .inl ⟨rfl, _, SqL.of gw⟩, wa, _, x, rfl, rfl, gw, ?_, ?_⟩
    · rw [List.length_append, List.length_singleton, Nat.add_sub_cancel, List.getElem?_concat_length]
    rw [List.dropLast_concat]
    have t1 : Tk G (upd G wa (.lst zs)) := Tk.rfl.put (fun _ z => by rw [gw] at z; cases z)
    have gp1 : (upd G wa (.lst zs)) pa = some (.lst us) := by rw [upd_ne hpw]; exact gp
    refine ⟨_, rfl, .inl ⟨rfl, _, SqL.of gp1⟩, _, rfl, pa, _, _, rfl, rfl, gp1, ?_, ?_⟩
    · have := rt.len
      exact small1000 (by omega)
    have t2 : Tk G (upd (upd G wa (.lst zs)) pa (.lst (us ++ [x]))) := t1.put (fun _ z => by rw [gp] at z; cases z)
    have gw2 : (upd (upd G wa (.lst zs)) pa (.lst (us ++ [x]))) wa = some (.lst zs) := by rw [upd_ne hpw.symm, upd_same]
    have gp2 : (upd (upd G wa (.lst zs)) pa (.lst (us ++ [x]))) pa = some (.lst (us ++ [x])) := upd_same
    have s3 : Same H (upd (upd G wa (.lst zs)) pa (.lst (us ++ [x]))) := smk (smk sG hwa) npa
    generalize upd (upd G wa (.lst zs)) pa (.lst (us ++ [x])) = G2 at t2 gw2 gp2 s3
    refine ⟨_, rfl, .inl ⟨rfl, _, SqL.of gw2⟩, _, rfl, x, u, rfl, ru.tk t2, fun p ks G3 s4 gk rk => ?_⟩
    have lk : ks.length ≤ 2 := by
      rw [← rk.len]
      cases u <;> simp [Kd.kids]
    refine ⟨wa, p, _, _, rfl, rfl, s4 _ _ gw2, SqT.of gk, ?_, ?_⟩
    · have l1 := rx.len
      have l2 : xs.length ≤ ((xs ++ [u]).flatMap Kd.nodes).length := by
        clear lens pm gw nn e rw' l1 rx
        induction xs with
        | nil => exact Nat.zero_le _
        | cons a xs ih =>
          have : 1 ≤ a.nodes.length := by rw [Kd.nodes_eq]; exact Nat.succ_le_succ (Nat.zero_le _)
          simp only [List.cons_append, List.flatMap_cons, List.length_append, List.length_cons] at ih ⊢
          omega
      exact sz (by omega)
    have e4 := Kd.nodes_eq u
    have t4 : Tk G3 (upd G3 wa (.lst (zs ++ ks))) := Tk.rfl.put (fun _ z => by rw [s4 _ _ gw2] at z; cases z)
    refine ⟨_, ?_, ts ++ [u], xs ++ u.kids, us ++ [x], zs ++ ks, _, rfl, rfl, smk (s3.trans s4) hwa, ?_, upd_same, ?_, ?_, ?_⟩
    · simp only [List.flatMap_append, List.flatMap_cons, List.flatMap_nil, List.append_nil, List.length_append]
      rw [e4, List.length_cons]
      omega
    · rw [upd_ne hpw]
      exact s4 _ _ gp2
    · exact (RpL.app (us := [u]) (ws := [x]) (rt.tk t2) ⟨ru.tk t2, trivial⟩).tk ((Tk.of s4).trans t4)
    · exact ((rx.tk (t2.trans (Tk.of s4))).app rk).tk t4
    · refine List.Perm.trans ?_ pm
      simp only [List.flatMap_append, List.flatMap_cons, List.flatMap_nil, List.append_nil, List.append_assoc]
      refine List.Perm.append_left ts ?_
      rw [e4]
      show (u :: (xs.flatMap Kd.nodes ++ u.kids.flatMap Kd.nodes)).Perm (xs.flatMap Kd.nodes ++ (u :: u.kids.flatMap Kd.nodes))
      exact List.perm_middle.symm
  · have nv : vs = [] := by
      cases vs with
      | nil => rfl
      | cons a b => exact absurd rfl e
    subst nv
    cases ws with
    | cons a b => exact rw'.elim
    | nil =>
      rw [List.flatMap_nil, List.append_nil] at pm
      exact ⟨_, rfl, q pa ts us G sG gp rt pm⟩
end
end Kq

namespace Kq
open PySem PySem.Spec PyProof.Rows L2
namespace Kd
theorem size_fn (a b : Kd) : (fn a b).size = a.size + b.size + 1 := by
  show (a.nodes ++ b.nodes).length + 1 = _
  rw [List.length_append]
  rfl
theorem size_pos (t : Kd) : 1 ≤ t.size := by
  unfold size
  rw [nodes_eq]
  exact Nat.succ_le_succ (Nat.zero_le _)
theorem args_le : ∀ t : Kd, t.args.length ≤ t.size
  | fn a b => by
    have := args_le b
    rw [size_fn]
    show b.args.length + 1 ≤ _
    omega
  | opn _ => Nat.zero_le _
  | num => Nat.zero_le _
  | tru => Nat.zero_le _
  | pair _ _ => Nat.zero_le _
  | eith _ _ => Nat.zero_le _
  | lst _ => Nat.zero_le _
def nm? : Kd → Option Str
  | opn x => some x
  | _ => none
theorem opens_nodes : ∀ t : Kd, t.nodes.filterMap nm? = t.opens
  | opn _ => rfl
  | num => rfl
  | tru => rfl
  | pair a b => by
    show ((a.nodes ++ b.nodes).filterMap nm?) = a.opens ++ b.opens
    rw [List.filterMap_append, opens_nodes a, opens_nodes b]
  | eith a b => by
    show ((a.nodes ++ b.nodes).filterMap nm?) = a.opens ++ b.opens
    rw [List.filterMap_append, opens_nodes a, opens_nodes b]
  | lst a => by
    show (a.nodes.filterMap nm?) = a.opens
    exact opens_nodes a
  | fn a b => by
    show ((a.nodes ++ b.nodes).filterMap nm?) = a.opens ++ b.opens
    rw [List.filterMap_append, opens_nodes a, opens_nodes b]
end Kd
theorem ixTK {X : Cx} (K : PySem.W.Frag) (h : X.K = K) : IxR X (rIxT K) := by
  subst h
  exact ix_tup
/-- a set comprehension over a list that stays -/
theorem sc_list {w : World} {K : PySem.W.Frag} {a : Addr} {xs : List V} {g : TG} {tt : TT} {te : TE} {vs : List Nat} {σ : L2.St} {G : Hp} {D : Addr} {Qd : Hp → Prop} (Pv : Nat → Hp → Prop) (h0 : Pv 0 (upd G D (Ks.SetH w D (fun _ => false) 0)))
    (hl : ∀ i H, i ≤ xs.length → Pv i H → SqL K H a xs)
    (hs : ∀ i x H, xs[i]? = some x → Pv i H → g x (wipe σ vs) H fun τ H2 => wipe τ vs = wipe σ vs ∧ tt τ H2 fun b H3 => if b = true then
        te τ H3 fun y H4 => ∃ (c : Str) (S : Str → Bool) (n : Nat), y = .str c ∧ H4 D = some (Ks.SetH w D S n) ∧ n + 1 < scanBound ∧ Pv (i + 1) (upd H4 D (Ks.SetH w D (fun j => S j || decide (j = c)) (if S c = true then n else n + 1)))
      else Pv (i + 1) H3) (hd : ∀ H, Pv xs.length H → Qd H) :
    ∃ W : Nat → Nat → Hp → Prop, (∃ m, W 0 m (upd G D (Ks.SetH w D (fun _ => false) 0))) ∧ ∀ i m H, W i m H →
      ((Itl K a).stop i H ∧ Qd H) ∨ ((Itl K a).go i H ∧ ∃ N : Hp → Prop, (∀ H', N H' → ∃ m', m' < m ∧ W (i + 1) m' H') ∧ ∀ x H', (Itl K a).yld i H x H' →
        g x (wipe σ vs) H' fun τ H2 => wipe τ vs = wipe σ vs ∧ tt τ H2 fun b H3 => if b = true then
          te τ H3 fun y H4 => ∃ (c : Str) (S : Str → Bool) (n : Nat), y = .str c ∧ H4 D = some (Ks.SetH w D S n) ∧ n + 1 < scanBound ∧ N (upd H4 D (Ks.SetH w D (fun j => S j || decide (j = c)) (if S c = true then n else n + 1)))
        else N H3) := by
  refine ⟨fun i m F => m = xs.length - i ∧ i ≤ xs.length ∧ Pv i F, ⟨_, rfl, Nat.zero_le _, h0⟩, fun i m F z => ?_⟩
  obtain ⟨rfl, hi, p⟩ := z
  have q := hl i F hi p
  by_cases lt : i < xs.length
  · refine .inr ⟨⟨xs, xs[i], q, List.getElem?_eq_getElem lt⟩, Pv (i + 1), fun F' p' => ⟨xs.length - (i + 1), by omega, rfl, lt, p'⟩, fun x F' y => ?_⟩
    obtain ⟨e, y⟩ := y
    subst e
    exact hs i x _ (y xs q) p
  · have e : i = xs.length := by omega
    subst e
    exact .inl ⟨⟨xs, q, Nat.le_refl _⟩, hd F p⟩
theorem cnt_add : ∀ {ns : List Str} {S : Str → Bool} {c : Str}, ns.Nodup → c ∈ ns → S c = false → (ns.filter fun j => S j || decide (j = c)).length = (ns.filter S).length + 1
  | [], _, _, _, h, _ => by cases h
  | a :: l, S, c, nd, hc, h => by
    obtain ⟨na, nl⟩ := List.nodup_cons.mp nd
    by_cases e : a = c
    · subst e
      have e1 : (l.filter fun j => S j || decide (j = a)) = l.filter S := List.filter_congr fun j hj => by
        have : j ≠ a := fun z => na (by rw [← z]; exact hj)
        simp [this]
      rw [List.filter_cons, List.filter_cons, if_pos (by simp), if_neg (by rw [h]; exact Bool.false_ne_true), e1, List.length_cons]
    · have hc' : c ∈ l := by
        rcases List.mem_cons.mp hc with z | z
        · exact absurd z.symm e
        · exact z
      have ih := cnt_add nl hc' h
      rw [List.filter_cons, List.filter_cons]
      have e2 : (S a || decide (a = c)) = S a := by simp [e]
      rw [e2]
      cases S a with
      | true => simpa using ih
      | false => simpa using ih
theorem cnt_none : ∀ ns : List Str, 0 = (ns.filter fun _ => false).length
  | [] => rfl
  | _ :: l => cnt_none l
theorem cnt_same {S : Str → Bool} {c : Str} (h : S c = true) : (fun j => S j || decide (j = c)) = S := by
  funext j
  by_cases e : j = c
  · rw [e, h]
    rfl
  · simp [e]
abbrev tOpens : Stmt := tp 3
section
variable {P : Program} {w : World} {K : PySem.W.Frag} {mg : Str → Option Value} {base : Heap}
/-! opens_in -/
theorem scOpens : FnScope ["kind", "part"] ["kind"] (defScope tOpens) := ⟨rfl, rfl, rfl, by decide +kernel, rfl, by decide +kernel, by decide +kernel⟩
def spOpens : Sp := fun vs H Q _ => ∃ (v : V) (t : Kd), vs = [v] ∧ Rp H t v ∧ t.size ≤ 900 ∧ (∃ ns : List Str, ns.Nodup ∧ ns.length ≤ 40 ∧ ∀ x ∈ t.opens, x ∈ ns) ∧ ∀ (p : Addr) (ys : List Str) (G : Hp), Same H G → G p = some (.tup (ys.map V.str)) → sortedS ys = true → ys.Nodup → (∀ k, k ∈ ys ↔ k ∈ t.opens) → Q (.ref p) G
theorem okOpens {f fP : Addr} {fd fdP : FuncData} {k : Nat} (F : Fun K "opens_in" "opens_in" tOpens f fd) (GP : FnOk P w K mg base CX0 (k + 2) fP fdP ["kind"] spParts) (bP : Binds K fdP ["kind"] []) (gP : mg "parts_of" = some (.ref fP)) (kP : PySem.W.keepIn K (.ref fP) = true)
    (mt : mg "tuple" = none) (ms : mg "sorted" = none) : FnOk P w K mg base CX0 (k + 3) f fd ["kind"] spOpens := by
  refine F.ok scOpens (fun vs H Q E h => ?_) (fun cdv A outer s H vs Q E hr h => ?_)
  · obtain ⟨v, t, rfl, _⟩ := h
    rfl
  obtain ⟨v, t, rfl, r, hz, ⟨ns, nsd, nsl, nso⟩, q⟩ := h
  refine ⟨_, pss_one (ps_ret (pe_callTy call_tuple_of (by rfl) mt PyProof.Rows.boot_tuple (pa_cons (pe_callB (Ks.cr_sortT rfl) (by rfl) ms PyProof.Rows.boot_sorted (pa_cons
    (Ks.pe_scT (own := [("part", 1)]) (g := gName 1) (by rfl) scOpens.nd (pi_list (pe_call GP hr (by rfl) gP kP bP .nil pass0 (pa_cons (pv 0) pa_nil))) (blkOk_by (own := [("part", 1)]) (N := ["kind", "part"]) (sc := defScope tOpens) (by decide +kernel))
      (fun _ _ _ _ _ => pg_name (i := 1) scOpens.nd rfl (.inl rfl)) (fun _ _ _ _ _ => pts_one (pt_cmpR op_eq (pe_ix (ixTK K rfl) (pv 1) pe_int (fun _ _ => rfl)) pe_str (nomark _)))
      (fun _ _ _ _ _ => pe_ix (ixTK K rfl) (pv 1) pe_int (fun _ _ => rfl))) pa_nil)) pa_nil))), ?_⟩
  refine ⟨_, rfl, v, t, rfl, r, by omega, fun p ts us G sG gp rt pm => ⟨p, rfl, ⟨_, SqL.of gp⟩, fun D nD => ?_⟩⟩
  have lt : ts.length ≤ 900 := by rw [pm.length_eq]; exact hz
  have l1 := rt.len
  refine sc_list (xs := us) (fun i F => Same G F ∧ ∃ S n, F D = some (Ks.SetH w D S n) ∧ n = (ns.filter S).length ∧ ∀ k, S k = true ↔ k ∈ (ts.take i).filterMap Kd.nm?) ⟨newS nD, fun _ => false, 0, upd_same, cnt_none ns, fun k => ?_⟩ (fun i F _ z => SqL.of (z.1 _ _ gp)) (fun i x F hx z => ?_) (fun F z => ?_)
  · rw [List.take_zero]
    exact ⟨fun z => (nomatch z), fun z => (nomatch z)⟩
  · obtain ⟨sF, S, n, gD, hn, hS⟩ := z
    obtain ⟨c, hc, rx⟩ := rt.get hx
    obtain ⟨a, ws, rfl, ha, hw⟩ := (rx.tk (Tk.of sF)).see
    have li : i < us.length := (List.getElem?_eq_some_iff.mp hx).1
    have tk : ts.take (i + 1) = ts.take i ++ [c] := by rw [List.take_add_one, hc]; rfl
    refine ⟨rfl, _, rfl, a, _, _, _, rfl, rfl, SqT.of ha, atI_nat (j := 0) rfl, rfl, _, rfl, ?_⟩
    rw [Kd.isOp_word]
    refine ite2 (fun e => ?_) (fun e => ?_)
    · rcases hw with hw | ⟨y, rfl, rfl⟩
      · rw [hw.1] at e
        cases e
      · refine ⟨_, rfl, a, _, _, _, rfl, rfl, SqT.of ha, atI_nat (j := 1) rfl, y, S, n, rfl, gD, ?_, smk sF nD, _, _, upd_same, ?_, fun k => ?_⟩
        · show n + 1 < scanBound
          have : scanBound = 4096 := rfl
          have := List.length_filter_le S ns
          omega
        · have hyn : y ∈ ns := by
            refine nso y ?_
            rw [← Kd.opens_nodes t]
            refine List.mem_filterMap.mpr ⟨.opn y, ?_, rfl⟩
            exact pm.mem_iff.mp (List.mem_of_getElem? hc)
          split
          · rename_i hSy
            rw [cnt_same hSy]
            exact hn
          · rename_i hSy
            rw [cnt_add nsd hyn (by simpa using hSy), hn]
        · rw [tk, List.filterMap_append, List.mem_append, Bool.or_eq_true, decide_eq_true_eq, hS k]
          show _ ↔ _ ∨ k ∈ [y]
          rw [List.mem_singleton]
    · refine ⟨sF, S, n, gD, hn, fun k => ?_⟩
      have none : c.nm? = none := by
        cases c with
        | opn x => exact absurd rfl e
        | _ => rfl
      rw [tk, List.filterMap_append, List.mem_append, hS k]
      simp [none]
  · obtain ⟨sF, S, n, gD, hn, hS⟩ := z
    rw [← l1, List.take_length] at hS
    have nl := List.length_filter_le S ns
    refine ⟨D, S, n, rfl, gD, by omega, fun ys l hs hd hm _ nl' => ?_⟩
    refine ⟨l, _, rfl, .inl ⟨SqL.of upd_same, fun m nm => ?_⟩⟩
    refine q m ys _ (sG.trans (sF.trans ((newS nl').trans (newS nm)))) upd_same hs hd (fun k => ?_)
    rw [hm k, hS k, ← Kd.opens_nodes t]
    exact (pm.filterMap Kd.nm?).mem_iff
end
end Kq

namespace Kq
open PySem PySem.Spec PyProof.Rows L2
theorem Nm.ok {x : Str} (h : Nm x) : PyData.strOk x = true := by
  unfold PyData.strOk
  rw [← Array.all_toList, List.all_eq_true]
  intro c hc
  have := (h.low c hc).2
  exact decide_eq_true (by omega)
theorem dpStrs (K : PySem.W.Frag) (H : Hp) : ∀ xs : List Str, DpAll K H (xs.map V.str) (xs.map PyData.str)
  | [] => .nil
  | x :: xs => .cons (.str x) (dpStrs K H xs)
theorem layStrs : ∀ xs : List Str, (∀ x ∈ xs, Nm x) → PyData.canLayAll0 (xs.map PyData.str) = true ∧ PyData.depthAll (xs.map PyData.str) = 0
  | [], _ => ⟨by simp [PyData.canLayAll0], by simp [PyData.depthAll]⟩
  | x :: xs, h => by
    obtain ⟨a, b⟩ := layStrs xs fun y hy => h y (List.mem_cons_of_mem _ hy)
    have c := (h x List.mem_cons_self).ok
    exact ⟨by simp [PyData.canLayAll0, PyData.canLay0, a, c], by simp [PyData.depthAll, PyData.depth, b]⟩
theorem shStrs {xs : List Str} (h : ∀ x ∈ xs, Nm x) : SeqAt.shaped (.list (xs.map PyData.str)) = true := by
  obtain ⟨a, b⟩ := layStrs xs h
  simp [SeqAt.shaped, PyData.canLay0, PyData.depth, a, b]
theorem eqvNil (xs : List Str) : PyData.eqv (.list (xs.map PyData.str)) (.list []) = xs.isEmpty := by
  cases xs <;> simp [PyData.eqv, PyData.eqvAll]
def sb : Nat → Nat
  | 0 => 1
  | n + 1 => 2 * sb n + 1
theorem sb_pos (n : Nat) : 1 ≤ sb n := by
  cases n with
  | zero => exact Nat.le_refl _
  | succ n =>
    show 1 ≤ 2 * sb n + 1
    omega
namespace Kd
theorem size2 (a b : Kd) : (pair a b).size = a.size + b.size + 1 ∧ (eith a b).size = a.size + b.size + 1 ∧ (lst a).size = a.size + 1 := by
  refine ⟨?_, ?_, rfl⟩
  · show (a.nodes ++ b.nodes).length + 1 = _
    rw [List.length_append]
    rfl
  · show (a.nodes ++ b.nodes).length + 1 = _
    rw [List.length_append]
    rfl
theorem opens_le (t : Kd) : t.opens.length ≤ t.size := by
  rw [← opens_nodes]
  exact List.length_filterMap_le _ _
theorem kids_size (t : Kd) : t.size = 1 + (t.kids.map size).sum := by
  cases t with
  | opn x => rfl
  | num => rfl
  | tru => rfl
  | pair a b =>
    rw [(size2 a b).1]
    show _ = 1 + (a.size + (b.size + 0))
    omega
  | eith a b =>
    rw [(size2 a b).2.1]
    show _ = 1 + (a.size + (b.size + 0))
    omega
  | lst a =>
    rw [(size2 a a).2.2]
    show _ = 1 + (a.size + 0)
    omega
  | fn a b =>
    rw [size_fn]
    show _ = 1 + (a.size + (b.size + 0))
    omega
theorem kids_opens {t : Kd} (h : t.isOp = false) : t.opens = t.kids.flatMap opens := by
  cases t <;> simp_all [opens, kids, isOp]
theorem kids_dp {t u : Kd} (h : u ∈ t.kids) : u.dp + 1 ≤ t.dp := by
  cases t with
  | opn x => cases h
  | num => cases h
  | tru => cases h
  | pair a b =>
    have : u = a ∨ u = b := by simpa [kids] using h
    rcases this with rfl | rfl <;> simp only [dp] <;> omega
  | eith a b =>
    have : u = a ∨ u = b := by simpa [kids] using h
    rcases this with rfl | rfl <;> simp only [dp] <;> omega
  | lst a =>
    have : u = a := by simpa [kids] using h
    subst this
    simp only [dp]
    omega
  | fn a b =>
    have : u = a ∨ u = b := by simpa [kids] using h
    rcases this with rfl | rfl <;> simp only [dp] <;> omega
theorem kids_le (t : Kd) : t.kids.length ≤ 2 := by
  cases t <;> simp [kids]
end Kd
theorem isiK {X : Cx} (K : PySem.W.Frag) (h : X.K = K) : CallR X (.builtin "isinstance") (rIsi K) := by
  subst h
  exact call_isi
theorem slTK {X : Cx} (K : PySem.W.Frag) (h : X.K = K) : SlR X (rSlT K) := by
  subst h
  exact sl_tup
theorem le_sum {l : List Nat} {x : Nat} (h : x ∈ l) : x ≤ l.sum := by
  induction l with
  | nil => cases h
  | cons y l ih =>
    rw [List.sum_cons]
    rcases List.mem_cons.mp h with z | z
    · omega
    · have := ih z
      omega
theorem RpL.mem {H : Hp} {ts : List Kd} {vs : List V} {i : Nat} {t : Kd} (h : ts[i]? = some t) : t ∈ ts := List.mem_of_getElem? h

structure Dta (g : Nat) (xs : List Str) (t : Kd) : Prop where
  nf : t.isFn = false
  dp : t.dp ≤ g
  sz : t.size ≤ sb g
  op : ∀ x ∈ t.opens, x ∈ xs
abbrev tData : Stmt := tp 13
abbrev psData : List Str := ["_law_deck_here", "_law_opens_here", "_law_deep", "_law_small"]
abbrev nData : List Str := ["_law_deck_here", "_law_opens_here", "_law_deep", "_law_small", "_law_way", "_law_first"]
section
variable {P : Program} {w : World} {K : PySem.W.Frag} {mg : Str → Option Value} {base : Heap}
theorem noFn {f : Addr} {fd : FuncData} {ps : List Str} {sp : Sp} {k : Nat} (no : ∀ vs H Q E, ¬ sp vs H Q E) : FnOk P w K mg base CX0 k f fd ps sp :=
  ⟨fun vs H Q E h => absurd h (no vs H Q E), fun A outer s H args us vs Q E _ _ _ _ h => absurd h (no vs H Q E)⟩

theorem scData : FnScope nData psData (defScope tData) := ⟨rfl, rfl, rfl, by decide +kernel, rfl, by decide +kernel, by decide +kernel⟩
def spData (n : Nat) : Sp := fun vs H Q _ => ∃ (d c o : Addr) (xs : List Str) (g : Nat) (b : Bool), vs = [.ref d, .ref o, .int (g : Int), .bl b] ∧ g + 1 ≤ n ∧ Dk H d c ∧ H o = some (.lst (xs.map V.str)) ∧ o ≠ d ∧ o ≠ c ∧ xs.length ≤ 26 ∧ (∀ x ∈ xs, Nm x) ∧
  ∀ (v : V) (t : Kd) (G : Hp), Kp d c H G → Dk G d c → Rp G t v → Dta g xs t → Q v G
theorem okData1 {f fD fP : Addr} {fd fdD fdP : FuncData} {n : Nat} (F : Fun K "_law_data" "_law_data" tData f fd) (bF : Binds K fd psData []) (gF : mg "_law_data" = some (.ref f))
    (GD : FnOk P w K mg base CX0 (n + 2) fD fdD ["_law_deck_here", "_law_most"] spDraw) (bD : Binds K fdD ["_law_deck_here", "_law_most"] []) (gD : mg "_law_draw" = some (.ref fD)) (kD : PySem.W.keepIn K (.ref fD) = true)
    (GP : FnOk P w K mg base CX0 (n + 2) fP fdP psPick spPick) (bP : Binds K fdP psPick []) (gP : mg "_law_pick" = some (.ref fP)) (kP : PySem.W.keepIn K (.ref fP) = true) (mi : mg "int" = none)
    (GI : FnOk P w K mg base CX0 (n + 2) f fd psData (spData n)) : FnOk P w K mg base CX0 (n + 3) f fd psData (spData (n + 1)) := by
  refine F.ok scData (fun vs H Q E h => ?_) (fun cdv A outer s H vs Q E hr h => ?_)
  · obtain ⟨d, c, o, xs, g, b, rfl, _⟩ := h
    rfl
  obtain ⟨d, c, o, xs, g, b, rfl, hg, dk, ho, od, oc, lx, hx, q⟩ := h
  refine ⟨_, pss_cons (ps_set (i := 4) scData.nd rfl (.inl rfl) (pe_call GD hr (by rfl) gD kD bD .nil pass0 (pa_cons (pv 0) (pa_cons (pe_ix ix_list (pe_lst (pa_cons pe_int (pa_cons pe_int pa_nil))) (pe_callTy call_int1 (by rfl) mi (by decide +kernel) (pa_cons (pv 3) pa_nil)) (fun _ _ => rfl)) pa_nil))))
    (C8.pss_cut (ps_if (PW.pt (pw_and (pt_cmpR op_lt (pv 4) pe_int (nomark _)) (pw_and1 (pt_cmpR (op_neD hr.units) (pv 1) (pe_lst pa_nil) (nomark _)))))
      (pss_one (ps_ret (pe_tup (pa_cons pe_str (pa_cons (pe_call GP hr (by rfl) gP kP bP .nil pass0 (pa_cons (pv 0) (pa_cons (pv 1) pa_nil))) pa_nil))))) pss_nil)
    (pss_cons (ps_if (PW.pt (pw_or (pt_cmpR op_eq (pv 2) pe_int (nomark _)) (pw_or1 (pt_cmpR op_lt (pv 4) pe_int (nomark _)))))
      (pss_one (ps_ret (pe_call GP hr (by rfl) gP kP bP .nil pass0 (pa_cons (pv 0) (pa_cons (pe_lst (pa_cons (pe_tup (pa_cons pe_str pa_nil)) (pa_cons (pe_ix ix_list (pe_lst (pa_cons (pe_tup (pa_cons pe_str pa_nil)) (pa_cons (pe_tup (pa_cons pe_str pa_nil)) pa_nil))) (pe_callTy call_int1 (by rfl) mi (by decide +kernel) (pa_cons (pv 3) pa_nil)) (fun _ _ => rfl)) pa_nil))) pa_nil))))) pss_nil)
    (pss_cons (ps_if (pt_cmpR op_gt (pv 4) pe_int (nomark _))
      (pss_one (ps_ret (pe_tup (pa_cons pe_str (pa_cons (pe_call GI hr (by rfl) gF F.kp bF .nil pass0 (pa_cons (pv 0) (pa_cons (pv 1) (pa_cons (pe_op op_sub (pv 2) pe_int) (pa_cons (pv 3) pa_nil))))) pa_nil))))) pss_nil)
    (pss_cons (ps_set (i := 5) scData.nd rfl (.inl rfl) (pe_call GI hr (by rfl) gF F.kp bF .nil pass0 (pa_cons (pv 0) (pa_cons (pv 1) (pa_cons (pe_op op_sub (pv 2) pe_int) (pa_cons (pv 3) pa_nil))))))
    (pss_one (ps_ret (pe_tup (pa_cons (pe_ix ix_list (pe_lst (pa_cons pe_str (pa_cons pe_str pa_nil))) (pe_op op_sub (pv 4) pe_int) (fun _ _ => rfl)) (pa_cons (pv 5) (pa_cons (pe_call GI hr (by rfl) gF F.kp bF .nil pass0 (pa_cons (pv 0) (pa_cons (pv 1) (pa_cons (pe_op op_sub (pv 2) pe_int) (pa_cons (pv 3) pa_nil))))) pa_nil)))))))))), ?_⟩
  obtain ⟨mm, em, mm0, mm1⟩ : ∃ mm : Int, atI [V.int 10, V.int 8] (if b then (1 : Int) else 0) = some (.int mm) ∧ 0 < mm ∧ mm < 1000 := by
    cases b
    · exact ⟨10, rfl, by decide, by decide⟩
    · exact ⟨8, rfl, by decide, by decide⟩
  refine ⟨_, rfl, (by show 2 ≤ sizeLine; decide), fun l0 nl0 => ⟨_, rfl, .inr ⟨b, rfl, l0, _, _, _, rfl, rfl, SqL.of upd_same, em, d, c, mm, rfl, dk.same (newS nl0), mm0, mm1, fun way G1 w0 w1 kp1' dk1 => ?_⟩⟩⟩
  have kp1 : Kp d c H G1 := (Kp.of (newS nl0)).trans kp1'
  have ho1 := kp1 o _ od oc ho
  refine ⟨fun σ G => σ = [some (.ref d), some (.ref o), some (.int g), some (.bl b), some (.int way), none] ∧ Kp d c H G ∧ Dk G d c ∧ G o = some (.lst (xs.map V.str)), ?_, ?b2⟩
  refine ⟨_, rfl, _, _, rfl, rfl, _, rfl, ?_⟩
  refine ite2 (fun _ => ⟨_, rfl, Nat.zero_le _, fun e ne => ⟨.list (xs.map PyData.str), .list [], .lst (SqL.of (newS ne _ _ ho1)) (dpStrs K _ xs), .lst (SqL.of upd_same) .nil, shStrs hx, rfl, _, rfl, ite2 (fun c1 => ?b1) (fun _ => ⟨rfl, kp1.trans (Kp.of (newS ne)), dk1.same (newS ne), newS ne _ _ ho1⟩)⟩⟩) (fun _ => iteF ⟨rfl, kp1, dk1, ho1⟩)
  case b1 =>
    have ho2 := newS (o := .lst []) ne _ _ ho1
    have dk2 := dk1.same (newS (o := .lst []) ne)
    have kp2 : Kp d c H (upd G1 e (.lst [])) := kp1.trans (Kp.of (newS ne))
    rw [eqvNil] at c1
    have l0 : 0 < xs.length := by
      cases xs with
      | nil => cases c1
      | cons x r => exact Nat.succ_pos _
    refine ⟨_, rfl, _, rfl, d, c, o, _, rfl, dk2, ho2, od, oc, by rw [List.length_map]; omega, by rw [List.length_map]; omega, fun v G3 kp3 dk3 hv => ?_⟩
    obtain ⟨x, hxm, rfl⟩ := List.mem_map.mp hv
    refine ⟨(by show 2 ≤ sizeLine; decide), fun p np => ?_⟩
    refine q (.ref p) (.opn x) _ ((kp2.trans kp3).trans (Kp.of (newS np))) (dk3.same (newS np)) ⟨p, rfl, upd_same⟩ ⟨rfl, Nat.zero_le _, sb_pos g, fun y hy => ?_⟩
    rw [List.mem_singleton.mp hy]
    exact hxm
  case b2 =>
    rintro σ G ⟨rfl, kp, dkG, hoG⟩
    refine ⟨_, rfl, rfl, _, rfl, (fun h3 => ite2 (fun _ => iteT h3) (fun hdeep => ⟨_, rfl, _, _, rfl, rfl, _, rfl, ite2 (fun _ => h3) (fun hw6 => ?deep)⟩)) ?leaf⟩
    case leaf =>
      refine ⟨_, rfl, (by show 1 ≤ sizeLine; decide), fun p1 n1 => ⟨(by show 1 ≤ sizeLine; decide), fun p2 n2 => ⟨(by show 1 ≤ sizeLine; decide), fun p3 n3 => ⟨(by show 2 ≤ sizeLine; decide), fun l1 nl1 => ?_⟩⟩⟩⟩
      have s1 := newS (o := .tup [.str "truth"]) n1
      have s2 := newS (o := .tup [.str "num"]) n2
      have s3 := newS (o := .tup [.str "truth"]) n3
      have s4 := newS (o := .lst [V.ref p2, .ref p3]) nl1
      have s14 := s1.trans (s2.trans (s3.trans s4))
      have g1 := s4 _ _ (s3 _ _ (s2 p1 _ upd_same))
      have g2 := s4 _ _ (s3 p2 _ upd_same)
      have g3 := s4 p3 _ upd_same
      obtain ⟨v, ev, tv, rvv, dtv⟩ : ∃ v, atI [V.ref p2, V.ref p3] (if b then (1 : Int) else 0) = some v ∧ ∃ t, Rp (upd (upd (upd (upd G p1 (.tup [.str "truth"])) p2 (.tup [.str "num"])) p3 (.tup [.str "truth"])) l1 (.lst [V.ref p2, .ref p3])) t v ∧ (t = .num ∨ t = .tru) := by
        cases b
        · exact ⟨.ref p2, rfl, .num, ⟨p2, rfl, g2⟩, .inl rfl⟩
        · exact ⟨.ref p3, rfl, .tru, ⟨p3, rfl, g3⟩, .inr rfl⟩
      refine ⟨_, rfl, .inr ⟨b, rfl, l1, _, _, v, rfl, rfl, SqL.of upd_same, ev, (by show 2 ≤ sizeLine; decide), fun l2 nl2 => ?_⟩⟩
      have s5 := newS (o := .lst [V.ref p1, v]) nl2
      have off := (dkG.same s14).off nl2
      refine ⟨d, c, l2, _, rfl, dkG.same (s14.trans s5), upd_same, off.1, off.2, by show 1 ≤ 2; decide, by show 2 ≤ 100; decide, fun u G3 kp3 dk3 hu => ?_⟩
      have kpf := (kp.trans (Kp.of (s14.trans s5))).trans kp3
      have tk := (Tk.of s5).trans (Tk.kp kp3 (dkG.same (s14.trans s5)))
      rcases List.mem_cons.mp hu with e | hu
      · rw [e]
        exact q _ .tru _ kpf dk3 ⟨p1, rfl, tk _ _ g1⟩ ⟨rfl, Nat.zero_le _, sb_pos g, fun x z => (nomatch z)⟩
      · rw [List.mem_singleton.mp hu]
        rcases dtv with e | e
        · rw [e] at rvv
          exact q _ .num _ kpf dk3 (rvv.tk tk) ⟨rfl, Nat.zero_le _, sb_pos g, fun x z => (nomatch z)⟩
        · rw [e] at rvv
          exact q _ .tru _ kpf dk3 (rvv.tk tk) ⟨rfl, Nat.zero_le _, sb_pos g, fun x z => (nomatch z)⟩
    case deep =>
      obtain ⟨j, rfl⟩ : ∃ j, g = j + 1 := by
        cases g with
        | zero => exact absurd (decide_eq_true rfl) hdeep
        | succ j => exact ⟨j, rfl⟩
      have ej : ((j + 1 : Nat) : Int) - 1 = ((j : Nat) : Int) := by omega
      have eL : [V.ref d, V.ref o, V.int (((j + 1 : Nat) : Int) - 1), V.bl b] = [V.ref d, V.ref o, V.int ((j : Nat) : Int), V.bl b] := by rw [ej]
      have w6 : ¬ way < 6 := fun z => hw6 (decide_eq_true z)
      refine ⟨_, rfl, _, _, rfl, rfl, _, rfl, ite2 (fun _ => ?_) (fun hw7 => ?_)⟩
      · refine ⟨_, rfl, _, rfl, _, rfl, _, _, rfl, rfl, _, rfl, d, c, o, xs, j, b, eL, by omega, dkG, hoG, od, oc, lx, hx, fun va a G3 kp3 dk3 ra da => ?_⟩
        refine ⟨(by show 2 ≤ sizeLine; decide), fun p np => ?_⟩
        have s := newS (o := .tup [.str "list", va]) np
        refine q _ (.lst a) _ ((kp.trans kp3).trans (Kp.of s)) (dk3.same s) ⟨p, va, rfl, upd_same, ra.tk (Tk.of s)⟩ ⟨rfl, ?_, ?_, da.op⟩
        · have := da.dp
          show a.dp + 1 ≤ j + 1
          omega
        · have := da.sz
          rw [(Kd.size2 a a).2.2]
          show _ ≤ 2 * sb j + 1
          omega
      · have w7 : ¬ 7 < way := fun z => hw7 (decide_eq_true z)
        obtain ⟨wd, mk, ew, m0, m1, m2, m3, m4⟩ : ∃ (wd : Str) (mk : Kd → Kd → Kd), atI [V.str "pair", V.str "either"] (way - 6) = some (.str wd) ∧ (∀ a b F x y pp, F pp = some (.tup [.str wd, x, y]) → Rp F a x → Rp F b y → Rp F (mk a b) (.ref pp)) ∧
            (∀ a b, (mk a b).isFn = false) ∧ (∀ a b, (mk a b).dp = max a.dp b.dp + 1) ∧ (∀ a b, (mk a b).size = a.size + b.size + 1) ∧ (∀ a b, (mk a b).opens = a.opens ++ b.opens) := by
          have er : way = 6 ∨ way = 7 := by omega
          rcases er with rfl | rfl
          · exact ⟨"pair", .pair, rfl, fun a b F x y pp h1 h2 h3 => ⟨pp, x, y, rfl, h1, h2, h3⟩, fun _ _ => rfl, fun _ _ => rfl, fun a b => (Kd.size2 a b).1, fun _ _ => rfl⟩
          · exact ⟨"either", .eith, rfl, fun a b F x y pp h1 h2 h3 => ⟨pp, x, y, rfl, h1, h2, h3⟩, fun _ _ => rfl, fun _ _ => rfl, fun a b => (Kd.size2 a b).2.1, fun _ _ => rfl⟩
        refine ⟨_, rfl, _, rfl, _, rfl, _, _, rfl, rfl, _, rfl, d, c, o, xs, j, b, eL, by omega, dkG, hoG, od, oc, lx, hx, fun va a G3 kp3 dk3 ra da => ?_⟩
        refine ⟨(by show 2 ≤ sizeLine; decide), fun l nl => ⟨_, rfl, _, _, rfl, rfl, l, _, _, _, rfl, rfl, SqL.of upd_same, ew, ?_⟩⟩
        have sl := newS (o := .lst [V.str "pair", V.str "either"]) nl
        have ho3 := kp3 o _ od oc hoG
        refine ⟨_, rfl, _, rfl, _, rfl, _, rfl, _, _, rfl, rfl, _, rfl, d, c, o, xs, j, b, eL, by omega, dk3.same sl, sl _ _ ho3, od, oc, lx, hx, fun vb b' G4 kp4 dk4 rb db => ?_⟩
        refine ⟨(by show 3 ≤ sizeLine; decide), fun p np => ?_⟩
        have s := newS (o := .tup [.str wd, va, vb]) np
        refine q _ (mk a b') _ ((((kp.trans kp3).trans (Kp.of sl)).trans kp4).trans (Kp.of s)) (dk4.same s) (m0 a b' _ _ _ p upd_same (((ra.tk (Tk.of sl)).tk (Tk.kp kp4 (dk3.same sl))).tk (Tk.of s)) (rb.tk (Tk.of s))) ⟨m1 a b', ?_, ?_, fun x hx' => ?_⟩
        · have := da.dp
          have := db.dp
          rw [m2]
          omega
        · have := da.sz
          have := db.sz
          rw [m3]
          show _ ≤ 2 * sb j + 1
          omega
        · rw [m4] at hx'
          rcases List.mem_append.mp hx' with z | z
          · exact da.op x z
          · exact db.op x z
theorem okData {f fD fP : Addr} {fd fdD fdP : FuncData} (F : Fun K "_law_data" "_law_data" tData f fd) (bF : Binds K fd psData []) (gF : mg "_law_data" = some (.ref f))
    (FD : Fun K "_law_draw" "_law_draw" tDraw fD fdD) (bD : Binds K fdD ["_law_deck_here", "_law_most"] []) (gD : mg "_law_draw" = some (.ref fD)) (FP : Fun K "_law_pick" "_law_pick" tPick fP fdP) (bP : Binds K fdP psPick []) (gP : mg "_law_pick" = some (.ref fP)) (mi : mg "int" = none) (mn : mg "len" = none) :
    ∀ n, FnOk P w K mg base CX0 (n + 2) f fd psData (spData n)
  | 0 => noFn fun vs H Q E h => by
    obtain ⟨d, c, o, xs, g, b, _, hg, _⟩ := h
    omega
  | n + 1 => okData1 F bF gF (okDraw FD) bD gD FD.kp (okPick FP (okDraw FD) bD gD FD.kp mn) bP gP FP.kp mi (okData F bF gF FD bD gD FP bP gP mi mn n)
end
end Kq

namespace Kq
open PySem PySem.Spec PyProof.Rows L2
structure Bd (d z : Nat) (xs : List Str) (t : Kd) : Prop where
  dp : t.dp ≤ d
  sz : t.size ≤ z
  op : ∀ x ∈ t.opens, x ∈ xs
theorem Dta.bd {g d z : Nat} {xs : List Str} {t : Kd} (h : Dta g xs t) (hd : g ≤ d) (hz : sb g ≤ z) : Bd d z xs t := ⟨by have := h.dp; omega, by have := h.sz; omega, h.op⟩
theorem Bd.fn {d z d' z' : Nat} {xs : List Str} {a b : Kd} (ha : Bd d' z' xs a) (hb : Bd d z xs b) (hd : d' ≤ d) : Bd (d + 1) (z + (z' + 1)) xs (.fn a b) := by
  refine ⟨?_, ?_, fun x hx => ?_⟩
  · have := ha.dp
    have := hb.dp
    show max a.dp b.dp + 1 ≤ _
    omega
  · have := ha.sz
    have := hb.sz
    rw [Kd.size_fn]
    omega
  · rcases List.mem_append.mp (show x ∈ a.opens ++ b.opens from hx) with z | z
    · exact ha.op x z
    · exact hb.op x z
theorem Bd.mono {d z d' z' : Nat} {xs : List Str} {t : Kd} (h : Bd d z xs t) (hd : d ≤ d') (hz : z ≤ z') : Bd d' z' xs t := ⟨by have := h.dp; omega, by have := h.sz; omega, h.op⟩
abbrev tHanded : Stmt := tp 14
abbrev tWalked : Stmt := tp 15


abbrev psTwo : List Str := ["_law_deck_here", "_law_opens_here"]
section
variable {P : Program} {w : World} {K : PySem.W.Frag} {mg : Str → Option Value} {base : Heap}
theorem scHanded : FnScope ["_law_deck_here", "_law_opens_here", "_law_way", "_law_kind", "_law_k"] psTwo (defScope tHanded) := ⟨rfl, rfl, rfl, by decide +kernel, rfl, by decide +kernel, by decide +kernel⟩
def spHanded : Sp := fun vs H Q _ => ∃ (d c o : Addr) (xs : List Str), vs = [.ref d, .ref o] ∧ Dk H d c ∧ H o = some (.lst (xs.map V.str)) ∧ o ≠ d ∧ o ≠ c ∧ xs.length ≤ 26 ∧ (∀ x ∈ xs, Nm x) ∧
  ∀ (v : V) (t : Kd) (G : Hp), Kp d c H G → Dk G d c → Rp G t v → Bd 3 11 xs t → Q v G
theorem okHanded {f fD fP fT : Addr} {fd fdD fdP fdT : FuncData} (F : Fun K "_law_handed" "_law_handed" tHanded f fd)
    (GD : FnOk P w K mg base CX0 6 fD fdD ["_law_deck_here", "_law_most"] spDraw) (bD : Binds K fdD ["_law_deck_here", "_law_most"] []) (gD : mg "_law_draw" = some (.ref fD)) (kD : PySem.W.keepIn K (.ref fD) = true)
    (GP : FnOk P w K mg base CX0 6 fP fdP psPick spPick) (bP : Binds K fdP psPick []) (gP : mg "_law_pick" = some (.ref fP)) (kP : PySem.W.keepIn K (.ref fP) = true)
    (GT : FnOk P w K mg base CX0 6 fT fdT psData (spData 4)) (bT : Binds K fdT psData []) (gT : mg "_law_data" = some (.ref fT)) (kT : PySem.W.keepIn K (.ref fT) = true) (mi : mg "int" = none) (mr : mg "range" = none) : FnOk P w K mg base CX0 7 f fd psTwo spHanded := by
  refine F.ok scHanded (fun vs H Q E h => ?_) (fun cdv A outer s H vs Q E hr h => ?_)
  · obtain ⟨d, c, o, xs, rfl, _⟩ := h
    rfl
  obtain ⟨d, c, o, xs, rfl, dk, ho, od, oc, lx, hx, q⟩ := h
  refine ⟨_, pss_cons (ps_set (i := 2) scHanded.nd rfl (.inl rfl) (pe_call GD hr (by rfl) gD kD bD .nil pass0 (pa_cons (pv 0) (pa_cons pe_int pa_nil))))
    (pss_cons (ps_set (i := 3) scHanded.nd rfl (.inl rfl) (pe_ix ix_list (pe_lst (pa_cons (pe_tup (pa_cons pe_str pa_nil)) (pa_cons (pe_call GT hr (by rfl) gT kT bT .nil pass0 (pa_cons (pv 0) (pa_cons (pv 1) (pa_cons pe_int (pa_cons pe_bl pa_nil))))) pa_nil))) (pe_callTy call_int1 (by rfl) mi (by decide +kernel) (pa_cons (pe_cmpR op_eq (pv 2) pe_int (nomark _)) pa_nil)) (fun _ _ => rfl)))
    (C8.pss_cut (ps_if (PW.pt (pw_and (pt_cmpR op_lt (pv 2) pe_int (nomark _)) (pw_and1 (pt_cmpR (op_neD hr.units) (pv 1) (pe_lst pa_nil) (nomark _)))))
      (pss_one (ps_set (i := 3) scHanded.nd rfl (.inl rfl) (pe_tup (pa_cons pe_str (pa_cons (pe_call GP hr (by rfl) gP kP bP .nil pass0 (pa_cons (pv 0) (pa_cons (pv 1) pa_nil))) pa_nil))))) pss_nil)
    (pss_cons (ps_for PassesOwn.never rfl (pi_range1 (by rfl) mr (pa_cons (pe_op op_add pe_int (pe_call GD hr (by rfl) gD kD bD .nil pass0 (pa_cons (pv 0) (pa_cons pe_int pa_nil)))) pa_nil)) (pg_name (i := 4) scHanded.nd rfl (.inl rfl))
      (pss_one (ps_set (i := 3) scHanded.nd rfl (.inl rfl) (pe_tup (pa_cons pe_str (pa_cons (pe_call GT hr (by rfl) gT kT bT .nil pass0 (pa_cons (pv 0) (pa_cons (pv 1) (pa_cons (pe_call GD hr (by rfl) gD kD bD .nil pass0 (pa_cons (pv 0) (pa_cons pe_int pa_nil))) (pa_cons pe_bl pa_nil))))) (pa_cons (pv 3) pa_nil)))))))
    (pss_one (ps_ret (pv 3)))))), ?_⟩
  refine ⟨_, rfl, d, c, 8, rfl, dk, by decide, by decide, fun way G1 w0 w1 kp1 dk1 => ?_⟩
  have ho1 := kp1 o _ od oc ho
  refine ⟨(by show 1 ≤ sizeLine; decide), fun p1 n1 => ?_⟩
  have s1 := newS (o := .tup [.str "truth"]) n1
  refine ⟨_, rfl, _, rfl, d, c, o, xs, 1, false, rfl, by decide, dk1.same s1, s1 _ _ ho1, od, oc, lx, hx, fun va a G2 kp2 dk2 ra da => ?_⟩
  refine ⟨(by show 2 ≤ sizeLine; decide), fun l nl => ?_⟩
  have sl := newS (o := .lst [V.ref p1, va]) nl
  have h1 : G2 p1 = some (.tup [.str "truth"]) := Tk.kp kp2 (dk1.same s1) p1 _ upd_same
  have kpa : Kp d c H (upd G2 l (.lst [V.ref p1, va])) := ((kp1.trans (Kp.of s1)).trans kp2).trans (Kp.of sl)
  have dka := dk2.same sl
  have hoa := sl _ _ (kp2 o _ od oc (s1 _ _ ho1))
  obtain ⟨v, t, ev, rv, bv⟩ : ∃ (v : V) (t : Kd), atI [V.ref p1, va] (if decide (V.int way = V.int 7) then (1 : Int) else 0) = some v ∧ Rp (upd G2 l (.lst [V.ref p1, va])) t v ∧ Bd 1 3 xs t := by
    cases decide (V.int way = V.int 7)
    · exact ⟨.ref p1, .tru, rfl, ⟨p1, rfl, sl _ _ h1⟩, by decide, by decide, fun x z => (nomatch z)⟩
    · exact ⟨va, a, rfl, ra.tk (Tk.of sl), da.bd (by decide) (by decide)⟩
  refine ⟨_, rfl, rfl, .inr ⟨_, rfl, l, _, _, v, rfl, rfl, SqL.of upd_same, ev, ?_⟩⟩
  generalize upd G2 l (.lst [V.ref p1, va]) = G3 at kpa dka hoa rv
  refine ⟨fun σ G => ∃ v t, σ = [some (.ref d), some (.ref o), some (.int way), some v, none] ∧ Kp d c H G ∧ Dk G d c ∧ G o = some (.lst (xs.map V.str)) ∧ Rp G t v ∧ Bd 1 3 xs t, ?_, ?b2⟩
  · refine ⟨_, rfl, _, _, rfl, rfl, _, rfl, ?_⟩
    refine ite2 (fun _ => ⟨_, rfl, Nat.zero_le _, fun e ne => ⟨.list (xs.map PyData.str), .list [], .lst (SqL.of (newS ne _ _ hoa)) (dpStrs K _ xs), .lst (SqL.of upd_same) .nil, shStrs hx, rfl, _, rfl, ite2 (fun c1 => ?_) (fun _ => ⟨v, t, rfl, kpa.trans (Kp.of (newS ne)), dka.same (newS ne), newS ne _ _ hoa, rv.tk (Tk.of (newS ne)), bv⟩)⟩⟩) (fun _ => iteF ⟨v, t, rfl, kpa, dka, hoa, rv, bv⟩)
    have ho2 := newS (o := .lst []) ne _ _ hoa
    have dk2' := dka.same (newS (o := .lst []) ne)
    rw [eqvNil] at c1
    have l0 : 0 < xs.length := by
      cases xs with
      | nil => cases c1
      | cons x r => exact Nat.succ_pos _
    refine ⟨_, rfl, _, rfl, d, c, o, _, rfl, dk2', ho2, od, oc, by rw [List.length_map]; omega, by rw [List.length_map]; omega, fun u G4 kp4 dk4 hu => ?_⟩
    obtain ⟨x, hxm, rfl⟩ := List.mem_map.mp hu
    refine ⟨(by show 2 ≤ sizeLine; decide), fun p np => ⟨.ref p, .opn x, rfl, ((kpa.trans (Kp.of (newS ne))).trans kp4).trans (Kp.of (newS np)), dk4.same (newS np), newS np _ _ (kp4 o _ od oc ho2), ⟨p, rfl, upd_same⟩, ?_⟩⟩
    refine ⟨Nat.zero_le _, by show 1 ≤ 3; decide, fun y hy => ?_⟩
    rw [List.mem_singleton.mp hy]
    exact hxm
  case b2 =>
    rintro σ G ⟨v, t, rfl, kpG, dkG, hoG, rG, bG⟩
    refine ⟨_, rfl, d, c, 2, rfl, dkG, by decide, by decide, fun mm G4 mm0 mm1 kp4 dk4 => ⟨_, _, rfl, rfl, 1 + mm, rfl, by omega, by omega, ?_⟩⟩
    refine for_range (lo := 0) (n := (1 + mm).toNat) (fun i σ G => ∃ v t y, σ = [some (.ref d), some (.ref o), some (.int way), some v, y] ∧ Kp d c H G ∧ Dk G d c ∧ G o = some (.lst (xs.map V.str)) ∧ Rp G t v ∧ Bd (1 + i) (3 + 4 * i) xs t) ?_ (fun i σ G hi z => ?_) (fun σ G z => ?_)
    · exact ⟨v, t, none, rfl, kpG.trans kp4, dk4, kp4 o _ od oc hoG, rG.tk (Tk.kp kp4 dkG), bG⟩
    · obtain ⟨v, t, y, rfl, kpi, dki, hoi, ri, bi⟩ := z
      refine ⟨_, rfl, _, rfl, _, rfl, d, c, 2, rfl, dki, by decide, by decide, fun r G5 r0 r1 kp5 dk5 => ?_⟩
      have er : r = ((r.toNat : Nat) : Int) := by omega
      have eL : [V.ref d, V.ref o, V.int r, V.bl true] = [V.ref d, V.ref o, V.int ((r.toNat : Nat) : Int), V.bl true] := by rw [← er]
      refine ⟨d, c, o, xs, r.toNat, true, eL, by omega, dk5, kp5 o _ od oc hoi, od, oc, lx, hx, fun va a G6 kp6 dk6 ra da => ?_⟩
      refine ⟨_, rfl, (by show 3 ≤ sizeLine; decide), fun p np => ?_⟩
      have s := newS (o := .tup [.str "fun", va, v]) np
      refine ⟨.ref p, .fn a t, _, rfl, (((kpi.trans kp5).trans kp6).trans (Kp.of s)), dk6.same s, s _ _ (kp6 o _ od oc (kp5 o _ od oc hoi)), ⟨p, va, v, rfl, upd_same, ra.tk (Tk.of s), ((ri.tk (Tk.kp kp5 dki)).tk (Tk.kp kp6 dk5)).tk (Tk.of s)⟩, ?_⟩
      have hb : Bd 1 3 xs a := da.bd (by omega) (by
        have : r.toNat = 0 ∨ r.toNat = 1 := by omega
        rcases this with e | e <;> rw [e] <;> decide)
      exact (Bd.fn hb bi (by omega)).mono (by omega) (by omega)
    · obtain ⟨v, t, y, rfl, kpi, dki, hoi, ri, bi⟩ := z
      exact ⟨_, rfl, q v t G kpi dki ri (bi.mono (by omega) (by omega))⟩
/-! _law_walked -/
theorem scWalked : FnScope ["_law_deck_here", "_law_opens_here", "_law_many", "_law_kind", "_law_k", "_law_handed_here", "_law_one"] psTwo (defScope tWalked) := ⟨rfl, rfl, rfl, by decide +kernel, rfl, by decide +kernel, by decide +kernel⟩
def spWalked : Sp := fun vs H Q _ => ∃ (d c o : Addr) (xs : List Str), vs = [.ref d, .ref o] ∧ Dk H d c ∧ H o = some (.lst (xs.map V.str)) ∧ o ≠ d ∧ o ≠ c ∧ xs.length ≤ 26 ∧ (∀ x ∈ xs, Nm x) ∧
  ∀ (v : V) (t : Kd) (G : Hp), Kp d c H G → Dk G d c → Rp G t v → Bd 7 55 xs t → Q v G
theorem okWalked {f fD fP fT fH : Addr} {fd fdD fdP fdT fdH : FuncData} (F : Fun K "_law_walked" "_law_walked" tWalked f fd)
    (GD : FnOk P w K mg base CX0 7 fD fdD ["_law_deck_here", "_law_most"] spDraw) (bD : Binds K fdD ["_law_deck_here", "_law_most"] []) (gD : mg "_law_draw" = some (.ref fD)) (kD : PySem.W.keepIn K (.ref fD) = true)
    (GP : FnOk P w K mg base CX0 7 fP fdP psPick spPick) (bP : Binds K fdP psPick []) (gP : mg "_law_pick" = some (.ref fP)) (kP : PySem.W.keepIn K (.ref fP) = true)
    (GT : FnOk P w K mg base CX0 6 fT fdT psData (spData 4)) (bT : Binds K fdT psData []) (gT : mg "_law_data" = some (.ref fT)) (kT : PySem.W.keepIn K (.ref fT) = true)
    (GH : FnOk P w K mg base CX0 7 fH fdH psTwo spHanded) (bH : Binds K fdH psTwo []) (gH : mg "_law_handed" = some (.ref fH)) (kH : PySem.W.keepIn K (.ref fH) = true) (mr : mg "range" = none) : FnOk P w K mg base CX0 8 f fd psTwo spWalked := by
  refine F.ok scWalked (fun vs H Q E h => ?_) (fun cdv A outer s H vs Q E hr h => ?_)
  · obtain ⟨d, c, o, xs, rfl, _⟩ := h
    rfl
  obtain ⟨d, c, o, xs, rfl, dk, ho, od, oc, lx, hx, q⟩ := h
  refine ⟨_, pss_cons (ps_set (i := 2) scWalked.nd rfl (.inl rfl) (pe_call GP hr (by rfl) gP kP bP .nil pass0 (pa_cons (pv 0) (pa_cons (pe_lst (pa_cons pe_int (pa_cons pe_int (pa_cons pe_int (pa_cons pe_int (pa_cons pe_int (pa_cons pe_int (pa_cons pe_int (pa_cons pe_int pa_nil))))))))) pa_nil))))
    (pss_cons (ps_set (i := 3) scWalked.nd rfl (.inl rfl) (pe_call GT (hr.mono (by decide)) (by rfl) gT kT bT .nil pass0 (pa_cons (pv 0) (pa_cons (pv 1) (pa_cons (pe_op op_add pe_int (pe_call GD hr (by rfl) gD kD bD .nil pass0 (pa_cons (pv 0) (pa_cons pe_int pa_nil)))) (pa_cons pe_bl pa_nil))))))
    (pss_cons (ps_for PassesOwn.never rfl (pi_range1 (by rfl) mr (pa_cons (pv 2) pa_nil)) (pg_name (i := 4) scWalked.nd rfl (.inl rfl))
      (pss_cons (ps_set (i := 5) scWalked.nd rfl (.inl rfl) (pe_cmpR op_eq (pe_call GD hr (by rfl) gD kD bD .nil pass0 (pa_cons (pv 0) (pa_cons pe_int pa_nil))) pe_int (nomark _)))
      (pss_cons (ps_set (i := 6) scWalked.nd rfl (.inl rfl) (pe_call GH hr (by rfl) gH kH bH .nil pass0 (pa_cons (pv 0) (pa_cons (pv 1) pa_nil))))
      (C8.pss_cut (ps_if (pt_not (pt_val (pv 5))) (pss_one (ps_set (i := 6) scWalked.nd rfl (.inl rfl) (pe_call GT (hr.mono (by decide)) (by rfl) gT kT bT .nil pass0 (pa_cons (pv 0) (pa_cons (pv 1) (pa_cons (pe_op op_add pe_int (pe_call GD hr (by rfl) gD kD bD .nil pass0 (pa_cons (pv 0) (pa_cons pe_int pa_nil)))) (pa_cons pe_bl pa_nil))))))) pss_nil)
      (pss_one (ps_set (i := 3) scWalked.nd rfl (.inl rfl) (pe_tup (pa_cons pe_str (pa_cons (pv 6) (pa_cons (pv 3) pa_nil))))))))))
    (pss_one (ps_ret (pv 3))))), ?_⟩
  have two : ∀ (r : Int), 0 ≤ r → r < 2 → [V.ref d, V.ref o, V.int (1 + r), V.bl false] = [V.ref d, V.ref o, V.int (((1 + r).toNat : Nat) : Int), V.bl false] ∧ (1 + r).toNat + 1 ≤ 4 ∧ (1 + r).toNat ≤ 2 ∧ sb (1 + r).toNat ≤ 7 := fun r r0 r1 => by
    have e : (1 + r) = (((1 + r).toNat : Nat) : Int) := by omega
    refine ⟨by rw [← e], by omega, by omega, ?_⟩
    have : r = 0 ∨ r = 1 := by omega
    rcases this with rfl | rfl <;> decide
  refine ⟨_, rfl, (by show 8 ≤ sizeLine; decide), fun l nl => ?_⟩
  have off := dk.off nl
  refine ⟨d, c, l, _, rfl, dk.same (newS nl), upd_same, off.1, off.2, by show 1 ≤ 8; decide, by show 8 ≤ 100; decide, fun mv G1 kp1' dk1 hmv => ?_⟩
  obtain ⟨m, rfl, m0, m4⟩ : ∃ m : Int, mv = .int m ∧ 0 ≤ m ∧ m ≤ 4 := by
    simp only [List.mem_cons, List.not_mem_nil, or_false] at hmv
    rcases hmv with e | e | e | e | e | e | e | e <;> exact ⟨_, e, by decide, by decide⟩
  have kp1 : Kp d c H G1 := (Kp.of (newS nl)).trans kp1'
  have ho1 := kp1 o _ od oc ho
  refine ⟨_, rfl, _, rfl, _, rfl, d, c, 2, rfl, dk1, by decide, by decide, fun r G2 r0 r1 kp2 dk2 => ⟨_, _, rfl, rfl, ?_⟩⟩
  obtain ⟨eL, e1, e2, e3⟩ := two r r0 r1
  have ho2 := kp2 o _ od oc ho1
  refine ⟨d, c, o, xs, _, false, eL, e1, dk2, ho2, od, oc, lx, hx, fun va a G3 kp3 dk3 ra da => ?_⟩
  refine ⟨_, rfl, m, rfl, by omega, by omega, ?_⟩
  refine for_range (lo := 0) (n := m.toNat) (fun i σ G => ∃ v t y4 y5 y6, σ = [some (.ref d), some (.ref o), some (.int m), some v, y4, y5, y6] ∧ Kp d c H G ∧ Dk G d c ∧ G o = some (.lst (xs.map V.str)) ∧ Rp G t v ∧ Bd (3 + i) (7 + 12 * i) xs t) ?_ (fun i σ G hi z => ?_) (fun σ G z => ?_)
  · exact ⟨va, a, _, _, _, rfl, (kp1.trans kp2).trans kp3, dk3, kp3 o _ od oc ho2, ra, da.bd (by omega) e3⟩
  · obtain ⟨v, t, y4, y5, y6, rfl, kpi, dki, hoi, ri, bi⟩ := z
    refine ⟨_, rfl, d, c, 3, rfl, dki, by decide, by decide, fun r2 G4 r20 r21 kp4 dk4 => ⟨rfl, ?_⟩⟩
    have ho4 := kp4 o _ od oc hoi
    refine ⟨_, rfl, _, rfl, d, c, o, xs, rfl, dk4, ho4, od, oc, lx, hx, fun vh th G5 kp5 dk5 rh bh => ?_⟩
    have ho5 := kp5 o _ od oc ho4
    have ri5 := (ri.tk (Tk.kp kp4 dki)).tk (Tk.kp kp5 dk4)
    have kpa := (kpi.trans kp4).trans kp5
    refine ⟨fun σ G => ∃ u tu, σ = [some (.ref d), some (.ref o), some (.int m), some v, some (.int (0 + (i : Int))), some (.bl (decide (V.int r2 = V.int 1))), some u] ∧ Kp d c H G ∧ Dk G d c ∧ G o = some (.lst (xs.map V.str)) ∧ Rp G t v ∧ Rp G tu u ∧ Bd 3 11 xs tu, ?_, ?_⟩
    · refine ⟨_, rfl, _, rfl, ite2 (fun _ => ?_) (fun _ => ⟨vh, th, rfl, kpa, dk5, ho5, ri5, rh, bh⟩)⟩
      refine ⟨_, rfl, _, rfl, _, rfl, d, c, 2, rfl, dk5, by decide, by decide, fun r3 G6 r30 r31 kp6 dk6 => ⟨_, _, rfl, rfl, ?_⟩⟩
      obtain ⟨eL3, e31, e32, e33⟩ := two r3 r30 r31
      have ho6 := kp6 o _ od oc ho5
      refine ⟨d, c, o, xs, _, false, eL3, e31, dk6, ho6, od, oc, lx, hx, fun vb b G7 kp7 dk7 rb db => ?_⟩
      exact ⟨vb, b, rfl, (kpa.trans kp6).trans kp7, dk7, kp7 o _ od oc ho6, (ri5.tk (Tk.kp kp6 dk5)).tk (Tk.kp kp7 dk6), rb, db.bd (by omega) (by omega)⟩
    · rintro σ G ⟨u, tu, rfl, kpu, dku, hou, rv, ru, bu⟩
      refine ⟨_, rfl, _, rfl, (by show 3 ≤ sizeLine; decide), fun p np => ?_⟩
      have s := newS (o := .tup [.str "fun", u, v]) np
      refine ⟨.ref p, .fn tu t, _, _, _, rfl, kpu.trans (Kp.of s), dku.same s, s _ _ hou, ⟨p, u, v, rfl, upd_same, ru.tk (Tk.of s), rv.tk (Tk.of s)⟩, ?_⟩
      exact (Bd.fn bu bi (by omega)).mono (by omega) (by omega)
  · obtain ⟨v, t, y4, y5, y6, rfl, kpi, dki, hoi, ri, bi⟩ := z
    exact ⟨_, rfl, q v t G kpi dki ri (bi.mono (by omega) (by omega))⟩
end
end Kq

namespace Kq
open PySem PySem.Spec PyProof.Rows L2
theorem nd_le : ∀ {l ns : List Str}, l.Nodup → (∀ x ∈ l, x ∈ ns) → l.length ≤ ns.length
  | [], _, _, _ => Nat.zero_le _
  | a :: l, ns, nd, h => by
    obtain ⟨na, nl⟩ := List.nodup_cons.mp nd
    have ha := h a List.mem_cons_self
    have ih := nd_le (l := l) (ns := ns.erase a) nl fun x hx => (List.mem_erase_of_ne (fun z => na (by rw [← z]; exact hx))).mpr (h x (List.mem_cons_of_mem _ hx))
    rw [List.length_erase_of_mem ha] at ih
    have := List.length_pos_of_mem ha
    rw [List.length_cons]
    omega
abbrev tLOpens : Stmt := tp 16
section
variable {P : Program} {w : World} {K : PySem.W.Frag} {mg : Str → Option Value} {base : Heap}
/-! _law_opens -/
theorem scLOpens : FnScope ["_law_kind", "_law_found", "_law_part"] ["_law_kind"] (defScope tLOpens) := ⟨rfl, rfl, rfl, by decide +kernel, rfl, by decide +kernel, by decide +kernel⟩
def spLOpens (n : Nat) : Sp := fun vs H Q _ => ∃ (v : V) (t : Kd) (ns : List Str), vs = [v] ∧ t.dp + 1 ≤ n ∧ Rp H t v ∧ ns.length ≤ 26 ∧ (∀ x ∈ t.opens, x ∈ ns) ∧ ∀ (l : Addr) (ys : List Str) (G : Hp), Same H G → G l = some (.lst (ys.map V.str)) → sortedS ys = true → ys.Nodup → (∀ k, k ∈ ys ↔ k ∈ t.opens) → Q (.ref l) G
theorem okLOpens1 {f : Addr} {fd : FuncData} {n : Nat} (F : Fun K "_law_opens" "_law_opens" tLOpens f fd) (bF : Binds K fd ["_law_kind"] []) (gF : mg "_law_opens" = some (.ref f)) (ms : mg "sorted" = none) (mt : mg "set" = none) (GI : FnOk P w K mg base CX0 (n + 1) f fd ["_law_kind"] (spLOpens n)) :
    FnOk P w K mg base CX0 (n + 2) f fd ["_law_kind"] (spLOpens (n + 1)) := by
  refine F.ok scLOpens (fun vs H Q E h => ?_) (fun cdv A outer s H vs Q E hr h => ?_)
  · obtain ⟨v, t, ns, rfl, _⟩ := h
    rfl
  obtain ⟨v, t, ns, rfl, hn, r, ln, hns, q⟩ := h
  obtain ⟨a, us, rfl, ha, hu⟩ := r.see
  refine ⟨_, pss_cons (ps_if (pt_cmpR op_eq (pe_ix ix_tup (pv 0) pe_int (fun _ _ => rfl)) pe_str (nomark _)) (pss_one (ps_ret (pe_lst (pa_cons (pe_ix ix_tup (pv 0) pe_int (fun _ _ => rfl)) pa_nil)))) pss_nil)
    (pss_cons (ps_set (i := 1) scLOpens.nd rfl (.inl rfl) (pe_lst pa_nil))
    (pss_cons (ps_for PassesOwn.never rfl (pi_tup (pe_slice sl_tup (pv 0) (po_some pe_int) po_none)) (pg_name (i := 2) scLOpens.nd rfl (.inl rfl))
      (pss_one (ps_set (i := 1) scLOpens.nd rfl (.inl rfl) (pe_op op_cat (pv 1) (pe_call GI hr (by rfl) gF F.kp bF .nil pass0 (pa_cons (pv 2) pa_nil))))))
    (pss_one (ps_ret (pe_callB (Ks.cr_sortT rfl) (by rfl) ms PyProof.Rows.boot_sorted (pa_cons (pe_callTy (Ks.cr_setT rfl) (by rfl) mt PyProof.Rows.boot_set (pa_cons (pv 1) pa_nil)) pa_nil)))))), ?_⟩
  refine ⟨_, rfl, a, _, _, _, rfl, rfl, SqT.of ha, atI_nat (j := 0) rfl, rfl, _, rfl, ?_⟩
  rw [Kd.isOp_word]
  refine ite2 (fun e => ?_) (fun e => ?_)
  · rcases hu with hu | ⟨x, rfl, rfl⟩
    · rw [hu.1] at e
      cases e
    · exact ⟨_, rfl, a, _, _, _, rfl, rfl, SqT.of ha, atI_nat (j := 1) rfl, (by show 1 ≤ sizeLine; decide), fun l nl => q l [x] _ (newS nl) upd_same rfl (by simp) fun k => Iff.rfl⟩
  · rcases hu with hu | ⟨x, rfl, rfl⟩
    · have ho : t.isOp = false := hu.1
      have hk := hu.2
      refine ⟨Nat.zero_le _, fun fa nfa => ⟨_, rfl, 1, rfl, a, _, rfl, SqT.of (newS nfa _ _ ha), notWhole _ _, fun p np => ?_⟩⟩
      rw [cutFrom1]
      have s2 : Same H (upd (upd H fa (.lst [])) p (.tup us)) := (newS nfa).trans (newS np)
      refine ⟨p, rfl, ⟨_, SqT.of upd_same⟩, for_tup (xs := us) (fun i σ G => ∃ (l : Addr) (y : Option V) (ys : List Str), σ = [some (.ref a), some (.ref l), y] ∧ Same H G ∧ G p = some (.tup us) ∧ G l = some (.lst (ys.map V.str)) ∧ ys.length ≤ 26 * i ∧ ∀ k, k ∈ ys ↔ k ∈ (t.kids.take i).flatMap Kd.opens) ?_ (fun i σ G _ z => ?_) (fun i x σ G hx z => ?_) (fun σ G z => ?_)⟩
      · exact ⟨fa, none, [], rfl, s2, upd_same, by rw [upd_ne (fun z => by rw [← z, upd_same] at np; cases np), upd_same]; rfl, Nat.zero_le _, fun k => by simp⟩
      · obtain ⟨l, y, ys, _, _, gp, _⟩ := z
        exact SqT.of gp
      · obtain ⟨l, y, ys, rfl, sG, gp, gl, ly, hy⟩ := z
        obtain ⟨c, hc, rc⟩ := (hk.tk (Tk.of sG)).get hx
        have hcm := RpL.mem (H := H) (vs := us) hc
        have hd := Kd.kids_dp hcm
        have hi2 : i < 2 := by
          have := (List.getElem?_eq_some_iff.mp hc).1
          have := Kd.kids_le t
          omega
        have tk : t.kids.take (i + 1) = t.kids.take i ++ [c] := by rw [List.take_add_one, hc]; rfl
        have hco : ∀ x ∈ c.opens, x ∈ ns := fun x hx' => hns x (by rw [Kd.kids_opens ho]; exact List.mem_flatMap.mpr ⟨c, hcm, hx'⟩)
        refine ⟨_, rfl, _, rfl, x, c, ns, rfl, by omega, rc, ln, hco, fun l2 zs G2 s3 g2 _ zn hz => ?_⟩
        have lz : zs.length ≤ 26 := Nat.le_trans (nd_le zn fun x hx' => hco x ((hz x).mp hx')) ln
        refine ⟨l, l2, _, _, rfl, rfl, s3 _ _ gl, g2, ?_, fun l3 n3 => ⟨l3, _, ys ++ zs, rfl, (sG.trans s3).trans (newS n3), newS n3 _ _ (s3 _ _ gp), ?_, ?_, fun k => ?_⟩⟩
        · rw [List.length_map, List.length_map]
          exact sz (by omega)
        · rw [upd_same, List.map_append]
        · rw [List.length_append]
          omega
        · rw [tk, List.flatMap_append, List.mem_append, List.mem_append, hy k, hz k]
          simp only [List.flatMap_cons, List.flatMap_nil, List.append_nil]
      · obtain ⟨l, y, ys, rfl, sG, gp, gl, ly, hy⟩ := z
        rw [← hk.len, List.take_length, ← Kd.kids_opens ho] at hy
        have lk := Kd.kids_le t
        have ly' : ys.length ≤ 52 := by
          rw [← hk.len] at ly
          omega
        refine ⟨_, rfl, l, ys, rfl, SqL.of gl, ?_, fun D m hm nD => ?_⟩
        · have : scanBound = 4096 := rfl
          omega
        · refine ⟨D, _, m, rfl, upd_same, by omega, fun zs l2 hs hd hmm _ nl2 => q l2 zs _ (sG.trans ((newS nD).trans (newS nl2))) upd_same hs hd fun k => ?_⟩
          rw [hmm k, ← hy k]
          show decide (k ∈ ys) = true ↔ _
          exact decide_eq_true_iff
    · exact absurd rfl e
theorem okLOpens {f : Addr} {fd : FuncData} (F : Fun K "_law_opens" "_law_opens" tLOpens f fd) (bF : Binds K fd ["_law_kind"] []) (gF : mg "_law_opens" = some (.ref f)) (ms : mg "sorted" = none) (mt : mg "set" = none) : ∀ n, FnOk P w K mg base CX0 (n + 1) f fd ["_law_kind"] (spLOpens n)
  | 0 => noFn fun vs H Q E h => by
    obtain ⟨v, t, ns, _, hn, _⟩ := h
    omega
  | n + 1 => okLOpens1 F bF gF ms mt (okLOpens F bF gF ms mt n)
end
end Kq

namespace Kq
open PySem PySem.Spec PyProof.Rows L2
namespace Kd
def wd2 : Kd → Str
  | pair _ _ => "both"
  | eith _ _ => "sides"
  | lst _ => "items"
  | fn _ _ => "leads"
  | _ => ""
/-- without open names -/
def shut (t : Kd) : Bool := t.opens.isEmpty
/-- the saying, as data -/
def say : Kd → PyData
  | opn x => .tuple [.str "tied", .str x]
  | num => .tuple [.str "same"]
  | tru => .tuple [.str "same"]
  | pair a b => if (pair a b).shut then .tuple [.str "same"] else .tuple [.str "both", say a, say b]
  | eith a b => if (eith a b).shut then .tuple [.str "same"] else .tuple [.str "sides", say a, say b]
  | lst a => if (lst a).shut then .tuple [.str "same"] else .tuple [.str "items", say a]
  | fn a b => if (fn a b).shut then .tuple [.str "same"] else .tuple [.str "leads", say a, say b]
theorem say_shut {t : Kd} (h : t.shut = true) : t.say = .tuple [.str "same"] := by
  cases t with
  | opn x => cases h
  | num => rfl
  | tru => rfl
  | pair a b => rw [say, if_pos h]
  | eith a b => rw [say, if_pos h]
  | lst a => rw [say, if_pos h]
  | fn a b => rw [say, if_pos h]
theorem say_kids {t : Kd} (h : t.shut = false) (ho : t.isOp = false) : t.say = .tuple (.str t.wd2 :: t.kids.map say) := by
  cases t with
  | opn x => cases ho
  | num => cases h
  | tru => cases h
  | pair a b => rw [say, if_neg (by rw [h]; exact Bool.false_ne_true)]; rfl
  | eith a b => rw [say, if_neg (by rw [h]; exact Bool.false_ne_true)]; rfl
  | lst a => rw [say, if_neg (by rw [h]; exact Bool.false_ne_true)]; rfl
  | fn a b => rw [say, if_neg (by rw [h]; exact Bool.false_ne_true)]; rfl
/-- so many in one another -/
theorem say_dep : ∀ t : Kd, PyData.depth t.say ≤ t.dp + 1
  | opn x => by simp [say, PyData.depth, PyData.depthAll]
  | num => by simp [say, PyData.depth, PyData.depthAll]
  | tru => by simp [say, PyData.depth, PyData.depthAll]
  | pair a b => by
    have h1 := say_dep a
    have h2 := say_dep b
    rw [say]
    split
    · simp [PyData.depth, PyData.depthAll]
    · simp only [PyData.depth, PyData.depthAll, dp]
      omega
  | eith a b => by
    have h1 := say_dep a
    have h2 := say_dep b
    rw [say]
    split
    · simp [PyData.depth, PyData.depthAll]
    · simp only [PyData.depth, PyData.depthAll, dp]
      omega
  | lst a => by
    have h1 := say_dep a
    rw [say]
    split
    · simp [PyData.depth, PyData.depthAll]
    · simp only [PyData.depth, PyData.depthAll, dp]
      omega
  | fn a b => by
    have h1 := say_dep a
    have h2 := say_dep b
    rw [say]
    split
    · simp [PyData.depth, PyData.depthAll]
    · simp only [PyData.depth, PyData.depthAll, dp]
      omega
theorem say_lay : ∀ t : Kd, (∀ x ∈ t.opens, PyData.strOk x = true) → PyData.canLay0 t.say = true
  | opn x, h => by
    have := h x List.mem_cons_self
    simp [say, PyData.canLay0, PyData.canLayAll0, this]
    decide +kernel
  | num, _ => by decide +kernel
  | tru, _ => by decide +kernel
  | pair a b, h => by
    have h1 := say_lay a fun x hx => h x (List.mem_append_left _ hx)
    have h2 := say_lay b fun x hx => h x (List.mem_append_right _ hx)
    rw [say]
    split
    · decide +kernel
    · simp [PyData.canLay0, PyData.canLayAll0, h1, h2]
      decide +kernel
  | eith a b, h => by
    have h1 := say_lay a fun x hx => h x (List.mem_append_left _ hx)
    have h2 := say_lay b fun x hx => h x (List.mem_append_right _ hx)
    rw [say]
    split
    · decide +kernel
    · simp [PyData.canLay0, PyData.canLayAll0, h1, h2]
      decide +kernel
  | lst a, h => by
    have h1 := say_lay a h
    rw [say]
    split
    · decide +kernel
    · simp [PyData.canLay0, PyData.canLayAll0, h1]
      decide +kernel
  | fn a b, h => by
    have h1 := say_lay a fun x hx => h x (List.mem_append_left _ hx)
    have h2 := say_lay b fun x hx => h x (List.mem_append_right _ hx)
    rw [say]
    split
    · decide +kernel
    · simp [PyData.canLay0, PyData.canLayAll0, h1, h2]
      decide +kernel
end Kd
/-- a tuple that stands, or one of the written part -/
def T1 (K : PySem.W.Frag) (H : Hp) (a : Addr) (xs : List V) : Prop := H a = some (.tup xs) ∨ ∀ G : Hp, SqT K G a xs ∧ TyX K G (.ref a) (.type "tuple")
theorem T1.tk {K : PySem.W.Frag} {H G : Hp} {a : Addr} {xs : List V} (k : Tk H G) : T1 K H a xs → T1 K G a xs
  | .inl h => .inl (k _ _ h)
  | .inr h => .inr h
theorem T1.sq {K : PySem.W.Frag} {H : Hp} {a : Addr} {xs : List V} : T1 K H a xs → SqT K H a xs
  | .inl h => SqT.of h
  | .inr h => (h H).1
theorem T1.ty {K : PySem.W.Frag} {H : Hp} {a : Addr} {xs : List V} : T1 K H a xs → TyX K H (.ref a) (.type "tuple")
  | .inl h => .base (.tup h)
  | .inr h => (h H).2
/-- data of tuples and texts stands at v -/
inductive Sd (K : PySem.W.Frag) (H : Hp) : PyData → V → Prop
  | str (x : Str) : Sd K H (.str x) (.str x)
  | nil {a : Addr} {x : Str} : T1 K H a [.str x] → Sd K H (.tuple [.str x]) (.ref a)
  | one {a : Addr} {x : Str} {d : PyData} {v : V} : T1 K H a [.str x, v] → Sd K H d v → Sd K H (.tuple [.str x, d]) (.ref a)
  | two {a : Addr} {x : Str} {d e : PyData} {v w : V} : T1 K H a [.str x, v, w] → Sd K H d v → Sd K H e w → Sd K H (.tuple [.str x, d, e]) (.ref a)
theorem Sd.tk {K : PySem.W.Frag} {H G : Hp} (k : Tk H G) {d : PyData} {v : V} (h : Sd K H d v) : Sd K G d v := by
  induction h with
  | str x => exact .str x
  | nil h => exact .nil (h.tk k)
  | one h _ i => exact .one (h.tk k) i
  | two h _ _ i j => exact .two (h.tk k) i j
theorem Sd.dp {K : PySem.W.Frag} {H : Hp} {d : PyData} {v : V} (h : Sd K H d v) : Dp K H v d := by
  induction h with
  | str x => exact .str x
  | nil h => exact .tup h.sq (.cons (.str _) .nil)
  | one h _ i => exact .tup h.sq (.cons (.str _) (.cons i .nil))
  | two h _ _ i j => exact .tup h.sq (.cons (.str _) (.cons i (.cons j .nil)))
/-- the sayings of ts stand at vs -/
def SdL (K : PySem.W.Frag) (H : Hp) : List Kd → List V → Prop
  | [], [] => True
  | t :: ts, v :: vs => Sd K H t.say v ∧ SdL K H ts vs
  | _, _ => False
theorem SdL.tk {K : PySem.W.Frag} {H G : Hp} (k : Tk H G) : ∀ {ts : List Kd} {vs : List V}, SdL K H ts vs → SdL K G ts vs
  | [], [], _ => trivial
  | _ :: _, _ :: _, h => ⟨h.1.tk k, SdL.tk k h.2⟩
  | [], _ :: _, h => h.elim
  | _ :: _, [], h => h.elim
theorem SdL.len {K : PySem.W.Frag} {H : Hp} : ∀ {ts : List Kd} {vs : List V}, SdL K H ts vs → ts.length = vs.length
  | [], [], _ => rfl
  | _ :: _, _ :: _, h => congrArg (· + 1) (SdL.len h.2)
  | [], _ :: _, h => h.elim
  | _ :: _, [], h => h.elim
theorem SdL.app {K : PySem.W.Frag} {H : Hp} : ∀ {ts us : List Kd} {vs ws : List V}, SdL K H ts vs → SdL K H us ws → SdL K H (ts ++ us) (vs ++ ws)
  | [], _, [], _, _, h => h
  | _ :: _, _, _ :: _, _, h, k => ⟨h.1, SdL.app h.2 k⟩
  | [], _, _ :: _, _, h, _ => h.elim
  | _ :: _, _, [], _, h, _ => h.elim
/-- the saying of a kind with parts -/
theorem Sd.build {K : PySem.W.Frag} {H : Hp} {t : Kd} {a : Addr} {vs : List V} (hs : t.shut = false) (ho : t.isOp = false) (h : T1 K H a (.str t.wd2 :: vs)) (k : SdL K H t.kids vs) : Sd K H t.say (.ref a) := by
  rw [Kd.say_kids hs ho]
  cases t with
  | opn x => cases ho
  | num => cases hs
  | tru => cases hs
  | pair x y =>
    match vs, h, k with
    | [u, v], h, k => exact .two h k.1 k.2.1
    | [], _, k => exact k.elim
    | [_], _, k => exact k.2.elim
    | _ :: _ :: _ :: _, _, k => exact k.2.2.elim
  | eith x y =>
    match vs, h, k with
    | [u, v], h, k => exact .two h k.1 k.2.1
    | [], _, k => exact k.elim
    | [_], _, k => exact k.2.elim
    | _ :: _ :: _ :: _, _, k => exact k.2.2.elim
  | lst x =>
    match vs, h, k with
    | [u], h, k => exact .one h k.1
    | [], _, k => exact k.elim
    | _ :: _ :: _, _, k => exact k.2.elim
  | fn x y =>
    match vs, h, k with
    | [u, v], h, k => exact .two h k.1 k.2.1
    | [], _, k => exact k.elim
    | [_], _, k => exact k.2.elim
    | _ :: _ :: _ :: _, _, k => exact k.2.2.elim
end Kq

namespace Kq
open PySem PySem.Spec PyProof.Rows L2
abbrev tSay : Stmt := tp 7
/-- few open names -/
def Few (t : Kd) : Prop := ∃ ns : List Str, ns.Nodup ∧ ns.length ≤ 26 ∧ (∀ x ∈ t.opens, x ∈ ns) ∧ ∀ x ∈ ns, Nm x
theorem Few.kid {t u : Kd} (h : Few t) (hu : u ∈ t.kids) : Few u := by
  obtain ⟨ns, h1, h2, h3, h4⟩ := h
  refine ⟨ns, h1, h2, fun x hx => h3 x ?_, h4⟩
  cases ho : t.isOp with
  | true =>
    cases t with
    | opn y => cases hu
    | _ => cases ho
  | false =>
    rw [Kd.kids_opens ho]
    exact List.mem_flatMap.mpr ⟨u, hu, hx⟩
theorem Kd.kid_size {t u : Kd} (hu : u ∈ t.kids) : u.size ≤ t.size := by
  rw [Kd.kids_size t]
  have := le_sum (List.mem_map.mpr ⟨u, hu, rfl⟩ : u.size ∈ t.kids.map Kd.size)
  omega
theorem shut_iff {t : Kd} {ys : List Str} (hm : ∀ k, k ∈ ys ↔ k ∈ t.opens) : ys.isEmpty = t.shut := by
  unfold Kd.shut
  cases hy : ys with
  | nil =>
    cases ho : t.opens with
    | nil => rfl
    | cons x r =>
      have := (hm x).mpr (by rw [ho]; exact List.mem_cons_self)
      rw [hy] at this
      cases this
  | cons y r =>
    cases ho : t.opens with
    | nil =>
      have := (hm y).mp (by rw [hy]; exact List.mem_cons_self)
      rw [ho] at this
      cases this
    | cons x s => rfl
/-- the module's table of words -/
def Wds (K : PySem.W.Frag) (w : World) (a : Addr) : Prop := ∀ t : Kd, t.shut = false → t.isOp = false → KDct K w a t.word (.str t.wd2)
section
variable {P : Program} {w : World} {K : PySem.W.Frag} {mg : Str → Option Value} {base : Heap}
theorem scSay : FnScope ["kind", "part"] ["kind"] (defScope tSay) := ⟨rfl, rfl, rfl, by decide +kernel, rfl, by decide +kernel, by decide +kernel⟩
def spSay (K : PySem.W.Frag) (n : Nat) : Sp := fun vs H Q _ => ∃ (v : V) (t : Kd), vs = [v] ∧ t.dp + 1 ≤ n ∧ Rp H t v ∧ t.size ≤ 900 ∧ Few t ∧ ∀ (u : V) (G : Hp), Same H G → Sd K G t.say u → Q u G
theorem okSay1 {f fO sA dA : Addr} {fd fdO : FuncData} {n : Nat} (F : Fun K "saying_of" "saying_of" tSay f fd) (bF : Binds K fd ["kind"] []) (gF : mg "saying_of" = some (.ref f))
    (GO : FnOk P w K mg base CX0 (n + 4) fO fdO ["kind"] spOpens) (bO : Binds K fdO ["kind"] []) (gO : mg "opens_in" = some (.ref fO)) (kO : PySem.W.keepIn K (.ref fO) = true)
    (gS : mg "SAME" = some (.ref sA)) (hS : ∀ G : Hp, SqT K G sA [.str "same"] ∧ TyX K G (.ref sA) (.type "tuple")) (gD : mg "SAYINGS" = some (.ref dA)) (hD : Wds K w dA)
    (GI : FnOk P w K mg base CX0 (n + 4) f fd ["kind"] (spSay K n)) : FnOk P w K mg base CX0 (n + 5) f fd ["kind"] (spSay K (n + 1)) := by
  refine F.ok scSay (fun vs H Q E h => ?_) (fun cdv A outer s H vs Q E hr h => ?_)
  · obtain ⟨v, t, rfl, _⟩ := h
    rfl
  obtain ⟨v, t, rfl, hn, r, hz, few, q⟩ := h
  obtain ⟨a, us, rfl, ha, hu⟩ := r.see
  refine ⟨_, pss_cons (ps_if (pt_not (pt_truth (pe_call GO hr (by rfl) gO kO bO .nil pass0 (pa_cons (pv 0) pa_nil)) (by intro _; rfl))) (pss_one (ps_ret (pe_glob (v := .ref sA) (by rfl) gS rfl))) pss_nil)
    (pss_cons (ps_if (pt_cmpR op_eq (pe_ix ix_tup (pv 0) pe_int (fun _ _ => rfl)) pe_str (nomark _)) (pss_one (ps_ret (pe_tup (pa_cons pe_str (pa_cons (pe_ix ix_tup (pv 0) pe_int (fun _ _ => rfl)) pa_nil))))) pss_nil)
    (pss_one (ps_ret (pe_tup (pa_cons (pe_ix ix_kdict (pe_glob (v := .ref dA) (by rfl) gD rfl) (pe_ix ix_tup (pv 0) pe_int (fun _ _ => rfl)) (fun _ _ => rfl)) (StX.pa_star
      (pe_lc (own := [("part", 1)]) (g := gName 1) (by rfl) scSay.nd (pi_tup (pe_slice sl_tup (pv 0) (po_some pe_int) po_none)) (blkOk_by (own := [("part", 1)]) (N := ["kind", "part"]) (sc := defScope tSay) (by decide +kernel))
        (fun _ _ _ _ _ => pg_name (i := 1) scSay.nd rfl (.inl rfl)) (fun _ _ _ _ _ => pts_nil)
        (fun _ _ _ _ _ => pe_call GI hr (by rfl) gF F.kp bF .nil pass0 (pa_cons (pv 1) pa_nil))) pa_nil)))))), ?_⟩
  obtain ⟨ns, ns1, ns2, ns3, _⟩ := id few
  refine ⟨_, rfl, .ref a, t, rfl, r, hz, ⟨ns, ns1, by omega, ns3⟩, fun p ys G sG gp hsort hnd hm => ?_⟩
  have ey : (ys.map V.str).isEmpty = t.shut := by
    rw [← shut_iff hm]
    cases ys <;> rfl
  have haG := sG _ _ ha
  refine ⟨!t.shut, .inr (.inl ⟨_, SqT.of gp, by rw [ey]⟩), ?_⟩
  refine ite2 (fun e => ?_) (fun e => ?_)
  · rw [Bool.not_not] at e
    refine q _ _ sG ?_
    rw [Kd.say_shut e]
    exact .nil (.inr hS)
  rw [Bool.not_not] at e
  have e' : t.shut = false := by
    cases h : t.shut with
    | true => exact absurd h e
    | false => rfl
  refine ⟨_, rfl, a, _, _, _, rfl, rfl, SqT.of haG, atI_nat (j := 0) rfl, rfl, _, rfl, ?_⟩
  rw [Kd.isOp_word]
  refine ite2 (fun ho => ?_) (fun ho => ?_)
  · rcases hu with hu | ⟨x, rfl, rfl⟩
    · rw [hu.1] at ho
      cases ho
    · refine ⟨_, rfl, a, _, _, _, rfl, rfl, SqT.of haG, atI_nat (j := 1) rfl, (by show 2 ≤ sizeLine; decide), fun p2 np2 => ?_⟩
      exact q _ _ (sG.trans (newS np2)) (.one (.inl upd_same) (.str x))
  · rcases hu with hu | ⟨x, rfl, rfl⟩
    · have ho' : t.isOp = false := hu.1
      have hk := hu.2.tk (Tk.of sG)
      refine ⟨_, rfl, a, _, _, _, rfl, rfl, SqT.of haG, atI_nat (j := 0) rfl, dA, t.word, _, rfl, rfl, hD t e' ho', ?_⟩
      refine ⟨_, rfl, 1, rfl, a, _, rfl, SqT.of haG, notWhole _ _, fun p3 np => ?_⟩
      rw [cutFrom1]
      refine ⟨p3, rfl, ⟨_, SqT.of upd_same⟩, fun D nD => ?_⟩
      have sp := newS (o := .tup us) np
      have pD : p3 ≠ D := fun z => by
        rw [← z, upd_same] at nD
        cases nD
      have s1 := sG.trans sp
      have hDn : H D = none := s1.free nD
      refine lc_tup (xs := us) (fun i G => Same H G ∧ G p3 = some (.tup us) ∧ ∃ ws, G D = some (.lst ws) ∧ SdL K G (t.kids.take i) ws) ?_ (fun i G _ z => SqT.of z.2.1) (fun i x G hx z => ?_) (fun G z => ?_)
      · exact ⟨smk s1 hDn, by rw [upd_ne pD, upd_same], [], upd_same, trivial⟩
      · obtain ⟨sG1, gp3, ws, gD', rw'⟩ := z
        obtain ⟨c, hc, rc⟩ := (hu.2.tk (Tk.of sG1)).get hx
        have hcm := RpL.mem (H := H) (vs := us) hc
        have hdp := Kd.kids_dp hcm
        have lk := Kd.kids_le t
        have li := (List.getElem?_eq_some_iff.mp hc).1
        have lw := rw'.len
        rw [List.length_take] at lw
        have tk : t.kids.take (i + 1) = t.kids.take i ++ [c] := by rw [List.take_add_one, hc]; rfl
        have szc := Kd.kid_size hcm
        refine ⟨rfl, _, rfl, x, c, rfl, by omega, rc, by omega, few.kid hcm, fun u G2 s3 ru => ?_⟩
        have gD2 := s3 _ _ gD'
        have t1 : Tk G (upd G2 D (.lst (ws ++ [u]))) := (Tk.of s3).put (fun _ z => by rw [gD'] at z; cases z)
        have t2 : Tk G2 (upd G2 D (.lst (ws ++ [u]))) := Tk.rfl.put (fun _ z => by rw [gD2] at z; cases z)
        refine ⟨_, gD2, small1000 (by omega), smk (sG1.trans s3) hDn, by rw [upd_ne pD]; exact s3 _ _ gp3, ws ++ [u], upd_same, ?_⟩
        rw [tk]
        exact SdL.app (us := [c]) (ws := [u]) (rw'.tk t1) ⟨ru.tk t2, trivial⟩
      · obtain ⟨sG1, gp3, ws, gD', rw'⟩ := z
        rw [← hk.len, List.take_length] at rw'
        have lk := Kd.kids_le t
        have lw := rw'.len
        refine ⟨D, _, rfl, .inr (SqL.of gD'), ?_⟩
        refine ⟨?_, fun p4 np4 => ?_⟩
        · simp only [List.length_cons, List.append_nil]
          exact sz (by omega)
        · rw [List.append_nil]
          exact q _ _ (sG1.trans (newS np4)) (Sd.build e' ho' (.inl upd_same) (rw'.tk (Tk.of (newS np4))))
    · exact absurd rfl ho
theorem okSay {f fO sA dA : Addr} {fd fdO : FuncData} (F : Fun K "saying_of" "saying_of" tSay f fd) (bF : Binds K fd ["kind"] []) (gF : mg "saying_of" = some (.ref f))
    (GO : ∀ k, FnOk P w K mg base CX0 (k + 3) fO fdO ["kind"] spOpens) (bO : Binds K fdO ["kind"] []) (gO : mg "opens_in" = some (.ref fO)) (kO : PySem.W.keepIn K (.ref fO) = true)
    (gS : mg "SAME" = some (.ref sA)) (hS : ∀ G : Hp, SqT K G sA [.str "same"] ∧ TyX K G (.ref sA) (.type "tuple")) (gD : mg "SAYINGS" = some (.ref dA)) (hD : Wds K w dA) : ∀ n, FnOk P w K mg base CX0 (n + 4) f fd ["kind"] (spSay K n)
  | 0 => noFn fun vs H Q E h => by
    obtain ⟨v, t, _, hn, _⟩ := h
    omega
  | n + 1 => okSay1 F bF gF (GO (n + 1)) bO gO kO gS hS gD hD (okSay F bF gF GO bO gO kO gS hS gD hD n)
end
end Kq

namespace Kq
open PySem PySem.Spec PyProof.Rows L2
abbrev tLSay : Stmt := tp 17
def wordsK : List (Key × V) := [(.inr "pair", .str "both"), (.inr "either", .str "sides"), (.inr "list", .str "items"), (.inr "fun", .str "leads")]
theorem words_at {t : Kd} (h : t.shut = false) (ho : t.isOp = false) : valV (mergeK [] wordsK) (.inr t.word) = some (.str t.wd2) := by
  cases t with
  | opn x => cases ho
  | num => cases h
  | tru => cases h
  | pair a b => rfl
  | eith a b => rfl
  | lst a => rfl
  | fn a b => rfl
section
variable {P : Program} {w : World} {K : PySem.W.Frag} {mg : Str → Option Value} {base : Heap}
abbrev nLSay : List Str := ["_law_kind", "_law_word", "_law_part"]
theorem scLSay : FnScope nLSay ["_law_kind"] (defScope tLSay) := ⟨rfl, rfl, rfl, by decide +kernel, rfl, by decide +kernel, by decide +kernel⟩
theorem okLSay1 {f fO : Addr} {fd fdO : FuncData} {n : Nat} (F : Fun K "_law_saying" "_law_saying" tLSay f fd) (bF : Binds K fd ["_law_kind"] []) (gF : mg "_law_saying" = some (.ref f))
    (GO : FnOk P w K mg base CX0 (n + 2) fO fdO ["_law_kind"] (spLOpens (n + 1))) (bO : Binds K fdO ["_law_kind"] []) (gO : mg "_law_opens" = some (.ref fO)) (kO : PySem.W.keepIn K (.ref fO) = true) (mt : mg "tuple" = none)
    (GI : FnOk P w K mg base CX0 (n + 2) f fd ["_law_kind"] (spSay K n)) : FnOk P w K mg base CX0 (n + 3) f fd ["_law_kind"] (spSay K (n + 1)) := by
  refine F.ok scLSay (fun vs H Q E h => ?_) (fun cdv A outer s H vs Q E hr h => ?_)
  · obtain ⟨v, t, rfl, _⟩ := h
    rfl
  obtain ⟨v, t, rfl, hn, r, hz, few, q⟩ := h
  obtain ⟨a, us, rfl, ha, hu⟩ := r.see
  refine ⟨_, pss_cons (ps_if (pt_cmpR (op_eqD hr.units) (pe_call GO hr (by rfl) gO kO bO .nil pass0 (pa_cons (pv 0) pa_nil)) (pe_lst pa_nil) (nomark _)) (pss_one (ps_ret (pe_tup (pa_cons pe_str pa_nil)))) pss_nil)
    (pss_cons (ps_if (pt_cmpR op_eq (pe_ix ix_tup (pv 0) pe_int (fun _ _ => rfl)) pe_str (nomark _)) (pss_one (ps_ret (pe_tup (pa_cons pe_str (pa_cons (pe_ix ix_tup (pv 0) pe_int (fun _ _ => rfl)) pa_nil))))) pss_nil)
    (pss_cons (ps_set (i := 1) scLSay.nd rfl (.inl rfl) (pe_dget (hu_of hr) (pe_disp (pps_cons pe_str pe_str (pps_cons pe_str pe_str (pps_cons pe_str pe_str (pps_cons pe_str pe_str pps_nil)))) rfl rfl (fun z => nomatch z) (by decide)) (pe_ix ix_tup (pv 0) pe_int (fun _ _ => rfl)) (fun _ _ => rfl)))
    (pss_one (ps_ret (pe_op op_catA (pe_tup (pa_cons (pv 1) pa_nil)) (pe_callTy call_tuple_of (by rfl) mt PyProof.Rows.boot_tuple (pa_cons
      (pe_lc (own := [("_law_part", 2)]) (g := gName 2) (by rfl) scLSay.nd (pi_tup (pe_slice sl_tup (pv 0) (po_some pe_int) po_none)) (blkOk_by (own := [("_law_part", 2)]) (N := nLSay) (sc := defScope tLSay) (by decide +kernel))
        (fun _ _ _ _ _ => pg_name (i := 2) scLSay.nd rfl (.inl rfl)) (fun _ _ _ _ _ => pts_nil)
        (fun _ _ _ _ _ => pe_call GI hr (by rfl) gF F.kp bF .nil pass0 (pa_cons (pv 2) pa_nil))) pa_nil))))))), ?_⟩
  obtain ⟨ns, ns1, ns2, ns3, ns4⟩ := id few
  refine ⟨_, rfl, .ref a, t, ns, rfl, hn, r, ns2, ns3, fun l ys G sG gl hsort hnd hm => ?_⟩
  have nmy : ∀ x ∈ ys, Nm x := fun x hx => ns4 x (ns3 x ((hm x).mp hx))
  refine ⟨Nat.zero_le _, fun e ne => ⟨.list (ys.map PyData.str), .list [], .lst (SqL.of (newS ne _ _ gl)) (dpStrs K _ ys), .lst (SqL.of upd_same) .nil, shStrs nmy, rfl, ?_⟩⟩
  rw [eqvNil, shut_iff hm]
  have sG := sG.trans (newS (o := .lst []) ne)
  generalize upd G e (.lst []) = G1 at sG
  have haG := sG _ _ ha
  refine ⟨_, rfl, ite2 (fun e => ?_) (fun e => ?_)⟩
  · refine ⟨(by show 1 ≤ sizeLine; decide), fun p2 np2 => ?_⟩
    refine q _ _ (sG.trans (newS np2)) ?_
    rw [Kd.say_shut e]
    exact .nil (.inl upd_same)
  have e' : t.shut = false := by
    cases h : t.shut with
    | true => exact absurd h e
    | false => rfl
  refine ⟨_, rfl, a, _, _, _, rfl, rfl, SqT.of haG, atI_nat (j := 0) rfl, rfl, _, rfl, ?_⟩
  rw [Kd.isOp_word]
  refine ite2 (fun ho => ?_) (fun ho => ?_)
  · rcases hu with hu | ⟨x, rfl, rfl⟩
    · rw [hu.1] at ho
      cases ho
    · refine ⟨_, rfl, a, _, _, _, rfl, rfl, SqT.of haG, atI_nat (j := 1) rfl, (by show 2 ≤ sizeLine; decide), fun p2 np2 => ?_⟩
      exact q _ _ (sG.trans (newS np2)) (.one (.inl upd_same) (.str x))
  · rcases hu with hu | ⟨x, rfl, rfl⟩
    · have ho' : t.isOp = false := hu.1
      have hk := hu.2.tk (Tk.of sG)
      intro dd ndd
      refine ⟨upd_same, wordsK, rfl, by decide, ?_⟩
      have sd : Same G1 (upd (upd G1 dd (.dK [])) dd (.dK (mergeK [] wordsK))) := fun b u e => by
        have hb : b ≠ dd := ne_of_none e ndd
        rw [upd_ne hb, upd_ne hb]
        exact e
      have sG2 := sG.trans sd
      have haG2 := sG2 _ _ ha
      have gdd : (upd (upd G1 dd (.dK [])) dd (.dK (mergeK [] wordsK))) dd = some (.dK (mergeK [] wordsK)) := upd_same
      generalize upd (upd G1 dd (.dK [])) dd (.dK (mergeK [] wordsK)) = G2 at sG2 haG2 gdd
      refine ⟨_, rfl, a, _, _, _, rfl, rfl, SqT.of haG2, atI_nat (j := 0) rfl, dd, .str t.wd2, rfl, ?_, ?_⟩
      · have z := DGet.k (k := .inr t.word) gdd
        rw [words_at e' ho'] at z
        exact z
      refine ⟨_, rfl, (by show 1 ≤ sizeLine; decide), fun p0 np0 => ?_⟩
      have sG0 := newS (o := .tup [V.str t.wd2]) np0
      have gb : (upd G2 p0 (.tup [V.str t.wd2])) p0 = some (.tup [V.str t.wd2]) := upd_same
      have sG3 := sG2.trans sG0
      have haG3 := sG3 _ _ ha
      generalize upd G2 p0 (.tup [V.str t.wd2]) = G3 at sG3 haG3 gb
      refine ⟨_, rfl, 1, rfl, a, _, rfl, SqT.of haG3, notWhole _ _, fun p3 np => ?_⟩
      rw [cutFrom1]
      refine ⟨p3, rfl, ⟨_, SqT.of upd_same⟩, fun D nD => ?_⟩
      have sp := newS (o := .tup us) np
      have pD : p3 ≠ D := fun z => by
        rw [← z, upd_same] at nD
        cases nD
      have bD : p0 ≠ D := ne_of_none (sp _ _ gb) nD
      have s1 := sG3.trans sp
      have hDn : H D = none := s1.free nD
      refine lc_tup (xs := us) (fun i G => Same H G ∧ G p3 = some (.tup us) ∧ G p0 = some (.tup [V.str t.wd2]) ∧ ∃ ws, G D = some (.lst ws) ∧ SdL K G (t.kids.take i) ws) ?_ (fun i G _ z => SqT.of z.2.1) (fun i x G hx z => ?_) (fun G z => ?_)
      · exact ⟨smk s1 hDn, by rw [upd_ne pD, upd_same], by rw [upd_ne bD]; exact sp _ _ gb, [], upd_same, trivial⟩
      · obtain ⟨sG1, gp3, gB, ws, gD', rw'⟩ := z
        obtain ⟨c, hc, rc⟩ := (hu.2.tk (Tk.of sG1)).get hx
        have hcm := RpL.mem (H := H) (vs := us) hc
        have hdp := Kd.kids_dp hcm
        have lk := Kd.kids_le t
        have li := (List.getElem?_eq_some_iff.mp hc).1
        have lw := rw'.len
        rw [List.length_take] at lw
        have tk : t.kids.take (i + 1) = t.kids.take i ++ [c] := by rw [List.take_add_one, hc]; rfl
        have szc := Kd.kid_size hcm
        refine ⟨rfl, _, rfl, x, c, rfl, by omega, rc, by omega, few.kid hcm, fun u G2 s3 ru => ?_⟩
        have gD2 := s3 _ _ gD'
        have t1 : Tk G (upd G2 D (.lst (ws ++ [u]))) := (Tk.of s3).put (fun _ z => by rw [gD'] at z; cases z)
        have t2 : Tk G2 (upd G2 D (.lst (ws ++ [u]))) := Tk.rfl.put (fun _ z => by rw [gD2] at z; cases z)
        refine ⟨_, gD2, small1000 (by omega), smk (sG1.trans s3) hDn, by rw [upd_ne pD]; exact s3 _ _ gp3, by rw [upd_ne bD]; exact s3 _ _ gB, ws ++ [u], upd_same, ?_⟩
        rw [tk]
        exact SdL.app (us := [c]) (ws := [u]) (rw'.tk t1) ⟨ru.tk t2, trivial⟩
      · obtain ⟨sG1, gp3, gB, ws, gD', rw'⟩ := z
        rw [← hk.len, List.take_length] at rw'
        have lk := Kd.kids_le t
        have lw := rw'.len
        refine ⟨D, _, rfl, .inl ⟨SqL.of gD', fun m nm => ?_⟩⟩
        have sm := newS (o := .tup ws) nm
        refine ⟨p0, m, _, _, rfl, rfl, SqT.of (sm _ _ gB), SqT.of upd_same, Kq.sz (by simp only [List.length_cons, List.length_nil]; omega), (fun z => nomatch z), (fun _ z => ?_), fun _ _ p2 np2 => ?_⟩
        · subst z
          exact q _ _ (sG1.trans sm) (Sd.build e' ho' (.inl (sm _ _ gB)) (rw'.tk (Tk.of sm)))
        · have s4 := newS (o := .tup ([V.str t.wd2] ++ ws)) np2
          exact q _ _ ((sG1.trans sm).trans s4) (Sd.build e' ho' (.inl upd_same) ((rw'.tk (Tk.of sm)).tk (Tk.of s4)))
    · exact absurd rfl ho
theorem okLSay {f fO : Addr} {fd fdO : FuncData} (F : Fun K "_law_saying" "_law_saying" tLSay f fd) (bF : Binds K fd ["_law_kind"] []) (gF : mg "_law_saying" = some (.ref f))
    (GO : ∀ n, FnOk P w K mg base CX0 (n + 1) fO fdO ["_law_kind"] (spLOpens n)) (bO : Binds K fdO ["_law_kind"] []) (gO : mg "_law_opens" = some (.ref fO)) (kO : PySem.W.keepIn K (.ref fO) = true) (mt : mg "tuple" = none) : ∀ n, FnOk P w K mg base CX0 (n + 2) f fd ["_law_kind"] (spSay K n)
  | 0 => noFn fun vs H Q E h => by
    obtain ⟨v, t, _, hn, _⟩ := h
    omega
  | n + 1 => okLSay1 F bF gF (GO (n + 1)) bO gO kO mt (okLSay F bF gF GO bO gO kO mt n)
end
end Kq

namespace Kq
open PySem PySem.Spec PyProof.Rows L2
namespace Kd
def fill (f : Str → Option Kd) : Kd → Kd
  | opn x => (f x).getD (opn x)
  | num => num
  | tru => tru
  | pair a b => pair (fill f a) (fill f b)
  | eith a b => eith (fill f a) (fill f b)
  | lst a => lst (fill f a)
  | fn a b => fn (fill f a) (fill f b)
end Kd
theorem Rp.build {H : Hp} {t : Kd} {f : Str → Option Kd} {p : Addr} {ws : List V} (h : t.isOp = false) (hp : H p = some (.tup (.str t.word :: ws))) (r : RpL H (t.kids.map (Kd.fill f)) ws) : Rp H (t.fill f) (.ref p) := by
  cases t with
  | opn x => cases h
  | num =>
    cases ws with
    | nil => exact ⟨p, rfl, hp⟩
    | cons a b => exact r.elim
  | tru =>
    cases ws with
    | nil => exact ⟨p, rfl, hp⟩
    | cons a b => exact r.elim
  | pair a b =>
    cases ws with
    | nil => exact r.elim
    | cons x ws =>
      cases ws with
      | nil => exact r.2.elim
      | cons y ws =>
        cases ws with
        | nil => exact ⟨p, x, y, rfl, hp, r.1, r.2.1⟩
        | cons _ _ => exact r.2.2.elim
  | eith a b =>
    cases ws with
    | nil => exact r.elim
    | cons x ws =>
      cases ws with
      | nil => exact r.2.elim
      | cons y ws =>
        cases ws with
        | nil => exact ⟨p, x, y, rfl, hp, r.1, r.2.1⟩
        | cons _ _ => exact r.2.2.elim
  | lst a =>
    cases ws with
    | nil => exact r.elim
    | cons x ws =>
      cases ws with
      | nil => exact ⟨p, x, rfl, hp, r.1⟩
      | cons _ _ => exact r.2.elim
  | fn a b =>
    cases ws with
    | nil => exact r.elim
    | cons x ws =>
      cases ws with
      | nil => exact r.2.elim
      | cons y ws =>
        cases ws with
        | nil => exact ⟨p, x, y, rfl, hp, r.1, r.2.1⟩
        | cons _ _ => exact r.2.2.elim
def toD : Kd → PyData
  | .opn x => .tuple [.str "open", .str x]
  | .num => .tuple [.str "num"]
  | .tru => .tuple [.str "truth"]
  | .pair a b => .tuple [.str "pair", toD a, toD b]
  | .eith a b => .tuple [.str "either", toD a, toD b]
  | .lst a => .tuple [.str "list", toD a]
  | .fn a b => .tuple [.str "fun", toD a, toD b]
theorem dpT (K : PySem.W.Frag) {H : Hp} : ∀ {t : Kd} {v : V}, Rp H t v → Dp K H v (toD t) := by
  intro t
  induction t with
  | opn x =>
    rintro v ⟨a, rfl, h⟩
    exact .tup (SqT.of h) (.cons (.str _) (.cons (.str _) .nil))
  | num =>
    rintro v ⟨a, rfl, h⟩
    exact .tup (SqT.of h) (.cons (.str _) .nil)
  | tru =>
    rintro v ⟨a, rfl, h⟩
    exact .tup (SqT.of h) (.cons (.str _) .nil)
  | pair s t i j =>
    rintro v ⟨a, x, y, rfl, h, p, q⟩
    exact .tup (SqT.of h) (.cons (.str _) (.cons (i p) (.cons (j q) .nil)))
  | eith s t i j =>
    rintro v ⟨a, x, y, rfl, h, p, q⟩
    exact .tup (SqT.of h) (.cons (.str _) (.cons (i p) (.cons (j q) .nil)))
  | lst s i =>
    rintro v ⟨a, x, rfl, h, p⟩
    exact .tup (SqT.of h) (.cons (.str _) (.cons (i p) .nil))
  | fn s t i j =>
    rintro v ⟨a, x, y, rfl, h, p, q⟩
    exact .tup (SqT.of h) (.cons (.str _) (.cons (i p) (.cons (j q) .nil)))

abbrev tCalled : Stmt := tp 18
/-- each name called so -/
def ren (g : Str → Str) : Str → Option Kd := fun x => some (.opn (g x))
theorem Kd.kid_opens {t u : Kd} (hu : u ∈ t.kids) {x : Str} (hx : x ∈ u.opens) : x ∈ t.opens := by
  cases ho : t.isOp with
  | true =>
    cases t with
    | opn y => cases hu
    | _ => cases ho
  | false =>
    rw [Kd.kids_opens ho]
    exact List.mem_flatMap.mpr ⟨u, hu, hx⟩
/-- a dict that tells g of the names -/
def DC (H : Hp) (a : Addr) (ns : List Str) (g : Str → Str) : Prop := ∃ kvs : List (Key × V), H a = some (.dK kvs) ∧ ∀ x ∈ ns, valV kvs (.inr x) = some (.str (g x))
theorem DC.same {H G : Hp} {a : Addr} {ns : List Str} {g : Str → Str} (h : DC H a ns g) (s : Same H G) : DC G a ns g := by
  obtain ⟨kvs, h1, h2⟩ := h
  exact ⟨kvs, s _ _ h1, h2⟩
theorem DC.sub {H : Hp} {a : Addr} {ns ms : List Str} {g : Str → Str} (h : DC H a ns g) (s : ∀ x ∈ ms, x ∈ ns) : DC H a ms g := by
  obtain ⟨kvs, h1, h2⟩ := h
  exact ⟨kvs, h1, fun x hx => h2 x (s x hx)⟩
section
variable {P : Program} {w : World} {K : PySem.W.Frag} {mg : Str → Option Value} {base : Heap}
def spCalled (n : Nat) : Sp := fun vs H Q _ => ∃ (v : V) (a : Addr) (t : Kd) (g : Str → Str), vs = [v, .ref a] ∧ t.dp + 1 ≤ n ∧ Rp H t v ∧ DC H a t.opens g ∧ ∀ (u : V) (G : Hp), Same H G → Rp G (t.fill (ren g)) u → Q u G
theorem scCalled : FnScope ["_law_kind", "_law_calls", "_law_part"] ["_law_kind", "_law_calls"] (defScope tCalled) := ⟨rfl, rfl, rfl, by decide +kernel, rfl, by decide +kernel, by decide +kernel⟩
theorem okCalled1 {f : Addr} {fd : FuncData} {n : Nat} (F : Fun K "_law_kind_called" "_law_kind_called" tCalled f fd) (bF : Binds K fd ["_law_kind", "_law_calls"] []) (gF : mg "_law_kind_called" = some (.ref f)) (mt : mg "tuple" = none) (GI : FnOk P w K mg base CX0 (n + 1) f fd ["_law_kind", "_law_calls"] (spCalled n)) :
    FnOk P w K mg base CX0 (n + 2) f fd ["_law_kind", "_law_calls"] (spCalled (n + 1)) := by
  refine F.ok scCalled (fun vs H Q E h => ?_) (fun cdv A outer s H vs Q E hr h => ?_)
  · obtain ⟨v, a, t, g, rfl, _⟩ := h
    rfl
  obtain ⟨v, da, t, g, rfl, hn, r, hd, q⟩ := h
  obtain ⟨a, us, rfl, ha, hu⟩ := r.see
  refine ⟨_, pss_cons (ps_if (pt_cmpR op_eq (pe_ix ix_tup (pv 0) pe_int (fun _ _ => rfl)) pe_str (nomark _)) (pss_one (ps_ret (pe_tup (pa_cons pe_str (pa_cons (pe_dget (hu_of hr) (pv 1) (pe_ix ix_tup (pv 0) pe_int (fun _ _ => rfl)) (fun _ _ => rfl)) pa_nil))))) pss_nil)
    (pss_one (ps_ret (pe_op op_catA (pe_slice sl_tupA (pv 0) po_none (po_some pe_int)) (pe_callTy call_tuple_of (by rfl) mt PyProof.Rows.boot_tuple (pa_cons
      (pe_lc (own := [("_law_part", 2)]) (g := gName 2) (by rfl) scCalled.nd (pi_tup (pe_slice sl_tup (pv 0) (po_some pe_int) po_none)) (blkOk_by (own := [("_law_part", 2)]) (N := ["_law_kind", "_law_calls", "_law_part"]) (sc := defScope tCalled) (by decide +kernel))
        (fun _ _ _ _ _ => pg_name (i := 2) scCalled.nd rfl (.inl rfl)) (fun _ _ _ _ _ => pts_nil)
        (fun _ _ _ _ _ => pe_call GI hr (by rfl) gF F.kp bF .nil pass0 (pa_cons (pv 2) (pa_cons (pv 1) pa_nil)))) pa_nil))))), ?_⟩
  refine ⟨_, rfl, a, _, _, _, rfl, rfl, SqT.of ha, atI_nat (j := 0) rfl, rfl, _, rfl, ?_⟩
  rw [Kd.isOp_word]
  refine ite2 (fun e => ?_) (fun e => ?_)
  · rcases hu with hu | ⟨x, rfl, rfl⟩
    · rw [hu.1] at e
      cases e
    · obtain ⟨kvs, h1, h2⟩ := hd
      refine ⟨_, rfl, _, rfl, a, _, _, _, rfl, rfl, SqT.of ha, atI_nat (j := 1) rfl, da, .str (g x), rfl, ?_, (by show 2 ≤ sizeLine; decide), fun p np => ?_⟩
      · have z := DGet.k (k := .inr x) h1
        rw [h2 x List.mem_cons_self] at z
        exact z
      · exact q _ _ (newS np) ⟨p, rfl, upd_same⟩
  · rcases hu with hu | ⟨x, rfl, rfl⟩
    · have ho : t.isOp = false := hu.1
      have hk := hu.2
      refine ⟨_, rfl, 1, rfl, a, _, rfl, SqT.of ha, (fun hw => ?_), (fun hw p0 np0 => ?_)⟩
      · have us0 : us = [] := by
          have h2 := hw.2
          rw [show HT.sIx (V.str t.word :: us).length (V.str t.word :: us).length (some 1) = min 1 (V.str t.word :: us).length from HT.sIx_nat _ _ 1, List.length_cons] at h2
          exact List.length_eq_zero_iff.mp (by omega)
        have gb : H a = some (.tup [V.str t.word]) := by
          rw [← us0]
          exact ha
        have sG0 : Same H H := Same.refl H
        refine ⟨_, rfl, 1, rfl, a, _, rfl, SqT.of (sG0 _ _ ha), notWhole _ _, fun p np => ?_⟩
        rw [cutFrom1]
        refine ⟨p, rfl, ⟨_, SqT.of upd_same⟩, fun D nD => ?_⟩
        have sp := newS (o := .tup us) np
        have pD : p ≠ D := fun z => by
          rw [← z, upd_same] at nD
          cases nD
        have bD : a ≠ D := ne_of_none (sp _ _ gb) nD
        have s1 := sG0.trans sp
        have hD : H D = none := s1.free nD
        refine lc_tup (xs := us) (fun i G => Same H G ∧ G p = some (.tup us) ∧ G a = some (.tup [V.str t.word]) ∧ ∃ ws, G D = some (.lst ws) ∧ RpL G ((t.kids.take i).map (Kd.fill (ren g))) ws) ?_ (fun i G _ z => SqT.of z.2.1) (fun i x G hx z => ?_) (fun G z => ?_)
        · exact ⟨smk s1 hD, by rw [upd_ne pD, upd_same], by rw [upd_ne bD]; exact sp _ _ gb, [], upd_same, trivial⟩
        · obtain ⟨sG, gp, gB, ws, gD, rw'⟩ := z
          obtain ⟨c, hc, rc⟩ := (hk.tk (Tk.of sG)).get hx
          have hcm := RpL.mem (H := H) (vs := us) hc
          have hdp := Kd.kids_dp hcm
          have li := (List.getElem?_eq_some_iff.mp hc).1
          have lk := Kd.kids_le t
          have lw := rw'.len
          rw [List.length_map, List.length_take] at lw
          have tk : t.kids.take (i + 1) = t.kids.take i ++ [c] := by rw [List.take_add_one, hc]; rfl
          refine ⟨rfl, _, rfl, _, rfl, x, da, c, g, rfl, by omega, rc, (hd.same sG).sub (fun y hy => Kd.kid_opens hcm hy), fun u G2 s3 ru => ?_⟩
          have gD2 := s3 _ _ gD
          have t1 : Tk G (upd G2 D (.lst (ws ++ [u]))) := (Tk.of s3).put (fun _ z => by rw [gD] at z; cases z)
          have t2 : Tk G2 (upd G2 D (.lst (ws ++ [u]))) := Tk.rfl.put (fun _ z => by rw [gD2] at z; cases z)
          refine ⟨_, gD2, small1000 (by omega), smk (sG.trans s3) hD, by rw [upd_ne pD]; exact s3 _ _ gp, by rw [upd_ne bD]; exact s3 _ _ gB, ws ++ [u], upd_same, ?_⟩
          rw [tk, List.map_append]
          exact RpL.app (us := [c.fill (ren g)]) (ws := [u]) (rw'.tk t1) ⟨ru.tk t2, trivial⟩
        · obtain ⟨sG, gp, gB, ws, gD, rw'⟩ := z
          rw [← hk.len, List.take_length] at rw'
          have lk := Kd.kids_le t
          have lw := rw'.len
          rw [List.length_map] at lw
          refine ⟨D, _, rfl, .inl ⟨SqL.of gD, fun m nm => ?_⟩⟩
          have sm := newS (o := .tup ws) nm
          refine ⟨a, m, _, _, rfl, rfl, SqT.of (sm _ _ gB), SqT.of upd_same, sz (by simp only [List.length_cons, List.length_nil]; omega), (fun z => nomatch z), (fun _ z => ?_), fun _ _ p2 np2 => ?_⟩
          · subst z
            exact q _ _ (sG.trans sm) (Rp.build ho (sm _ _ gB) (rw'.tk (Tk.of sm)))
          · have s4 := newS (o := .tup ([V.str t.word] ++ ws)) np2
            exact q _ _ ((sG.trans sm).trans s4) (Rp.build ho upd_same ((rw'.tk (Tk.of sm)).tk (Tk.of s4)))
      · have e1 : cutV (V.str t.word :: us) none (some 1) = [V.str t.word] := by
          rw [show (some (1 : Int)) = some ((1 : Nat) : Int) from rfl, cutTo (by simp)]
          rfl
        rw [e1]
        have sG0 := newS (o := .tup [V.str t.word]) np0
        have gb : (upd H p0 (.tup [V.str t.word])) p0 = some (.tup [V.str t.word]) := upd_same
        generalize upd H p0 (.tup [V.str t.word]) = G0 at sG0 gb
        refine ⟨_, rfl, 1, rfl, a, _, rfl, SqT.of (sG0 _ _ ha), notWhole _ _, fun p np => ?_⟩
        rw [cutFrom1]
        refine ⟨p, rfl, ⟨_, SqT.of upd_same⟩, fun D nD => ?_⟩
        have sp := newS (o := .tup us) np
        have pD : p ≠ D := fun z => by
          rw [← z, upd_same] at nD
          cases nD
        have bD : p0 ≠ D := ne_of_none (sp _ _ gb) nD
        have s1 := sG0.trans sp
        have hD : H D = none := s1.free nD
        refine lc_tup (xs := us) (fun i G => Same H G ∧ G p = some (.tup us) ∧ G p0 = some (.tup [V.str t.word]) ∧ ∃ ws, G D = some (.lst ws) ∧ RpL G ((t.kids.take i).map (Kd.fill (ren g))) ws) ?_ (fun i G _ z => SqT.of z.2.1) (fun i x G hx z => ?_) (fun G z => ?_)
        · exact ⟨smk s1 hD, by rw [upd_ne pD, upd_same], by rw [upd_ne bD]; exact sp _ _ gb, [], upd_same, trivial⟩
        · obtain ⟨sG, gp, gB, ws, gD, rw'⟩ := z
          obtain ⟨c, hc, rc⟩ := (hk.tk (Tk.of sG)).get hx
          have hcm := RpL.mem (H := H) (vs := us) hc
          have hdp := Kd.kids_dp hcm
          have li := (List.getElem?_eq_some_iff.mp hc).1
          have lk := Kd.kids_le t
          have lw := rw'.len
          rw [List.length_map, List.length_take] at lw
          have tk : t.kids.take (i + 1) = t.kids.take i ++ [c] := by rw [List.take_add_one, hc]; rfl
          refine ⟨rfl, _, rfl, _, rfl, x, da, c, g, rfl, by omega, rc, (hd.same sG).sub (fun y hy => Kd.kid_opens hcm hy), fun u G2 s3 ru => ?_⟩
          have gD2 := s3 _ _ gD
          have t1 : Tk G (upd G2 D (.lst (ws ++ [u]))) := (Tk.of s3).put (fun _ z => by rw [gD] at z; cases z)
          have t2 : Tk G2 (upd G2 D (.lst (ws ++ [u]))) := Tk.rfl.put (fun _ z => by rw [gD2] at z; cases z)
          refine ⟨_, gD2, small1000 (by omega), smk (sG.trans s3) hD, by rw [upd_ne pD]; exact s3 _ _ gp, by rw [upd_ne bD]; exact s3 _ _ gB, ws ++ [u], upd_same, ?_⟩
          rw [tk, List.map_append]
          exact RpL.app (us := [c.fill (ren g)]) (ws := [u]) (rw'.tk t1) ⟨ru.tk t2, trivial⟩
        · obtain ⟨sG, gp, gB, ws, gD, rw'⟩ := z
          rw [← hk.len, List.take_length] at rw'
          have lk := Kd.kids_le t
          have lw := rw'.len
          rw [List.length_map] at lw
          refine ⟨D, _, rfl, .inl ⟨SqL.of gD, fun m nm => ?_⟩⟩
          have sm := newS (o := .tup ws) nm
          refine ⟨p0, m, _, _, rfl, rfl, SqT.of (sm _ _ gB), SqT.of upd_same, sz (by simp only [List.length_cons, List.length_nil]; omega), (fun z => nomatch z), (fun _ z => ?_), fun _ _ p2 np2 => ?_⟩
          · subst z
            exact q _ _ (sG.trans sm) (Rp.build ho (sm _ _ gB) (rw'.tk (Tk.of sm)))
          · have s4 := newS (o := .tup ([V.str t.word] ++ ws)) np2
            exact q _ _ ((sG.trans sm).trans s4) (Rp.build ho upd_same ((rw'.tk (Tk.of sm)).tk (Tk.of s4)))
    · exact absurd rfl e
theorem okCalled {f : Addr} {fd : FuncData} (F : Fun K "_law_kind_called" "_law_kind_called" tCalled f fd) (bF : Binds K fd ["_law_kind", "_law_calls"] []) (gF : mg "_law_kind_called" = some (.ref f)) (mt : mg "tuple" = none) : ∀ n, FnOk P w K mg base CX0 (n + 1) f fd ["_law_kind", "_law_calls"] (spCalled n)
  | 0 => noFn fun vs H Q E h => by
    obtain ⟨v, a, t, g, _, hn, _⟩ := h
    omega
  | n + 1 => okCalled1 F bF gF mt (okCalled F bF gF mt n)
end
end Kq

/-! the signs of a repr: texts of letters, tuples -/
namespace Kf
open PySem PySem.Spec PyProof.Rows L2 PySem.Builtin.Str
/-- of small letters alone -/
def Low (x : Str) : Prop := ∀ c ∈ x.cps.toList, 97 ≤ c ∧ c < 123
theorem ch_low : ∀ i : Fin 26, reprChar 39 (97 + i.val) = [97 + i.val] := by decide +kernel
theorem ch_low' {c : Nat} (h : 97 ≤ c ∧ c < 123) : reprChar 39 c = [c] := by
  have z := ch_low ⟨c - 97, by omega⟩
  have e : 97 + (c - 97) = c := by omega
  simp only [e] at z
  exact z
theorem fold_low : ∀ (l : List Nat) (acc : Array Nat), (∀ c ∈ l, 97 ≤ c ∧ c < 123) → (l.foldl (fun out c => out ++ (reprChar 39 c).toArray) acc).toList = acc.toList ++ l
  | [], acc, _ => by simp
  | c :: l, acc, h => by
    rw [List.foldl_cons, fold_low l _ fun d hd => h d (List.mem_cons_of_mem _ hd), ch_low' (h c List.mem_cons_self)]
    simp
theorem quote_low {x : Str} (h : Low x) : reprQuote x = 39 := by
  unfold reprQuote
  have e : x.cps.contains 39 = false := by
    rw [← Bool.not_eq_true]
    intro z
    have m : (39 : Nat) ∈ x.cps := by simpa using z
    have := h 39 (Array.mem_def.mp m)
    omega
  rw [e]
  rfl
theorem repr_low {x : Str} (h : Low x) : (reprText x).cps.toList = 39 :: (x.cps.toList ++ [39]) := by
  unfold reprText
  rw [quote_low h, ← Array.foldl_toList, Array.toList_push, fold_low _ _ h]
  rfl
theorem cnt_low {x : Str} (h : Low x) : cnt 40 (reprText x).cps.toList = 0 := by
  rw [repr_low h, cnt_cons, cnt_append]
  have z : ∀ l : List Nat, (∀ c ∈ l, 97 ≤ c ∧ c < 123) → cnt 40 l = 0 := by
    intro l
    induction l with
    | nil => intro _; rfl
    | cons c l ih =>
      intro h
      rw [cnt_cons, ih fun d hd => h d (List.mem_cons_of_mem _ hd)]
      have := h c List.mem_cons_self
      rw [if_neg (by omega)]
      rfl
  rw [z _ h]
  decide
theorem len_low {x : Str} (h : Low x) : (reprText x).length = x.cps.toList.length + 2 := by
  show (reprText x).cps.size = _
  rw [← Array.length_toList, repr_low h]
  simp
theorem cps_app (x y : Str) : (x ++ y).cps.toList = x.cps.toList ++ y.cps.toList := by
  show (x.cps ++ y.cps).toList = _
  rw [Array.toList_append]
theorem cnt_tup (ts : List Str) : cnt 40 (tupleText ts).cps.toList = 1 + (ts.map fun t => cnt 40 t.cps.toList).sum := by
  unfold tupleText
  rw [cps_app, cps_app, cnt_append, cnt_append, cnt_join_sum]
  have e1 : cnt 40 (("(" : Str)).cps.toList = 1 := by decide +kernel
  have e2 : cnt 40 ((", " : Str)).cps.toList = 0 := by decide +kernel
  have e3 : cnt 40 (((if ts.length == 1 then ",)" else ")" : String) : Str)).cps.toList = 0 := by split <;> decide +kernel
  rw [e1, e2, e3, Int.mul_zero]
  omega
theorem count_par (x : Str) : Txt.count x "(" = cnt 40 x.cps.toList := by
  have e : (("(" : String) : Str) = ⟨#[40]⟩ := by decide +kernel
  rw [e]
  exact count_cnt x 40
end Kf

namespace Kq
open PySem PySem.Spec PyProof.Rows L2
theorem tupGK {X : Cx} (K : PySem.W.Frag) (h : X.K = K) {es : List Expr} {k : Nat} {t : TGs} {n : Nat} {pos : Pos} (hc : X.calm = true) (hp : PGs X es t)
    (hn : (assignEach es X.env).length = n := by rfl) (hst : (assignEach es X.env).findIdx? (·.1) = none := by rfl) : PG X (.Tuple es k pos) (gTup K n t) := by
  subst h
  exact pg_tup hc hp hn hst
theorem ixLK {X : Cx} (K : PySem.W.Frag) (h : X.K = K) : IxR X (rIxL K) := by
  subst h
  exact ix_list
theorem revLK {X : Cx} (K : PySem.W.Frag) (h : X.K = K) {e : Expr} {te : TE} {k : Nat} {p1 p2 p3 pos : Pos} (he : PE X e te) : PE X (.Subscript e (.Slice none none (some (.UnaryOp .USub (.Constant (.int 1) k p1) p2)) p3) pos) (tRevL K te) := by
  subst h
  exact pe_revL he
theorem pairMap {α β : Type} {R S : α → β → Prop} (f : ∀ a b, R a b → S a b) : ∀ {l : List α} {m : List β}, Paired R l m → Paired S l m
  | _, _, .nil => .nil
  | _, _, .cons h t => .cons (f _ _ h) (pairMap f t)
theorem pairApp {α β : Type} {R : α → β → Prop} : ∀ {l : List α} {m : List β} {a : α} {b : β}, Paired R l m → R a b → Paired R (l ++ [a]) (m ++ [b])
  | _, _, _, _, .nil, h => .cons h .nil
  | _, _, _, _, .cons h t, k => .cons h (pairApp t k)
theorem pairLen {α β : Type} {R : α → β → Prop} : ∀ {l : List α} {m : List β}, Paired R l m → l.length = m.length
  | _, _, .nil => rfl
  | _, _, .cons _ t => congrArg (· + 1) (pairLen t)
/-- each key of kvs is told one of ns -/
theorem merge_in {ns : List Str} {k : Key} : ∀ (kvs acc : List (Key × V)), (∀ kv ∈ kvs, ∃ y ∈ ns, kv.2 = .str y) → ((∃ y ∈ ns, valV acc k = some (.str y)) ∨ k ∈ kvs.map (·.1)) → ∃ y ∈ ns, valV (mergeK acc kvs) k = some (.str y)
  | [], acc, _, h => by
    rcases h with h | h
    · exact h
    · cases h
  | kv :: r, acc, hv, h => by
    show ∃ y ∈ ns, valV (mergeK (putK acc kv.1 kv.2) r) k = some (.str y)
    refine merge_in r _ (fun z hz => hv z (List.mem_cons_of_mem _ hz)) ?_
    obtain ⟨y, hy, ey⟩ := hv kv List.mem_cons_self
    by_cases e : k = kv.1
    · exact .inl ⟨y, hy, by rw [valV_put, if_pos e, ey]⟩
    · rcases h with ⟨z, hz, ez⟩ | h
      · exact .inl ⟨z, hz, by rw [valV_put, if_neg e, ez]⟩
      · rcases List.mem_cons.mp h with h | h
        · exact absurd h e
        · exact .inr h
theorem ren_bd {g : Str → Str} {ns : List Str} : ∀ t : Kd, (∀ x ∈ t.opens, g x ∈ ns) → (t.fill (ren g)).dp = t.dp ∧ (t.fill (ren g)).size = t.size ∧ ∀ x ∈ (t.fill (ren g)).opens, x ∈ ns
  | .opn x, h => ⟨rfl, rfl, fun y hy => by
    rw [List.mem_singleton.mp (show y ∈ [g x] from hy)]
    exact h x List.mem_cons_self⟩
  | .num, _ => ⟨rfl, rfl, fun _ z => (nomatch z)⟩
  | .tru, _ => ⟨rfl, rfl, fun _ z => (nomatch z)⟩
  | .pair a b, h => by
    obtain ⟨a1, a2, a3⟩ := ren_bd a fun x hx => h x (List.mem_append_left _ hx)
    obtain ⟨b1, b2, b3⟩ := ren_bd b fun x hx => h x (List.mem_append_right _ hx)
    refine ⟨?_, ?_, fun x hx => ?_⟩
    · show max (a.fill (ren g)).dp (b.fill (ren g)).dp + 1 = _
      rw [a1, b1]
      rfl
    · show ((a.fill (ren g)).pair (b.fill (ren g))).size = _
      rw [(Kd.size2 _ _).1, (Kd.size2 _ _).1, a2, b2]
    · rcases List.mem_append.mp (show x ∈ (a.fill (ren g)).opens ++ (b.fill (ren g)).opens from hx) with z | z
      · exact a3 x z
      · exact b3 x z
  | .eith a b, h => by
    obtain ⟨a1, a2, a3⟩ := ren_bd a fun x hx => h x (List.mem_append_left _ hx)
    obtain ⟨b1, b2, b3⟩ := ren_bd b fun x hx => h x (List.mem_append_right _ hx)
    refine ⟨?_, ?_, fun x hx => ?_⟩
    · show max (a.fill (ren g)).dp (b.fill (ren g)).dp + 1 = _
      rw [a1, b1]
      rfl
    · show ((a.fill (ren g)).eith (b.fill (ren g))).size = _
      rw [(Kd.size2 _ _).2.1, (Kd.size2 _ _).2.1, a2, b2]
    · rcases List.mem_append.mp (show x ∈ (a.fill (ren g)).opens ++ (b.fill (ren g)).opens from hx) with z | z
      · exact a3 x z
      · exact b3 x z
  | .lst a, h => by
    obtain ⟨a1, a2, a3⟩ := ren_bd a h
    refine ⟨?_, ?_, a3⟩
    · show (a.fill (ren g)).dp + 1 = _
      rw [a1]
      rfl
    · show (Kd.lst (a.fill (ren g))).size = _
      rw [(Kd.size2 _ (Kd.num)).2.2, (Kd.size2 _ (Kd.num)).2.2, a2]
  | .fn a b, h => by
    obtain ⟨a1, a2, a3⟩ := ren_bd a fun x hx => h x (List.mem_append_left _ hx)
    obtain ⟨b1, b2, b3⟩ := ren_bd b fun x hx => h x (List.mem_append_right _ hx)
    refine ⟨?_, ?_, fun x hx => ?_⟩
    · show max (a.fill (ren g)).dp (b.fill (ren g)).dp + 1 = _
      rw [a1, b1]
      rfl
    · show (Kd.fn (a.fill (ren g)) (b.fill (ren g))).size = _
      rw [Kd.size_fn, Kd.size_fn, a2, b2]
    · rcases List.mem_append.mp (show x ∈ (a.fill (ren g)).opens ++ (b.fill (ren g)).opens from hx) with z | z
      · exact a3 x z
      · exact b3 x z
theorem say_ok {t : Kd} (hd : t.dp ≤ 60) (hx : ∀ x ∈ t.opens, Nm x) : SeqAt.shaped t.say = true ∧ PyData.eqv t.say t.say = true := by
  have h1 := Kd.say_lay t fun x h => (hx x h).ok
  have h2 := Kd.say_dep t
  refine ⟨?_, SeqAt.eqv_refl _ h1⟩
  unfold SeqAt.shaped
  rw [h1, Bool.true_and]
  exact decide_eq_true (by omega)
theorem say_tup (t : Kd) : ∃ ds, t.say = .tuple ds := by
  cases t with
  | opn x => exact ⟨_, rfl⟩
  | num => exact ⟨_, rfl⟩
  | tru => exact ⟨_, rfl⟩
  | pair a b => rw [Kd.say]; split <;> exact ⟨_, rfl⟩
  | eith a b => rw [Kd.say]; split <;> exact ⟨_, rfl⟩
  | lst a => rw [Kd.say]; split <;> exact ⟨_, rfl⟩
  | fn a b => rw [Kd.say]; split <;> exact ⟨_, rfl⟩
theorem Sd.ty {K : PySem.W.Frag} {H : Hp} {ds : List PyData} {v : V} (h : Sd K H (.tuple ds) v) : TyX K H v (.type "tuple") := by
  cases h with
  | nil h => exact h.ty
  | one h _ => exact h.ty
  | two h _ _ => exact h.ty
abbrev tRight : Stmt := tp 19
abbrev psRight : List Str := ["_law_kind", "_law_names_here"]
abbrev nRight : List Str := ["_law_kind", "_law_names_here", "_law_due", "_law_turn", "_law_found", "_law_calls", "_law_k", "_law_name"]
section
variable {P : Program} {w : World} {K : PySem.W.Frag} {mg : Str → Option Value} {base : Heap}
theorem scRight : FnScope nRight psRight (defScope tRight) := ⟨rfl, rfl, rfl, by decide +kernel, rfl, by decide +kernel, by decide +kernel⟩
def spRight : Sp := fun vs H Q _ => ∃ (v : V) (o : Addr) (t : Kd) (ns : List Str), vs = [v, .ref o] ∧ Rp H t v ∧ t.dp ≤ 60 ∧ t.size ≤ 900 ∧ (∀ x ∈ t.opens, x ∈ ns) ∧ H o = some (.lst (ns.map V.str)) ∧ ns.Nodup ∧ ns.length ≤ 26 ∧ (∀ x ∈ ns, Nm x) ∧ ∀ G : Hp, Same H G → Q (.bl true) G
theorem okRight {f fS fL fC : Addr} {fd fdS fdL fdC : FuncData} (F : Fun K "_law_right" "_law_right" tRight f fd)
    (GS : FnOk P w K mg base CX0 66 fS fdS ["kind"] (spSay K 62)) (bS : Binds K fdS ["kind"] []) (gS : mg "saying_of" = some (.ref fS)) (kS : PySem.W.keepIn K (.ref fS) = true)
    (GL : FnOk P w K mg base CX0 64 fL fdL ["_law_kind"] (spSay K 62)) (bL : Binds K fdL ["_law_kind"] []) (gL : mg "_law_saying" = some (.ref fL)) (kL : PySem.W.keepIn K (.ref fL) = true)
    (GC : FnOk P w K mg base CX0 63 fC fdC ["_law_kind", "_law_calls"] (spCalled 62)) (bC : Binds K fdC ["_law_kind", "_law_calls"] []) (gC : mg "_law_kind_called" = some (.ref fC)) (kC : PySem.W.keepIn K (.ref fC) = true)
    (md : mg "dict" = none) (mt : mg "tuple" = none) (mr : mg "range" = none) (mi : mg "isinstance" = none) (me : mg "enumerate" = none) : FnOk P w K mg base CX0 67 f fd psRight spRight := by
  refine F.ok scRight (fun vs H Q E h => ?_) (fun cdv A outer s H vs Q E hr h => ?_)
  · obtain ⟨v, o, t, ns, rfl, _⟩ := h
    rfl
  obtain ⟨v, o, t, ns, rfl, rt, hd, hz, hop, ho, nd, ln, hx, q⟩ := h
  have r64 := hr.mono (show 64 ≤ 66 by decide)
  have r63 := hr.mono (show 63 ≤ 66 by decide)
  refine ⟨_, pss_cons (ps_set (i := 2) scRight.nd rfl (.inl rfl) (pe_call GL r64 (by rfl) gL kL bL .nil pass0 (pa_cons (pv 0) pa_nil)))
    (pss_cons (ps_for PassesOwn.never rfl (pi_range1 (by rfl) mr (pa_cons pe_int pa_nil)) (pg_name (i := 3) scRight.nd rfl (.inl rfl))
      (pss_cons (ps_set (i := 4) scRight.nd rfl (.inl rfl) (pe_call GS hr (by rfl) gS kS bS .nil pass0 (pa_cons (pv 0) pa_nil)))
      (pss_one (ps_if (PW.pt (pw_or (pt_not (pt_val (pe_callB (isiK K rfl) (by rfl) mi PyProof.Rows.boot_isinstance (pa_cons (pv 4) (pa_cons (pe_bltn (v := .ty "tuple") (by rfl) mt PyProof.Rows.boot_tuple rfl) pa_nil))))) (pw_or1 (pt_cmpR (op_neD hr.units) (pv 4) (pv 2) (nomark _))))) (pss_one (ps_ret pe_bl)) pss_nil))))
    (pss_cons (ps_set (i := 5) scRight.nd rfl (.inl rfl) (pe_callTy (call_dictP rfl) (by rfl) md PyProof.Rows.boot_dict (pa_cons
      (pe_lc (own := [("_law_k", 6), ("_law_name", 7)]) (g := gTup K 2 (gCons (gName 6) (gCons (gName 7) gNil))) (by rfl) scRight.nd (pi_enum (by rfl) me (pa_cons (pv 1) pa_nil)) (blkOk_by (own := [("_law_k", 6), ("_law_name", 7)]) (N := nRight) (sc := defScope tRight) (by decide +kernel))
        (fun _ _ _ _ _ => tupGK K rfl rfl (pgs_cons (pg_name (i := 6) scRight.nd rfl (.inl rfl)) (pgs_cons (pg_name (i := 7) scRight.nd rfl (.inl rfl)) pgs_nil))) (fun _ _ _ _ _ => pts_nil)
        (fun _ _ _ _ _ => pe_tup (pa_cons (pv 7) (pa_cons (pe_ix (ixLK K rfl) (revLK K rfl (pv 1)) (pv 6) (fun _ _ => rfl)) pa_nil)))) pa_nil)))
    (pss_one (ps_ret (pe_cmpR (op_eqD hr.units) (pe_call GS hr (by rfl) gS kS bS .nil pass0 (pa_cons (pe_call GC r63 (by rfl) gC kC bC .nil pass0 (pa_cons (pv 0) (pa_cons (pv 5) pa_nil))) pa_nil))
      (pe_call GL r64 (by rfl) gL kL bL .nil pass0 (pa_cons (pe_call GC r63 (by rfl) gC kC bC .nil pass0 (pa_cons (pv 0) (pa_cons (pv 5) pa_nil))) pa_nil)) (nomark _)))))), ?_⟩
  have few : Few t := ⟨ns, nd, ln, hop, hx⟩
  obtain ⟨sh, ee⟩ := say_ok hd fun x h => hx x (hop x h)
  obtain ⟨ds, eds⟩ := say_tup t
  refine ⟨_, rfl, v, t, rfl, by omega, rt, hz, few, fun vd G1 s1 sd => ?_⟩
  refine ⟨2, rfl, by decide, by decide, ?_⟩
  refine for_range (lo := 0) (n := 2) (fun i σ G => (∃ y3 y4, σ = [some v, some (.ref o), some vd, y3, y4, none, none, none]) ∧ Same H G ∧ Sd K G t.say vd) ⟨⟨_, _, rfl⟩, s1, sd⟩ (fun i σ G hi z => ?_) (fun σ G z => ?_)
  · obtain ⟨⟨y3, y4, rfl⟩, sG, sdG⟩ := z
    refine ⟨_, rfl, v, t, rfl, by omega, rt.tk (Tk.of sG), hz, few, fun vf G2 s2 sf => ?_⟩
    have ty : TyX K G2 vf (.type "tuple") := by
      rw [eds] at sf
      exact sf.ty
    refine ⟨_, rfl, _, _, _, _, true, rfl, .ty "tuple", ty, kit_ty (by decide +kernel), _, rfl, ?_⟩
    refine ⟨_, rfl, _, rfl, t.say, t.say, sf.dp, (sdG.tk (Tk.of s2)).dp, sh, sh, _, rfl, ?_⟩
    rw [ee]
    exact iteF ⟨⟨_, _, rfl⟩, sG.trans s2, sdG.tk (Tk.of s2)⟩
  · obtain ⟨⟨y3, y4, rfl⟩, sG, sdG⟩ := z
    have hoG := sG _ _ ho
    refine ⟨_, rfl, o, _, rfl, SqL.of hoG, fun D nD => ?_⟩
    have hD : H D = none := sG.free nD
    refine lc_it (walk_enum (K := K) (a := o) (xs := ns.map V.str)) (fun i F => Same G F ∧ ∃ (ps : List Addr) (kvs : List (Key × V)), F D = some (.lst (ps.map V.ref)) ∧ Paired (fun p kv => F p = some (.tup [kV kv.1, kv.2])) ps kvs ∧ kvs.map (·.1) = (ns.take i).map Sum.inr ∧ ∀ kv ∈ kvs, ∃ y ∈ ns, kv.2 = .str y)
      ⟨newS nD, [], [], upd_same, .nil, rfl, fun kv z => (nomatch z)⟩ (fun i F _ z => SqL.of (z.1 _ _ hoG)) (fun i x F F' hi z y => ?_) (fun F z => ?_)
    · obtain ⟨sF, ps, kvs, gD, pq, ek, ev⟩ := z
      obtain ⟨T, x1, x2, rfl, nT, rfl, e1, e2⟩ := y
      cases e1
      rw [List.length_map] at hi
      have e2 : (ns.map V.str)[i]? = some x2 := e2
      rw [List.getElem?_map, List.getElem?_eq_getElem hi] at e2
      cases e2
      generalize hni : ns[i] = ni
      have hn? : ns[i]? = some ni := by rw [List.getElem?_eq_getElem hi, hni]
      have sT := newS (o := .tup [V.int (i : Nat), V.str ni]) nT
      have hoF := sF _ _ hoG
      have hoT := sT _ _ hoF
      have gDT := sT _ _ gD
      refine ⟨T, _, rfl, SqT.of upd_same, rfl, _, _, rfl, _, _, rfl, rfl, rfl, _, rfl, _, rfl, o, _, rfl, SqL.of hoT, fun R nR => ?_⟩
      have sR := newS (o := .lst (ns.map V.str).reverse) nR
      have lr : i < (ns.map V.str).reverse.length := by rw [List.length_reverse, List.length_map]; exact hi
      obtain ⟨yy, hy1, hy2⟩ : ∃ y : Str, y ∈ ns ∧ (ns.map V.str).reverse[i]? = some (.str y) := by
        rw [← List.map_reverse, List.getElem?_map]
        have lr2 : i < ns.reverse.length := by rw [List.length_reverse]; exact hi
        rw [List.getElem?_eq_getElem lr2]
        exact ⟨_, List.mem_reverse.mp (List.getElem_mem lr2), rfl⟩
      refine ⟨_, rfl, R, _, _, .str yy, rfl, rfl, SqL.of upd_same, atI_nat (j := i) hy2, (by show 2 ≤ sizeLine; decide), fun p np => ?_⟩
      have sp := newS (o := .tup [V.str ni, V.str yy]) np
      have s3 := (sT.trans sR).trans sp
      have gD3 := s3 _ _ gD
      have nDp : ∀ (r : Addr), Paired (fun p kv => F p = some (.tup [kV kv.1, kv.2])) ps kvs → True := fun _ _ => trivial
      refine ⟨_, gD3, ?_, smk (sF.trans s3) nD, ps ++ [p], kvs ++ [(.inr ni, .str yy)], ?_, ?_, ?_, fun kv hkv => ?_⟩
      · have l1 := pairLen pq
        have l2 := congrArg List.length ek
        rw [List.length_map, List.length_map, List.length_take] at l2
        rw [List.length_map]
        exact small1000 (by omega)
      · rw [upd_same, List.map_append]
        rfl
      · refine pairApp (pairMap (fun a b e => ?_) pq) ?_
        · have ha := s3 _ _ e
          rw [upd_ne (fun z => by rw [z, gD3] at ha; cases ha)]
          exact ha
        · have hp : p ≠ D := fun z => by
            have := (sT.trans sR) _ _ gD
            rw [← z, np] at this
            cases this
          rw [upd_ne hp, upd_same]
          rfl
      · rw [List.map_append, ek, List.take_add_one, hn?, List.map_append]
        rfl
      · rcases List.mem_append.mp hkv with z | z
        · exact ev kv z
        · rw [List.mem_singleton.mp z]
          exact ⟨yy, hy1, rfl⟩
    · obtain ⟨sF, ps, kvs, gD, pq, ek, ev⟩ := z
      rw [List.length_map, List.take_length] at ek
      refine ⟨D, ps, kvs, rfl, SqL.of gD, pairMap (fun _ _ e => SqT.of e) pq, fun a na => ?_⟩
      have tell : ∀ x ∈ ns, ∃ y ∈ ns, valV (mergeK [] kvs) (.inr x) = some (.str y) := fun x hx' => merge_in kvs [] ev (.inr (by rw [ek]; exact List.mem_map.mpr ⟨x, hx', rfl⟩))
      let g : Str → Str := fun x => match valV (mergeK [] kvs) (.inr x) with
        | some (.str y) => y
        | _ => ""
      have hg : ∀ x ∈ ns, g x ∈ ns ∧ valV (mergeK [] kvs) (.inr x) = some (.str (g x)) := fun x hx' => by
        obtain ⟨y, hy, ey⟩ := tell x hx'
        have eg : g x = y := by
          show (match valV (mergeK [] kvs) (.inr x) with | some (.str y) => y | _ => "") = y
          rw [ey]
        rw [eg]
        exact ⟨hy, ey⟩
      have sa := newS (o := .dK (mergeK [] kvs)) na
      have sA : Same H (upd F a (.dK (mergeK [] kvs))) := (sG.trans sF).trans sa
      have dc : DC (upd F a (.dK (mergeK [] kvs))) a t.opens g := ⟨_, upd_same, fun x hx' => (hg x (hop x hx')).2⟩
      obtain ⟨b1, b2, b3⟩ := ren_bd (g := g) (ns := ns) t fun x hx' => (hg x (hop x hx')).1
      generalize hu : t.fill (ren g) = tu at b1 b2 b3
      have fewu : Few tu := ⟨ns, nd, ln, b3, hx⟩
      obtain ⟨shu, eeu⟩ := say_ok (t := tu) (by omega) fun x h => hx x (b3 x h)
      generalize upd F a (.dK (mergeK [] kvs)) = G4 at sA dc
      refine ⟨_, rfl, _, rfl, v, a, t, g, rfl, by omega, rt.tk (Tk.of sA), dc, fun u1 G5 s5 ru1 => ?_⟩
      rw [hu] at ru1
      refine ⟨u1, tu, rfl, by omega, ru1, by omega, fewu, fun w1 G6 s6 sw1 => ?_⟩
      have sB := (sA.trans s5).trans s6
      refine ⟨_, rfl, _, rfl, v, a, t, g, rfl, by omega, rt.tk (Tk.of sB), (dc.same s5).same s6, fun u2 G7 s7 ru2 => ?_⟩
      rw [hu] at ru2
      refine ⟨u2, tu, rfl, by omega, ru2, by omega, fewu, fun w2 G8 s8 sw2 => ?_⟩
      refine ⟨tu.say, tu.say, (sw1.tk (Tk.of (s7.trans s8))).dp, sw2.dp, shu, shu, ?_⟩
      rw [eeu]
      exact q _ ((sB.trans s7).trans s8)
end
end Kq

namespace Kq
open PySem PySem.Spec PyProof.Rows L2 Kf
/-! the signs of a tree's repr -/
theorem wd_low : ∀ t : Kd, Low t.word ∧ t.word.cps.toList.length ≤ 6 := by
  have h : ∀ x : Str, x ∈ ([("open" : Str), "num", "truth", "pair", "either", "list", "fun"] : List Str) → Low x ∧ x.cps.toList.length ≤ 6 := by
    intro x hx
    simp only [List.mem_cons, List.not_mem_nil, or_false] at hx
    rcases hx with rfl | rfl | rfl | rfl | rfl | rfl | rfl <;> exact ⟨by unfold Low; decide +kernel, by decide +kernel⟩
  intro t
  cases t <;> exact h _ (by simp [Kd.word])
theorem Nm.lo {x : Str} (h : Nm x) : Low x := h.low
theorem tt1 (x : Str) : (tupleText [x]).length = x.length + 3 := by
  have e : tupleText [x] = (Str.ofString "(" ++ x) ++ Str.ofString ",)" := rfl
  have e3 : (Str.ofString "(").length = 1 := by decide
  have e4 : (Str.ofString ",)").length = 2 := by decide
  rw [e, Str.length_append, Str.length_append, e3, e4]
  omega
theorem tt2 (x y : Str) : (tupleText [x, y]).length = x.length + y.length + 4 := by
  have e : tupleText [x, y] = (Str.ofString "(" ++ (x ++ Str.ofString ", " ++ y)) ++ Str.ofString ")" := rfl
  have e3 : (Str.ofString "(").length = 1 := by decide
  have e4 : (Str.ofString ")").length = 1 := by decide
  have e5 : (Str.ofString ", ").length = 2 := by decide
  rw [e, Str.length_append, Str.length_append, Str.length_append, Str.length_append, e3, e4, e5]
  omega
theorem tt3 (x y z : Str) : (tupleText [x, y, z]).length = x.length + y.length + z.length + 6 := by
  have e : tupleText [x, y, z] = (Str.ofString "(" ++ (x ++ Str.ofString ", " ++ (y ++ Str.ofString ", " ++ z))) ++ Str.ofString ")" := rfl
  have e3 : (Str.ofString "(").length = 1 := by decide
  have e4 : (Str.ofString ")").length = 1 := by decide
  have e5 : (Str.ofString ", ").length = 2 := by decide
  rw [e, Str.length_append, Str.length_append, Str.length_append, Str.length_append, Str.length_append, Str.length_append, e3, e4, e5]
  omega
theorem shD : ∀ t : Kd, (∀ x ∈ t.opens, Nm x) → cnt 40 (toD t).shown.cps.toList = (t.size : Int) ∧ (toD t).shown.length ≤ 24 * t.size ∧ (toD t).showable = true ∧ (toD t).hasDict = false ∧ (toD t).depth ≤ t.dp + 1
  | .opn x, h => by
    have nx := h x List.mem_cons_self
    obtain ⟨w1, w2⟩ := wd_low (.opn x)
    have l1 := len_low w1
    have l2 := len_low nx.lo
    have l3 := nx.few
    refine ⟨?_, ?_, by simp [toD, PyData.showable, PyData.showableAll], by simp [toD, PyData.hasDict, PyData.hasDictAll], by simp [toD, PyData.depth, PyData.depthAll]⟩
    · show cnt 40 (tupleText [reprText (Kd.opn x).word, reprText x]).cps.toList = 1
      rw [cnt_tup]
      simp only [List.map_cons, List.map_nil, List.sum_cons, List.sum_nil, cnt_low w1, cnt_low nx.lo]
      rfl
    · show (tupleText [reprText (Kd.opn x).word, reprText x]).length ≤ 24 * 1
      rw [tt2]
      omega
  | .num, _ => by
    obtain ⟨w1, w2⟩ := wd_low .num
    have l1 := len_low w1
    refine ⟨?_, ?_, by simp [toD, PyData.showable, PyData.showableAll], by simp [toD, PyData.hasDict, PyData.hasDictAll], by simp [toD, PyData.depth, PyData.depthAll]⟩
    · show cnt 40 (tupleText [reprText Kd.num.word]).cps.toList = 1
      rw [cnt_tup]
      simp only [List.map_cons, List.map_nil, List.sum_cons, List.sum_nil, cnt_low w1]
      rfl
    · show (tupleText [reprText Kd.num.word]).length ≤ 24 * 1
      rw [tt1]
      omega
  | .tru, _ => by
    obtain ⟨w1, w2⟩ := wd_low .tru
    have l1 := len_low w1
    refine ⟨?_, ?_, by simp [toD, PyData.showable, PyData.showableAll], by simp [toD, PyData.hasDict, PyData.hasDictAll], by simp [toD, PyData.depth, PyData.depthAll]⟩
    · show cnt 40 (tupleText [reprText Kd.tru.word]).cps.toList = 1
      rw [cnt_tup]
      simp only [List.map_cons, List.map_nil, List.sum_cons, List.sum_nil, cnt_low w1]
      rfl
    · show (tupleText [reprText Kd.tru.word]).length ≤ 24 * 1
      rw [tt1]
      omega
  | .pair a b, h => by
    obtain ⟨a1, a2, a3, a4, a5⟩ := shD a fun x hx => h x (List.mem_append_left _ hx)
    obtain ⟨b1, b2, b3, b4, b5⟩ := shD b fun x hx => h x (List.mem_append_right _ hx)
    obtain ⟨w1, w2⟩ := wd_low (.pair a b)
    have l1 := len_low w1
    refine ⟨?_, ?_, by simp [toD, PyData.showable, PyData.showableAll, a3, b3], by simp [toD, PyData.hasDict, PyData.hasDictAll, a4, b4], ?_⟩
    · show cnt 40 (tupleText [reprText (Kd.pair a b).word, (toD a).shown, (toD b).shown]).cps.toList = _
      rw [cnt_tup, (Kd.size2 a b).1]
      simp only [List.map_cons, List.map_nil, List.sum_cons, List.sum_nil, cnt_low w1, a1, b1]
      omega
    · show (tupleText [reprText (Kd.pair a b).word, (toD a).shown, (toD b).shown]).length ≤ _
      rw [tt3, (Kd.size2 a b).1]
      omega
    · simp only [toD, PyData.depth, PyData.depthAll, Kd.dp]
      omega
  | .eith a b, h => by
    obtain ⟨a1, a2, a3, a4, a5⟩ := shD a fun x hx => h x (List.mem_append_left _ hx)
    obtain ⟨b1, b2, b3, b4, b5⟩ := shD b fun x hx => h x (List.mem_append_right _ hx)
    obtain ⟨w1, w2⟩ := wd_low (.eith a b)
    have l1 := len_low w1
    refine ⟨?_, ?_, by simp [toD, PyData.showable, PyData.showableAll, a3, b3], by simp [toD, PyData.hasDict, PyData.hasDictAll, a4, b4], ?_⟩
    · show cnt 40 (tupleText [reprText (Kd.eith a b).word, (toD a).shown, (toD b).shown]).cps.toList = _
      rw [cnt_tup, (Kd.size2 a b).2.1]
      simp only [List.map_cons, List.map_nil, List.sum_cons, List.sum_nil, cnt_low w1, a1, b1]
      omega
    · show (tupleText [reprText (Kd.eith a b).word, (toD a).shown, (toD b).shown]).length ≤ _
      rw [tt3, (Kd.size2 a b).2.1]
      omega
    · simp only [toD, PyData.depth, PyData.depthAll, Kd.dp]
      omega
  | .lst a, h => by
    obtain ⟨a1, a2, a3, a4, a5⟩ := shD a h
    obtain ⟨w1, w2⟩ := wd_low (.lst a)
    have l1 := len_low w1
    refine ⟨?_, ?_, by simp [toD, PyData.showable, PyData.showableAll, a3], by simp [toD, PyData.hasDict, PyData.hasDictAll, a4], ?_⟩
    · show cnt 40 (tupleText [reprText (Kd.lst a).word, (toD a).shown]).cps.toList = _
      rw [cnt_tup, (Kd.size2 a a).2.2]
      simp only [List.map_cons, List.map_nil, List.sum_cons, List.sum_nil, cnt_low w1, a1]
      omega
    · show (tupleText [reprText (Kd.lst a).word, (toD a).shown]).length ≤ _
      rw [tt2, (Kd.size2 a a).2.2]
      omega
    · simp only [toD, PyData.depth, PyData.depthAll, Kd.dp]
      omega
  | .fn a b, h => by
    obtain ⟨a1, a2, a3, a4, a5⟩ := shD a fun x hx => h x (List.mem_append_left _ hx)
    obtain ⟨b1, b2, b3, b4, b5⟩ := shD b fun x hx => h x (List.mem_append_right _ hx)
    obtain ⟨w1, w2⟩ := wd_low (.fn a b)
    have l1 := len_low w1
    refine ⟨?_, ?_, by simp [toD, PyData.showable, PyData.showableAll, a3, b3], by simp [toD, PyData.hasDict, PyData.hasDictAll, a4, b4], ?_⟩
    · show cnt 40 (tupleText [reprText (Kd.fn a b).word, (toD a).shown, (toD b).shown]).cps.toList = _
      rw [cnt_tup, Kd.size_fn]
      simp only [List.map_cons, List.map_nil, List.sum_cons, List.sum_nil, cnt_low w1, a1, b1]
      omega
    · show (tupleText [reprText (Kd.fn a b).word, (toD a).shown, (toD b).shown]).length ≤ _
      rw [tt3, Kd.size_fn]
      omega
    · simp only [toD, PyData.depth, PyData.depthAll, Kd.dp]
      omega
theorem showT {t : Kd} (h : ∀ x ∈ t.opens, Nm x) (hd : t.dp ≤ 60) (hz : t.size ≤ 100) : Shows 62 (toD t) ∧ Txt.count (toD t).shown "(" = (t.size : Int) := by
  obtain ⟨a1, a2, a3, a4, a5⟩ := shD t h
  refine ⟨⟨a3, a4, by omega, Nat.le_trans a2 (Nat.le_trans (Nat.mul_le_mul_left 24 hz) (by decide))⟩, ?_⟩
  rw [count_par]
  exact a1
theorem cut_ints (ns : List Int) (lo hi : Option Int) : cutV (ns.map V.int) lo hi = (((ns.drop (HT.sIx ns.length 0 lo)).take (HT.sIx ns.length ns.length hi - HT.sIx ns.length 0 lo))).map V.int := by
  unfold cutV
  rw [List.length_map, ← List.map_drop, ← List.map_take]
end Kq

namespace Kq
open PySem PySem.Spec PyProof.Rows L2 Kf
abbrev tLaw : Stmt := tp 20
abbrev nLaw : List Str := ["_law_script", "_law_k", "_law_deck_here", "_law_names_here", "_law_opens_here", "_law_deep", "_law_word", "_law_other", "_law_some", "_law_kind"]
theorem sqKeep {K : PySem.W.Frag} {H G : Hp} {a : Addr} {xs : List V} (h : SqL K H a xs) (k : ∀ o, H a = some o → G a = some o) : SqL K G a xs := by
  rcases h with (h | ⟨o, h⟩) | h
  · exact .inl (.inl (k _ h))
  · exact .inl (.inr ⟨o, k _ h⟩)
  · exact .inr h
theorem leaf_of {xs : List Str} {t : Kd} (h : Dta 0 xs t) : t.dp = 0 ∧ t.size = 1 := by
  have h1 := h.dp
  have h2 : t.size ≤ 1 := h.sz
  have h3 := Kd.size_pos t
  omega
/-- what grows in the loop -/
structure Grow (xs : List Str) (t : Kd) : Prop where
  dp : t.dp + 1 ≤ t.size
  sz : t.size ≤ 60
  op : ∀ x ∈ t.opens, x ∈ xs
section
variable {P : Program} {w : World} {K : PySem.W.Frag} {mg : Str → Option Value} {base : Heap}
theorem scLaw : FnScope nLaw ["_law_script"] (defScope tLaw) := ⟨rfl, rfl, rfl, by decide +kernel, rfl, by decide +kernel, by decide +kernel⟩
def spLaw (K : PySem.W.Frag) : Sp := fun vs H Q _ => ∃ (a : Addr) (ns : List Int), vs = [.ref a] ∧ SqL K H a (ns.map V.int) ∧ ns.length ≤ 63 ∧ ∀ G : Hp, Q (.bl true) G
theorem okLaw {f fS fR fK fD fN fT fH fW : Addr} {fd fdS fdR fdK fdD fdN fdT fdH fdW : FuncData} (F : Fun K "law" "law" tLaw f fd)
    (GS : FnOk P w K mg base CX0 66 fS fdS ["kind"] (spSay K 62)) (bS : Binds K fdS ["kind"] []) (gS : mg "saying_of" = some (.ref fS)) (kS : PySem.W.keepIn K (.ref fS) = true)
    (GR : FnOk P w K mg base CX0 67 fR fdR psRight spRight) (bR : Binds K fdR psRight []) (gR : mg "_law_right" = some (.ref fR)) (kR : PySem.W.keepIn K (.ref fR) = true)
    (GK : FnOk P w K mg base CX0 67 fK fdK ["_law_script"] (spDeck K)) (bK : Binds K fdK ["_law_script"] []) (gK : mg "_law_deck" = some (.ref fK)) (kK : PySem.W.keepIn K (.ref fK) = true)
    (GD : FnOk P w K mg base CX0 67 fD fdD ["_law_deck_here", "_law_most"] spDraw) (bD : Binds K fdD ["_law_deck_here", "_law_most"] []) (gD : mg "_law_draw" = some (.ref fD)) (kD : PySem.W.keepIn K (.ref fD) = true)
    (GN : FnOk P w K mg base CX0 67 fN fdN ["_law_deck_here", "_law_many"] spNames) (bN : Binds K fdN ["_law_deck_here", "_law_many"] []) (gN : mg "_law_names" = some (.ref fN)) (kN : PySem.W.keepIn K (.ref fN) = true)
    (GT : FnOk P w K mg base CX0 6 fT fdT psData (spData 4)) (bT : Binds K fdT psData []) (gT : mg "_law_data" = some (.ref fT)) (kT : PySem.W.keepIn K (.ref fT) = true)
    (GH : FnOk P w K mg base CX0 7 fH fdH psTwo spHanded) (bH : Binds K fdH psTwo []) (gH : mg "_law_handed" = some (.ref fH)) (kH : PySem.W.keepIn K (.ref fH) = true)
    (GW : FnOk P w K mg base CX0 8 fW fdW psTwo spWalked) (bW : Binds K fdW psTwo []) (gW : mg "_law_walked" = some (.ref fW)) (kW : PySem.W.keepIn K (.ref fW) = true)
    (mr : mg "range" = none) (mx : mg "max" = none) (mm : mg "min" = none) (mn : mg "len" = none) (mp : mg "repr" = none) : FnG P w K mg base CX0 68 f fd ["_law_script"] (spLaw K) := by
  refine okG F scLaw (fun vs H Q E h => ?_) (fun cdv A outer s H vs Q E still hr h => ?_)
  · obtain ⟨a, ns, rfl, _⟩ := h
    rfl
  obtain ⟨a, ns, rfl, hS, hl, q⟩ := h
  have r66 := hr.mono (show 66 ≤ 67 by decide)
  have r6 := hr.mono (show 6 ≤ 67 by decide)
  have r7 := hr.mono (show 7 ≤ 67 by decide)
  have r8 := hr.mono (show 8 ≤ 67 by decide)
  have hu : (A.deeper (envOfC (Str.ofString "law") (defScope tLaw) s.heap.objs.size f cdv)).units + (62 + 1) < cLine := by
    have := hr.units
    omega
  refine ⟨_, pss_cons (ps_for PassesOwn.never rfl (pi_range1 (by rfl) mr (pa_cons (pe_callB (call_max2 rfl) (by rfl) mx PyProof.Rows.boot_max (pa_cons pe_int (pa_cons (pe_callB (call_min2 rfl) (by rfl) mm PyProof.Rows.boot_min (pa_cons (pe_callB call_len_seq (by rfl) mn PySem.boot_len (pa_cons (pv 0) pa_nil)) (pa_cons pe_int pa_nil))) pa_nil))) pa_nil)) (pg_name (i := 1) scLaw.nd rfl (.inl rfl))
      (pss_cons (ps_set (i := 2) scLaw.nd rfl (.inl rfl) (pe_call GK hr (by rfl) gK kK bK .nil pass0 (pa_cons (pe_op op_cat (pe_op op_cat (pe_slice sl_list (pv 0) (po_some (pv 1)) (po_some (pe_op op_add (pv 1) pe_int))) (pe_slice sl_list (pv 0) po_none (po_some (pv 1)))) (pe_slice sl_list (pv 0) (po_some (pe_op op_add (pv 1) pe_int)) po_none)) pa_nil)))
      (pss_cons (ps_set (i := 3) scLaw.nd rfl (.inr rfl) (pe_call GN hr (by rfl) gN kN bN .nil pass0 (pa_cons (pv 2) (pa_cons pe_int pa_nil))))
      (pss_cons (ps_set (i := 4) scLaw.nd rfl (.inl rfl) (pe_slice sl_list (pv 3) po_none (po_some (pe_call GD hr (by rfl) gD kD bD .nil pass0 (pa_cons (pv 2) (pa_cons pe_int pa_nil))))))
      (pss_cons (ps_set (i := 5) scLaw.nd rfl (.inl rfl) (pe_call GT r6 (by rfl) gT kT bT .nil pass0 (pa_cons (pv 2) (pa_cons (pv 4) (pa_cons pe_int (pa_cons pe_bl pa_nil))))))
      (pss_cons (ps_while PassesOwn.never (pt_cmpR op_lt (pe_bm PySem.F.plainAttrs_str PySem.F.slot_str_count PySem.F.type_str_count mt_count (pe_callB (call_show (n := 62) still hu) (by rfl) mp PyProof.Rows.boot_repr (pa_cons (pv 5) pa_nil)) (pa_cons pe_str pa_nil)) pe_int (nomark _))
        (pss_cons (ps_set (i := 6) scLaw.nd rfl (.inl rfl) (pe_ix ix_list (pe_lst (pa_cons pe_str (pa_cons pe_str (pa_cons pe_str pa_nil)))) (pe_call GD hr (by rfl) gD kD bD .nil pass0 (pa_cons (pv 2) (pa_cons pe_int pa_nil))) (fun _ _ => rfl)))
        (pss_cons (ps_set (i := 7) scLaw.nd rfl (.inl rfl) (pe_ix ix_list (pe_lst (pa_cons (pe_tup (pa_cons (pe_tup (pa_cons pe_str pa_nil)) pa_nil)) (pa_cons (pe_tup (pa_cons (pe_tup (pa_cons pe_str pa_nil)) pa_nil)) (pa_cons (pe_tup (pa_cons (pe_call GT r6 (by rfl) gT kT bT .nil pass0 (pa_cons (pv 2) (pa_cons (pv 4) (pa_cons pe_int (pa_cons pe_bl pa_nil))))) pa_nil)) pa_nil)))) (pe_call GD hr (by rfl) gD kD bD .nil pass0 (pa_cons (pv 2) (pa_cons pe_int pa_nil))) (fun _ _ => rfl)))
        (pss_one (ps_if (pt_cmpR op_eq (pv 6) pe_str (nomark _)) (pss_one (ps_set (i := 5) scLaw.nd rfl (.inl rfl) (pe_tup (pa_cons pe_str (pa_cons (pv 5) pa_nil)))))
          (pss_one (ps_set (i := 5) scLaw.nd rfl (.inl rfl) (pe_ix ix_list (pe_lst (pa_cons (pe_op op_catT (pe_tup (pa_cons (pv 6) (pa_cons (pv 5) pa_nil))) (pv 7)) (pa_cons (pe_op op_catT (pe_op op_catT (pe_tup (pa_cons (pv 6) pa_nil)) (pv 7)) (pe_tup (pa_cons (pv 5) pa_nil))) pa_nil))) (pe_call GD hr (by rfl) gD kD bD .nil pass0 (pa_cons (pv 2) (pa_cons pe_int pa_nil))) (fun _ _ => rfl)))))))))
      (pss_cons (ps_set (i := 8) scLaw.nd rfl (.inl rfl) (pe_lst (pa_cons (pe_call GT r6 (by rfl) gT kT bT .nil pass0 (pa_cons (pv 2) (pa_cons (pv 4) (pa_cons pe_int (pa_cons pe_bl pa_nil))))) (pa_cons (pe_call GH r7 (by rfl) gH kH bH .nil pass0 (pa_cons (pv 2) (pa_cons (pv 4) pa_nil))) (pa_cons (pe_call GW r8 (by rfl) gW kW bW .nil pass0 (pa_cons (pv 2) (pa_cons (pv 4) pa_nil))) (pa_cons (pv 5) pa_nil))))))
      (pss_one (ps_if (pt_cmpR (op_neD hr.units) (pe_lc (own := [("_law_kind", 9)]) (g := gName 9) (by rfl) scLaw.nd (pi_list (pv 8)) (blkOk_by (own := [("_law_kind", 9)]) (N := nLaw) (sc := defScope tLaw) (by decide +kernel))
          (fun _ _ _ _ _ => pg_name (i := 9) scLaw.nd rfl (.inl rfl)) (fun _ _ _ _ _ => pts_one (pt_not (pt_val (pe_call GR hr (by rfl) gR kR bR .nil pass0 (pa_cons (pv 9) (pa_cons (pv 3) pa_nil)))))) (fun _ _ _ _ _ => pv 9)) (pe_lst pa_nil) (nomark _)) (pss_one (ps_ret pe_bl)) pss_nil)))))))))
    (pss_one (ps_ret (pe_cmpR (op_eqD hr.units) (pe_call GS r66 (by rfl) gS kS bS .nil pass0 (pa_cons (pe_tup (pa_cons pe_str (pa_cons (pe_tup (pa_cons pe_str pa_nil)) pa_nil))) pa_nil)) (pe_tup (pa_cons pe_str pa_nil)) (nomark _)))), ?_⟩
  refine ⟨_, rfl, a, _, rfl, .inl hS, _, _, rfl, _, _, rfl, ?_⟩
  rw [List.length_map]
  generalize hN : (if (if (6 : Int) < (ns.length : Int) then (6 : Int) else (ns.length : Int)) > 1 then (if (6 : Int) < (ns.length : Int) then (6 : Int) else (ns.length : Int)) else (1 : Int)) = N
  have N6 : N ≤ 6 := by
    rw [← hN]
    split <;> split <;> omega
  refine ⟨N, rfl, by omega, by omega, ?_⟩
  refine for_range (lo := 0) (n := N.toNat) (fun i σ G => (∃ y1 y2 y3 y4 y5 y6 y7 y8, σ = [some (.ref a), y1, y2, y3, y4, y5, y6, y7, y8, none]) ∧ SqL K G a (ns.map V.int)) ⟨⟨_, _, _, _, _, _, _, _, rfl⟩, hS⟩ (fun i σ G hi z => ?_) (fun σ G z => ?_)
  · obtain ⟨⟨y1, y2, y3, y4, y5, y6, y7, y8, rfl⟩, sG⟩ := z
    have e0 : (0 : Int) + (i : Int) = ((i : Nat) : Int) := by omega
    have e1 : (0 : Int) + (i : Int) + 1 = ((i + 1 : Nat) : Int) := by omega
    -- the deck
    refine ⟨_, rfl, _, rfl, _, rfl, _, rfl, _, _, rfl, rfl, _, rfl, a, _, rfl, sG, fun p1 n1 => ?_⟩
    have s1 := newS (o := .lst (cutV (ns.map V.int) (some (0 + (i : Int))) (some (0 + (i : Int) + 1)))) n1
    refine ⟨_, rfl, _, rfl, _, rfl, a, _, rfl, sqKeep sG (fun o e => s1 _ _ e), fun p2 n2 => ?_⟩
    have s2 := newS (o := .lst (cutV (ns.map V.int) none (some (0 + (i : Int))))) n2
    have lc : ∀ lo hi, (cutV (ns.map V.int) lo hi).length ≤ 63 := fun lo hi => by
      rw [cut_ints, List.length_map, List.length_take, List.length_drop]
      omega
    have l1 := lc (some (0 + (i : Int))) (some (0 + (i : Int) + 1))
    have l2 := lc none (some (0 + (i : Int)))
    refine ⟨p1, p2, _, _, rfl, rfl, s2 p1 _ upd_same, upd_same, sz (by omega), fun p3 n3 => ?_⟩
    have s3 := newS (o := .lst (cutV (ns.map V.int) (some (0 + (i : Int))) (some (0 + (i : Int) + 1)) ++ cutV (ns.map V.int) none (some (0 + (i : Int))))) n3
    have s13 := s1.trans (s2.trans s3)
    refine ⟨_, rfl, _, rfl, _, _, rfl, rfl, _, rfl, a, _, rfl, sqKeep sG (fun o e => s13 _ _ e), fun p4 n4 => ?_⟩
    have s4 := newS (o := .lst (cutV (ns.map V.int) (some (0 + (i : Int) + 1)) none)) n4
    have l3 := lc (some (0 + (i : Int) + 1)) none
    refine ⟨p3, p4, _, _, rfl, rfl, s4 p3 _ upd_same, upd_same, sz (by rw [List.length_append]; omega), fun p5 n5 => ?_⟩
    obtain ⟨ms, lm, em⟩ : ∃ ms : List Int, ms.length ≤ 63 ∧ cutV (ns.map V.int) (some (0 + (i : Int))) (some (0 + (i : Int) + 1)) ++ cutV (ns.map V.int) none (some (0 + (i : Int))) ++ cutV (ns.map V.int) (some (0 + (i : Int) + 1)) none = ms.map V.int := by
      rw [e1, e0, cut_ints, cut_ints, cut_ints, HT.sIx_nat, HT.sIx_nat, HT.sIx_nat, HT.sIx_nat, HT.sIx_none, HT.sIx_none, ← List.map_append, ← List.map_append]
      refine ⟨_, ?_, rfl⟩
      simp only [List.length_append, List.length_take, List.length_drop]
      omega
    rw [em]
    have s5 := newS (o := .lst (ms.map V.int)) n5
    have s15 := s13.trans (s4.trans s5)
    refine ⟨p5, ms, rfl, SqL.of upd_same, lm, fun d c G1 sD nd nc dk => ?_⟩
    have sA := s15.trans sD
    have ad : ∀ o, G a = some o → a ≠ d ∧ a ≠ c := fun o e => ⟨ne_of_none (s15 _ _ e) nd, ne_of_none (s15 _ _ e) nc⟩
    clear s1 s2 s3 s4 s5 s13 n1 n2 n3 n4 n5 l1 l2 l3 em lc
    -- the names
    refine ⟨_, rfl, d, c, 4, rfl, dk, by decide, by decide, fun l xs G2 kp2 dk2 nl gl lx hx nx => ?_⟩
    have l4 : xs.length = 4 := lx
    have offl := dk.off nl
    refine ⟨_, rfl, _, rfl, d, c, 5, rfl, dk2, by decide, by decide, fun r G3 r0 r1 kp3 dk3 => ?_⟩
    have gl3 := kp3 l _ offl.1 offl.2 gl
    refine ⟨r, rfl, l, _, rfl, SqL.of gl3, fun o no => ?_⟩
    have er : r = ((r.toNat : Nat) : Int) := by omega
    have ecut : cutV (xs.map V.str) none (some r) = (xs.take r.toNat).map V.str := by
      rw [er, cutTo (by rw [List.length_map]; omega), List.map_take]
      rfl
    rw [ecut]
    have offo := dk3.off no
    have so := newS (o := .lst ((xs.take r.toNat).map V.str)) no
    have kpo : Kp d c G1 (upd G3 o (.lst ((xs.take r.toNat).map V.str))) := (kp2.trans kp3).trans (Kp.of so)
    have dko := dk3.same so
    have glo := so _ _ gl3
    have hoo : (upd G3 o (.lst ((xs.take r.toNat).map V.str))) o = some (.lst ((xs.take r.toNat).map V.str)) := upd_same
    generalize hys : xs.take r.toNat = ys at kpo dko glo hoo
    have ysx : ∀ y ∈ ys, y ∈ xs := fun y hy => List.mem_of_mem_take (by rw [hys]; exact hy)
    have ly : ys.length ≤ 26 := by
      rw [← hys, List.length_take]
      omega
    have hy : ∀ y ∈ ys, Nm y := fun y h => hx y (ysx y h)
    generalize upd G3 o (.lst (ys.map V.str)) = G4 at kpo dko glo hoo
    clear gl gl3 kp2 kp3 dk2 dk3 so nl no
    -- what grows
    refine ⟨_, rfl, _, rfl, d, c, o, ys, 0, false, rfl, by decide, dko, hoo, offo.1, offo.2, ly, hy, fun v0 t0 G5 kp5 dk5 r5 d5 => ?_⟩
    have lf0 := leaf_of d5
    refine ⟨fun m σ F => ∃ v t y6 y7, m = 61 - t.size ∧ σ = [some (.ref a), some (.int (0 + (i : Int))), some (.ref d), some (.ref l), some (.ref o), some v, y6, y7, y8, none] ∧ Kp d c G1 F ∧ Dk F d c ∧ F l = some (.lst (xs.map V.str)) ∧ F o = some (.lst (ys.map V.str)) ∧ Rp F t v ∧ Grow ys t,
      ⟨_, v0, t0, _, _, rfl, rfl, kpo.trans kp5, dk5, kp5 l _ offl.1 offl.2 glo, kp5 o _ offo.1 offo.2 hoo, r5, ⟨by omega, by omega, d5.op⟩⟩, fun m σ F z => ?_⟩
    obtain ⟨v, t, y6', y7', rfl, rfl, kpF, dkF, glF, hoF, rF, gr⟩ := z
    have g1 := gr.dp
    have g2 := gr.sz
    obtain ⟨shw, cnt⟩ := showT (t := t) (fun x h => hy x (gr.op x h)) (by omega) (by omega)
    obtain ⟨va, _, eva, _, _⟩ := rF.see
    subst eva
    refine ⟨_, rfl, va, toD t, rfl, dpT K rF, shw, rfl, _, _, rfl, rfl, ?_⟩
    rw [cnt]
    refine ⟨_, _, rfl, rfl, _, rfl, ite2 (fun lt => ?_) (fun ge => ?_)⟩
    · have lt : (t.size : Int) < 59 := of_decide_eq_true lt
      refine ⟨fun σ' F' => ∃ m', m' < 61 - t.size ∧ ∃ v t y6 y7, m' = 61 - t.size ∧ σ' = [some (.ref a), some (.int (0 + (i : Int))), some (.ref d), some (.ref l), some (.ref o), some v, y6, y7, y8, none] ∧ Kp d c G1 F' ∧ Dk F' d c ∧ F' l = some (.lst (xs.map V.str)) ∧ F' o = some (.lst (ys.map V.str)) ∧ Rp F' t v ∧ Grow ys t, fun σ' F' z => z, ?_⟩
      -- the word
      refine ⟨(by show 3 ≤ sizeLine; decide), fun L nL => ?_⟩
      have offL := dkF.off nL
      have sL := newS (o := .lst [V.str "list", .str "pair", .str "either"]) nL
      refine ⟨_, rfl, d, c, 3, rfl, dkF.same sL, by decide, by decide, fun rw1 F1 w0 w1 kp1 dk1 => ?_⟩
      obtain ⟨wd, hw, ew⟩ : ∃ wd : Str, (wd = "list" ∨ wd = "pair" ∨ wd = "either") ∧ atI [V.str "list", V.str "pair", V.str "either"] rw1 = some (.str wd) := by
        have : rw1 = 0 ∨ rw1 = 1 ∨ rw1 = 2 := by omega
        rcases this with rfl | rfl | rfl
        · exact ⟨_, .inl rfl, rfl⟩
        · exact ⟨_, .inr (.inl rfl), rfl⟩
        · exact ⟨_, .inr (.inr rfl), rfl⟩
      refine ⟨L, _, _, _, rfl, rfl, SqL.of (kp1 L _ offL.1 offL.2 upd_same), ew, ?_⟩
      have kA : Kp d c F F1 := (Kp.of sL).trans kp1
      have tA : Tk F F1 := Tk.kp kA dkF
      have hoA := kA o _ offo.1 offo.2 hoF
      clear sL offL nL kp1
      -- the other one
      refine ⟨(by show 1 ≤ sizeLine; decide), fun p1 n1 => ⟨(by show 1 ≤ sizeLine; decide), fun p2 n2 => ⟨(by show 1 ≤ sizeLine; decide), fun p3 n3 => ⟨(by show 1 ≤ sizeLine; decide), fun p4 n4 => ?_⟩⟩⟩⟩
      have s1 := newS (o := .tup [V.str "truth"]) n1
      have s2 := newS (o := .tup [V.ref p1]) n2
      have s3 := newS (o := .tup [V.str "num"]) n3
      have s4 := newS (o := .tup [V.ref p3]) n4
      have s14 := s1.trans (s2.trans (s3.trans s4))
      have g1' := s4 _ _ (s3 _ _ (s2 p1 _ upd_same))
      have g2' := s4 _ _ (s3 p2 _ upd_same)
      have g3' := s4 p3 _ upd_same
      have g4' : (upd (upd (upd (upd F1 p1 (.tup [V.str "truth"])) p2 (.tup [V.ref p1])) p3 (.tup [V.str "num"])) p4 (.tup [V.ref p3])) p4 = some (.tup [V.ref p3]) := upd_same
      have dkB := dk1.same s14
      have kB : Kp d c F _ := kA.trans (Kp.of s14)
      have hoB := s14 _ _ hoA
      generalize upd (upd (upd (upd F1 p1 (.tup [V.str "truth"])) p2 (.tup [V.ref p1])) p3 (.tup [V.str "num"])) p4 (.tup [V.ref p3]) = F2 at g1' g2' g3' g4' dkB kB hoB
      clear s1 s2 s3 s4 s14 n1 n2 n3 n4
      refine ⟨_, rfl, _, rfl, d, c, o, ys, 0, true, rfl, by decide, dkB, hoB, offo.1, offo.2, ly, hy, fun v6 t6 F3 kp6 dk6 r6 d6 => ?_⟩
      refine ⟨(by show 1 ≤ sizeLine; decide), fun p6 n6 => ⟨(by show 3 ≤ sizeLine; decide), fun L2 nL2 => ?_⟩⟩
      have t6k := Tk.kp kp6 dkB
      have s6 := newS (o := .tup [v6]) n6
      have s7 := newS (o := .lst [V.ref p2, .ref p4, .ref p6]) nL2
      have dkC := dk6.same (s6.trans s7)
      have offL2 := (dk6.same s6).off nL2
      refine ⟨_, rfl, d, c, 3, rfl, dkC, by decide, by decide, fun r3 F4 r30 r31 kp7 dk7 => ?_⟩
      have kC : Kp d c F F4 := ((kB.trans kp6).trans (Kp.of (s6.trans s7))).trans kp7
      have tC : Tk F2 F4 := (t6k.trans (Tk.of (s6.trans s7))).trans (Tk.kp kp7 dkC)
      have tD : Tk F3 F4 := (Tk.of (s6.trans s7)).trans (Tk.kp kp7 dkC)
      have g6' : F4 p6 = some (.tup [v6]) := Tk.kp kp7 dkC _ _ (s7 p6 _ upd_same)
      obtain ⟨q0, u, tu, eq0, gq0, ru, lu1, lu2, lu3⟩ : ∃ (q0 : Addr) (u : V) (tu : Kd), atI [V.ref p2, V.ref p4, V.ref p6] r3 = some (.ref q0) ∧ F4 q0 = some (.tup [u]) ∧ Rp F4 tu u ∧ tu.dp = 0 ∧ tu.size = 1 ∧ ∀ x ∈ tu.opens, x ∈ ys := by
        have : r3 = 0 ∨ r3 = 1 ∨ r3 = 2 := by omega
        rcases this with rfl | rfl | rfl
        · exact ⟨p2, .ref p1, .tru, rfl, tC _ _ g2', ⟨p1, rfl, tC _ _ g1'⟩, rfl, rfl, fun x z => (nomatch z)⟩
        · exact ⟨p4, .ref p3, .num, rfl, tC _ _ g4', ⟨p3, rfl, tC _ _ g3'⟩, rfl, rfl, fun x z => (nomatch z)⟩
        · obtain ⟨z1, z2⟩ := leaf_of d6
          exact ⟨p6, v6, t6, rfl, g6', r6.tk tD, z1, z2, d6.op⟩
      refine ⟨L2, _, _, _, rfl, rfl, SqL.of (kp7 L2 _ offL2.1 offL2.2 upd_same), eq0, ?_⟩
      have rG : Rp F4 t (.ref va) := rF.tk (Tk.kp kC dkF)
      have glG := kC l _ offl.1 offl.2 glF
      have hoG := kC o _ offo.1 offo.2 hoF
      have kG := kpF.trans kC
      clear g1' g2' g3' g4' dkB kB hoB kp6 dk6 r6 t6k s6 s7 dkC offL2 tC tD g6' kp7 kA tA hoA dk1 nL2 n6
      -- what comes of it
      refine ⟨_, rfl, rfl, _, rfl, ite2 (fun isl => ?_) (fun nol => ?_)⟩
      · refine ⟨_, rfl, (by show 2 ≤ sizeLine; decide), fun p np => ?_⟩
        have s := newS (o := .tup [V.str "list", V.ref va]) np
        refine ⟨_, ?_, .ref p, .lst t, _, _, rfl, rfl, kG.trans (Kp.of s), dk7.same s, s _ _ glG, s _ _ hoG, ⟨p, .ref va, rfl, upd_same, rG.tk (Tk.of s)⟩, ?_, ?_, gr.op⟩
        · rw [(Kd.size2 t t).2.2]
          omega
        · rw [(Kd.size2 t t).2.2]
          show t.dp + 1 + 1 ≤ _
          omega
        · rw [(Kd.size2 t t).2.2]
          omega
      · obtain ⟨mk, m0, m2, m3, m4⟩ : ∃ mk : Kd → Kd → Kd, (∀ a b F x y pp, F pp = some (.tup [.str wd, x, y]) → Rp F a x → Rp F b y → Rp F (mk a b) (.ref pp)) ∧ (∀ a b, (mk a b).dp = max a.dp b.dp + 1) ∧ (∀ a b, (mk a b).size = a.size + b.size + 1) ∧ (∀ a b, (mk a b).opens = a.opens ++ b.opens) := by
          rcases hw with rfl | rfl | rfl
          · exact absurd (decide_eq_true rfl) nol
          · exact ⟨.pair, fun a b F x y pp h1 h2 h3 => ⟨pp, x, y, rfl, h1, h2, h3⟩, fun _ _ => rfl, fun a b => (Kd.size2 a b).1, fun _ _ => rfl⟩
          · exact ⟨.eith, fun a b F x y pp h1 h2 h3 => ⟨pp, x, y, rfl, h1, h2, h3⟩, fun _ _ => rfl, fun a b => (Kd.size2 a b).2.1, fun _ _ => rfl⟩
        refine ⟨_, rfl, _, rfl, (by show 2 ≤ sizeLine; decide), fun q1 m1 => ?_⟩
        have s1 := newS (o := .tup [V.str wd, V.ref va]) m1
        refine ⟨_, rfl, q1, q0, _, _, rfl, rfl, SqT.of upd_same, SqT.of (s1 _ _ gq0), (fun z => nomatch z), (by show 3 ≤ sizeLine; decide), (fun z => nomatch z), fun _ q2 m2' => ?_⟩
        have s2 := newS (o := .tup ([V.str wd, V.ref va] ++ [u])) m2'
        refine ⟨_, rfl, (by show 1 ≤ sizeLine; decide), fun q3 m3' => ?_⟩
        have s3 := newS (o := .tup [V.str wd]) m3'
        have s13 := s1.trans (s2.trans s3)
        refine ⟨_, rfl, q3, q0, _, _, rfl, rfl, SqT.of upd_same, SqT.of (s13 _ _ gq0), (fun z => nomatch z), (by show 2 ≤ sizeLine; decide), (fun z => nomatch z), fun _ q4 m4' => ?_⟩
        have s4 := newS (o := .tup ([V.str wd] ++ [u])) m4'
        refine ⟨_, rfl, (by show 1 ≤ sizeLine; decide), fun q5 m5 => ?_⟩
        have s5 := newS (o := .tup [V.ref va]) m5
        refine ⟨q4, q5, _, _, rfl, rfl, SqT.of (s5 q4 _ upd_same), SqT.of upd_same, (fun z => nomatch z), (by show 3 ≤ sizeLine; decide), (fun z => nomatch z), fun _ q6 m6 => ?_⟩
        have s6 := newS (o := .tup ([V.str wd] ++ [u] ++ [V.ref va])) m6
        refine ⟨(by show 2 ≤ sizeLine; decide), fun L3 nL3 => ?_⟩
        have s7 := newS (o := .lst [V.ref q2, .ref q6]) nL3
        have s37 := s3.trans (s4.trans (s5.trans (s6.trans s7)))
        have gq2 := s37 q2 _ upd_same
        have gq6 := s7 q6 _ upd_same
        have sB := s13.trans (s4.trans (s5.trans (s6.trans s7)))
        have dkE := dk7.same sB
        have offL3 := (dk7.same (s13.trans (s4.trans (s5.trans s6)))).off nL3
        refine ⟨_, rfl, d, c, 2, rfl, dkE, by decide, by decide, fun r5' F5 r50 r51 kp8 dk8 => ?_⟩
        have tE := Tk.kp kp8 dkE
        have kE : Kp d c G1 F5 := (kG.trans (Kp.of sB)).trans kp8
        have tF : Tk F4 F5 := (Tk.of sB).trans tE
        have glE := kp8 l _ offl.1 offl.2 (sB _ _ glG)
        have hoE := kp8 o _ offo.1 offo.2 (sB _ _ hoG)
        have grow : ∀ ta tb : Kd, ((ta = t ∧ tb = tu) ∨ (ta = tu ∧ tb = t)) → Grow ys (mk ta tb) ∧ 61 - (mk ta tb).size < 61 - t.size := by
          intro ta tb h
          have sz2 : (mk ta tb).size = t.size + 2 := by
            rcases h with ⟨rfl, rfl⟩ | ⟨rfl, rfl⟩ <;> rw [m3] <;> omega
          refine ⟨⟨?_, by omega, fun x hx' => ?_⟩, by omega⟩
          · rw [sz2, m2]
            rcases h with ⟨rfl, rfl⟩ | ⟨rfl, rfl⟩ <;> omega
          · rw [m4] at hx'
            rcases h with ⟨rfl, rfl⟩ | ⟨rfl, rfl⟩
            · rcases List.mem_append.mp hx' with z | z
              · exact gr.op x z
              · exact lu3 x z
            · rcases List.mem_append.mp hx' with z | z
              · exact lu3 x z
              · exact gr.op x z
        have two : r5' = 0 ∨ r5' = 1 := by omega
        rcases two with rfl | rfl
        · obtain ⟨b1, b2⟩ := grow t tu (.inl ⟨rfl, rfl⟩)
          exact ⟨L3, _, _, _, rfl, rfl, SqL.of (kp8 L3 _ offL3.1 offL3.2 upd_same), rfl, _, b2, .ref q2, mk t tu, _, _, rfl, rfl, kE, dk8, glE, hoE, m0 t tu _ _ _ q2 (tE _ _ gq2) (rG.tk tF) (ru.tk tF), b1⟩
        · obtain ⟨b1, b2⟩ := grow tu t (.inr ⟨rfl, rfl⟩)
          exact ⟨L3, _, _, _, rfl, rfl, SqL.of (kp8 L3 _ offL3.1 offL3.2 upd_same), rfl, _, b2, .ref q6, mk tu t, _, _, rfl, rfl, kE, dk8, glE, hoE, m0 tu t _ _ _ q6 (tE _ _ gq6) (ru.tk tF) (rG.tk tF), b1⟩
    · -- the four kinds
      refine ⟨_, rfl, _, rfl, d, c, o, ys, 3, false, rfl, by decide, dkF, hoF, offo.1, offo.2, ly, hy, fun v1 t1 H1 k1 d1 rr1 dt1 => ?_⟩
      have ho1 := k1 o _ offo.1 offo.2 hoF
      refine ⟨_, rfl, _, rfl, d, c, o, ys, rfl, d1, ho1, offo.1, offo.2, ly, hy, fun v2 t2 H2 k2 d2 rr2 bd2 => ?_⟩
      have ho2 := k2 o _ offo.1 offo.2 ho1
      refine ⟨_, rfl, _, rfl, d, c, o, ys, rfl, d2, ho2, offo.1, offo.2, ly, hy, fun v3 t3 H3 k3 d3 rr3 bd3 => ?_⟩
      have b1 : Bd 60 60 ys t1 := dt1.bd (by decide) (by decide)
      refine ⟨_, rfl, (by show 4 ≤ sizeLine; decide), fun M nM => ?_⟩
      have sM := newS (o := .lst [v1, v2, v3, V.ref va]) nM
      have tk1 : Tk H1 (upd H3 M (.lst [v1, v2, v3, V.ref va])) := ((Tk.kp k2 d1).trans (Tk.kp k3 d2)).trans (Tk.of sM)
      have tk2 : Tk H2 (upd H3 M (.lst [v1, v2, v3, V.ref va])) := (Tk.kp k3 d2).trans (Tk.of sM)
      have kF3 : Kp d c F H3 := (k1.trans k2).trans k3
      have tk0 : Tk F (upd H3 M (.lst [v1, v2, v3, V.ref va])) := (Tk.kp kF3 dkF).trans (Tk.of sM)
      have glM := sM _ _ (kF3 l _ offl.1 offl.2 glF)
      have all : RpL (upd H3 M (.lst [v1, v2, v3, V.ref va])) [t1, t2, t3, t] [v1, v2, v3, V.ref va] := ⟨rr1.tk tk1, rr2.tk tk2, rr3.tk (Tk.of sM), rF.tk tk0, trivial⟩
      have bds : ∀ u ∈ [t1, t2, t3, t], u.dp ≤ 60 ∧ u.size ≤ 900 ∧ ∀ x ∈ u.opens, x ∈ ys := by
        intro u hu
        simp only [List.mem_cons, List.not_mem_nil, or_false] at hu
        rcases hu with rfl | rfl | rfl | rfl
        · exact ⟨b1.dp, by have := b1.sz; omega, b1.op⟩
        · exact ⟨by have := bd2.dp; omega, by have := bd2.sz; omega, bd2.op⟩
        · exact ⟨by have := bd3.dp; omega, by have := bd3.sz; omega, bd3.op⟩
        · exact ⟨by omega, by omega, gr.op⟩
      have gM : (upd H3 M (.lst [v1, v2, v3, V.ref va])) M = some (.lst [v1, v2, v3, V.ref va]) := upd_same
      have keep : ∀ oo, G a = some oo → (upd H3 M (.lst [v1, v2, v3, V.ref va])) a = some oo := fun oo e => by
        obtain ⟨z1, z2⟩ := ad oo e
        exact sM _ _ (kF3 a _ z1 z2 (kpF a _ z1 z2 (sA _ _ e)))
      generalize upd H3 M (.lst [v1, v2, v3, V.ref va]) = H4 at all gM glM keep
      refine ⟨_, rfl, M, rfl, ⟨_, SqL.of gM⟩, fun D nD => ?_⟩
      refine lc_list (xs := [v1, v2, v3, V.ref va]) (fun j F' => Same H4 F' ∧ F' D = some (.lst [])) ⟨newS nD, upd_same⟩ (fun j F' _ z => SqL.of (z.1 _ _ gM)) (fun j x F' hxj z => ?_) (fun F' z => ?_)
      · obtain ⟨sF', gD'⟩ := z
        obtain ⟨u, hu, ru⟩ := all.get hxj
        obtain ⟨c1, c2, c3⟩ := bds u (List.mem_of_getElem? hu)
        refine ⟨rfl, _, rfl, _, rfl, x, l, u, xs, rfl, ru.tk (Tk.of sF'), c1, c2, fun y h => ysx y (c3 y h), sF' _ _ glM, nx, by omega, hx, fun F2' s2' => ⟨_, rfl, ?_⟩⟩
        exact iteF ⟨sF'.trans s2', s2' _ _ gD'⟩
      · obtain ⟨sF', gD'⟩ := z
        refine ⟨Nat.zero_le _, fun e ne => ⟨.list [], .list [], .lst (SqL.of (newS ne _ _ gD')) .nil, .lst (SqL.of upd_same) .nil, rfl, rfl, _, rfl, ?_⟩⟩
        exact iteF ⟨⟨_, _, _, _, _, _, _, _, rfl⟩, sqKeep sG fun oo h => newS ne _ _ (sF' _ _ (keep oo h))⟩
  · obtain ⟨⟨y1, y2, y3, y4, y5, y6, y7, y8, rfl⟩, sG⟩ := z
    refine ⟨(by show 1 ≤ sizeLine; decide), fun p1 n1 => ⟨(by show 2 ≤ sizeLine; decide), fun p2 n2 => ?_⟩⟩
    have s2 := newS (o := .tup [V.str "list", .ref p1]) n2
    have few : Few (.lst .num) := ⟨[], List.nodup_nil, by decide, fun x z => (nomatch z), fun x z => (nomatch z)⟩
    refine ⟨.ref p2, .lst .num, rfl, by decide, ⟨p2, .ref p1, rfl, upd_same, p1, rfl, s2 p1 _ upd_same⟩, by decide, few, fun u G2 s3 su => ⟨(by show 1 ≤ sizeLine; decide), fun p3 n3 => ?_⟩⟩
    have e : (Kd.lst .num).say = .tuple [.str "same"] := rfl
    rw [e] at su
    refine ⟨.tuple [.str "same"], .tuple [.str "same"], (su.tk (Tk.of (newS n3))).dp, .tup (SqT.of upd_same) (.cons (.str _) .nil), by decide +kernel, by decide +kernel, ?_⟩
    have ee : PyData.eqv (.tuple [.str "same"]) (.tuple [.str "same"]) = true := SeqAt.eqv_refl _ (by decide +kernel)
    rw [ee]
    exact q _
end
end Kq

namespace Kq
open PySem PySem.Spec PyProof.Rows L2 Kf
theorem all_mk {l : PySem.W.OpenLaw} {w : World} {K : PySem.W.Frag} {h : Heap} {mg : Str → Option Value} {fa sA dA f1 f2 f3 f4 f5 f6 f7 f8 f9 f10 f11 f12 f13 f14 f15 f16 : Addr} (X : K.In h) (G : h.Ns mainGlobals mg) (hfa : mg "law" = some (.ref fa))
    {od1 an1 od2 an2 od3 an3 od4 an4 od5 an5 od6 an6 od7 an7 od8 an8 od9 an9 od10 an10 od11 an11 od12 an12 od13 an13 od14 an14 od15 an15 od16 an16 dS : Option Addr} {sl1 sl2 sl3 sl4 sl5 sl6 sl7 sl8 sl9 sl10 sl11 sl12 sl13 sl14 sl15 sl16 slS : Array (Option Value)} {iS : Array Value} {nS nD : Nat} {es : Array DictEntry} {oc1 kV1 dc1 pm1 cd1 ct1 oc2 kV2 dc2 pm2 cd2 ct2 oc3 kV3 dc3 pm3 cd3 ct3 oc4 kV4 dc4 pm4 cd4 ct4 oc5 kV5 dc5 pm5 cd5 ct5 oc6 kV6 dc6 pm6 cd6 ct6 oc7 kV7 dc7 pm7 cd7 ct7 oc8 kV8 dc8 pm8 cd8 ct8 oc9 kV9 dc9 pm9 cd9 ct9 oc10 kV10 dc10 pm10 cd10 ct10 oc11 kV11 dc11 pm11 cd11 ct11 oc12 kV12 dc12 pm12 cd12 ct12 oc13 kV13 dc13 pm13 cd13 ct13 oc14 kV14 dc14 pm14 cd14 ct14 oc15 kV15 dc15 pm15 cd15 ct15 oc16 kV16 dc16 pm16 cd16 ct16 u1 u2 u3 u4 : Value}
    (a1 : PySem.W.nsIn K mainGlobals "kinds_within" = some (some (.ref f1))) (l1 : K.lookup f1 = some ⟨oc1, od1, .func (PySem.W.fnOf "kinds_within" "kinds_within" (defArgs tWithin) (defBody tWithin) (defScope tWithin) .none kV1 dc1 pm1 an1 cd1 ct1), sl1⟩)
      (c1 : PySem.W.codeIn K cd1 "kinds_within" = true) (k1 : PySem.W.keepIn K (.ref f1) = true)
    (a2 : PySem.W.nsIn K mainGlobals "parts_of" = some (some (.ref f2))) (l2 : K.lookup f2 = some ⟨oc2, od2, .func (PySem.W.fnOf "parts_of" "parts_of" (defArgs tParts) (defBody tParts) (defScope tParts) .none kV2 dc2 pm2 an2 cd2 ct2), sl2⟩)
      (c2 : PySem.W.codeIn K cd2 "parts_of" = true) (k2 : PySem.W.keepIn K (.ref f2) = true)
    (a3 : PySem.W.nsIn K mainGlobals "opens_in" = some (some (.ref f3))) (l3 : K.lookup f3 = some ⟨oc3, od3, .func (PySem.W.fnOf "opens_in" "opens_in" (defArgs tOpens) (defBody tOpens) (defScope tOpens) .none kV3 dc3 pm3 an3 cd3 ct3), sl3⟩)
      (c3 : PySem.W.codeIn K cd3 "opens_in" = true) (k3 : PySem.W.keepIn K (.ref f3) = true)
    (a4 : PySem.W.nsIn K mainGlobals "saying_of" = some (some (.ref f4))) (l4 : K.lookup f4 = some ⟨oc4, od4, .func (PySem.W.fnOf "saying_of" "saying_of" (defArgs tSay) (defBody tSay) (defScope tSay) .none kV4 dc4 pm4 an4 cd4 ct4), sl4⟩)
      (c4 : PySem.W.codeIn K cd4 "saying_of" = true) (k4 : PySem.W.keepIn K (.ref f4) = true)
    (a5 : PySem.W.nsIn K mainGlobals "_law_deck" = some (some (.ref f5))) (l5 : K.lookup f5 = some ⟨oc5, od5, .func (PySem.W.fnOf "_law_deck" "_law_deck" (defArgs tDeck) (defBody tDeck) (defScope tDeck) .none kV5 dc5 pm5 an5 cd5 ct5), sl5⟩)
      (c5 : PySem.W.codeIn K cd5 "_law_deck" = true) (k5 : PySem.W.keepIn K (.ref f5) = true)
    (a6 : PySem.W.nsIn K mainGlobals "_law_draw" = some (some (.ref f6))) (l6 : K.lookup f6 = some ⟨oc6, od6, .func (PySem.W.fnOf "_law_draw" "_law_draw" (defArgs tDraw) (defBody tDraw) (defScope tDraw) .none kV6 dc6 pm6 an6 cd6 ct6), sl6⟩)
      (c6 : PySem.W.codeIn K cd6 "_law_draw" = true) (k6 : PySem.W.keepIn K (.ref f6) = true)
    (a7 : PySem.W.nsIn K mainGlobals "_law_pick" = some (some (.ref f7))) (l7 : K.lookup f7 = some ⟨oc7, od7, .func (PySem.W.fnOf "_law_pick" "_law_pick" (defArgs tPick) (defBody tPick) (defScope tPick) .none kV7 dc7 pm7 an7 cd7 ct7), sl7⟩)
      (c7 : PySem.W.codeIn K cd7 "_law_pick" = true) (k7 : PySem.W.keepIn K (.ref f7) = true)
    (a8 : PySem.W.nsIn K mainGlobals "_law_names" = some (some (.ref f8))) (l8 : K.lookup f8 = some ⟨oc8, od8, .func (PySem.W.fnOf "_law_names" "_law_names" (defArgs tNames) (defBody tNames) (defScope tNames) .none kV8 dc8 pm8 an8 cd8 ct8), sl8⟩)
      (c8 : PySem.W.codeIn K cd8 "_law_names" = true) (k8 : PySem.W.keepIn K (.ref f8) = true)
    (a9 : PySem.W.nsIn K mainGlobals "_law_data" = some (some (.ref f9))) (l9 : K.lookup f9 = some ⟨oc9, od9, .func (PySem.W.fnOf "_law_data" "_law_data" (defArgs tData) (defBody tData) (defScope tData) .none kV9 dc9 pm9 an9 cd9 ct9), sl9⟩)
      (c9 : PySem.W.codeIn K cd9 "_law_data" = true) (k9 : PySem.W.keepIn K (.ref f9) = true)
    (a10 : PySem.W.nsIn K mainGlobals "_law_handed" = some (some (.ref f10))) (l10 : K.lookup f10 = some ⟨oc10, od10, .func (PySem.W.fnOf "_law_handed" "_law_handed" (defArgs tHanded) (defBody tHanded) (defScope tHanded) .none kV10 dc10 pm10 an10 cd10 ct10), sl10⟩)
      (c10 : PySem.W.codeIn K cd10 "_law_handed" = true) (k10 : PySem.W.keepIn K (.ref f10) = true)
    (a11 : PySem.W.nsIn K mainGlobals "_law_walked" = some (some (.ref f11))) (l11 : K.lookup f11 = some ⟨oc11, od11, .func (PySem.W.fnOf "_law_walked" "_law_walked" (defArgs tWalked) (defBody tWalked) (defScope tWalked) .none kV11 dc11 pm11 an11 cd11 ct11), sl11⟩)
      (c11 : PySem.W.codeIn K cd11 "_law_walked" = true) (k11 : PySem.W.keepIn K (.ref f11) = true)
    (a12 : PySem.W.nsIn K mainGlobals "_law_opens" = some (some (.ref f12))) (l12 : K.lookup f12 = some ⟨oc12, od12, .func (PySem.W.fnOf "_law_opens" "_law_opens" (defArgs tLOpens) (defBody tLOpens) (defScope tLOpens) .none kV12 dc12 pm12 an12 cd12 ct12), sl12⟩)
      (c12 : PySem.W.codeIn K cd12 "_law_opens" = true) (k12 : PySem.W.keepIn K (.ref f12) = true)
    (a13 : PySem.W.nsIn K mainGlobals "_law_saying" = some (some (.ref f13))) (l13 : K.lookup f13 = some ⟨oc13, od13, .func (PySem.W.fnOf "_law_saying" "_law_saying" (defArgs tLSay) (defBody tLSay) (defScope tLSay) .none kV13 dc13 pm13 an13 cd13 ct13), sl13⟩)
      (c13 : PySem.W.codeIn K cd13 "_law_saying" = true) (k13 : PySem.W.keepIn K (.ref f13) = true)
    (a14 : PySem.W.nsIn K mainGlobals "_law_kind_called" = some (some (.ref f14))) (l14 : K.lookup f14 = some ⟨oc14, od14, .func (PySem.W.fnOf "_law_kind_called" "_law_kind_called" (defArgs tCalled) (defBody tCalled) (defScope tCalled) .none kV14 dc14 pm14 an14 cd14 ct14), sl14⟩)
      (c14 : PySem.W.codeIn K cd14 "_law_kind_called" = true) (k14 : PySem.W.keepIn K (.ref f14) = true)
    (a15 : PySem.W.nsIn K mainGlobals "_law_right" = some (some (.ref f15))) (l15 : K.lookup f15 = some ⟨oc15, od15, .func (PySem.W.fnOf "_law_right" "_law_right" (defArgs tRight) (defBody tRight) (defScope tRight) .none kV15 dc15 pm15 an15 cd15 ct15), sl15⟩)
      (c15 : PySem.W.codeIn K cd15 "_law_right" = true) (k15 : PySem.W.keepIn K (.ref f15) = true)
    (a16 : PySem.W.nsIn K mainGlobals "law" = some (some (.ref f16))) (l16 : K.lookup f16 = some ⟨oc16, od16, .func (PySem.W.fnOf "law" "law" (defArgs tLaw) (defBody tLaw) (defScope tLaw) .none kV16 dc16 pm16 an16 cd16 ct16), sl16⟩)
      (c16 : PySem.W.codeIn K cd16 "law" = true) (k16 : PySem.W.keepIn K (.ref f16) = true)
    (aS : PySem.W.nsIn K mainGlobals "SAME" = some (some (.ref sA))) (lS : K.lookup sA = some ⟨.type "tuple", dS, .seq iS nS, slS⟩) (vS : iS.size ≤ sizeLine ∧ Vals [V.str "same"] iS.toList)
    (aD : PySem.W.nsIn K mainGlobals "SAYINGS" = some (some (.ref dA))) (lD : K.lookup dA = some ⟨.type "dict", none, .dict es nD, #[]⟩) (tD : PySem.W.KeysLit w.params es.toList)
    (x1 : PySem.W.nsIn K dA "pair" = some (some u1)) (r1 : RelV (.str "both") u1)
    (x2 : PySem.W.nsIn K dA "either" = some (some u2)) (r2 : RelV (.str "sides") u2)
    (x3 : PySem.W.nsIn K dA "list" = some (some u3)) (r3 : RelV (.str "items") u3)
    (x4 : PySem.W.nsIn K dA "fun" = some (some u4)) (r4 : RelV (.str "leads") u4)
    (z1 : PySem.W.nsIn K mainGlobals "range" = some none) (z2 : PySem.W.nsIn K mainGlobals "len" = some none) (z3 : PySem.W.nsIn K mainGlobals "list" = some none) (z4 : PySem.W.nsIn K mainGlobals "reversed" = some none) (z5 : PySem.W.nsIn K mainGlobals "tuple" = some none) (z6 : PySem.W.nsIn K mainGlobals "sorted" = some none) (z7 : PySem.W.nsIn K mainGlobals "sum" = some none) (z8 : PySem.W.nsIn K mainGlobals "isinstance" = some none) (z9 : PySem.W.nsIn K mainGlobals "set" = some none) (z10 : PySem.W.nsIn K mainGlobals "int" = some none) (z11 : PySem.W.nsIn K mainGlobals "max" = some none) (z12 : PySem.W.nsIn K mainGlobals "min" = some none) (z13 : PySem.W.nsIn K mainGlobals "repr" = some none) (z14 : PySem.W.nsIn K mainGlobals "dict" = some none) (z15 : PySem.W.nsIn K mainGlobals "enumerate" = some none) :
    LawG l w K CX0 68 63 "_law_script" mg fa h := by
  have e := hfa.symm.trans (PySem.W.mg_of X G a16)
  cases e
  have F1 := fun_mk (st := tWithin) l1 c1 k1
  have b1 := F1.binds (ps := ["kind"]) fun _ _ _ _ _ _ us hl => match us, hl with | [_], _ => rfl
  have g1 := PySem.W.mg_of X G a1
  have F2 := fun_mk (st := tParts) l2 c2 k2
  have b2 := F2.binds (ps := ["kind"]) fun _ _ _ _ _ _ us hl => match us, hl with | [_], _ => rfl
  have g2 := PySem.W.mg_of X G a2
  have F3 := fun_mk (st := tOpens) l3 c3 k3
  have b3 := F3.binds (ps := ["kind"]) fun _ _ _ _ _ _ us hl => match us, hl with | [_], _ => rfl
  have g3 := PySem.W.mg_of X G a3
  have F4 := fun_mk (st := tSay) l4 c4 k4
  have b4 := F4.binds (ps := ["kind"]) fun _ _ _ _ _ _ us hl => match us, hl with | [_], _ => rfl
  have g4 := PySem.W.mg_of X G a4
  have F5 := fun_mk (st := tDeck) l5 c5 k5
  have b5 := F5.binds (ps := ["_law_script"]) fun _ _ _ _ _ _ us hl => match us, hl with | [_], _ => rfl
  have g5 := PySem.W.mg_of X G a5
  have F6 := fun_mk (st := tDraw) l6 c6 k6
  have b6 := F6.binds (ps := ["_law_deck_here", "_law_most"]) fun _ _ _ _ _ _ us hl => match us, hl with | [_, _], _ => rfl
  have g6 := PySem.W.mg_of X G a6
  have F7 := fun_mk (st := tPick) l7 c7 k7
  have b7 := F7.binds (ps := psPick) fun _ _ _ _ _ _ us hl => match us, hl with | [_, _], _ => rfl
  have g7 := PySem.W.mg_of X G a7
  have F8 := fun_mk (st := tNames) l8 c8 k8
  have b8 := F8.binds (ps := ["_law_deck_here", "_law_many"]) fun _ _ _ _ _ _ us hl => match us, hl with | [_, _], _ => rfl
  have g8 := PySem.W.mg_of X G a8
  have F9 := fun_mk (st := tData) l9 c9 k9
  have b9 := F9.binds (ps := psData) fun _ _ _ _ _ _ us hl => match us, hl with | [_, _, _, _], _ => rfl
  have g9 := PySem.W.mg_of X G a9
  have F10 := fun_mk (st := tHanded) l10 c10 k10
  have b10 := F10.binds (ps := psTwo) fun _ _ _ _ _ _ us hl => match us, hl with | [_, _], _ => rfl
  have g10 := PySem.W.mg_of X G a10
  have F11 := fun_mk (st := tWalked) l11 c11 k11
  have b11 := F11.binds (ps := psTwo) fun _ _ _ _ _ _ us hl => match us, hl with | [_, _], _ => rfl
  have g11 := PySem.W.mg_of X G a11
  have F12 := fun_mk (st := tLOpens) l12 c12 k12
  have b12 := F12.binds (ps := ["_law_kind"]) fun _ _ _ _ _ _ us hl => match us, hl with | [_], _ => rfl
  have g12 := PySem.W.mg_of X G a12
  have F13 := fun_mk (st := tLSay) l13 c13 k13
  have b13 := F13.binds (ps := ["_law_kind"]) fun _ _ _ _ _ _ us hl => match us, hl with | [_], _ => rfl
  have g13 := PySem.W.mg_of X G a13
  have F14 := fun_mk (st := tCalled) l14 c14 k14
  have b14 := F14.binds (ps := ["_law_kind", "_law_calls"]) fun _ _ _ _ _ _ us hl => match us, hl with | [_, _], _ => rfl
  have g14 := PySem.W.mg_of X G a14
  have F15 := fun_mk (st := tRight) l15 c15 k15
  have b15 := F15.binds (ps := psRight) fun _ _ _ _ _ _ us hl => match us, hl with | [_, _], _ => rfl
  have g15 := PySem.W.mg_of X G a15
  have F16 := fun_mk (st := tLaw) l16 c16 k16
  have m_range := PySem.W.mg_none_of X G z1
  have m_len := PySem.W.mg_none_of X G z2
  have m_list := PySem.W.mg_none_of X G z3
  have m_reversed := PySem.W.mg_none_of X G z4
  have m_tuple := PySem.W.mg_none_of X G z5
  have m_sorted := PySem.W.mg_none_of X G z6
  have m_sum := PySem.W.mg_none_of X G z7
  have m_isinstance := PySem.W.mg_none_of X G z8
  have m_set := PySem.W.mg_none_of X G z9
  have m_int := PySem.W.mg_none_of X G z10
  have m_max := PySem.W.mg_none_of X G z11
  have m_min := PySem.W.mg_none_of X G z12
  have m_repr := PySem.W.mg_none_of X G z13
  have m_dict := PySem.W.mg_none_of X G z14
  have m_enumerate := PySem.W.mg_none_of X G z15
  have gS := PySem.W.mg_of X G aS
  have gD := PySem.W.mg_of X G aD
  have hS : ∀ H : Hp, SqT K H sA [.str "same"] ∧ TyX K H (.ref sA) (.type "tuple") := fun H => ⟨.inr ⟨_, iS, nS, lS, rfl, rfl, vS.1, vS.2⟩, .kTuple lS rfl⟩
  have hD : Wds K w dA := fun t hs ho => by
    cases t with
    | opn x => cases ho
    | num => cases hs
    | tru => cases hs
    | pair a b => exact ⟨es, nD, u1, lD, tD, x1, r1⟩
    | eith a b => exact ⟨es, nD, u2, lD, tD, x2, r2⟩
    | lst a => exact ⟨es, nD, u3, lD, tD, x3, r3⟩
    | fn a b => exact ⟨es, nD, u4, lD, tD, x4, r4⟩
  refine ⟨PySem.W.fnOf "law" "law" (defArgs tLaw) (defBody tLaw) (defScope tLaw) .none kV16 dc16 pm16 an16 cd16 ct16, [], spLaw K, fun p hp => (nomatch hp), fun s v => .of_eq rfl, fun H a ns hl _ _ hS => ⟨a, ns, rfl, hS, hl, fun _ => rfl⟩, fun base _ _ _ => ?_⟩
  have D0 : ∀ k, FnOk l.prog w K mg base CX0 (k + 1) f6 _ ["_law_deck_here", "_law_most"] spDraw := fun k => okDraw F6
  have P0 : ∀ k, FnOk l.prog w K mg base CX0 (k + 2) f7 _ psPick spPick := fun k => okPick F7 (D0 k) b6 g6 k6 m_len
  have T0 := okData (P := l.prog) (w := w) (base := base) F9 b9 g9 F6 b6 g6 F7 b7 g7 m_int m_len
  have H0 := okHanded (P := l.prog) (w := w) (base := base) F10 (D0 5) b6 g6 k6 (P0 4) b7 g7 k7 (T0 4) b9 g9 k9 m_int m_range
  have W0 := okWalked (P := l.prog) (w := w) (base := base) F11 (D0 6) b6 g6 k6 (P0 5) b7 g7 k7 (T0 4) b9 g9 k9 H0 b10 g10 k10 m_range
  have O0 : ∀ k, FnOk l.prog w K mg base CX0 (k + 3) f3 _ ["kind"] spOpens := fun k => okOpens F3 (okParts F2 F1 b1 g1) b2 g2 k2 m_tuple m_sorted
  have S0 := okSay (P := l.prog) (w := w) (base := base) F4 b4 g4 O0 b3 g3 k3 gS hS gD hD
  have LO := okLOpens (P := l.prog) (w := w) (base := base) F12 b12 g12 m_sorted m_set
  have L0 := okLSay (P := l.prog) (w := w) (base := base) F13 b13 g13 LO b12 g12 k12 m_tuple
  have C0 := okCalled (P := l.prog) (w := w) (base := base) F14 b14 g14 m_tuple
  have R0 := okRight (P := l.prog) (w := w) (base := base) F15 (S0 62) b4 g4 k4 (L0 62) b13 g13 k13 (C0 62) b14 g14 k14 m_dict m_tuple m_range m_isinstance m_enumerate
  exact okLaw F16 (S0 62) b4 g4 k4 R0 b15 g15 k15 (okDeck (k := 66) F5 m_list m_reversed m_sum m_len) b5 g5 k5 (D0 66) b6 g6 k6
    (okNames (k := 65) F8 (D0 65) b6 g6 k6 m_len m_range) b8 g8 k8 (T0 4) b9 g9 k9 H0 b10 g10 k10 W0 b11 g11 k11 m_range m_max m_min m_len m_repr
end Kq
open PySem PySem.W PyProof.Rows
set_option maxRecDepth 100000 in
set_option maxHeartbeats 0 in
theorem PySem.Challenge.cw_kindalone_k34_sayings_made_holds : PySem.Challenge.rw_kindalone_k34_sayings_made.Holds := by
  w_on; o_law; k_head; (case hw => w_witness2)
  k_fill
  refine Kf.walk_ofG (l := PySem.Challenge.rw_kindalone_k34_sayings_made) (n := 63) (k := 68) (x := "_law_script") (CX := fun _ => L2.CX0) rfl (by decide) rfl ⟨rfl, by decide, by decide⟩ (fun w h Y => PySem.W.kIn_of Y) ?F (fun _ _ _ _ _ h => h)
  case F =>
    intro w mg fa h Y KX G hmg tabs
    refine' Kq.all_mk KX G hmg ?a1 ?l1 ?c1 ?k1 ?a2 ?l2 ?c2 ?k2 ?a3 ?l3 ?c3 ?k3 ?a4 ?l4 ?c4 ?k4 ?a5 ?l5 ?c5 ?k5 ?a6 ?l6 ?c6 ?k6 ?a7 ?l7 ?c7 ?k7 ?a8 ?l8 ?c8 ?k8 ?a9 ?l9 ?c9 ?k9 ?a10 ?l10 ?c10 ?k10 ?a11 ?l11 ?c11 ?k11 ?a12 ?l12 ?c12 ?k12 ?a13 ?l13 ?c13 ?k13 ?a14 ?l14 ?c14 ?k14 ?a15 ?l15 ?c15 ?k15 ?a16 ?l16 ?c16 ?k16 ?aS ?lS ?vS ?aD ?lD ?tD ?x1 ?r1 ?x2 ?r2 ?x3 ?r3 ?x4 ?r4 ?z1 ?z2 ?z3 ?z4 ?z5 ?z6 ?z7 ?z8 ?z9 ?z10 ?z11 ?z12 ?z13 ?z14 ?z15
    (case a1 => k_is); (case l1 => k_is); (case c1 => k_is); (case k1 => k_is)
    (case a2 => k_is); (case l2 => k_is); (case c2 => k_is); (case k2 => k_is)
    (case a3 => k_is); (case l3 => k_is); (case c3 => k_is); (case k3 => k_is)
    (case a4 => k_is); (case l4 => k_is); (case c4 => k_is); (case k4 => k_is)
    (case a5 => k_is); (case l5 => k_is); (case c5 => k_is); (case k5 => k_is)
    (case a6 => k_is); (case l6 => k_is); (case c6 => k_is); (case k6 => k_is)
    (case a7 => k_is); (case l7 => k_is); (case c7 => k_is); (case k7 => k_is)
    (case a8 => k_is); (case l8 => k_is); (case c8 => k_is); (case k8 => k_is)
    (case a9 => k_is); (case l9 => k_is); (case c9 => k_is); (case k9 => k_is)
    (case a10 => k_is); (case l10 => k_is); (case c10 => k_is); (case k10 => k_is)
    (case a11 => k_is); (case l11 => k_is); (case c11 => k_is); (case k11 => k_is)
    (case a12 => k_is); (case l12 => k_is); (case c12 => k_is); (case k12 => k_is)
    (case a13 => k_is); (case l13 => k_is); (case c13 => k_is); (case k13 => k_is)
    (case a14 => k_is); (case l14 => k_is); (case c14 => k_is); (case k14 => k_is)
    (case a15 => k_is); (case l15 => k_is); (case c15 => k_is); (case k15 => k_is)
    (case a16 => k_is); (case l16 => k_is); (case c16 => k_is); (case k16 => k_is)
    (case aS => k_is); (case lS => k_is); (case vS => exact ⟨by decide, .cons ⟨_, rfl⟩ .nil⟩)
    (case aD => k_is); (case lD => k_is); (case tD => exact ⟨⟨_, _, rfl, rfl⟩, ⟨_, _, rfl, rfl⟩, ⟨_, _, rfl, rfl⟩, ⟨_, _, rfl, rfl⟩, trivial⟩)
    (case x1 => k_is); (case r1 => exact ⟨_, rfl⟩)
    (case x2 => k_is); (case r2 => exact ⟨_, rfl⟩)
    (case x3 => k_is); (case r3 => exact ⟨_, rfl⟩)
    (case x4 => k_is); (case r4 => exact ⟨_, rfl⟩)
    (case z1 => k_is); (case z2 => k_is); (case z3 => k_is); (case z4 => k_is); (case z5 => k_is); (case z6 => k_is); (case z7 => k_is); (case z8 => k_is); (case z9 => k_is); (case z10 => k_is); (case z11 => k_is); (case z12 => k_is); (case z13 => k_is); (case z14 => k_is); (case z15 => k_is)
