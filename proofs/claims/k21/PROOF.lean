import PyProof.Rows.All
import Wide.All
import OpenK.AllK
import Wide.FinOn
import HandS.ForMost
import HandS.Rev
import HandS.StrMore
import HandS.IsInst
import HandS.Replace
import HandS.Codes
import HandS.Wide
import HandS.GenList
import HandS.AnyAll
import HandS.EndOwn
import HandS.ExcOwn
import PyProof.ReprRoads
import HandS.Walk
import HandS.Dict
import HandS.TupAny
import HandS.Style
import KE.KDictPairs
import KE.GoesMore
import HandS.Iter
import KE.KRevSl
import PyProof.Draws
import PyProof.EnumMake
import PyProof.EqKinds
import HandS.More
import PyProof.Rows.IntBool
import PyProof.CallStr
import PyProof.IsRules
import PyProof.ReprLen
import PyProof.FitsInt
import PyProof.StrLawsRepr
import HandS.FStrTup
import PyProof.Rows.RegReprOcc
import HandS.Zip
import HandS.Set
import HandS.SetBool
import HandS.TupSets
import HandS.SetFor
import HandS.DeepEq
import HandS.DictTup
import PyProof.DictUpdate
import HandS.Comp
import PyProof.Rows.RuleB_bool
import PyProof.Rows.FloatCmp
import HandS.RaiseMore
import HandS.TryOnly
import HandS.ForExc
import HandS.FStr
import HandS.SortKw
import HandS.IterVal
import HandS.Defaults
import HandS.ExcIs
import HandS.Flow
import KE.KExcIs
import KE.KIsAll
import HandS.CallSlots
import HandS.Small
import KE.KDictZip
import KE.GoesZip
import HandS.Conv
import PySem.Challenge.RW_kindalone_k21_told_ones_by_known
set_option Elab.async false
set_option linter.all false
set_option maxRecDepth 100000
set_option maxHeartbeats 4000000
namespace Kr
open PySem PySem.Spec PyProof.Rows L2 RT
section
variable {prog : Program} {w : World} {A : Around} {E : Value → Shared → Prop} {s : Shared}
/-- a list grows by what a walk from behind over another list gives -/
theorem growRev {R : Result → Shared → Prop} {it l S : Addr} {its : Array Value} {res : Value} {c0 : Nat} (hh : A.handled = none) (hit : s.heap.IsRevIter it l ((its.size : Int) - 1))
    (hl : s.heap.IsList l its) (hne : l ≠ it) (hn : its.size ≤ sizeLine) (hS : s.heap.get? S = some { cls := .type "list", data := .seq #[] c0 }) (hSi : S ≠ it) (hSl : S ≠ l)
    (hR : ∀ (h' : Heap) (tk : Nat) (acc : Array Value) (c : Nat), (∀ b o, b ≠ it → b ≠ S → s.heap.get? b = some o → h'.get? b = some o) →
      h'.get? S = some { cls := .type "list", dict := none, data := .seq acc c, slots := #[] } → ItemsOf (fun i v => its[its.size - 1 - i]? = some v) acc its.size → R (.ok (.ret res)) { s with heap := h', toks := tk }) :
    wpAny (model prog w) A.in1 (Builtin.List.listExtendWith (.ref S) (.ref it) res)
      (fun fin s' => match fin with
        | .done f => R (.ok f) s'
        | .again c' => c'.quiet = true ∧ codeAny (model prog w) A c' R s') (fun e s' => R (.error e) s') s := by
  have W := (Walks.listRev (prog := prog) (w := w) (A := A.in1) hh it l hne its).toS
  have out : S ∉ [it, l] := by
    intro z
    rcases List.mem_cons.mp z with z | z
    · exact hSi z
    · exact hSl (List.mem_singleton.mp z)
  have ty : s.TypeIs (.ref it) "list_reverseiterator" := hit.typeIs
  have no : Builtin.List.listSameRef (.ref S) (.ref it) = false := by
    simp [Builtin.List.listSameRef, hSi]
  unfold Builtin.List.listExtendWith
  refine wpAny_bind (wpAny_typeOf ty ?_)
  rw [if_neg (by rw [no]; decide)]
  refine wpAny_bind (wpAny_pyIter_revIter hit ?_)
  refine wpAny_bind (wpAny_holding ?_)
  unfold Builtin.List.listLengthHint
  refine wpAny_bind (wpAny_specialOf ty RT.nolen_lri ?_)
  show wpAny _ A.in1 (specialOf (.ref it) (Str.ofString "__length_hint__") >>= _) _ _ _
  refine wpAny_bind (wpAny_specialOf ty RT.hint_lri ?_)
  generalize hid : ("list_reverseiterator.__length_hint__" : String) = nm
  wp_delta
  have sp : splitId nm = some ("list_reverseiterator", "__length_hint__") := by
    subst hid
    decide +kernel
  rw [sp]
  subst hid
  refine wpAny_bind (wpAny_isInstance (b := true) ty (by rw [isSubtype_type]; kernel_rfl) ?_)
  refine wpAny_pure ?_
  rw [if_neg (by decide)]
  have z0 : ((its.size : Nat) : Int) - 1 - ((0 : Nat) : Int) = (its.size : Int) - 1 := by omega
  have st0 : s.heap.IsRevIter it l ((its.size : Int) - 1 - ((0 : Nat) : Int)) := by rw [z0]; exact hit
  refine wpAny_pure ⟨plainId_quiet F.plain_extend_loop _, ?_⟩
  refine codeAny_extend_loopS W hn S out res its.size 0 _ _ _ rfl (Nat.zero_le _) ⟨Nat.zero_le _, st0, hl⟩ hS (ItemsOf.nil _) (fun s' acc' c' mv hS' hacc => ?_)
  rw [Moved.eq_with mv]
  refine hR s'.heap s'.toks acc' c' (fun b o h1 h2 e => mv.heap b o (fun z => ?_) e) hS' hacc
  rcases List.mem_cons.mp z with z | z
  · exact h2 z
  · exact h1 (List.mem_singleton.mp z)
theorem call_list_rev {Q : Value → Shared → Prop} {it l : Addr} {its : Array Value} (hh : A.handled = none) (hit : s.heap.IsRevIter it l ((its.size : Int) - 1)) (hl : s.heap.IsList l its) (hne : l ≠ it) (hn : its.size ≤ sizeLine)
    (hQ : ∀ (h' : Heap) (tk : Nat) (acc : Array Value) (c : Nat), (∀ b o, b ≠ it → s.heap.get? b = some o → h'.get? b = some o) →
      h'.get? s.heap.objs.size = some { cls := .type "list", dict := none, data := .seq acc c, slots := #[] } → ItemsOf (fun i v => its[its.size - 1 - i]? = some v) acc its.size → Q (.ref s.heap.objs.size) { s with heap := h', toks := tk }) :
    wpAny (model prog w) A (call (.type "list") [.ref it]) Q E s := by
  obtain ⟨oi, hoi, _⟩ := id hit
  obtain ⟨ol, hol, _⟩ := id hl
  have n1 : s.heap.objs.size ≠ it := Nat.ne_of_gt (Heap.lt_size hoi)
  have n2 : s.heap.objs.size ≠ l := Nat.ne_of_gt (Heap.lt_size hol)
  refine callType_codes (Q₁ := fun obj s₁ => obj = .ref s.heap.objs.size ∧ s₁ = { s with heap := s.heap.push { cls := .type "list", data := .seq #[] } })
    F.called_list (F.typeCall_list_1 _) F.entry_list_init (code_list_new _ ⟨rfl, rfl⟩) (fun obj s₁ h₁ => ?_)
  obtain ⟨rfl, rfl⟩ := h₁
  have hS : (s.heap.push { cls := .type "list", data := .seq #[] }).get? s.heap.objs.size
      = some { cls := .type "list", data := .seq #[] } := Heap.get?_push_size _ rfl
  refine ⟨⟨_, hS, rfl⟩, F.args_list_init_2 _ _, ?_⟩
  show wpAny _ _ (do
    let old ← Builtin.List.listItems (.ref s.heap.objs.size)
    Builtin.List.listUpdate (.ref s.heap.objs.size) (fun _ => #[])
    letGo old.toList.reverse
    Builtin.List.listExtendWith (.ref s.heap.objs.size) (.ref it) .none) _ _ _
  refine wpAny_bind ?_
  unfold Builtin.List.listItems
  refine wpAny_bind (wpAny_seqItems hS rfl (wpAny_pure ?_))
  show wpAny _ _ (do
    updateSeq s.heap.objs.size (fun _ => #[])
    letGo (#[] : Array Value).toList.reverse
    Builtin.List.listExtendWith (.ref s.heap.objs.size) (.ref it) .none) _ _ _
  refine wpAny_bind (wpAny_updateSeq hS rfl ?_)
  have hS2 := Heap.get?_update_self (Obj.mapSeq fun _ => (#[] : Array Value)) hS rfl
  refine wpAny_bind (wpAny_letGo ?_)
  generalize hh2 : (s.heap.push { cls := .type "list", data := .seq #[] }).update s.heap.objs.size (Obj.mapSeq fun _ => (#[] : Array Value)) = h2 at hS2 ⊢
  have kp : ∀ b o, s.heap.get? b = some o → h2.get? b = some o := fun b o e => by
    rw [← hh2, Heap.get?_update_other _ _ (Nat.ne_of_gt (Heap.lt_size e))]
    exact Heap.get?_push_of_some _ e
  have hl2 : h2.IsList l its := by
    obtain ⟨o, e, r⟩ := id hl
    exact ⟨o, kp _ _ e, r⟩
  refine growRev (A := A.in1) (s := { s with heap := h2 }) hh (hit.at fun o e => kp _ _ e) hl2 hne hn hS2 n1 n2 (fun h' tk acc c k e i => ?_)
  exact ⟨rfl, hQ h' tk acc c (fun b o hb hbo => k b o hb (Nat.ne_of_lt (Heap.lt_size hbo)) (kp b o hbo)) e i⟩
end
/-- list(reversed(x)), x a list -/
def tListRev (K : PySem.W.Frag) (te : TE) : TE := fun σ H Q => te σ H fun v G => ∃ (a : Addr) (xs : List V), v = .ref a ∧ SqL K G a xs ∧ ∀ q, G q = none → Q (.ref q) (upd G q (.lst xs.reverse))
theorem pe_listRev {X : Cx} {e : Expr} {te : TE} {p p2 pos pos2 : Pos} (hc : X.calm = true) (hg : Gl X "list") (hm : X.mg "list" = none) (hg2 : Gl X "reversed") (hm2 : X.mg "reversed" = none) (he : PE X e te)
    (hs : starEach [e] X.env = (false, eval e X.env) :: starEach [] X.env := by rfl)
    (hs2 : starEach [.Call (.Name "reversed" p2) [e] [] pos2] X.env = (false, eval (.Call (.Name "reversed" p2) [e] [] pos2) X.env) :: starEach [] X.env := by rfl) :
    PE X (.Call (.Name "list" p) [.Call (.Name "reversed" p2) [e] [] pos2] [] pos) (tListRev X.K te) := by
  refine ⟨fun pins s σ H Q I h => ?_⟩
  have inner := fun (Q' : Value → Shared → Prop) (k : ∀ (a : Addr) (xs : List V) (its : List Value) (s1 : Shared) (G : Hp), Inv X pins σ G s1 → SqL X.K G a xs → Vals xs its → PlainL s1.heap a its.toArray → xs.length ≤ sizeLine →
      (∀ q, G q = none → Q (.ref q) (upd G q (.lst xs.reverse))) → Q' (.ref s1.heap.objs.size) { s1 with heap := s1.heap.push (revObj a ((its.toArray.size : Int) - 1)) }) =>
    show wpAny (model X.prog X.w) X.A (eval (.Call (.Name "reversed" p2) [e] [] pos2) X.env) Q' X.xe s from
      Call_ (ld_blt I hg2 hm2 PyProof.Rows.boot_reversed (PyProof.Rows.callWith_type1 (args_cons (thn (he.run pins s σ H _ I h) fun u s1 ⟨v, G, I1, r1, a, xs, ev, hq, q⟩ => args_nil (by
        subst ev
        obtain rfl : u = Value.ref a := r1
        obtain ⟨its, rv, pl, hz⟩ := I1.list hq
        exact call_reversed_list pl.isList (k a xs its s1 G I1 hq rv pl hz q))) hs) hs rfl))
  refine Call_ (ld_blt I hg hm boot_list (PyProof.Rows.callWith_type1 (args_cons (inner _ fun a xs its s1 G I1 hq rv pl hz q => args_nil ?_) hs2) hs2 rfl))
  have k0 : ∀ b o, s1.heap.get? b = some o → (s1.heap.push (revObj a ((its.toArray.size : Int) - 1))).get? b = some o := fun b o z => Heap.get?_push_of_some _ z
  obtain ⟨ol, hol, _⟩ := id pl.isList
  have hne : a ≠ s1.heap.objs.size := Nat.ne_of_lt (Heap.lt_size hol)
  have hn : its.toArray.size ≤ sizeLine := by rw [List.size_toArray, ← rv.length]; exact hz
  generalize hh3 : s1.heap.push (revObj a ((its.toArray.size : Int) - 1)) = h3 at k0 ⊢
  have it3 : h3.IsRevIter s1.heap.objs.size a ((its.toArray.size : Int) - 1) := by
    rw [← hh3]
    exact ⟨_, Heap.get?_push_size _ rfl, rfl, rfl⟩
  have l3 : h3.IsList a its.toArray := by
    rw [← hh3]
    exact pl.isList.push _
  have lt3 : s1.heap.objs.size < h3.objs.size := by
    obtain ⟨o, e, _⟩ := id it3
    exact Heap.lt_size e
  refine call_list_rev (s := { s1 with heap := h3 }) (I1.ok.hd hc) it3 l3 hne hn fun h' tk acc c hk hS hi => ?_
  have hgo : G h3.objs.size = none := I1.hok.fresh (Nat.le_of_lt lt3)
  refine ⟨.ref h3.objs.size, upd G h3.objs.size (.lst xs.reverse), I1.laid (t' := tk) (fun b o z => hk b o (Nat.ne_of_lt (Heap.lt_size z)) (k0 b o z)) (Nat.le_of_lt lt3)
    (show ObjOk X.prog X.w _ _ _ (.lst xs.reverse) from ⟨by rw [List.length_reverse]; exact hz, acc.toList, c, vals_rev rv hi, by rw [Array.toArray_toList]; exact hS⟩), rfl, q _ hgo⟩
/-- xs.extend(t), t a tuple -/
def rExtT (K : PySem.W.Frag) : V → List V → Hp → VK → Prop := fun x vs H Q => ∃ l b xs zs, x = .ref l ∧ vs = [.ref b] ∧ H l = some (.lst xs) ∧ SqT K H b zs ∧ xs.length + zs.length ≤ sizeLine ∧ Q .non (upd H l (.lst (xs ++ zs)))
theorem mt_extT {X : Cx} : MtM X "list.extend" (rExtT X.K) := by
  intro pins s σ H x vs v us Q I rx rv h
  obtain ⟨l, b, xs, zs, rfl, rfl, hl, hb, hz, q⟩ := h
  cases rx
  obtain ⟨u, rfl, ru⟩ := rv.one
  cases ru
  obtain ⟨z1, its, n, r1, _, e1⟩ := I.lstM hl
  obtain ⟨jts, r2, ⟨o, eo, oc, m, od⟩, z2⟩ := I.tuple hb
  have n1 := r1.length
  have n2 := r2.length
  have sm : its.toArray.size + jts.toArray.size ≤ sizeLine := by
    rw [List.size_toArray, List.size_toArray]
    omega
  have ty : s.TypeIs (.ref b) "tuple" := ⟨o, eo, oc⟩
  refine wpAny_call_entry F.slot_list_extend ⟨_, e1, rfl⟩ F.entry_list_extend ?_ (F.args_list_extend_2 _ _)
  show wpAny _ _ (Builtin.List.listExtendWith (.ref l) (.ref b) .none) _ _ _
  unfold Builtin.List.listExtendWith
  refine wpAny_bind (wpAny_typeOf ty ?_)
  have yes : (Builtin.List.listSameRef (.ref l) (.ref b) || Value.type "tuple" == Value.type "list" || Value.type "tuple" == Value.type "tuple") = true := by simp
  rw [if_pos yes]
  refine wpAny_bind ?_
  unfold Builtin.List.listItems
  refine wpAny_bind (wpAny_seqItems eo od (wpAny_pure ?_))
  refine wpAny_bind ?_
  refine wpAny_bind (wpAny_seqItems e1 rfl (wpAny_pure ?_))
  have long : (!its.toArray.isEmpty && Builtin.List.listTooLong (its.toArray.size + jts.toArray.size)) = false := by
    rw [notLongL sm, Bool.and_false]
  rw [if_neg (by rw [long]; exact Bool.false_ne_true)]
  refine wpAny_bind ?_
  show wpAny _ _ (updateSeq l (· ++ jts.toArray)) _ _ _
  refine wpAny_updateSeq e1 rfl ?_ (by rw [List.size_toArray]; omega) (by rw [Array.size_append]; omega)
  refine wpAny_pure ⟨_, rfl, ?_⟩
  refine ⟨.non, _, I.lset (its' := its ++ jts) hl e1 (by simp) (r1.append r2) ?_, rfl, q⟩
  rw [List.length_append]
  exact hz
end Kr

namespace Kq
open PySem PySem.Spec PyProof.Rows L2
/-! the program's defs, by their places -/
def tp (i : Nat) : Stmt := PySem.Challenge.pw_kindalone_k21_told_ones_by_known.main.body.getD i (.Pass ⟨0, 0, 0, 0⟩)
/-! heaps -/
theorem newS {H : Hp} {p : Addr} {o : HO} (h : H p = none) : Same H (upd H p o) := fun b u e => by
  rw [upd_ne (ne_of_none e h)]
  exact e
/-- but for d and c all that stood stands -/
def Kp (d c : Addr) (H G : Hp) : Prop := ∀ b o, b ≠ d → b ≠ c → H b = some o → G b = some o
theorem Kp.rfl {d c : Addr} {H : Hp} : Kp d c H H := fun _ _ _ _ e => e
theorem Kp.trans {d c : Addr} {H G F : Hp} (a : Kp d c H G) (b : Kp d c G F) : Kp d c H F := fun x o h1 h2 e => b x o h1 h2 (a x o h1 h2 e)
theorem Kp.of {d c : Addr} {H G : Hp} (a : Same H G) : Kp d c H G := fun x o _ _ e => a x o e
theorem Kp.at1 {d c : Addr} {H : Hp} {o : HO} : Kp d c H (upd H d o) := fun x u h1 _ e => by rw [upd_ne h1]; exact e
theorem Kp.at2 {d c : Addr} {H : Hp} {o : HO} : Kp d c H (upd H c o) := fun x u _ h2 e => by rw [upd_ne h2]; exact e
/-- the deck of drawn cells -/
structure Dk (H : Hp) (d c : Addr) : Prop where
  ne : d ≠ c
  dd : ∃ seed k : Int, H d = some (.lst [.ref c, .int seed, .int k])
  cc : ∃ ns : List Int, H c = some (.lst (ns.map V.int)) ∧ ns.length ≤ 63
theorem Dk.same {H G : Hp} {d c : Addr} (x : Dk H d c) (s : Same H G) : Dk G d c := by
  obtain ⟨n, ⟨a, b, e⟩, ⟨ns, f, l⟩⟩ := x
  exact ⟨n, ⟨a, b, s _ _ e⟩, ⟨ns, s _ _ f, l⟩⟩
theorem sz {n : Nat} (h : n ≤ 1000) : n ≤ sizeLine := Nat.le_of_lt (small1000 h)
theorem Kp.mk {d c p : Addr} {H G : Hp} {o : HO} (a : Kp d c H G) (h : H p = none) : Kp d c H (upd G p o) := fun b u h1 h2 e => by
  rw [upd_ne (ne_of_none e h)]
  exact a b u h1 h2 e
theorem Dk.put {G : Hp} {d c p : Addr} {o : HO} (x : Dk G d c) (h : p ≠ d) (h' : p ≠ c) : Dk (upd G p o) d c := by
  obtain ⟨n, ⟨a, b, e⟩, ⟨ns, f, l⟩⟩ := x
  exact ⟨n, ⟨a, b, by rw [upd_ne h.symm]; exact e⟩, ⟨ns, by rw [upd_ne h'.symm]; exact f, l⟩⟩
theorem Dk.off {H : Hp} {d c p : Addr} (x : Dk H d c) (h : H p = none) : p ≠ d ∧ p ≠ c := by
  obtain ⟨n, ⟨a, b, e⟩, ⟨ns, f, l⟩⟩ := x
  exact ⟨(ne_of_none e h).symm, (ne_of_none f h).symm⟩
/-! texts of letters -/
def lets : Str := "abcdefghijklmnopqrstuvwxyz"
def sg (i : Nat) : Str := ⟨#[97 + i]⟩
theorem lets_at : ∀ i : Fin 26, lets.cps.toList[i.val]? = some (97 + i.val) := by decide +kernel
theorem lets_ix : ∀ i : Fin 26, Builtin.Str.occurrences lets (sg i.val) 0 lets.length 1 = [i.val] := by decide +kernel
structure Nm (x : Str) : Prop where
  low : ∀ c ∈ x.cps.toList, 97 ≤ c ∧ c < 123
  few : x.cps.toList.length ≤ 8
  one : 1 ≤ x.cps.toList.length
theorem app_cps (x y : Str) : (x ++ y).cps.toList = x.cps.toList ++ y.cps.toList := by
  show (x.cps ++ y.cps).toList = _
  rw [Array.toList_append]
theorem join_low : ∀ ks : List Nat, (∀ k ∈ ks, k < 26) → (∀ c ∈ (Txt.join (Str.ofString "") (ks.map sg)).cps.toList, 97 ≤ c ∧ c < 123) ∧ (Txt.join (Str.ofString "") (ks.map sg)).cps.toList.length = ks.length := by
  intro ks h
  rw [show ∀ a b, Txt.join a b = Str.join a b from TL.join_eq]
  induction ks with
  | nil => exact ⟨fun c z => absurd z (by simp [Str.join, Str.empty]), by simp [Str.join, Str.empty]⟩
  | cons k ks ih =>
    have hk := h k List.mem_cons_self
    have ih := ih fun j hj => h j (List.mem_cons_of_mem _ hj)
    cases ks with
    | nil =>
      refine ⟨fun c z => ?_, rfl⟩
      have e : c = 97 + k := by simpa [Str.join, sg] using z
      omega
    | cons j r =>
      have e : Str.join (Str.ofString "") ((k :: j :: r).map sg) = sg k ++ Str.ofString "" ++ Str.join (Str.ofString "") ((j :: r).map sg) := rfl
      rw [e, app_cps, app_cps]
      have e0 : (Str.ofString "").cps.toList = [] := by decide
      rw [e0, List.append_nil]
      refine ⟨fun c z => ?_, ?_⟩
      · rcases List.mem_append.mp z with z | z
        · have e : c = 97 + k := by simpa [sg] using z
          omega
        · exact ih.1 c z
      · rw [List.length_append, ih.2]
        show 1 + _ = _
        simp only [List.length_cons]
        omega
theorem join_nm {ks : List Nat} (h : ∀ k ∈ ks, k < 26) (h1 : 1 ≤ ks.length) (h8 : ks.length ≤ 8) : Nm (Txt.join (Str.ofString "") (ks.map sg)) := by
  obtain ⟨a, b⟩ := join_low ks h
  exact ⟨a, by omega, by omega⟩
theorem cutTo {xs : List V} {j : Nat} (h : j ≤ xs.length) : cutV xs none (some (j : Int)) = xs.take j := by
  unfold cutV
  rw [HT.sIx_nat, HT.sIx_none, Nat.min_eq_left h]
  rfl
theorem Kp.free {d c p : Addr} {H G : Hp} (a : Kp d c H G) (k : Dk G d c) (h : G p = none) : H p = none := by
  obtain ⟨h1, h2⟩ := k.off h
  cases e : H p with
  | none => rfl
  | some o =>
    rw [a p o h1 h2 e] at h
    cases h
theorem sg_len (ks : List Nat) : ((ks.map sg).map (·.length)).sum = ks.length := by
  induction ks with
  | nil => rfl
  | cons k ks ih =>
    rw [List.map_cons, List.map_cons, List.sum_cons, ih, List.length_cons]
    show 1 + ks.length = _
    omega
theorem lets_get {r : Int} (h0 : 0 ≤ r) (h1 : r < 26) : atI lets.cps.toList r = some (97 + r.toNat) := by
  have e : r = ((r.toNat : Nat) : Int) := by omega
  have q := atI_nat (lets_at ⟨r.toNat, by omega⟩)
  rw [← show r = (((⟨r.toNat, by omega⟩ : Fin 26).val : Nat) : Int) from e] at q
  exact q
theorem cutKs {ks : List Nat} {j : Nat} (h : j ≤ ks.length) : cutV ((ks.map sg).map V.str) none (some (j : Int)) = ((ks.take j).map sg).map V.str := by
  rw [cutTo (by rw [List.length_map, List.length_map]; exact h), List.map_take, List.map_take]
theorem lets_len : lets.length ≤ sizeLine := by decide
/-! rules for the inside of a comprehension, the written part named -/
theorem slK {X : Cx} (K : PySem.W.Frag) (h : X.K = K) : SlR X (rSlL K) := by
  subst h
  exact sl_list
def rJn (K : PySem.W.Frag) : V → List V → Hp → VK → Prop := fun x xs H Q => ∃ a p, ∃ ys : List Str, x = .str a ∧ xs = [.ref p] ∧ (SqL K H p (ys.map V.str) ∨ SqT K H p (ys.map V.str)) ∧ (ys.map (·.length)).sum + ys.length * a.length ≤ 16777216 ∧ Q (.str (Txt.join a ys)) H
theorem pe_joinK {X : Cx} (K : PySem.W.Frag) (h : X.K = K) {o e : Expr} {apos pos : Pos} {to te : TE} (ho : PE X o to) (he : PE X e te) (hbase : attributeBase o "join" X.env (eval o X.env) = eval o X.env := by rfl) (hline : (apos.endLine == pos.line) = true := by rfl)
    (hs : starEach [e] X.env = [(false, eval e X.env)] := by rfl) : PE X (.Call (.Attribute o "join" apos) [e] [] pos) (tM1 (rJn K) to te) := by
  subst h
  exact pe_join ho he hs hbase hline
theorem dpInts (K : PySem.W.Frag) (H : Hp) : ∀ ns : List Int, DpAll K H (ns.map V.int) (ns.map PyData.int)
  | [] => .nil
  | n :: ns => .cons (.int n) (dpInts K H ns)

theorem ixNat {n j : Nat} (hj : j < n) : ixN n (j : Int) = some j := by
  have h1 : (0 : Int) ≤ (j : Int) := by omega
  have h2 : (j : Int) < (n : Int) := by omega
  simp [ixN, h1, h2]
theorem join_cps : ∀ ks : List Nat, (Txt.join (Str.ofString "") (ks.map sg)).cps.toList = ks.map (97 + ·) := by
  intro ks
  rw [show ∀ a b, Txt.join a b = Str.join a b from TL.join_eq]
  induction ks with
  | nil => rfl
  | cons k ks ih =>
    cases ks with
    | nil => rfl
    | cons j r =>
      have e : Str.join (Str.ofString "") ((k :: j :: r).map sg) = sg k ++ Str.ofString "" ++ Str.join (Str.ofString "") ((j :: r).map sg) := rfl
      rw [e, app_cps, app_cps, ih]
      rfl
theorem nodupR {f : Nat → Str} : ∀ n, (∀ i j, i < n → j < n → f i = f j → i = j) → ((List.range n).map f).Nodup
  | 0, _ => List.nodup_nil
  | n + 1, h => by
    rw [List.range_succ, List.map_append]
    refine List.nodup_append.mpr ⟨nodupR n fun i j hi hj e => h i j (by omega) (by omega) e, (by simp), fun x hx y hy e => ?_⟩
    obtain ⟨i, hi, rfl⟩ := List.mem_map.mp hx
    have ey : y = f n := List.mem_singleton.mp hy
    rw [ey] at e
    have hi := List.mem_range.mp hi
    have := h i n (by omega) (by omega) e
    omega
abbrev tDeck : Stmt := tp 81
abbrev tDraw : Stmt := tp 82
section
variable {P : Program} {w : World} {K : PySem.W.Frag} {mg : Str → Option Value} {base : Heap}
theorem scDraw : FnScope ["_law_deck_here", "_law_most", "_law_cell", "_law_number"] ["_law_deck_here", "_law_most"] (defScope tDraw) := ⟨rfl, rfl, rfl, by decide +kernel, rfl, by decide +kernel, by decide +kernel⟩
def spDraw : Sp := fun vs H Q _ => ∃ (d c : Addr) (m : Int), vs = [.ref d, .int m] ∧ Dk H d c ∧ 0 < m ∧ m < 1298074214633706907132624082305024 ∧ ∀ (r : Int) (G : Hp), 0 ≤ r → r < m → Kp d c H G → Dk G d c → Q (.int r) G
theorem okDraw {f : Addr} {fd : FuncData} {k : Nat} (F : Fun K "_law_draw" "_law_draw" tDraw f fd) : FnOk P w K mg base CX0 (k + 1) f fd ["_law_deck_here", "_law_most"] spDraw := by
  refine F.ok scDraw (fun vs H Q E h => ?_) (fun cdv A outer s H vs Q E hr h => ?_)
  · obtain ⟨d, c, m, rfl, _⟩ := h
    rfl
  obtain ⟨d, c, m, rfl, ⟨ndc, ⟨seed, k0, hd⟩, ⟨ns, hc, hl⟩⟩, m0, m1, q⟩ := h
  refine ⟨_, pss_cons (ps_asg (pe_op op_add (pe_ix ix_list (pv 0) pe_int (fun _ _ => rfl)) pe_int) (pg_sub (pv 0) pe_int set_list))
    (C8.pss_cut (ps_set (i := 2) scDraw.nd rfl (.inl rfl) (pe_ifExp (pt_cmpR (op_eqD hr.units) (pe_ix ix_list (pv 0) pe_int (fun _ _ => rfl)) (pe_lst pa_nil) (nomark _)) (pe_ix ix_list (pv 0) pe_int (fun _ _ => rfl)) (pe_bm0 PySem.F.plainAttrs_list PySem.F.slot_list_pop PySem.F.type_list_pop mt_pop (pe_ix ix_list (pv 0) pe_int (fun _ _ => rfl)))))
    (pss_cons (ps_if (pt_cmpR op_ge (pv 2) (pe_op op_pow pe_int pe_int) (nomark _))
      (pss_cons (ps_expr (pe_bm PySem.F.plainAttrs_list PySem.F.slot_list_append PySem.F.type_list_append mt_append (pe_ix ix_list (pv 0) pe_int (fun _ _ => rfl)) (pa_cons (pe_op op_fdivW (pv 2) (pv 1)) pa_nil)))
      (pss_one (ps_ret (pe_op op_mod (pv 2) (pv 1))))) pss_nil)
    (pss_cons (ps_set (i := 3) scDraw.nd rfl (.inl rfl) (pe_op op_mod (pe_op op_mul (pe_op op_add (pe_op op_add (pe_op op_mod (pv 2) pe_int) (pe_op op_mul pe_int (pe_ix ix_list (pv 0) pe_int (fun _ _ => rfl)))) pe_int) pe_int) pe_int))
    (pss_cons (ps_set (i := 3) scDraw.nd rfl (.inl rfl) (pe_op op_mod (pe_op op_add (pe_op op_add (pe_op op_mul (pv 3) (pv 3)) (pe_op op_mul pe_int (pe_ix ix_list (pv 0) pe_int (fun _ _ => rfl)))) pe_int) pe_int))
    (pss_one (ps_ret (pe_op op_mod (pe_op op_fdiv (pe_op op_mod (pe_op op_mul (pv 3) (pe_op op_add (pe_op op_fdiv (pv 3) pe_int) pe_int)) pe_int) pe_int) (pv 1)))))))), ?_⟩
  refine ⟨_, rfl, d, _, _, _, rfl, rfl, SqL.of hd, atI_nat (j := 2) rfl, _, _, rfl, rfl, _, rfl, d, _, _, 2, rfl, rfl, hd, rfl, ?_⟩
  generalize hH1 : upd H d _ = H1
  have d1 : H1 d = some (.lst [.ref c, .int seed, .int (k0 + 1)]) := by rw [← hH1, upd_same]; rfl
  have c1 : H1 c = some (.lst (ns.map V.int)) := by rw [← hH1, upd_ne ndc.symm]; exact hc
  have p1 : Kp d c H H1 := by rw [← hH1]; exact Kp.at1
  clear hH1
  refine ⟨fun σ G => ∃ (cell : Int) (ms : List Int), σ = [some (.ref d), some (.int m), some (.int cell), none] ∧ Kp d c H G ∧ G d = some (.lst [.ref c, .int seed, .int (k0 + 1)]) ∧ G c = some (.lst (ms.map V.int)) ∧ ms.length ≤ 62, ?_, ?b2⟩
  · refine ⟨_, rfl, d, _, _, _, rfl, rfl, SqL.of d1, atI_nat (j := 0) rfl, Nat.zero_le _, fun p np => ?_⟩
    have sp : Same H1 (upd H1 p (.lst [])) := newS np
    have d2 := sp _ _ d1
    have c2 := sp _ _ c1
    have p2 : Kp d c H (upd H1 p (.lst [])) := p1.trans (.of sp)
    refine ⟨.list (ns.map PyData.int), .list [], .lst (SqL.of c2) (dpInts K _ ns), .lst (SqL.of upd_same) .nil, PySem.W.ke_shaped_ints ns, rfl, _, rfl, ?_⟩
    generalize upd H1 p (.lst []) = H2 at d2 c2 p2
    refine ite2 (fun he => ?_) (fun hne => ?_)
    · have n0 : ns = [] := by
        cases ns with
        | nil => rfl
        | cons a b => simp [PyData.eqv, PyData.eqvAll] at he
      subst n0
      exact ⟨_, rfl, d, _, _, _, rfl, rfl, SqL.of d2, atI_nat (j := 1) rfl, seed, [], rfl, p2, d2, c2, Nat.zero_le _⟩
    · have nn : ns ≠ [] := fun z => hne (by rw [z]; rfl)
      obtain ⟨n, hn⟩ : ∃ n, (ns.map V.int)[(ns.map V.int).length - 1]? = some (.int n) := by
        have h0 : 0 < ns.length := List.length_pos_iff.mpr nn
        rw [List.length_map, List.getElem?_map, List.getElem?_eq_getElem (by omega)]
        exact ⟨_, rfl⟩
      have ed : (ns.map V.int).dropLast = ns.dropLast.map V.int := by rw [List.map_dropLast]
      refine ⟨_, rfl, d, _, _, _, rfl, rfl, SqL.of d2, atI_nat (j := 0) rfl, .inl ⟨rfl, _, SqL.of c2⟩, c, _, _, rfl, rfl, c2, hn, ?_⟩
      rw [ed]
      refine ⟨n, ns.dropLast, rfl, p2.trans Kp.at2, by rw [upd_ne ndc]; exact d2, upd_same, ?_⟩
      rw [List.length_dropLast]
      omega
  case b2 =>
    rintro σ G ⟨cell, ms, rfl, kp, gd, gc, lm⟩
    refine ⟨_, rfl, _, _, rfl, rfl, ⟨by decide, by decide, by decide⟩, _, _, rfl, rfl, _, rfl, ite2 (fun _ => ?_) (fun _ => ?_)⟩
    · refine ⟨_, rfl, d, _, _, _, rfl, rfl, SqL.of gd, atI_nat (j := 0) rfl, .inl ⟨rfl, _, SqL.of gc⟩, _, rfl, _, rfl, _, _, rfl, rfl, wide_div m0 (b := 120) (by show m.natAbs < 1329227995784915872903807060280344576; omega) (by decide) (by decide), c, _, _, rfl, rfl, gc, (by rw [List.length_map]; exact small1000 (by omega)), ?_⟩
      refine ⟨_, rfl, _, rfl, _, _, rfl, rfl, m0, q _ _ (Int.emod_nonneg _ (by omega)) (Int.emod_lt_of_pos _ m0) (kp.trans Kp.at2) ⟨ndc, ⟨seed, k0 + 1, (by rw [upd_ne ndc]; exact gd)⟩, ⟨ms ++ [cell / m], ?_, ?_⟩⟩⟩
      · rw [upd_same, List.map_append]
        rfl
      · rw [List.length_append]
        show _ + 1 ≤ 63
        omega
    · refine ⟨_, rfl, _, _, rfl, rfl, (by show (0 : Int) < 2147483629; decide), _, rfl, d, _, _, _, rfl, rfl, SqL.of gd, atI_nat (j := 2) rfl, _, _, rfl, rfl, .inl ⟨by decide, by decide⟩, _, _, rfl, rfl, _, _, rfl, rfl, _, _, rfl, rfl, .inr ⟨by decide, by decide⟩, _, _, rfl, rfl, (by show (0 : Int) < 2147483647; decide), ?_⟩
      generalize hx : (cell % 2147483629 + 104729 * (k0 + 1) + 1) * 48271 % 2147483647 = x
      have x0 : 0 ≤ x := by rw [← hx]; exact Int.emod_nonneg _ (by decide)
      have x1 : x < 2147483647 := by rw [← hx]; exact Int.emod_lt_of_pos _ (by decide)
      refine ⟨_, rfl, _, rfl, _, _, rfl, rfl, .inl ⟨by omega, by omega⟩, _, rfl, d, _, _, _, rfl, rfl, SqL.of gd, atI_nat (j := 2) rfl, _, _, rfl, rfl, .inl ⟨by decide, by decide⟩, _, _, rfl, rfl, _, _, rfl, rfl, _, _, rfl, rfl, (by show (0 : Int) < 2147483587; decide), ?_⟩
      generalize hy : (x * x + 69621 * (k0 + 1) + 7) % 2147483587 = y
      have y0 : 0 ≤ y := by rw [← hy]; exact Int.emod_nonneg _ (by decide)
      have y1 : y < 2147483587 := by rw [← hy]; exact Int.emod_lt_of_pos _ (by decide)
      refine ⟨_, rfl, _, rfl, _, _, rfl, rfl, ⟨by decide, by decide⟩, _, _, rfl, rfl, _, _, rfl, rfl, .inl ⟨by omega, by omega⟩, _, _, rfl, rfl, (by show (0 : Int) < 2305843009213693951; decide), _, _, rfl, rfl, ⟨by decide, by decide⟩, _, rfl, _, _, rfl, rfl, m0, ?_⟩
      exact q _ _ (Int.emod_nonneg _ (by omega)) (Int.emod_lt_of_pos _ m0) kp ⟨ndc, ⟨_, _, gd⟩, ⟨ms, gc, by omega⟩⟩
/-! _law_deck -/
theorem scDeck : FnScope ["_law_script", "_law_cells"] ["_law_script"] (defScope tDeck) := ⟨rfl, rfl, rfl, by decide +kernel, rfl, by decide +kernel, by decide +kernel⟩
def spDeck (K : PySem.W.Frag) : Sp := fun vs H Q _ => ∃ (a : Addr) (ns : List Int), vs = [.ref a] ∧ SqL K H a (ns.map V.int) ∧ ns.length ≤ 63 ∧ ∀ (d c : Addr) (G : Hp), Same H G → H d = none → H c = none → Dk G d c → Q (.ref d) G
theorem okDeck {f : Addr} {fd : FuncData} {k : Nat} (F : Fun K "_law_deck" "_law_deck" tDeck f fd) (ml : mg "list" = none) (mr : mg "reversed" = none) (ms : mg "sum" = none) (mn : mg "len" = none) : FnOk P w K mg base CX0 (k + 1) f fd ["_law_script"] (spDeck K) := by
  refine F.ok scDeck (fun vs H Q E h => ?_) (fun cdv A outer s H vs Q E hr h => ?_)
  · obtain ⟨a, ns, rfl, _⟩ := h
    rfl
  obtain ⟨a, ns, rfl, hS, hl, q⟩ := h
  refine ⟨_, pss_cons (ps_set (i := 1) scDeck.nd rfl (.inl rfl) (Kr.pe_listRev rfl (by rfl) ml (by rfl) mr (pe_slice sl_list (pv 0) po_none (po_some pe_int))))
    (pss_one (ps_ret (pe_lst (pa_cons (pv 1) (pa_cons (pe_op op_add (pe_op op_mod (pe_callB (cr_sum rfl) (by rfl) ms PyProof.Rows.boot_sum (pa_cons (pv 1) pa_nil)) pe_int) (pe_op op_mul pe_int (pe_callB call_len_seq (by rfl) mn PySem.boot_len (pa_cons (pv 1) pa_nil)))) (pa_cons pe_int pa_nil)))))), ?_⟩
  refine ⟨_, rfl, 63, rfl, a, _, rfl, hS, fun p np => ?_⟩
  refine ⟨p, _, rfl, SqL.of upd_same, fun c nc => ?_⟩
  have e0 : cutV (ns.map V.int) none (some 63) = (ns.take 63).map V.int := by
    rw [List.take_of_length_le hl]
    unfold cutV
    rw [HT.sIx_none, show HT.sIx (ns.map V.int).length (ns.map V.int).length (some 63) = min 63 (ns.map V.int).length from HT.sIx_nat _ _ 63, List.drop_zero, List.take_of_length_le]
    rw [List.length_map]
    omega
  rw [e0, ← List.map_reverse]
  generalize hm : (ns.take 63).reverse = ms'
  have lm : ms'.length ≤ 63 := by rw [← hm, List.length_reverse, List.length_take]; omega
  generalize hG : upd (upd H p _) c (.lst (ms'.map V.int)) = G
  have gc : G c = some (.lst (ms'.map V.int)) := by rw [← hG, upd_same]
  have hc : H c = none := (newS np).free nc
  have hcp : c ≠ p := fun z => by
    rw [z, upd_same] at nc
    cases nc
  have sG : Same H G := by
    rw [← hG]
    exact (newS np).trans (newS (by rw [upd_ne hcp]; exact hc))
  refine ⟨_, rfl, _, rfl, c, _, rfl, SqL.of gc, _, _, rfl, rfl, (by show (0 : Int) < 2147483629; decide), _, rfl, c, _, rfl, .inl (SqL.of gc), _, _, rfl, rfl, .inl ⟨by decide, by decide⟩, _, _, rfl, rfl, (by show 3 ≤ sizeLine; decide), fun d nd => q d c _ (sG.trans (newS nd)) (sG.free nd) hc ⟨(ne_of_none gc nd).symm, ⟨_, _, upd_same⟩, ⟨ms', ?_, lm⟩⟩⟩
  rw [upd_ne (ne_of_none gc nd)]
  exact gc
end
end Kq

namespace Kq
open PySem PySem.Spec PyProof.Rows L2
/-- the tuples stay -/
def Tk (H G : Hp) : Prop := ∀ b xs, H b = some (.tup xs) → G b = some (.tup xs)
theorem Tk.of {H G : Hp} (s : Same H G) : Tk H G := fun b xs e => s b _ e
theorem Tk.rfl {H : Hp} : Tk H H := fun _ _ e => e
theorem Tk.trans {H G F : Hp} (a : Tk H G) (b : Tk G F) : Tk H F := fun x o e => b x o (a x o e)
theorem Tk.kp {H G : Hp} {d c : Addr} (a : Kp d c H G) (k : Dk H d c) : Tk H G := fun b xs e => by
  obtain ⟨n, ⟨s, k0, hd⟩, ⟨ns, hc, _⟩⟩ := k
  refine a b _ (fun z => ?_) (fun z => ?_) e
  · rw [z, hd] at e
    cases e
  · rw [z, hc] at e
    cases e
theorem Tk.put {H G : Hp} {p : Addr} {o : HO} (a : Tk H G) (h : ∀ xs, H p ≠ some (.tup xs)) : Tk H (upd G p o) := fun b xs e => by
  rw [upd_ne (fun z => h xs (by rw [← z]; exact e))]
  exact a b xs e
theorem cutFrom1 (x : V) (vs : List V) : cutV (x :: vs) (some 1) none = vs := by
  unfold cutV
  rw [show HT.sIx (x :: vs).length 0 (some 1) = min 1 (x :: vs).length from HT.sIx_nat _ _ 1, HT.sIx_none, List.length_cons, Nat.min_eq_left (by omega)]
  show (vs.take (vs.length + 1 - 1)) = vs
  rw [Nat.add_sub_cancel, List.take_length]
theorem notWhole (x : V) (vs : List V) : ¬ (HT.sIx (x :: vs).length 0 (some 1) = 0 ∧ HT.sIx (x :: vs).length (x :: vs).length none = (x :: vs).length) := by
  rw [show HT.sIx (x :: vs).length 0 (some 1) = min 1 (x :: vs).length from HT.sIx_nat _ _ 1, List.length_cons, Nat.min_eq_left (by omega)]
  rintro ⟨h, _⟩
  cases h
theorem smk {H G : Hp} {p : Addr} {o : HO} (a : Same H G) (h : H p = none) : Same H (upd G p o) := fun b u e => by
  rw [upd_ne (ne_of_none e h)]
  exact a b u e
theorem Nm.ok {x : Str} (h : Nm x) : PyData.strOk x = true := by
  unfold PyData.strOk
  rw [← Array.all_toList, List.all_eq_true]
  intro c hc
  have := (h.low c hc).2
  exact decide_eq_true (by omega)
theorem dpStrs (K : PySem.W.Frag) (H : Hp) : ∀ xs : List Str, DpAll K H (xs.map V.str) (xs.map PyData.str)
  | [] => .nil
  | x :: xs => .cons (.str x) (dpStrs K H xs)
theorem layStrs : ∀ xs : List Str, (∀ x ∈ xs, Nm x) → PyData.canLayAll0 (xs.map PyData.str) = true ∧ PyData.depthAll (xs.map PyData.str) = 0
  | [], _ => ⟨by simp [PyData.canLayAll0], by simp [PyData.depthAll]⟩
  | x :: xs, h => by
    obtain ⟨a, b⟩ := layStrs xs fun y hy => h y (List.mem_cons_of_mem _ hy)
    have c := (h x List.mem_cons_self).ok
    exact ⟨by simp [PyData.canLayAll0, PyData.canLay0, a, c], by simp [PyData.depthAll, PyData.depth, b]⟩
theorem shStrs {xs : List Str} (h : ∀ x ∈ xs, Nm x) : SeqAt.shaped (.list (xs.map PyData.str)) = true := by
  obtain ⟨a, b⟩ := layStrs xs h
  simp [SeqAt.shaped, PyData.canLay0, PyData.depth, a, b]
theorem eqvNil (xs : List Str) : PyData.eqv (.list (xs.map PyData.str)) (.list []) = xs.isEmpty := by
  cases xs <;> simp [PyData.eqv, PyData.eqvAll]
theorem isiK {X : Cx} (K : PySem.W.Frag) (h : X.K = K) : CallR X (.builtin "isinstance") (rIsi K) := by
  subst h
  exact call_isi
theorem ixTK {X : Cx} (K : PySem.W.Frag) (h : X.K = K) : IxR X (rIxT K) := by
  subst h
  exact ix_tup
section
variable {P : Program} {w : World} {K : PySem.W.Frag} {mg : Str → Option Value} {base : Heap}
theorem noFn {f : Addr} {fd : FuncData} {ps : List Str} {sp : Sp} {k : Nat} (no : ∀ vs H Q E, ¬ sp vs H Q E) : FnOk P w K mg base CX0 k f fd ps sp :=
  ⟨fun vs H Q E h => absurd h (no vs H Q E), fun A outer s H args us vs Q E _ _ _ _ h => absurd h (no vs H Q E)⟩
end
end Kq

/-! all(..) of a generator expression whose element may call defs -/
namespace Kg
open PySem PySem.Spec PyProof.Rows L2 GenW GxR
open Sem (wp)
theorem over_startC {A : Around} {elt t it : Expr} {ifs : List Expr} {scope : Scope} {pos : Pos} {iv acc : Value} {env : Env} : A.over (.compStart (.GeneratorExp elt [⟨t, it, ifs, 0⟩] scope pos) 0 iv acc env) [] = A.deeper env := by
  first
    | rfl
    | (obtain ⟨hd, d, fr, gs, u⟩ := A; simp [Around.over, Around.deeper, marksOver, frameCount, unitsOf, envsOf, guardsOf, pushEnvs, pushGuards, Code.envs, Code.env?, Code.isFrame, Code.guards, Code.isGuard, Code.weight, Code.frames, Code.isCreation, Code.isCaller, Code.cUnits])
theorem over_loopC {A : Around} {elt t it : Expr} {ifs : List Expr} {scope : Scope} {pos : Pos} {iv acc : Value} {env : Env} : A.over (.compLoop (.GeneratorExp elt [⟨t, it, ifs, 0⟩] scope pos) 0 iv acc env) [] = A.deeper env := by
  first
    | rfl
    | (obtain ⟨hd, d, fr, gs, u⟩ := A; simp [Around.over, Around.deeper, marksOver, frameCount, unitsOf, envsOf, guardsOf, pushEnvs, pushGuards, Code.envs, Code.env?, Code.isFrame, Code.guards, Code.isGuard, Code.weight, Code.frames, Code.isCreation, Code.isCaller, Code.cUnits])
/-- the scope of a generator expression within a def: its own names, those that it captures (with their places in N) -/
structure GxS (N : List Str) (sc scope : Scope) (own : List Str) (caps : List (Str × Nat)) : Prop where
  kind : scope.kind = .function
  co : scope.isCoroutine = false
  cell : ∀ y ∈ scope.names, y.2 ≠ .cell
  dot : scope.names.lookup (".0" : Str) = some NameKind.local
  nd : (own ++ caps.map (·.1)).Nodup
  caps : ∀ p ∈ caps, N[p.2]? = some p.1 ∧ scope.names.lookup p.1 = some .free
  free : ∀ y ∈ scope.names, y.2 = .free → sc.names.lookup y.1 = some .cell ∨ sc.names.lookup y.1 = some .free
  uniq : ∀ y ∈ scope.names, scope.names.lookup y.1 = some y.2
abbrev gxN (own : List Str) (caps : List (Str × Nat)) : List Str := own ++ caps.map (·.1)
abbrev gxSt (own : List Str) (caps : List (Str × Nat)) (σ : L2.St) : L2.St := own.map (fun _ => none) ++ caps.map (fun p => (σ[p.2]?).join)
abbrev gxEnv (X : Cx) (scope : Scope) (C : Addr) (code : Value) : Env := genEnv scope (cloFrom X.env.cells scope.names []) C code builtinsNs X.env
/-- the context of its frame -/
abbrev gcx (X : Cx) (A : Around) (N : List Str) (s : Shared) (H : Hp) (cenv : Env) (fp : List Addr) : Cx :=
  { X with A := A.deeper cenv, N := N, s_0 := s, H_0 := H, env := cenv, outer := X.stack, stack := cenv :: X.stack, ex := fp, fn := fun _ => false, calm := true, pn := [], xe := fun _ _ => False }
section
variable {X : Cx} {pins : List (Addr × Obj)} {σ : L2.St} {H : Hp} {s : Shared}
theorem gx_start {A : Around} {scope : Scope} {own : List Str} {caps : List (Str × Nat)} {fp : List Addr} {code : Value} {m0 : Str → Option Value} {s1 : Shared} (I : Inv X pins σ H s) (S : GxS X.N X.env.scope scope own caps) (hh : A.handled = none) (hfr : A.frames = some X.stack)
    (hfp : ∀ b ∈ fp, FpOk X pins H b ∧ b < s.heap.objs.size) (hns : s1.heap.Ns s.heap.objs.size m0) (kp : ∀ b o, s.heap.get? b = some o → s1.heap.get? b = some o) (hos : s1.os = s.os) (hb : AllBare s1.gens) :
    Inv (gcx X A (gxN own caps) s H (gxEnv X scope s.heap.objs.size code) fp) [] (gxSt own caps σ) H s1 := by
  have hfree : ∀ y ∈ scope.names, y.2 = .free → ∃ c, X.env.cells.lookup y.1 = some c := fun y hy e => by
    rcases S.free y hy e with k | k
    · exact I.ok.has _ (.inl k)
    · exact I.ok.has _ (.inr k)
  have cm : ∀ {y c}, (y, c) ∈ cloFrom X.env.cells scope.names [] → X.env.cells.lookup y = some c ∧ c < s.heap.objs.size := fun {y c} hm => by
    rcases cloFrom_mem hm with hm | ⟨h1, rfl⟩
    · cases hm
    · obtain ⟨c, hc⟩ := hfree _ h1 rfl
      rw [hc]
      obtain ⟨w, z⟩ := I.cell _ _ hc
      exact ⟨rfl, z.lt⟩
  have mem : ∀ {y c}, (cloFrom X.env.cells scope.names []).lookup y = some c → X.env.cells.lookup y = some c ∧ c < s.heap.objs.size := fun {y c} e => cm (PySem.mem_of_lookup e)
  have look : ∀ {y}, scope.names.lookup y = some .free → ∃ c, (cloFrom X.env.cells scope.names []).lookup y = some c := fun {y} hl => by
    have hy : (y, NameKind.free) ∈ scope.names := PySem.mem_of_lookup hl
    exact mem_lookup (cloFrom_has (cells := X.env.cells) (acc := []) hy)
  have nfs : ∀ b o, X.base.get? b = some o → b ∉ frs X.stack := fun b o e z => by
    rcases List.mem_cons.mp (I.stkSub b z) with z | z
    · have h1 := Heap.lt_size e
      have h2 := Nat.le_trans I.ok.bsz I.ok.above
      rw [z] at h1
      exact absurd (Nat.lt_of_lt_of_le h1 h2) (Nat.lt_irrefl _)
    · exact I.ok.nofr e z
  have okB : (gcx X A (gxN own caps) s H (gxEnv X scope s.heap.objs.size code) fp).Ok := by
    refine ⟨I.ok.mod, S.kind, I.ok.glob, rfl, Nat.le_refl _, fun y z c e1 e2 => I.ok.inj y z c (mem e1).1 (mem e2).1, fun y hy => ?_, fun y c z e => ?_, fun _ => hh, ?_, .inr ⟨rfl, rfl⟩, fun b hb => ⟨Nat.ne_of_lt (hfp b hb).2, fun y c e z => (hfp b hb).1.2.2.2.2.1 y c (mem e).1 z⟩,
      I.bs, Nat.le_trans I.ok.bsz I.sz, fun b o e hb => ?_, fun b hb z => ?_, I.stack, I.stkFree⟩
    · have hy : scope.names.lookup y = some .cell ∨ scope.names.lookup y = some .free := hy
      rcases hy with hy | hy
      · exact absurd rfl (S.cell _ (PySem.mem_of_lookup hy))
      · exact look hy
    · cases z
    · exact Around.frames_deeper hfr
    · rcases (hfp b hb).1.2.2.2.1 with z | z
      · exact I.ok.noex b o e z
      · exact absurd (Nat.lt_of_lt_of_le (Heap.lt_size e) (Nat.le_trans I.ok.bsz z)) (Nat.lt_irrefl _)
    · rcases List.mem_cons.mp (I.stkSub b z) with z | z
      · exact (hfp b hb).1.2.1 z
      · exact (hfp b hb).1.2.2.1 z
  refine ⟨okB, hos, hb, Un.kept kp, ⟨m0, hns, fun i y av e1 e2 e3 => ?_⟩, fun y c e => ?_, I.hok.fresh (Nat.le_refl _), fun y c e => ?_, fun p hp => ?_, I.hok.kept kp, ?_⟩
  · have e1 : (own ++ caps.map (·.1))[i]? = some y := e1
    have e2 : (own.map (fun _ => (none : Option V)) ++ caps.map (fun p => (σ[p.2]?).join))[i]? = some (some av) := e2
    by_cases hi : i < own.length
    · rw [List.getElem?_append_left (by rw [List.length_map]; exact hi), List.getElem?_map, List.getElem?_eq_getElem hi] at e2
      cases e2
    · rw [List.getElem?_append_right (by rw [List.length_map]; omega), List.length_map, List.getElem?_map] at e2
      rw [List.getElem?_append_right (by omega), List.getElem?_map] at e1
      cases hc : caps[i - own.length]? with
      | none => rw [hc] at e1; cases e1
      | some p =>
        rw [hc] at e1 e2
        have e1 : p.1 = y := Option.some.inj e1
        have e2 : (σ[p.2]?).join = some av := Option.some.inj e2
        obtain ⟨hN, hf⟩ := S.caps p (List.mem_of_getElem? hc)
        have hσ : σ[p.2]? = some (some av) := by
          cases q : σ[p.2]? with
          | none => rw [q] at e2; cases e2
          | some o => rw [q] at e2; exact congrArg some e2
        have hv : X.env.scope.names.lookup p.1 = some .cell ∨ X.env.scope.names.lookup p.1 = some .free := S.free (p.1, .free) (PySem.mem_of_lookup hf) rfl
        obtain ⟨m, hm, hl⟩ := I.loc
        obtain ⟨u, ru, lk⟩ := hl p.2 p.1 av hN hσ (.inr hv)
        subst e1
        refine ⟨u, ru, .inr ⟨.inr hf, ?_⟩⟩
        obtain ⟨c, hc'⟩ := look hf
        refine ⟨c, hc', ?_⟩
        rcases lk with ⟨h1, _⟩ | ⟨_, c2, h2, h3⟩
        · have h1 : X.env.scope.names.lookup p.1 = some .local := h1
          rcases hv with hv | hv
          · rw [hv] at h1; cases h1
          · rw [hv] at h1; cases h1
        · rw [(mem hc').1] at h2
          cases h2
          obtain ⟨o, ho, hd⟩ := h3
          exact ⟨o, kp _ _ ho, hd⟩
  · obtain ⟨v, o, ho, hd⟩ := I.cell y c (mem e).1
    exact ⟨v, o, kp _ _ ho, hd⟩
  · exact I.freeC y c (mem e).1
  · exact absurd (show p ∈ ([] : List (Addr × Obj)) ++ [] from hp) (by simp)
  · show (own.map (fun _ => (none : Option V)) ++ caps.map (fun p => (σ[p.2]?).join)).length = (own ++ caps.map (·.1)).length
    simp
end
/-! the protocol -/
/-- behind the whole: only the table of generators has turned, things may be new -/
def Done (Qf : Value → Shared → Prop) (b : Bool) (s : Shared) : Prop := ∀ s' : Shared, (∀ x o, s.heap.get? x = some o → s'.heap.get? x = some o) → s'.os = s.os → AllBare s'.gens → Qf (.bool b) s'
def GEndA (Qf : Value → Shared → Prop) : Nat → Shared → Shared → Prop := fun _ _ s => AllBare s.gens ∧ Done Qf true s
def GProto (Qf : Value → Shared → Prop) (a : Addr) (g : Nat) : Protocol := fun _ _ v s kap =>
  ∃ b : Bool, v = .bool b ∧ s.heap.IsGen a g ∧ s.heap.NoLimit ∧ AllBare s.gens ∧ (b = true → ∀ s' : Shared, s'.heap = s.heap → s'.os = s.os → AllBare s'.gens → kap (.send .none) s') ∧ (b = false → Done Qf false s)
section
variable {P : Program} {w : World} {A : Around} {Qf : Value → Shared → Prop} {a : Addr} {g : Nat}
/-- all's own loop -/
theorem all_drain (hh : A.handled = none) (hd : A.depth < recursionLimit) : ∀ (n : Nat) (s : Shared), s.heap.IsGen a g → s.heap.NoLimit →
    (∃ gs, s.gens[g]? = some gs ∧ gs.Goes (model P w) A.in1.in1 (fun n s₀ r s₁ => r = .ok .next ∧ GEndA Qf n s₀ s₁) (GProto Qf a g) n (.send .none) (s.setGen g .running)) →
    codeAny (model P w) A (.builtin "all.loop" ⟨[.ref a], []⟩) (fun r s' => ∃ b : Bool, r = .ok (.ret (.bool b)) ∧ Qf (.bool b) s') s := by
  intro n
  induction n with
  | zero =>
    intro s hg hl ⟨gs, hgs, hgo⟩
    refine codeAny_builtin F.entry_all_loop ?_
    rw [Around.under_plainId F.plain_all_loop _]
    show wpAny _ A.in1 (pyNext (.ref a) >>= _) _ _ s
    refine wpAny_bind (wpAny_pyNext_genexpQ (A := A.in1) (P := GEndA Qf) hh hl hd hg hgs hgo (fun v s₁ gs' hbare hv => ?_) (fun s₁ hp h' hk => ?_))
    · obtain ⟨b, rfl, hg1, hl1, hb1, ht, hf⟩ := hv
      cases b with
      | true => exact False.elim (ht rfl s₁ rfl rfl hb1)
      | false =>
        refine wpAny_bind (wpAny_holding (wpAny_truthy_bool ?_))
        refine wpAny_bind (wpAny_letGo ?_)
        simp only [Bool.false_eq_true, if_false]
        refine wpAny_bind (wpAny_rule (wpAny_pure ⟨false, rfl, hf rfl _ (fun x o e => e) rfl (allBare_setGen hb1 hbare)⟩))
    · refine wpAny_bind (wpAny_rule (wpAny_pure ⟨true, rfl, hp.2 _ hk rfl (allBare_setGen hp.1 rfl)⟩))
  | succ n ih =>
    intro s hg hl ⟨gs, hgs, hgo⟩
    have hgl : g < s.gens.size := (Array.getElem?_eq_some_iff.mp hgs).1
    refine codeAny_builtin F.entry_all_loop ?_
    rw [Around.under_plainId F.plain_all_loop _]
    show wpAny _ A.in1 (pyNext (.ref a) >>= _) _ _ s
    refine wpAny_bind (wpAny_gsz (n := g + 1) hgl (wpAny_pyNext_genexpQ (A := A.in1) (P := GEndA Qf) hh hl hd hg hgs hgo (fun v s₁ gs' hbare hv => ?_) (fun s₁ hp h' hk => ?_)))
    · intro hsz
      have hsz1 : g < s₁.gens.size := by
        have q : (s₁.setGen g gs').gens.size = s₁.gens.size := setGen_size _ _ _
        have hsz' : g + 1 ≤ (s₁.setGen g gs').gens.size := hsz
        omega
      obtain ⟨b, rfl, hg1, hl1, hb1, ht, hf⟩ := hv
      refine wpAny_bind (wpAny_holding (wpAny_truthy_bool ?_))
      refine wpAny_bind (wpAny_letGo ?_)
      cases b with
      | true =>
        simp only [if_true]
        refine wpAny_pure ⟨plainId_quiet F.plain_all_loop _, ih _ hg1 hl1 ⟨gs', setGen_at hsz1, ?_⟩⟩
        exact ht rfl _ rfl rfl (allBare_setGen (s := s₁.setGen g gs') (allBare_setGen hb1 hbare) rfl)
      | false =>
        simp only [Bool.false_eq_true, if_false]
        refine wpAny_bind (wpAny_rule (wpAny_pure ⟨false, rfl, hf rfl _ (fun x o e => e) rfl (allBare_setGen hb1 hbare)⟩))
    · intro hsz
      refine wpAny_bind (wpAny_rule (wpAny_pure ⟨true, rfl, hp.2 _ hk rfl (allBare_setGen hp.1 rfl)⟩))
theorem call_all_gen {E : Value → Shared → Prop} {n : Nat} {s : Shared} (hh : A.handled = none) (hd : A.depth < recursionLimit) (hg : s.heap.IsGen a g) (hl : s.heap.NoLimit)
    (hgo : ∃ gs, s.gens[g]? = some gs ∧ gs.Goes (model P w) A.in1.in1 (fun n s₀ r s₁ => r = .ok .next ∧ GEndA Qf n s₀ s₁) (GProto Qf a g) n (.send .none) (s.setGen g .running)) : wpAny (model P w) A (call (.builtin "all") [.ref a]) Qf E s := by
  refine call_function_tree F.kind_all F.plain_all F.entry_all (F.args_all1 _) ?_
  unfold Builtin.«all»
  refine wpAny_bind (m := oneArg "all" _) (wpAny_pure ?_)
  refine wpAny_bind (wpAny_pyIter_gen hg ?_)
  refine wpAny_pure ⟨plainId_quiet F.plain_all_loop _, codeAny_mono (all_drain hh hd n s hg hl hgo) fun r s' h => ?_⟩
  obtain ⟨b, rfl, q⟩ := h
  exact q
end
end Kg

namespace Kg
open PySem PySem.Spec PyProof.Rows L2 GenW GxR
open Sem (wp)
theorem inv_same {G : Cx} {pins : List (Addr × Obj)} {σ : L2.St} {H : Hp} {s s' : Shared} (I : Inv G pins σ H s) (hk : ∀ x o, s.heap.get? x = some o → s'.heap.get? x = some o) (ho : s'.os = s.os) (hb : AllBare s'.gens) : Inv G pins σ H s' :=
  I.call' (ch := []) ho (Un.kept hk) (I.hok.kept hk) hb fun b z => by simp at z
/-- a turn's wish -/
def Turns (J : It) (σ0 : L2.St) (vs : List Nat) (g : TG) (te : TE) (Qe : Bool → Hp → Prop) (W : Nat → Nat → Hp → Prop) : Prop :=
  ∀ i m H, W i m H → (J.stop i H ∧ Qe true H) ∨ (J.go i H ∧ ∃ Nx : Hp → Prop, (∀ H', Nx H' → ∃ m', m' < m ∧ W (i + 1) m' H') ∧ ∀ x H', J.yld i H x H' → g x σ0 H' fun σ2 H2 => wipe σ2 vs = σ0 ∧ te σ2 H2 fun y H4 => ∃ b, y = .bl b ∧ if b = true then Nx H4 else Qe false H4)
section
variable {X : Cx} {A : Around} {N : List Str} {s4 : Shared} {H0 : Hp} {cenv : Env} {fp : List Addr} {tg elt iter : Expr} {scope : Scope} {pos : Pos} {it a : Addr} {gi : Nat} {go : Obj} {J : It} {tn : Nat → Heap → Prop} {σ0 : L2.St} {vs : List Nat} {g : TG} {te : TE} {Qe : Bool → Hp → Prop} {W : Nat → Nat → Hp → Prop} {Qf : Value → Shared → Prop}
theorem gx_loop (hh : A.handled = none) (hco : cenv.scope.isCoroutine = false) (T : Turn X.prog X.w X.K tg J fp it tn) (haf : a ∉ fp) (hgen : ∀ h : Heap, h.get? a = some go → h.IsGen a gi)
    (pg : PG (gcx X A N s4 H0 cenv fp) tg g) (pe : PE (gcx X A N s4 H0 cenv fp) elt te) (turn : Turns J σ0 vs g te Qe W)
    (hfin : ∀ b s H', Inv (gcx X A N s4 H0 cenv fp) [(a, go)] σ0 H' s → Qe b H' → Done Qf b s) :
    ∀ (m n i : Nat) (H : Hp) (s₀ s : Shared), m < n → W i m H → Inv (gcx X A N s4 H0 cenv fp) [(a, go)] σ0 H s → tn i s.heap → (∀ b ∈ fp, H b = none) →
      Seg (model X.prog X.w) A (fun n s₀ r s₁ => r = .ok .next ∧ GEndA Qf n s₀ s₁) (GProto Qf a gi) n s₀ (.compLoop (.GeneratorExp elt [⟨tg, iter, [], 0⟩] scope pos) 0 (.ref it) .none cenv)
        ((model X.prog X.w).den (.compLoop (.GeneratorExp elt [⟨tg, iter, [], 0⟩] scope pos) 0 (.ref it) .none cenv)) [] s := by
  have stat : ∀ {σ' : L2.St} {H' : Hp} {s' : Shared}, Inv (gcx X A N s4 H0 cenv fp) [(a, go)] σ' H' s' → (∀ b ∈ fp, H' b = none) → ∀ b ∈ fp, FpOk (gcx X A N s4 H0 cenv fp) [(a, go)] H' b := fun {σ' H' s'} I' hn b hb =>
    ⟨hn b hb, (I'.ok.exf b hb).1, I'.ok.exfs b hb, .inl hb, fun x c e => (I'.ok.exf b hb).2 x c e, fun p hp z => by
      have hp : p ∈ [(a, go)] := hp
      rw [List.mem_singleton.mp hp] at z
      have z : a = b := z
      exact haf (by rw [z]; exact hb)⟩
  have hy : ∀ v, yieldOut cenv v = yieldValue v := fun v => by simp only [yieldOut, hco, Bool.false_eq_true, if_false]
  intro m
  induction m using Nat.strongRecOn with
  | ind m ih =>
    intro n i H s₀ s hmn hW I hst hn
    obtain ⟨n, rfl⟩ : ∃ k, n = k + 1 := ⟨n - 1, by omega⟩
    show Seg _ A _ _ _ s₀ _ ((compTurn (.GeneratorExp elt [⟨tg, iter, [], 0⟩] scope pos) 0 (.ref it) .none cenv).onRaise (leaving cenv)) [] s
    rw [compTurn_gen, Sem.onRaise_eq_wrap]
    refine seg_bind_wrap (wpAny_standAt ?_)
    rcases turn i m H hW with ⟨stop, qq⟩ | ⟨hgo, Nx, hNx, step⟩
    · refine seg_bind_wrap ?_
      rw [over_loopC]
      refine thn (T.done (gcx X A N s4 H0 cenv fp) rfl rfl rfl rfl i [(a, go)] s _ H _ I (stat I hn) hst stop) fun r s6 ⟨hr, I6⟩ => ?_
      subst hr
      exact seg_end (.ok .next) ⟨rfl, I6.bare, hfin true s6 H I6 qq⟩
    · refine seg_bind_wrap ?_
      rw [over_loopC]
      refine thn (T.item (gcx X A N s4 H0 cenv fp) rfl rfl rfl rfl i [(a, go)] s _ H _ I (stat I hn) hst hgo) fun r s6 ⟨u, hr, h6⟩ => ?_
      subst hr
      refine seg_bind_wrap ?_
      rw [over_loopC]
      refine thn h6 fun _ s7 ⟨x, H7, I7, r7, y7, st7, n7⟩ => ?_
      have I7' := I7.pinned (stat I7 n7) (T.obj _ _ st7)
      refine seg_bind_wrap ?_
      rw [over_loopC]
      refine wpAny_mono (pg.run _ s7 _ H7 x u _ I7' r7 (step x H7 y7)) (fun _ s8 ⟨σ8, H8, I8, hw8, q8⟩ => ?_) fun _ _ e => e.elim
      have fin : ∀ {s' : Shared} {H' : Hp}, Inv (gcx X A N s4 H0 cenv fp) ([(a, go)] ++ pinsAt fp s7.heap) σ8 H' s' → Inv (gcx X A N s4 H0 cenv fp) [(a, go)] σ0 H' s' ∧ tn (i + 1) s'.heap ∧ ∀ b ∈ fp, H' b = none := fun {s' H'} I' => by
        have pin' : ∀ b ∈ fp, ∀ o, s7.heap.get? b = some o → s'.heap.get? b = some o ∧ H' b = none := fun b hb o e =>
          let z := I'.pin (b, o) (List.mem_append_right _ (List.mem_append_right _ (mem_pinsAt hb e)))
          ⟨z.1, z.2.1⟩
        have hl : σ0.length = σ8.length := by rw [← hw8, wipe_length]
        refine ⟨(I'.unpinned (pins := [(a, go)])).weak hl (fun j v e => ?_), T.keep _ _ _ st7 fun b hb o e => (pin' b hb o e).1, fun b hb => ?_⟩
        · rw [← hw8] at e
          exact (wipe_some e).1
        · obtain ⟨o, e, _⟩ := T.obj _ _ st7 b hb
          exact (pin' b hb o e).2
      simp only [List.forIn_nil]
      refine seg_bind_wrap (wpAny_pure ?_)
      simp only [if_true]
      simp only [hy]
      rw [Sem.bind_eq_wrap', Sem.bind_eq_wrap', Sem.wrap_wrap, Sem.wrap_wrap]
      refine seg_wrap ?_
      rw [over_loopC]
      refine wpAny_mono (pe.run _ s8 σ8 H8 _ I8 q8) (fun v s10 ⟨y, H10, I10, r10, b, hyb, q10⟩ => ?_) fun _ _ e => e.elim
      subst hyb
      obtain rfl : v = Value.bool b := r10
      obtain ⟨J1, J2, J3⟩ := fin I10
      have hga : s10.heap.IsGen a gi := hgen _ (J1.pin (a, go) (List.mem_append_right _ (List.mem_singleton.mpr rfl))).1
      refine seg_at (seg_yield rfl rfl rfl ⟨b, rfl, hga, J1.nolimit, J1.bare, fun hb s'' e1 e2 e3 => ?_, fun hb => ?_⟩)
      · subst hb
        rw [if_pos rfl] at q10
        obtain ⟨m', hm', w'⟩ := hNx H10 q10
        refine seg_again rfl (ih m' hm' n (i + 1) H10 s'' s'' (by omega) w' (inv_same J1 (fun x o e => by rw [e1]; exact e) e2 e3) (by rw [e1]; exact J2) J3)
      · subst hb
        rw [if_neg Bool.false_ne_true] at q10
        exact hfin false s10 H10 J1 q10
theorem gx_begin (hh : A.handled = none) (hco : cenv.scope.isCoroutine = false) (T : Turn X.prog X.w X.K tg J fp it tn) (haf : a ∉ fp) (hgen : ∀ h : Heap, h.get? a = some go → h.IsGen a gi)
    (pg : PG (gcx X A N s4 H0 cenv fp) tg g) (pe : PE (gcx X A N s4 H0 cenv fp) elt te) (turn : Turns J σ0 vs g te Qe W)
    (hfin : ∀ b s H', Inv (gcx X A N s4 H0 cenv fp) [(a, go)] σ0 H' s → Qe b H' → Done Qf b s) {m : Nat} {H : Hp} {s : Shared} (w0 : W 0 m H) (I : Inv (gcx X A N s4 H0 cenv fp) [(a, go)] σ0 H s) (hst : tn 0 s.heap) (hn : ∀ b ∈ fp, H b = none) :
    Seg (model X.prog X.w) A (fun n s₀ r s₁ => r = .ok .next ∧ GEndA Qf n s₀ s₁) (GProto Qf a gi) (m + 1) s (.compStart (.GeneratorExp elt [⟨tg, iter, [], 0⟩] scope pos) 0 (.ref it) .none cenv)
      ((model X.prog X.w).den (.compStart (.GeneratorExp elt [⟨tg, iter, [], 0⟩] scope pos) 0 (.ref it) .none cenv)) [] s := by
  have loop := gx_loop (iter := iter) (scope := scope) (pos := pos) hh hco T haf hgen pg pe turn hfin m (m + 1) 0 H s s (Nat.lt_succ_self _) w0 I hst hn
  show Seg _ A _ _ _ s _ ((compStart (.GeneratorExp elt [⟨tg, iter, [], 0⟩] scope pos) 0 (.ref it) .none cenv).onRaise (leaving cenv)) [] s
  unfold compStart
  rw [Sem.onRaise_eq_wrap]
  show Seg _ A _ _ _ s _ ((ask >>= _).wrap _ _ _ _) [] s
  refine seg_bind_wrap (wpAny_askSetting ?_)
  split
  · exact seg_again rfl loop
  · first
      | exact seg_bind_wrap (wpAny_rule (seg_bind_wrap (wpAny_standAt (seg_bind_wrap (T.self _ 0 s _ _ hst (seg_again rfl loop))))))
      | (refine seg_bind_wrap (wpAny_rule ?_); show Seg _ A _ _ _ s _ ((standAt iter.pos >>= _).wrap _ _ _ _) [] s; exact seg_bind_wrap (wpAny_standAt (seg_bind_wrap (T.self _ 0 s _ _ hst (seg_again rfl loop)))))
end
/-! the rule -/
section
variable {X : Cx}
/-- all(elt for tg in iter) -/
def tAllG (P : Addr) (wi : TI) (own : List Str) (caps : List (Str × Nat)) (vs : List Nat) (g : TG) (te : TE) : TE := fun σ H Q => wi σ H fun J H1 => TabG H1 P ∧ ∀ H2, Tabbed P H1 H2 → ∃ W : Nat → Nat → Hp → Prop, (∃ m, W 0 m H2) ∧ Turns J (gxSt own caps σ) vs g te (fun b H' => Q (.bl b) H') W
theorem pe_allG {c P : Addr} {elt tg iter : Expr} {p pos gpos : Pos} {scope : Scope} {own : List Str} {caps : List (Str × Nat)} {vs : List Nat} {wi : TI} {g : TG} {te : TE} {k : Nat}
    (hr : Room k X.A) (hg : Gl X "all") (hm : X.mg "all" = none) (TB : TabB X.base X.mg c P) (hcode : X.env.code = .ref c) (S : GxS X.N X.env.scope scope own caps) (hi : PI X tg iter wi)
    (pg : ∀ (s : Shared) (H : Hp) (C : Addr) (cd : Value) (fp : List Addr), PG (gcx X X.A.in1.in1 (gxN own caps) s H (gxEnv X scope C cd) fp) tg g)
    (pe : ∀ (s : Shared) (H : Hp) (C : Addr) (cd : Value) (fp : List Addr), PE (gcx X X.A.in1.in1 (gxN own caps) s H (gxEnv X scope C cd) fp) elt te)
    (hs : ∀ v, genFold iter X.env v = pure v := by intro _; rfl)
    (he : starEach [.GeneratorExp elt [⟨tg, iter, [], 0⟩] scope gpos] X.env = (false, eval (.GeneratorExp elt [⟨tg, iter, [], 0⟩] scope gpos) X.env) :: starEach [] X.env := by rfl) :
    PE X (.Call (.Name "all" p) [.GeneratorExp elt [⟨tg, iter, [], 0⟩] scope gpos] [] pos) (tAllG P wi own caps vs g te) := by
  refine ⟨fun pins s σ H Q I h => ?_⟩
  have hfree : ∀ y ∈ scope.names, y.2 = .free → ∃ c, X.env.cells.lookup y.1 = some c := fun y hy e => by
    rcases S.free y hy e with k | k
    · exact I.ok.has _ (.inl k)
    · exact I.ok.has _ (.inr k)
  refine wpAny_Call_Name_kw (ld_blt I hg hm PyProof.Rows.boot_all ?_)
  refine PyProof.Rows.callWith_builtin1 ?_ he (by rfl)
  rw [he]
  show wpAny _ _ (spliced ((false, eval (.GeneratorExp elt [⟨tg, iter, [], 0⟩] scope gpos) X.env) :: backTo pos (starEach [] X.env))) _ _ s
  refine Calls.spliced_cons ?_
  refine wpAny_GeneratorExp_make S.co (closure_ok hfree) S.cell S.dot S.kind (by have := hr.dp; omega) ?_ hs
  refine thn (hi.run pins s σ H _ I h) fun xv s1 hx => thn hx fun itv s2 h2 => ?_
  obtain ⟨it, fp, tn, J, H1, rfl, I2, T, st2, f2, ⟨ps, hP, ht⟩, q⟩ := h2
  refine ⟨I2.nolimit, ?_⟩
  have hPs : s2.heap.get? P = some { cls := .none, data := .fields ps } := I2.hok P _ hP
  have cd : PySem.W.CodeHd s2.heap c P := TB.code.keeps I2.bk
  have sz2 : ∀ b ∈ fp, b < s2.heap.objs.size := fun b hb => by
    obtain ⟨o, e, _⟩ := T.obj _ _ st2 b hb
    exact Heap.lt_size e
  have cont : ∀ (code : Value) (h3 : Heap) (tk : Nat) (ps' more : Array Value), Heap.ExtBut P s2.heap h3 → s2.heap.objs.size ≤ h3.objs.size → h3.get? P = some { cls := .none, data := .fields ps' } → ps' = ps ++ more → TriplesOk ps'.toList →
      wpAny (model X.prog X.w) X.A (builtinsFor X.env.globals X.env.builtins) (fun bi s₄ =>
        ∀ h', h'.Ns s₄.heap.objs.size (fun y => if y = ".0" then some (.ref it) else none) → Heap.SameBut s₄.heap.objs.size (s₄.heap.push { cls := .type "frame", data := .dict #[] }) h' →
          wpAny (model X.prog X.w) X.A (spliced (backTo pos (starEach [] X.env))) (fun us s' => wpAny (model X.prog X.w) X.A (call (.builtin "all") (.ref h'.objs.size :: us)) (EP X pins σ Q) X.xe s') X.xe { s₄ with
            gens := s₄.gens.push (.fresh (.compStart (.GeneratorExp elt [⟨tg, iter, [], 0⟩] scope gpos) 0 (.ref it) .none (genEnv scope (cloFrom X.env.cells scope.names []) s₄.heap.objs.size code bi X.env))),
            toks := s₄.toks + 1 + 1 + 1,
            heap := h'.push { cls := .type "generator", data := .fields #[.int s₄.gens.size 0, .str "<genexpr>" (s₄.toks + 1), .str (X.env.qual ++ "<genexpr>") (s₄.toks + 1 + 1)] } }) X.xe { s2 with heap := h3, toks := tk } := by
    intro code h3 tk ps' more hx hsz hP3 hmore ht3
    obtain ⟨bm, ob, e1, e2, e3, e4, e5, e6, e7, e8⟩ := TB.bm
    have keep3 : ∀ b u, b ≠ P → s2.heap.get? b = some u → h3.get? b = some u := fun b u hb e => hx b u hb e
    refine wpAny_builtinsFor (m := X.mg) (by rw [I2.ok.glob]; exact (I2.mod.glob.keeps I2.bk).extBut hx TB.gP) e1 e2 (keep3 _ _ e4 (I2.bk _ _ e5)) e6 e7 e8 ?_
    intro h' hns hsb
    have I3 : Inv X pins σ (upd H1 P (.tbl (ps ++ more))) { s2 with heap := h3, toks := tk } := inv_tab (more := more) (g' := s2.gens) (d' := s2.drawn) (t' := tk) I2 hP keep3 (by rw [← hmore]; exact hP3) I2.bare
    have hT : Tabbed P H1 (upd H1 P (.tbl (ps ++ more))) := ⟨⟨ps ++ more, upd_same, by rw [← hmore]; exact ht3⟩, fun b hb => upd_ne hb⟩
    obtain ⟨W, ⟨m, w0⟩, turn⟩ := q _ hT
    have nP : ∀ b ∈ fp, b ≠ P := fun b hb z => by
      have := (f2 b hb).1
      rw [z, hP] at this
      cases this
    have f3 : ∀ b ∈ fp, FpOk X pins (upd H1 P (.tbl (ps ++ more))) b ∧ b < h3.objs.size := fun b hb => ⟨⟨by rw [upd_ne (nP b hb)]; exact (f2 b hb).1, (f2 b hb).2⟩, Nat.lt_of_lt_of_le (sz2 b hb) hsz⟩
    generalize upd H1 P (.tbl (ps ++ more)) = H3 at I3 w0 f3
    have hsz' : h'.objs.size = h3.objs.size + 1 := by rw [hsb.1, Heap.size_push]
    have keep' : ∀ b o, h3.get? b = some o → h'.get? b = some o := fun b o e => hsb.extBut b o (Nat.ne_of_lt (Heap.lt_size e)) (Heap.get?_push_of_some _ e)
    refine Calls.spliced_nil ?_
    generalize hgo : ({ cls := .type "generator", data := .fields #[.int s2.gens.size 0, .str "<genexpr>" (tk + 1), .str (X.env.qual ++ "<genexpr>") (tk + 1 + 1)] } : Obj) = go
    have hgen : ∀ hp : Heap, hp.get? h'.objs.size = some go → hp.IsGen h'.objs.size s2.gens.size := fun hp e => ⟨go, _, _, e, by rw [← hgo], by rw [← hgo], by rw [← hgo]⟩
    have hput : (h'.push go).get? h'.objs.size = some go := Heap.get?_push_size _ (by rw [← hgo]; rfl)
    have hgd : ∀ v, go.data ≠ .cell v := fun v z => by rw [← hgo] at z; cases z
    show wpAny _ _ (call (.builtin "all") [.ref h'.objs.size]) _ _ { s2 with gens := s2.gens.push (.fresh (.compStart (.GeneratorExp elt [⟨tg, iter, [], 0⟩] scope gpos) 0 (.ref it) .none (gxEnv X scope h3.objs.size code))), toks := tk + 1 + 1 + 1, heap := h'.push go }
    have keep5 : ∀ b o, h3.get? b = some o → (h'.push go).get? b = some o := fun b o e => Heap.get?_push_of_some _ (keep' b o e)
    have hb5 : AllBare (s2.gens.push (.fresh (.compStart (.GeneratorExp elt [⟨tg, iter, [], 0⟩] scope gpos) 0 (.ref it) .none (gxEnv X scope h3.objs.size code)))) := I2.bare.push rfl
    have hrun : AllBare (({ s2 with gens := s2.gens.push (.fresh (.compStart (.GeneratorExp elt [⟨tg, iter, [], 0⟩] scope gpos) 0 (.ref it) .none (gxEnv X scope h3.objs.size code))), toks := tk + 1 + 1 + 1, heap := h'.push go } : Shared).setGen s2.gens.size .running).gens := allBare_setGen hb5 rfl
    have G0 : Inv (gcx X X.A.in1.in1 (gxN own caps) { s2 with heap := h3, toks := tk } H3 (gxEnv X scope h3.objs.size code) fp) [] (gxSt own caps σ) H3 (({ s2 with gens := s2.gens.push (.fresh (.compStart (.GeneratorExp elt [⟨tg, iter, [], 0⟩] scope gpos) 0 (.ref it) .none (gxEnv X scope h3.objs.size code))), toks := tk + 1 + 1 + 1, heap := h'.push go } : Shared).setGen s2.gens.size .running) :=
      gx_start (s := { s2 with heap := h3, toks := tk }) I3 S hr.hd I3.ok.frames f3 (hns.push go) keep5 rfl hrun
    have hna : H3 h'.objs.size = none := I3.hok.fresh (by show h3.objs.size ≤ h'.objs.size; omega)
    have G1 : Inv (gcx X X.A.in1.in1 (gxN own caps) { s2 with heap := h3, toks := tk } H3 (gxEnv X scope h3.objs.size code) fp) [(h'.objs.size, go)] (gxSt own caps σ) H3 (({ s2 with gens := s2.gens.push (.fresh (.compStart (.GeneratorExp elt [⟨tg, iter, [], 0⟩] scope gpos) 0 (.ref it) .none (gxEnv X scope h3.objs.size code))), toks := tk + 1 + 1 + 1, heap := h'.push go } : Shared).setGen s2.gens.size .running) :=
      G0.pins_of fun p hp => by
        rw [List.mem_singleton.mp hp]
        refine ⟨hput, hna, ?_, fun z => ?_, hgd⟩
        · show h'.objs.size ≠ h3.objs.size
          omega
        · have z : h'.objs.size ∈ frs X.stack := z
          rcases List.mem_cons.mp (I3.stkSub _ z) with z | z
          · have h1 := I3.lt
            rw [← z] at h1
            have h1 : h'.objs.size < h3.objs.size := h1
            omega
          · exact I3.nofs (show h3.objs.size ≤ h'.objs.size by omega) z
    have st5 : tn 0 (h'.push go) := T.keep _ _ _ st2 fun b hb o e => keep5 b o (keep3 b o (nP b hb) e)
    refine call_all_gen (n := m + 1) hr.hd (by have := hr.dp; omega) (hgen _ hput) (I3.nolimit.keeps keep5) ⟨_, Array.getElem?_push_size .., rfl, ?_⟩
    refine gx_begin (A := X.A.in1.in1) (N := gxN own caps) (σ0 := gxSt own caps σ) (vs := vs) (g := g) (te := te) (Qe := fun b H' => Q (.bl b) H') (W := W) hr.hd S.co T (fun z => ?_) hgen (pg _ _ _ _ _) (pe _ _ _ _ _) turn (fun b s6 H6 J6 q6 s7 k7 o7 b7 => ?_) w0 G1 st5 (fun b hb => (f3 b hb).1.1)
    · have z2 : h'.objs.size < h3.objs.size := (f3 _ z).2
      rw [hsz'] at z2
      exact absurd z2 (by omega)
    · have I6 : Inv X pins σ H6 s6 := I3.call' (ch := fp) J6.os J6.base J6.hok J6.bare fun b hb => ⟨(f3 b hb).1.2.2.2.1, (f3 b hb).1.2.1, (f3 b hb).1.2.2.2.2.1, (f3 b hb).1.2.2.2.2.2⟩
      exact ⟨.bl b, H6, inv_same I6 k7 o7 b7, rfl, q6⟩
  cases hf : codeAmong gpos ps.toList with
  | none =>
    refine wpAny_genexprCodeX hcode (cd.code hPs ht) (cd.tab hPs) hf fun c' h' tk hx hge hlt hco' _ htab' _ => ?_
    obtain ⟨o1, vs, f1, tf, fl, tg, inF, tx, tt, op, _, _, _, _, _, _, _, _, _, htr, _⟩ := hco'
    exact cont _ h' tk _ _ hx (Nat.le_trans hge (Nat.le_of_lt hlt)) htab'.2 rfl htr
  | some cv =>
    refine wpAny_genexprCode_hit hcode (cd.code hPs ht) hf ?_
    exact cont cv s2.heap s2.toks ps #[] (Heap.ExtBut.refl _ _) (Nat.le_refl _) hPs (by simp) ht
end
end Kg

/-! defs that are called where no repr is under way -/
namespace Kf
open PySem PySem.Spec PyProof.Rows L2 LamX
/-- no repr is under way -/
abbrev Still (A : Around) : Prop := A.guards = some []
/-- a def's promise, called where no repr is under way -/
structure FnG (P : Program) (w : World) (K : PySem.W.Frag) (mg : Str → Option Value) (base : Heap) (CX : CXT) (k : Nat) (f : Addr) (fd : FuncData) (ps : List Str) (sp : Sp) : Prop where
  cnt : ∀ vs H Q E, sp vs H Q E → vs.length = ps.length
  go : ∀ (A : Around) (o : List Env) (s : Shared) (H : Hp) (r : Args) (us : List Value) (vs : List V) (Q : VK) (E : XK), Still A → Room k A → Env0 P w K mg base A o s H → BindsTo s fd r (ps.zip us) → Vals vs us → sp vs H Q E →
    codeAny (model P w) A (.call (.ref f) r) (CR CX o P w H s Q E) s
section
variable {P : Program} {w : World} {K : PySem.W.Frag} {mg : Str → Option Value} {base : Heap} {CX : CXT}
theorem FnG.of {k : Nat} {f : Addr} {fd : FuncData} {ps : List Str} {sp : Sp} (F : FnOk P w K mg base CX k f fd ps sp) : FnG P w K mg base CX k f fd ps sp :=
  ⟨F.len, fun A o s H r us vs Q E _ => F.run A o s H r us vs Q E⟩
theorem FnG.up {j k : Nat} {f : Addr} {fd : FuncData} {ps : List Str} {sp : Sp} (F : FnG P w K mg base CX j f fd ps sp) (h : j ≤ k) : FnG P w K mg base CX k f fd ps sp :=
  ⟨F.cnt, fun A o s H r us vs Q E g hr => F.go A o s H r us vs Q E g (hr.mono h)⟩
/-- a def by its body -/
theorem fnG_of {k : Nat} {f : Addr} {nm ql : Str} {prm : Arguments} {bd : List Stmt} {sco : Scope} {dV kV doc pm cdv ct oc : Value} {an od : Option Addr} {sl : Array (Option Value)} {N ps : List Str} {sp : Sp}
    (at' : K.lookup f = some ⟨oc, od, .func (PySem.W.fnOf nm ql prm bd sco dV kV doc pm an cdv ct), sl⟩) (hc : PySem.W.codeIn K cdv ql = true) (S : FnScope N ps sco) (cnt : ∀ vs H Q E, sp vs H Q E → vs.length = ps.length)
    (body : ∀ (A : Around) (o : List Env) (s : Shared) (H : Hp) (vs : List V) (Q : VK) (E : XK), Still A → Room k (A.deeper (envOfC ql sco s.heap.objs.size f cdv)) → sp vs H Q E →
      ∃ t, PSs (cxOf CX P w K mg base N ql sco f cdv A o s H E) bd t ∧ t { nx := fun _ G => Q .non G, rt := Q } (start N vs) H) : FnG P w K mg base CX (k + 1) f (PySem.W.fnOf nm ql prm bd sco dV kV doc pm an cdv ct) ps sp where
  cnt := cnt
  go := by
    intro A o s H r us vs Q E still room e0 binds vals hsp
    have hold := fun b u (z : base.get? b = some u) => (e0.bs b u z).1
    have kx := e0.mod.kin.keeps hold
    have par : ∀ z ∈ ps.zip us, sco.names.lookup z.1 = some .local ∨ (sco.names.lookup z.1 = some .cell ∧ ((cellsFrom (s.heap.objs.size + 1) sco.names []).lookup z.1).isSome = true) := by
      intro z hz
      have hm : z.1 ∈ ps := (List.of_mem_zip (a := z.1) (b := z.2) hz).1
      exact (S.par z.1 hm).imp id fun q => ⟨q, PySem.W.cellsFrom_some _ _ _ (.inl q)⟩
    refine codeAny_call_function room.depth (kx _ _ at') rfl S.co S.gen rfl (PySem.W.codeRec_of kx hc) (binds _ _ _ _ (wpAny_newFunctionEnv_cells S.kind par ?_))
    rintro env rfl s1 x
    refine ⟨(e0.mod.nolimit.keeps hold).keeps x.toInCall.keep, codeAny_func ?_⟩
    obtain ⟨t, ht, hq⟩ := body A o s H vs Q E still (room.deeper _) hsp
    refine wpAny_mono (ht.run [] s1 (start N vs) H _ (inv_start S room.hd e0 (cnt _ _ _ _ hsp) vals x) hq) ?_ (fun _ _ z => z)
    intro fl s2 z
    match fl, z with
    | .ret u, ⟨v, _, G, J, rv, q⟩ => exact ⟨v, G, J.os, J.bare, J.base, J.hok, rv, q⟩
    | .next, ⟨_, G, J, q⟩ => exact ⟨V.non, G, J.os, J.bare, J.base, J.hok, rfl, q⟩
    | .brk, ⟨_, _, _, q⟩ => exact q.elim
    | .cont, ⟨_, _, _, q⟩ => exact q.elim
/-- a def of the text that lets nothing out -/
theorem okG {x ql : Str} {st : Stmt} {f : Addr} {fd : FuncData} {N ps : List Str} {k : Nat} {sp : Sp} (F : Fun K x ql st f fd) (S : FnScope N ps (defScope st)) (cnt : ∀ vs H Q E, sp vs H Q E → vs.length = ps.length)
    (body : ∀ (cdv : Value) (A : Around) (o : List Env) (s : Shared) (H : Hp) (vs : List V) (Q : VK) (E : XK), Still A → Room k (A.deeper (envOfC ql (defScope st) s.heap.objs.size f cdv)) → sp vs H Q E →
      ∃ t, PSs (cxOf CX0 P w K mg base N ql (defScope st) f cdv A o s H E).nox (defBody st) t ∧ t { nx := fun _ G => Q .non G, rt := Q } (start N vs) H) : FnG P w K mg base CX0 (k + 1) f fd ps sp := by
  obtain ⟨oc, od, kV, doc, pm, an, cdv, ct, sl, rfl, hl, hc⟩ := F.ex
  exact fnG_of hl hc S cnt fun A o s H vs Q E g hr h => (body cdv A o s H vs Q E g hr h).imp fun t z => ⟨z.1.nox, z.2⟩
end
section
variable {X : Cx} {CX : CXT} {k : Nat} {f : Addr} {fd : FuncData} {ps : List Str} {sp : Sp} {dvs : List V} {ds : List Value} {E : XK} {x : Str} {p pos : Pos} {e : Expr} {es : List Expr} {t : TA}
theorem goG {pins : List (Addr × Obj)} {σ : L2.St} {H : Hp} {s : Shared} {Q : VK} {us : List Value} {vs : List V} (F : FnG X.prog X.w X.K X.mg X.base CX k f fd ps sp) (g : Still X.A) (hr : Room k X.A) (hb : Binds X.K fd ps ds) (hd : Vals dvs ds) (hx : Passes CX X E) (I : Inv X pins σ H s) (rv : Vals vs us)
    (h : sp (vs ++ dvs) H Q E) : wpAny (model X.prog X.w) X.A (call (.ref f) us) (EP X pins σ Q) X.xe s := by
  have both := rv.append hd
  have n : (us ++ ds).length = ps.length := both.length.symm.trans (F.cnt _ _ _ _ h)
  refine wpAny_call (codeAny_mono (F.go X.A X.stack s H ⟨us, []⟩ _ _ Q E g hr I.env0 (hb s us I.kIn n) both h) ?_)
  intro r s2 z
  match r, z with
  | .error u, z => exact hx pins σ H s u s2 I z
  | .ok (.ret u), z => exact I.after z
  | .ok .next, z => exact z.elim
  | .ok .brk, z => exact z.elim
  | .ok .cont, z => exact z.elim
/-- f(e, ..) -/
theorem pe_callG (F : FnG X.prog X.w X.K X.mg X.base CX k f fd ps sp) (g : Still X.A) (hr : Room k X.A) (hg : Gl X x) (hm : X.mg x = some (.ref f)) (hk : PySem.W.keepIn X.K (.ref f) = true) (hb : Binds X.K fd ps ds) (hd : Vals dvs ds) (hx : Passes CX X E) (ha : PA X (e :: es) t)
    (hn : (x == ("__debug__" : Str)) = false := by decide) (h1 : starEach (e :: es) X.env = (false, eval e X.env) :: starEach es X.env := by rfl) (h2 : (backTo pos (starEach es X.env)).any (·.1) = false := by rfl) : PE X (.Call (.Name x p) (e :: es) [] pos) (tCall sp dvs E t) := by
  constructor
  intro pins s σ H Q I h
  refine wpAny_Call_Name_kw (ld_glob I hg hm (PySem.W.callWith_K (h₀ := X.base) I.ok.mod.kin hk (thn (ha.run pos pins s σ H _ I h) ?_) h1 h2) hn)
  rintro us s2 ⟨vs, G, J, rv, q⟩
  exact ⟨J.kIn, goG F g hr hb hd hx J rv q⟩
end
end Kf

/-! repr of data -/
namespace Kf
open PySem PySem.Spec PyProof.Rows L2
/-- data that shows as it is, of at most so many in one another -/
structure Shows (n : Nat) (d : PyData) : Prop where
  ok : d.showable = true
  nd : d.hasDict = false
  dp : d.depth ≤ n
  sz : d.shown.length ≤ sizeLine
def rShow (K : PySem.W.Frag) (n : Nat) : List V → Hp → VK → Prop := fun xs H Q => ∃ (a : Addr) (d : PyData), xs = [.ref a] ∧ Dp K H (.ref a) d ∧ Shows n d ∧ Q (.str d.shown) H
theorem call_show {X : Cx} {n : Nat} (g : Still X.A) (hu : X.A.units + (n + 1) < cLine) : CallR X (.builtin "repr") (rShow X.K n) := by
  intro pins s σ H xs us Q I r h
  obtain ⟨a, d, rfl, hd, sh, q⟩ := h
  rw [Vals.ref1 r]
  obtain ⟨as, rd⟩ := Dp.reads I d _ (.ref a) hd rfl
  exact repr_of_reads' rd sh.ok (PyData.noDict_hsm sh.nd) g (by have := sh.dp; omega) (fun _ _ e => e) (fun h' u tk hk => ⟨.str d.shown, H, I.kept hk, ⟨u, rfl⟩, q⟩) sh.sz
end Kf

/-! things of anything: none, truths, numbers, texts, tuples, lists, the empty dict -/
namespace Kv
open PySem PySem.Spec PyProof.Rows L2 Kf
inductive Dt where
  | non
  | bl (b : Bool)
  | int (i : Int)
  | str (x : Str)
  | tup (xs : List Dt)
  | lst (xs : List Dt)
  | dct (kvs : List (Str × Int))
/-- a dict of texts with numbers -/
def dkv (kvs : List (Str × Int)) : List (Key × V) := kvs.map fun p => (.inr p.1, .int p.2)
def dkp (kvs : List (Str × Int)) : List (PyData × PyData) := kvs.map fun p => (.str p.1, .int p.2)
/-- a tuple, or a frozen one -/
def TupA (H : Hp) (a : Addr) (vs : List V) : Prop := H a = some (.tup vs) ∨ ∃ o : Obj, (o.dict = none ∧ o.cls = .type "tuple") ∧ H a = some (.frz o (.tup vs))
theorem TupA.sq {K : PySem.W.Frag} {H : Hp} {a : Addr} {vs : List V} (h : TupA H a vs) : SqT K H a vs := by
  rcases h with h | ⟨o, _, h⟩
  · exact SqT.of h
  · exact .inl (.inr ⟨o, h⟩)
theorem TupA.mk {H : Hp} {a : Addr} {vs : List V} (h : H a = some (.tup vs)) : TupA H a vs := .inl h
def hoT : HO → Bool
  | .tup _ => true
  | .frz _ _ => true
  | _ => false
mutual
/-- the thing stands at v; its lists and dicts at places N -/
inductive Dd (N : Addr → Prop) (H : Hp) : Dt → V → Prop
  | non : Dd N H .non .non
  | bl (b : Bool) : Dd N H (.bl b) (.bl b)
  | int (i : Int) : Dd N H (.int i) (.int i)
  | str (x : Str) : Dd N H (.str x) (.str x)
  | tup {a : Addr} {xs : List Dt} {vs : List V} : TupA H a vs → DdL N H xs vs → Dd N H (.tup xs) (.ref a)
  | lst {a : Addr} {xs : List Dt} {vs : List V} : N a → H a = some (.lst vs) → DdL N H xs vs → Dd N H (.lst xs) (.ref a)
  | dct {a : Addr} {kvs : List (Str × Int)} : N a → H a = some (.dK (dkv kvs)) → Dd N H (.dct kvs) (.ref a)
inductive DdL (N : Addr → Prop) (H : Hp) : List Dt → List V → Prop
  | nil : DdL N H [] []
  | cons {x : Dt} {xs : List Dt} {v : V} {vs : List V} : Dd N H x v → DdL N H xs vs → DdL N H (x :: xs) (v :: vs)
end
/-- what stood of tuples, and of lists and dicts at N, stands -/
structure Kn (N : Addr → Prop) (H G : Hp) : Prop where
  tup : ∀ b xs, TupA H b xs → TupA G b xs
  lst : ∀ b xs, N b → H b = some (.lst xs) → G b = some (.lst xs)
  dic : ∀ b xs, N b → H b = some (.dK xs) → G b = some (.dK xs)
theorem TupA.same {H G : Hp} {a : Addr} {vs : List V} (h : TupA H a vs) (s : Same H G) : TupA G a vs := by
  rcases h with h | ⟨o, p, h⟩
  · exact .inl (s _ _ h)
  · exact .inr ⟨o, p, s _ _ h⟩
theorem Kn.of {N : Addr → Prop} {H G : Hp} (s : Same H G) : Kn N H G := ⟨fun b _ e => e.same s, fun b _ _ e => s b _ e, fun b _ _ e => s b _ e⟩
theorem Kn.trans {N : Addr → Prop} {H G F : Hp} (a : Kn N H G) (b : Kn N G F) : Kn N H F := ⟨fun x _ e => b.tup x _ (a.tup x _ e), fun x _ n e => b.lst x _ n (a.lst x _ n e), fun x _ n e => b.dic x _ n (a.dic x _ n e)⟩
theorem Kn.rfl {N : Addr → Prop} {H : Hp} : Kn N H H := ⟨fun _ _ e => e, fun _ _ _ e => e, fun _ _ _ e => e⟩
theorem Kn.sub {N M : Addr → Prop} {H G : Hp} (k : Kn N H G) (h : ∀ b, M b → N b) : Kn M H G := ⟨k.tup, fun b xs n e => k.lst b xs (h b n) e, fun b xs n e => k.dic b xs (h b n) e⟩
/-- another list, dict or the like is put at p -/
theorem Kn.put {N : Addr → Prop} {H G : Hp} {p : Addr} {o : HO} (k : Kn N H G) (n : ¬ N p) (h : ∀ u, H p = some u → hoT u = false) : Kn N H (upd G p o) := by
  refine ⟨fun b xs e => ?_, fun b u hb e => ?_, fun b u hb e => ?_⟩
  · have ne : b ≠ p := fun z => by
      subst z
      rcases e with e | ⟨o, _, e⟩ <;> exact absurd (h _ e) (by simp [hoT])
    rcases k.tup b xs e with y | ⟨o, y0, y⟩
    · exact .inl (by rw [upd_ne ne]; exact y)
    · exact .inr ⟨o, y0, by rw [upd_ne ne]; exact y⟩
  · rw [upd_ne (fun z => n (by rw [← z]; exact hb))]
    exact k.lst b u hb e
  · rw [upd_ne (fun z => n (by rw [← z]; exact hb))]
    exact k.dic b u hb e
/-- what was free is put at p -/
theorem Kn.new {N : Addr → Prop} {H G : Hp} {p : Addr} {o : HO} (k : Kn N H G) (h : H p = none) : Kn N H (upd G p o) := by
  refine ⟨fun b xs e => ?_, fun b u hb e => ?_, fun b u hb e => ?_⟩
  · have ne : b ≠ p := by
      rcases e with e | ⟨o, _, e⟩ <;> exact ne_of_none e h
    rcases k.tup b xs e with y | ⟨o, y0, y⟩
    · exact .inl (by rw [upd_ne ne]; exact y)
    · exact .inr ⟨o, y0, by rw [upd_ne ne]; exact y⟩
  · rw [upd_ne (ne_of_none e h)]
    exact k.lst b u hb e
  · rw [upd_ne (ne_of_none e h)]
    exact k.dic b u hb e
mutual
theorem Dd.kn {N : Addr → Prop} {H G : Hp} (k : Kn N H G) : ∀ {x : Dt} {v : V}, Dd N H x v → Dd N G x v
  | _, _, .non => .non
  | _, _, .bl b => .bl b
  | _, _, .int i => .int i
  | _, _, .str x => .str x
  | _, _, .tup h t => .tup (k.tup _ _ h) (t.kn k)
  | _, _, .lst n h t => .lst n (k.lst _ _ n h) (t.kn k)
  | _, _, .dct n h => .dct n (k.dic _ _ n h)
theorem DdL.kn {N : Addr → Prop} {H G : Hp} (k : Kn N H G) : ∀ {xs : List Dt} {vs : List V}, DdL N H xs vs → DdL N G xs vs
  | _, _, .nil => .nil
  | _, _, .cons h t => .cons (h.kn k) (t.kn k)
end
mutual
/-- at fewer, or other places, where the heap has nothing elsewhere -/
theorem Dd.at {N M : Addr → Prop} {H : Hp} (k : ∀ b u, N b → H b = some u → M b) : ∀ {x : Dt} {v : V}, Dd N H x v → Dd M H x v
  | _, _, .non => .non
  | _, _, .bl b => .bl b
  | _, _, .int i => .int i
  | _, _, .str x => .str x
  | _, _, .tup h t => .tup h (t.at k)
  | _, _, .lst n h t => .lst (k _ _ n h) h (t.at k)
  | _, _, .dct n h => .dct (k _ _ n h) h
theorem DdL.at {N M : Addr → Prop} {H : Hp} (k : ∀ b u, N b → H b = some u → M b) : ∀ {xs : List Dt} {vs : List V}, DdL N H xs vs → DdL M H xs vs
  | _, _, .nil => .nil
  | _, _, .cons h t => .cons (h.at k) (t.at k)
end
/-- at any places -/
abbrev Any : Addr → Prop := fun _ => True
theorem Dd.any {N : Addr → Prop} {H : Hp} {x : Dt} {v : V} (h : Dd N H x v) : Dd Any H x v := h.at fun _ _ _ _ => trivial
theorem DdL.any {N : Addr → Prop} {H : Hp} {x : List Dt} {v : List V} (h : DdL N H x v) : DdL Any H x v := h.at fun _ _ _ _ => trivial
theorem Dd.same {N : Addr → Prop} {H G : Hp} {x : Dt} {v : V} (h : Dd N H x v) (s : Same H G) : Dd N G x v := h.kn (.of s)
theorem DdL.same {N : Addr → Prop} {H G : Hp} {x : List Dt} {v : List V} (h : DdL N H x v) (s : Same H G) : DdL N G x v := h.kn (.of s)
section
variable {N : Addr → Prop} {H : Hp}
theorem DdL.len : ∀ {xs : List Dt} {vs : List V}, DdL N H xs vs → xs.length = vs.length
  | _, _, .nil => rfl
  | _, _, .cons _ t => congrArg (· + 1) t.len
theorem DdL.app : ∀ {xs ys : List Dt} {vs ws : List V}, DdL N H xs vs → DdL N H ys ws → DdL N H (xs ++ ys) (vs ++ ws)
  | _, _, _, _, .nil, h => h
  | _, _, _, _, .cons h t, k => .cons h (t.app k)
theorem DdL.get : ∀ {xs : List Dt} {vs : List V} {i : Nat} {v : V}, DdL N H xs vs → vs[i]? = some v → ∃ x, xs[i]? = some x ∧ Dd N H x v
  | _, _, i, v, .nil, e => by simp at e
  | _, _, 0, v, .cons (x := x) (v := w) h t, e => ⟨x, rfl, by rw [← show w = v from Option.some.inj e]; exact h⟩
  | _, _, i + 1, v, .cons h t, e => DdL.get (i := i) t e
theorem DdL.get' : ∀ {xs : List Dt} {vs : List V} {i : Nat} {x : Dt}, DdL N H xs vs → xs[i]? = some x → ∃ v, vs[i]? = some v ∧ Dd N H x v
  | _, _, i, v, .nil, e => by simp at e
  | _, _, 0, v, .cons (x := w) (v := y) h t, e => ⟨y, rfl, by rw [← show w = v from Option.some.inj e]; exact h⟩
  | _, _, i + 1, v, .cons h t, e => DdL.get' (i := i) t e
theorem DdL.drop : ∀ {xs : List Dt} {vs : List V} (n : Nat), DdL N H xs vs → DdL N H (xs.drop n) (vs.drop n)
  | _, _, 0, h => h
  | _, _, n + 1, .nil => .nil
  | _, _, n + 1, .cons _ t => t.drop n
theorem DdL.take : ∀ {xs : List Dt} {vs : List V} (n : Nat), DdL N H xs vs → DdL N H (xs.take n) (vs.take n)
  | _, _, 0, h => .nil
  | _, _, n + 1, .nil => .nil
  | _, _, n + 1, .cons h t => .cons h (t.take n)
theorem DdL.rev : ∀ {xs : List Dt} {vs : List V}, DdL N H xs vs → DdL N H xs.reverse vs.reverse
  | _, _, .nil => .nil
  | _, _, .cons (x := x) (xs := xs) (v := v) (vs := vs) h t => by
    rw [List.reverse_cons, List.reverse_cons]
    exact t.rev.app (.cons h .nil)
theorem DdL.last : ∀ {xs : List Dt} {vs : List V}, DdL N H xs vs → vs ≠ [] → ∃ ys y ws w, xs = ys ++ [y] ∧ vs = ws ++ [w] ∧ DdL N H ys ws ∧ Dd N H y w
  | _, _, .nil, n => absurd rfl n
  | _, _, .cons (x := x) (v := v) h .nil, _ => ⟨[], x, [], v, rfl, rfl, .nil, h⟩
  | _, _, .cons (x := x) (v := v) h (.cons h' t'), _ => by
    obtain ⟨ys, y, ws, w, e1, e2, k, r⟩ := DdL.last (.cons h' t') (by simp)
    exact ⟨x :: ys, y, v :: ws, w, by rw [e1]; rfl, by rw [e2]; rfl, .cons h k, r⟩
theorem DdL.strs : ∀ (xs : List Str), DdL N H (xs.map Dt.str) (xs.map V.str)
  | [] => .nil
  | x :: xs => .cons (.str x) (DdL.strs xs)
theorem DdL.ints : ∀ (xs : List Int), DdL N H (xs.map Dt.int) (xs.map V.int)
  | [] => .nil
  | x :: xs => .cons (.int x) (DdL.ints xs)
end
/-! their classes -/
def Dt.cls : Dt → String
  | .non => "NoneType"
  | .bl _ => "bool"
  | .int _ => "int"
  | .str _ => "str"
  | .tup _ => "tuple"
  | .lst _ => "list"
  | .dct _ => "dict"
theorem Dd.ty {K : PySem.W.Frag} {N : Addr → Prop} {H : Hp} {x : Dt} {v : V} (h : Dd N H x v) : TyX K H v (.type x.cls) := by
  cases h with
  | non => exact .base .non
  | bl b => exact .base (.bl b)
  | int i => exact .base (.int i)
  | str x => exact .base (.str x)
  | tup h _ =>
    rcases h with h | ⟨o, _, h⟩
    · exact .base (.tup h)
    · exact .fTuple h
  | lst _ h _ => exact .base (.lst h)
  | dct _ h => exact .base (.dK h)
def Dt.isTup : Dt → Bool
  | .tup _ => true
  | _ => false
def Dt.isStr : Dt → Bool
  | .str _ => true
  | _ => false
def Dt.isBl : Dt → Bool
  | .bl _ => true
  | _ => false
def Dt.isInt : Dt → Bool
  | .bl _ => true
  | .int _ => true
  | _ => false
def Dt.isLst : Dt → Bool
  | .lst _ => true
  | _ => false
/-- isinstance of such a thing: the answers -/
theorem kTup (K : PySem.W.Frag) : ∀ x : Dt, PySem.W.kitOne K (.type x.cls) (.type "tuple") = some x.isTup := by
  intro x
  cases x <;> (refine kit_ty ?_; simp only [Dt.cls, Dt.isTup]; decide +kernel)
theorem kStr (K : PySem.W.Frag) : ∀ x : Dt, PySem.W.kitOne K (.type x.cls) (.type "str") = some x.isStr := by
  intro x
  cases x <;> (refine kit_ty ?_; simp only [Dt.cls, Dt.isStr]; decide +kernel)
theorem kBl (K : PySem.W.Frag) : ∀ x : Dt, PySem.W.kitOne K (.type x.cls) (.type "bool") = some x.isBl := by
  intro x
  cases x <;> (refine kit_ty ?_; simp only [Dt.cls, Dt.isBl]; decide +kernel)
theorem kInt (K : PySem.W.Frag) : ∀ x : Dt, PySem.W.kitOne K (.type x.cls) (.type "int") = some x.isInt := by
  intro x
  cases x <;> (refine kit_ty ?_; simp only [Dt.cls, Dt.isInt]; decide +kernel)
theorem kLst (K : PySem.W.Frag) : ∀ x : Dt, PySem.W.kitOne K (.type x.cls) (.type "list") = some x.isLst := by
  intro x
  cases x <;> (refine kit_ty ?_; simp only [Dt.cls, Dt.isLst]; decide +kernel)
/-! as data, shown -/
mutual
def Dt.toP : Dt → PyData
  | .non => .none
  | .bl b => .bool b
  | .int i => .int i
  | .str x => .str x
  | .tup xs => .tuple (Dt.toPs xs)
  | .lst xs => .list (Dt.toPs xs)
  | .dct kvs => .dict (dkp kvs)
def Dt.toPs : List Dt → List PyData
  | [] => []
  | x :: xs => x.toP :: Dt.toPs xs
end
section
variable {X : Cx} {pins : List (Addr × Obj)} {σ : L2.St} {H : Hp} {s : Shared} {N : Addr → Prop}
theorem reads_pairs {P : Program} {w : World} {h : Heap} : ∀ {kvs : List (Str × Int)} {vs : List (Key × Value)} {es : List DictEntry}, KV (dkv kvs) vs → Pairs (mixKind P w) es vs → ReadsAll h (es.map (·.key)) ((dkp kvs).map (·.1)) [] ∧ ReadsAll h (es.map (·.val)) ((dkp kvs).map (·.2)) []
  | [], _, _, r, p => by
    unfold KV at r
    cases r
    cases p
    exact ⟨.nil, .nil⟩
  | (x, i) :: kvs, _, _, r, p => by
    unfold KV at r
    cases r with
    | cons hh t =>
      cases p with
      | cons h1 h2 t2 =>
        rename_i q qs e es
        obtain ⟨a, b⟩ := reads_pairs (P := P) (w := w) (h := h) (kvs := kvs) (by unfold KV; exact t) t2
        obtain ⟨g1, tk, g2⟩ := hh
        have h1 : keyIs q.1 e.key = true := h1
        rw [← g1] at h1
        rcases keyIs_shape h1 with ⟨j, u, z, _⟩ | ⟨y, u, z, ek⟩
        · cases z
        cases z
        obtain ⟨k0, v0⟩ := e
        cases ek
        have ev := h2.trans g2
        dsimp only at ev
        subst ev
        exact ⟨.cons (.str _ u) a, .cons (as := []) (.int _ tk) b⟩
/-- a dict, as an object -/
theorem dct_obj (I : Inv X pins σ H s) {a : Addr} {kvs : List (Str × Int)} (h : H a = some (.dK (dkv kvs))) : ∃ o es n, s.heap.get? a = some o ∧ o.cls = .type "dict" ∧ o.data = .dict es n ∧ (a == sysModules) = false ∧ ReadsAll s.heap (es.toList.map (·.key)) ((dkp kvs).map (·.1)) [] ∧ ReadsAll s.heap (es.toList.map (·.val)) ((dkp kvs).map (·.2)) [] := by
  obtain ⟨_, low, vs, kv, o, es, ep, ho, hx, hd, _, pr, _⟩ := dk_of I.hok h
  obtain ⟨r1, r2⟩ := reads_pairs (h := s.heap) kv pr
  exact ⟨o, es, ep, ho, hx.1, hd, low, r1, r2⟩
mutual
theorem Dd.reads (I : Inv X pins σ H s) : ∀ {x : Dt} {v : V}, Dd N H x v → ∀ {u : Value}, RelV v u → ∃ as, Reads s.heap u x.toP as
  | _, _, .non, _, r => by
    cases r
    exact ⟨_, .none⟩
  | _, _, .bl b, _, r => by
    cases r
    exact ⟨_, .bool b⟩
  | _, _, .int i, _, r => by
    obtain ⟨t, rfl⟩ := r
    exact ⟨_, .int i t⟩
  | _, _, .str x, _, r => by
    obtain ⟨t, rfl⟩ := r
    exact ⟨_, .str x t⟩
  | _, _, .tup h t, _, r => by
    cases r
    obtain ⟨its, rv, ⟨o, ho, hc, n, hd⟩, _⟩ := I.tuple (TupA.sq (K := X.K) h)
    obtain ⟨as, ra⟩ := t.reads I rv
    exact ⟨_, .tuple ho hc hd ra⟩
  | _, _, .lst _ h t, _, r => by
    cases r
    obtain ⟨its, rv, ⟨o, n, ho, hc, _, hd⟩, _⟩ := I.list (SqL.of h)
    obtain ⟨as, ra⟩ := t.reads I rv
    exact ⟨_, .list ho hc hd ra⟩
  | _, _, .dct _ h, _, r => by
    cases r
    obtain ⟨o, es, n, ho, hc, hd, _, h4, h5⟩ := dct_obj I h
    exact ⟨_, .dict ho hc hd h4 h5⟩
theorem DdL.reads (I : Inv X pins σ H s) : ∀ {xs : List Dt} {vs : List V}, DdL N H xs vs → ∀ {us : List Value}, Vals vs us → ∃ as, ReadsAll s.heap us (Dt.toPs xs) as
  | _, _, .nil, _, r => by
    cases r
    exact ⟨_, .nil⟩
  | _, _, .cons h t, _, r => by
    cases r with
    | cons r1 r2 =>
      obtain ⟨as, ra⟩ := h.reads I r1
      obtain ⟨bs, rb⟩ := t.reads I r2
      exact ⟨_, .cons ra rb⟩
end
theorem shownAll_le {xs : List PyData} {n : Nat} (h : ∀ t ∈ PyData.shownAll xs, t.length ≤ n) : ∀ t ∈ PyData.shownAll xs, t.length ≤ n := h
mutual
theorem Dd.reprK (I : Inv X pins σ H s) : ∀ {x : Dt} {v : V}, Dd N H x v → ∀ {u : Value}, RelV v u → x.toP.showable = true → x.toP.shown.length ≤ sizeLine → ∃ bs, ReadAtMost s.heap x.toP.depth bs ∧ ReprK X.prog X.w bs s.heap x.toP.depth u x.toP.shown
  | _, _, .non, _, r, _, _ => by
    cases r
    exact ⟨[], (fun _ h => nomatch h), by simp only [Dt.toP, PyData.shown]; exact .of_is ReprIs.none _ _ _⟩
  | _, _, .bl b, _, r, _, _ => by
    cases r
    exact ⟨[], (fun _ h => nomatch h), by simp only [Dt.toP, PyData.shown]; exact .of_is (ReprIs.bool b) _ _ _⟩
  | _, _, .int i, _, r, hs, _ => by
    obtain ⟨t, rfl⟩ := r
    exact ⟨[], (fun _ h => nomatch h), by simp only [Dt.toP, PyData.shown]; exact .of_is (ReprIs.int t (by simpa [Dt.toP, PyData.showable] using hs)) _ _ _⟩
  | _, _, .str x, _, r, _, hz => by
    obtain ⟨t, rfl⟩ := r
    exact ⟨[], (fun _ h => nomatch h), by simp only [Dt.toP, PyData.shown]; exact .of_is (ReprIs.str x t (by simpa only [Dt.toP, PyData.shown] using hz)) _ _ _⟩
  | _, _, .tup (a := a) (xs := xs) h t, _, r, hs, hz => by
    cases r
    obtain ⟨its, rv, ⟨o, ho, hc, n, hd⟩, _⟩ := I.tuple (TupA.sq (K := X.K) h)
    have hz' : (tupleText (PyData.shownAll (Dt.toPs xs))).length ≤ sizeLine := by simpa only [Dt.toP, PyData.shown] using hz
    obtain ⟨as, ra⟩ := t.reads I rv
    obtain ⟨bs, hb, hk⟩ := t.reprK I rv (by simpa [Dt.toP, PyData.showable] using hs) (fun t ht => Nat.le_trans (tupleText_mem_le ht) hz')
    have rd : Reads s.heap (.ref a) (.tuple (Dt.toPs xs)) _ := .tuple ho hc hd ra
    have na : a ∉ bs := not_mem_of_deeper rd (by simp only [PyData.depth]; omega) hb
    have le : PyData.depthAll (Dt.toPs xs) ≤ (PyData.tuple (Dt.toPs xs)).depth := by simp only [PyData.depth]; omega
    exact ⟨a :: bs, ReadAtMost.cons rd le hb, by simp only [Dt.toP, PyData.depth, PyData.shown]; exact ReprK.tuple ho hc hd na hk⟩
  | _, _, .lst (a := a) (xs := xs) (vs := vs) _ h t, _, r, hs, hz => by
    cases r
    obtain ⟨its, rv, ⟨o, n, ho, hc, _, hd⟩, _⟩ := I.list (SqL.of h)
    have hz' : (listText (PyData.shownAll (Dt.toPs xs))).length ≤ sizeLine := by simpa only [Dt.toP, PyData.shown] using hz
    obtain ⟨as, ra⟩ := t.reads I rv
    obtain ⟨bs, hb, hk⟩ := t.reprK I rv (by simpa [Dt.toP, PyData.showable] using hs) (fun t ht => Nat.le_trans (listText_mem_le ht) hz')
    have rd : Reads s.heap (.ref a) (.list (Dt.toPs xs)) _ := .list ho hc hd ra
    have na : a ∉ bs := not_mem_of_deeper rd (by simp only [PyData.depth]; omega) hb
    have le : PyData.depthAll (Dt.toPs xs) ≤ (PyData.list (Dt.toPs xs)).depth := by simp only [PyData.depth]; omega
    refine ⟨a :: bs, ReadAtMost.cons rd le hb, ?_⟩
    simp only [Dt.toP, PyData.depth, PyData.shown]
    cases its with
    | nil =>
      cases rv
      cases t
      simp only [Dt.toPs, PyData.shownAll, listText_nil]
      exact ReprK.listEmpty ho hc hd
    | cons y l => exact ReprK.list ho hc hd na (by simpa using hk.length_eq) (fun i y e => hk.item i y (by simpa using e))
  | _, _, .dct (a := a) (kvs := kvs) _ h, _, r, hs, hz => by
    cases r
    obtain ⟨o, es, n, ho, hc, hd, low, h4, h5⟩ := dct_obj I h
    have rd : Reads s.heap (.ref a) (.dict (dkp kvs)) _ := .dict ho hc hd h4 h5
    have hz' : (dictText (PyData.shownKv (dkp kvs))).length ≤ sizeLine := by simpa only [Dt.toP, PyData.shown] using hz
    obtain ⟨hs1, hs2⟩ := PyData.showableKv_split (dkp kvs) (by simpa [Dt.toP, PyData.showable] using hs)
    obtain ⟨b1, hb1, k1⟩ := ReprAllK.of_readsAll (prog := X.prog) (w := X.w) h4 hs1 (fun _ hm => nomatch hm) (fun t ht => let ⟨p, hp, hl⟩ := PyData.shownKv_key_le _ t ht; Nat.le_trans hl (Nat.le_trans (dictText_mem_le hp) hz'))
    obtain ⟨b2, hb2, k2⟩ := ReprAllK.of_readsAll (prog := X.prog) (w := X.w) h5 hs2 (fun _ hm => nomatch hm) (fun t ht => let ⟨p, hp, hl⟩ := PyData.shownKv_val_le _ t ht; Nat.le_trans hl (Nat.le_trans (dictText_mem_le hp) hz'))
    have hb : ReadAtMost s.heap (PyData.depthKv (dkp kvs)) (b1 ++ b2) := (hb1.mono (PyData.depthAll_keys_le _)).append (hb2.mono (PyData.depthAll_vals_le _))
    have le : PyData.depthKv (dkp kvs) ≤ (PyData.dict (dkp kvs)).depth := by simp only [PyData.depth]; omega
    have hna : a ∉ b1 ++ b2 := not_mem_of_deeper rd (by simp only [PyData.depth]; omega) hb
    refine ⟨a :: (b1 ++ b2), ReadAtMost.cons rd le hb, ?_⟩
    simp only [Dt.toP, PyData.depth, PyData.shown, PyData.shownKv_eq]
    exact ReprK.dict ho hc hd low hna (ReprEntriesK.of_two es.toList _ _ (k1.more_le (fun b hb => List.mem_append_left _ hb) (PyData.depthAll_keys_le _)) (k2.more_le (fun b hb => List.mem_append_right _ hb) (PyData.depthAll_vals_le _)))
theorem DdL.reprK (I : Inv X pins σ H s) : ∀ {xs : List Dt} {vs : List V}, DdL N H xs vs → ∀ {us : List Value}, Vals vs us → PyData.showableAll (Dt.toPs xs) = true → (∀ t ∈ PyData.shownAll (Dt.toPs xs), t.length ≤ sizeLine) →
    ∃ bs, ReadAtMost s.heap (PyData.depthAll (Dt.toPs xs)) bs ∧ ReprAllK X.prog X.w bs s.heap (PyData.depthAll (Dt.toPs xs)) us (PyData.shownAll (Dt.toPs xs))
  | _, _, .nil, _, r, _, _ => by
    cases r
    exact ⟨[], (fun _ h => nomatch h), .nil⟩
  | _, _, .cons (x := x) (xs := xs) h t, _, r, hs, hz => by
    cases r with
    | cons r1 r2 =>
      have hs' : x.toP.showable = true ∧ PyData.showableAll (Dt.toPs xs) = true := by simpa [Dt.toPs, PyData.showableAll] using hs
      obtain ⟨as, ha, ka⟩ := h.reprK I r1 hs'.1 (hz _ (by simp [Dt.toPs, PyData.shownAll]))
      obtain ⟨bs, hb, kb⟩ := t.reprK I r2 hs'.2 (fun t ht => hz _ (by simp [Dt.toPs, PyData.shownAll, ht]))
      have m1 : x.toP.depth ≤ PyData.depthAll (Dt.toPs (x :: xs)) := by simp only [Dt.toPs, PyData.depthAll]; omega
      have m2 : PyData.depthAll (Dt.toPs xs) ≤ PyData.depthAll (Dt.toPs (x :: xs)) := by simp only [Dt.toPs, PyData.depthAll]; omega
      refine ⟨as ++ bs, (ha.mono m1).append (hb.mono m2), ?_⟩
      simp only [Dt.toPs, PyData.shownAll]
      exact .cons ((ka.more fun b hb => List.mem_append_left _ hb).level_le m1) (kb.more_le (fun b hb => List.mem_append_right _ hb) m2)
end
/-- it is shown: within the bounds -/
structure Shw (n : Nat) (x : Dt) : Prop where
  ok : x.toP.showable = true
  dp : x.toP.depth ≤ n
  sz : x.toP.shown.length ≤ sizeLine
def rShowU (n : Nat) : List V → Hp → VK → Prop := fun xs H Q => ∃ (v : V) (x : Dt), xs = [v] ∧ Dd Any H x v ∧ Shw n x ∧ Q (.str x.toP.shown) H
theorem call_showU {n : Nat} (g : Still X.A) (hu : X.A.units + (n + 1) < cLine) : CallR X (.builtin "repr") (rShowU n) := by
  intro pins s σ H xs us Q I r h
  obtain ⟨v, x, rfl, hd, sh, q⟩ := h
  cases r with
  | cons r1 r2 =>
    cases r2
    have done : ∀ (h' : Heap) (u tk : Tok), (∀ b o, s.heap.get? b = some o → h'.get? b = some o) → EP X pins σ Q (.str x.toP.shown u) { s with heap := h', toks := tk } := fun h' u tk hk => ⟨.str _, H, I.kept hk, ⟨u, rfl⟩, q⟩
    have dpx := sh.dp
    cases hd with
    | non =>
      cases r1
      exact PySem.P.repr_of_none (done s.heap _ _ fun _ _ e => e)
    | bl b =>
      cases r1
      exact PySem.P.repr_of_bool (by simpa only [Dt.toP, PyData.shown] using done s.heap _ _ fun _ _ e => e)
    | int i =>
      obtain ⟨t, rfl⟩ := r1
      exact PySem.P.repr_of_int (by simpa [Dt.toP, PyData.showable] using sh.ok) (by simpa only [Dt.toP, PyData.shown] using done s.heap _ _ fun _ _ e => e)
    | str y =>
      obtain ⟨t, rfl⟩ := r1
      exact PySem.P.repr_of_str (by simpa only [Dt.toP, PyData.shown] using done s.heap _ _ fun _ _ e => e) (by simpa only [Dt.toP, PyData.shown] using sh.sz)
    | tup h t =>
      rename_i a ys ws
      cases r1
      obtain ⟨its, rv, ⟨o, ho, hc, m, hd⟩, _⟩ := I.tuple (TupA.sq (K := X.K) h)
      have hz' : (tupleText (PyData.shownAll (Dt.toPs ys))).length ≤ sizeLine := by simpa only [Dt.toP, PyData.shown] using sh.sz
      obtain ⟨as, ra⟩ := t.reads I rv
      obtain ⟨bs, hb, hk⟩ := t.reprK I rv (by simpa [Dt.toP, PyData.showable] using sh.ok) (fun t ht => Nat.le_trans (tupleText_mem_le ht) hz')
      have rd : Reads s.heap (.ref a) (.tuple (Dt.toPs ys)) _ := .tuple ho hc hd ra
      have na : a ∉ bs := not_mem_of_deeper rd (by simp only [PyData.depth]; omega) hb
      have dp : PyData.depthAll (Dt.toPs ys) + 1 ≤ n := by simpa only [Dt.toP, PyData.depth, Nat.add_comm] using dpx
      exact call_repr_slot (by omega) ⟨o, ho, hc⟩ PySem.F.slot_tuple_repr (call_tuple_reprK ho hc hd na hk (A := X.A.in1) g (fun b _ => Clear.nil b) (by show X.A.units + 1 + _ < cLine; omega) (fun _ _ e => e) (fun h' u tk hk' => ⟨_, _, rfl, by simpa only [Dt.toP, PyData.shown] using done h' u tk hk'⟩) hz')
    | lst _ h t =>
      rename_i a ys ws _
      cases r1
      obtain ⟨its, rv, ⟨o, m, ho, hc, _, hd⟩, _⟩ := I.list (SqL.of h)
      have hz' : (listText (PyData.shownAll (Dt.toPs ys))).length ≤ sizeLine := by simpa only [Dt.toP, PyData.shown] using sh.sz
      obtain ⟨as, ra⟩ := t.reads I rv
      obtain ⟨bs, hb, hk⟩ := t.reprK I rv (by simpa [Dt.toP, PyData.showable] using sh.ok) (fun t ht => Nat.le_trans (listText_mem_le ht) hz')
      have rd : Reads s.heap (.ref a) (.list (Dt.toPs ys)) _ := .list ho hc hd ra
      have na : a ∉ bs := not_mem_of_deeper rd (by simp only [PyData.depth]; omega) hb
      have dp : PyData.depthAll (Dt.toPs ys) + 1 ≤ n := by simpa only [Dt.toP, PyData.depth, Nat.add_comm] using dpx
      cases its with
      | nil =>
        cases rv
        cases t
        exact call_repr_slot (by omega) ⟨o, ho, hc⟩ PySem.F.slot_list_repr.toG (call_list_repr_empty ⟨o, ho, hc⟩ ho hd ⟨_, _, rfl, by
          have z := done s.heap s.toks (s.toks + 1) fun _ _ e => e
          simp only [Dt.toP, Dt.toPs, PyData.shown, PyData.shownAll, listText_nil] at z
          exact z⟩)
      | cons y l =>
        exact call_repr_slot (by omega) ⟨o, ho, hc⟩ PySem.F.slot_list_repr.toG (call_list_reprK ho hc hd na (by simpa using hk.length_eq) (fun i y e => hk.item i y (by simpa using e)) (A := X.A.in1) g (fun b _ => Clear.nil b) (by show X.A.units + 1 + _ < cLine; omega) (fun _ _ e => e) (fun h' u tk hk' => ⟨_, _, rfl, by simpa only [Dt.toP, PyData.shown] using done h' u tk hk'⟩) hz')
    | dct _ h =>
      rename_i a kvs _
      cases r1
      obtain ⟨o, es, m, ho, hc, hd, low, h4, h5⟩ := dct_obj I h
      have rd : Reads s.heap (.ref a) (.dict (dkp kvs)) _ := .dict ho hc hd h4 h5
      have hz' : (dictText (PyData.shownKv (dkp kvs))).length ≤ sizeLine := by simpa only [Dt.toP, PyData.shown] using sh.sz
      obtain ⟨hs1, hs2⟩ := PyData.showableKv_split (dkp kvs) (by simpa [Dt.toP, PyData.showable] using sh.ok)
      obtain ⟨b1, hb1, k1⟩ := ReprAllK.of_readsAll (prog := X.prog) (w := X.w) h4 hs1 (fun _ hm => nomatch hm) (fun t ht => let ⟨p, hp, hl⟩ := PyData.shownKv_key_le _ t ht; Nat.le_trans hl (Nat.le_trans (dictText_mem_le hp) hz'))
      obtain ⟨b2, hb2, k2⟩ := ReprAllK.of_readsAll (prog := X.prog) (w := X.w) h5 hs2 (fun _ hm => nomatch hm) (fun t ht => let ⟨p, hp, hl⟩ := PyData.shownKv_val_le _ t ht; Nat.le_trans hl (Nat.le_trans (dictText_mem_le hp) hz'))
      have hb : ReadAtMost s.heap (PyData.depthKv (dkp kvs)) (b1 ++ b2) := (hb1.mono (PyData.depthAll_keys_le _)).append (hb2.mono (PyData.depthAll_vals_le _))
      have hna : a ∉ b1 ++ b2 := not_mem_of_deeper rd (by simp only [PyData.depth]; omega) hb
      have dp : PyData.depthKv (dkp kvs) + 1 ≤ n := by simpa only [Dt.toP, PyData.depth, Nat.add_comm] using dpx
      exact call_repr_slot (by omega) ⟨o, ho, hc⟩ PySem.F.slot_dict_repr (call_dict_reprK ho hc hd low hna (ReprEntriesK.of_two es.toList _ _ (k1.more_le (fun b hb => List.mem_append_left _ hb) (PyData.depthAll_keys_le _)) (k2.more_le (fun b hb => List.mem_append_right _ hb) (PyData.depthAll_vals_le _))) (A := X.A.in1) g (fun b _ => Clear.nil b) (by show X.A.units + 1 + _ < cLine; omega) (fun _ _ e => e) (fun h' u tk hk => ⟨_, _, rfl, by simpa only [Dt.toP, PyData.shown, PyData.shownKv_eq] using done h' u tk hk⟩) (by rw [← PyData.shownKv_eq]; exact hz'))
end
end Kv

namespace Kg
open PySem PySem.Spec PyProof.Rows L2 GxR
/-- a def whose code object is known -/
structure FunC (K : PySem.W.Frag) (x qual : Str) (st : Stmt) (f : Addr) (fd : FuncData) (c : Addr) : Prop where
  ex : ∃ (oc : Value) (od : Option Addr) (kV doc pm : Value) (an : Option Addr) (ct : Value) (osl : Array (Option Value)),
    fd = PySem.W.fnOf x qual (defArgs st) (defBody st) (defScope st) .none kV doc pm an (.ref c) ct ∧ K.lookup f = some ⟨oc, od, .func fd, osl⟩ ∧ PySem.W.codeIn K (.ref c) qual = true
section
variable {P : Program} {w : World} {K : PySem.W.Frag} {mg : Str → Option Value} {base : Heap}
theorem FunC.ok {x qual : Str} {st : Stmt} {f : Addr} {fd : FuncData} {c : Addr} {N ps : List Str} {k : Nat} {sp : Sp} (F : FunC K x qual st f fd c) (S : FnScope N ps (defScope st)) (len : ∀ vs H Q E, sp vs H Q E → vs.length = ps.length)
    (hbody : ∀ (A : Around) (outer : List Env) (s : Shared) (H : Hp) (vs : List V) (Q : VK) (E : XK), Room k (A.deeper (envOfC qual (defScope st) s.heap.objs.size f (.ref c))) → sp vs H Q E →
      ∃ t, PSs (cxOf CX0 P w K mg base N qual (defScope st) f (.ref c) A outer s H E).nox (defBody st) t ∧ t { nx := fun _ H' => Q .non H', rt := Q } (start N vs) H) : FnOk P w K mg base CX0 (k + 1) f fd ps sp := by
  obtain ⟨oc, od, kV, doc, pm, an, ct, osl, rfl, lk, hcd⟩ := F.ex
  refine fn_of lk hcd S len fun A outer s H vs Q E hr hsp => ?_
  obtain ⟨t, h, q⟩ := hbody A outer s H vs Q E hr hsp
  exact ⟨t, h.nox, q⟩
theorem funC_mk {x qual : Str} {st : Stmt} {f c : Addr} {oc : Value} {od an : Option Addr} {osl : Array (Option Value)} {kV doc pm ct : Value} (l : K.lookup f = some ⟨oc, od, .func (PySem.W.fnOf x qual (defArgs st) (defBody st) (defScope st) .none kV doc pm an (.ref c) ct), osl⟩)
    (h : PySem.W.codeIn K (.ref c) qual = true) : FunC K x qual st f (PySem.W.fnOf x qual (defArgs st) (defBody st) (defScope st) .none kV doc pm an (.ref c) ct) c := ⟨⟨oc, od, kV, doc, pm, an, ct, osl, rfl, l, h⟩⟩
end
def gxSB (N : List Str) (sc scope : Scope) (own : List Str) (caps : List (Str × Nat)) : Bool :=
  decide (scope.kind = .function) && !scope.isCoroutine && scope.names.all (fun y => !decide (y.2 = .cell)) && decide (scope.names.lookup (".0" : Str) = some NameKind.local) && decide ((own ++ caps.map (·.1)).Nodup) &&
  caps.all (fun p => decide (N[p.2]? = some p.1) && decide (scope.names.lookup p.1 = some .free)) && scope.names.all (fun y => !decide (y.2 = .free) || decide (sc.names.lookup y.1 = some .cell) || decide (sc.names.lookup y.1 = some .free)) && scope.names.all fun y => decide (scope.names.lookup y.1 = some y.2)
theorem gxS_by {N : List Str} {sc scope : Scope} {own : List Str} {caps : List (Str × Nat)} (h : gxSB N sc scope own caps = true) : GxS N sc scope own caps := by
  unfold gxSB at h
  simp only [Bool.and_eq_true, Bool.or_eq_true, Bool.not_eq_true', decide_eq_true_eq, decide_eq_false_iff_not, List.all_eq_true] at h
  obtain ⟨⟨⟨⟨⟨⟨⟨h1, h2⟩, h3⟩, h4⟩, h5⟩, h6⟩, h7⟩, h8⟩ := h
  refine ⟨h1, h2, h3, h4, h5, h6, fun y hy e => ?_, h8⟩
  rcases h7 y hy with (z | z) | z
  · exact absurd e z
  · exact .inl z
  · exact .inr z
/-! the tables of code objects -/
def TbS (T : List Addr) (H : Hp) : Prop := ∀ p ∈ T, TabG H p
/-- all but the tables stands; they are tables -/
def Sm (T : List Addr) (H G : Hp) : Prop := (∀ b u, b ∉ T → H b = some u → G b = some u) ∧ TbS T G
theorem TbS.same {T : List Addr} {H G : Hp} (t : TbS T H) (s : Same H G) : TbS T G := fun p hp => by
  obtain ⟨ps, h1, h2⟩ := t p hp
  exact ⟨ps, s _ _ h1, h2⟩
theorem Sm.refl {T : List Addr} {H : Hp} (t : TbS T H) : Sm T H H := ⟨fun _ _ _ e => e, t⟩
theorem Sm.of {T : List Addr} {H G : Hp} (s : Same H G) (t : TbS T H) : Sm T H G := ⟨fun b u _ e => s b u e, t.same s⟩
theorem Sm.trans {T : List Addr} {H G F : Hp} (a : Sm T H G) (b : Sm T G F) : Sm T H F := ⟨fun x u h e => b.1 x u h (a.1 x u h e), b.2⟩
theorem Sm.tab {T : List Addr} {H G : Hp} {p : Addr} (hp : p ∈ T) (t : TbS T H) (h : Tabbed p H G) : Sm T H G := by
  refine ⟨fun b u hb e => ?_, fun q hq => ?_⟩
  · rw [h.2 b (fun z => hb (by rw [z]; exact hp))]
    exact e
  · by_cases z : q = p
    · rw [z]
      exact h.1
    · obtain ⟨ps, h1, h2⟩ := t q hq
      exact ⟨ps, by rw [h.2 q z]; exact h1, h2⟩
theorem TbS.off {T : List Addr} {H : Hp} {b : Addr} {u : HO} (t : TbS T H) (e : H b = some u) (n : ∀ ps, u ≠ .tbl ps) : b ∉ T := fun hb => by
  obtain ⟨ps, h1, _⟩ := t b hb
  rw [e] at h1
  exact n ps (Option.some.inj h1)
theorem Sm.at {T : List Addr} {H G : Hp} (a : Sm T H G) (t : TbS T H) {b : Addr} {u : HO} (e : H b = some u) (n : ∀ ps, u ≠ .tbl ps) : G b = some u := a.1 b u (t.off e n) e
theorem Sm.free {T : List Addr} {H G : Hp} {p : Addr} (a : Sm T H G) (h : G p = none) : H p = none := by
  cases e : H p with
  | none => rfl
  | some u =>
    by_cases hp : p ∈ T
    · obtain ⟨ps, h1, _⟩ := a.2 p hp
      rw [h] at h1
      cases h1
    · rw [a.1 p u hp e] at h
      cases h
/-! all over a list, over a tuple -/
section
variable {K : PySem.W.Frag} {a : Addr} {xs : List V} {g : TG} {te : TE} {vs : List Nat} {σ0 : L2.St} {G : Hp} {Qe : Bool → Hp → Prop}
theorem all_list (Pv : Nat → Hp → Prop) (h0 : Pv 0 G) (hl : ∀ i H, i ≤ xs.length → Pv i H → SqL K H a xs)
    (hs : ∀ i x H, xs[i]? = some x → Pv i H → g x σ0 H fun σ2 H2 => wipe σ2 vs = σ0 ∧ te σ2 H2 fun y H4 => ∃ b, y = .bl b ∧ if b = true then Pv (i + 1) H4 else Qe false H4) (hd : ∀ H, Pv xs.length H → Qe true H) :
    ∃ W : Nat → Nat → Hp → Prop, (∃ m, W 0 m G) ∧ Turns (Itl K a) σ0 vs g te Qe W := by
  refine ⟨fun i m F => m = xs.length - i ∧ i ≤ xs.length ∧ Pv i F, ⟨_, rfl, Nat.zero_le _, h0⟩, fun i m F z => ?_⟩
  obtain ⟨rfl, hi, p⟩ := z
  have q := hl i F hi p
  by_cases lt : i < xs.length
  · refine .inr ⟨⟨xs, xs[i], q, List.getElem?_eq_getElem lt⟩, Pv (i + 1), fun F' p' => ⟨xs.length - (i + 1), by omega, rfl, lt, p'⟩, fun x F' y => ?_⟩
    obtain ⟨e, y⟩ := y
    subst e
    exact hs i x _ (y xs q) p
  · have e : i = xs.length := by omega
    subst e
    exact .inl ⟨⟨xs, q, Nat.le_refl _⟩, hd F p⟩
theorem all_tup (Pv : Nat → Hp → Prop) (h0 : Pv 0 G) (hl : ∀ i H, i ≤ xs.length → Pv i H → SqT K H a xs)
    (hs : ∀ i x H, xs[i]? = some x → Pv i H → g x σ0 H fun σ2 H2 => wipe σ2 vs = σ0 ∧ te σ2 H2 fun y H4 => ∃ b, y = .bl b ∧ if b = true then Pv (i + 1) H4 else Qe false H4) (hd : ∀ H, Pv xs.length H → Qe true H) :
    ∃ W : Nat → Nat → Hp → Prop, (∃ m, W 0 m G) ∧ Turns (Itt K a) σ0 vs g te Qe W := by
  refine ⟨fun i m F => m = xs.length - i ∧ i ≤ xs.length ∧ Pv i F, ⟨_, rfl, Nat.zero_le _, h0⟩, fun i m F z => ?_⟩
  obtain ⟨rfl, hi, p⟩ := z
  have q := hl i F hi p
  by_cases lt : i < xs.length
  · refine .inr ⟨⟨xs, xs[i], q, List.getElem?_eq_getElem lt⟩, Pv (i + 1), fun F' p' => ⟨xs.length - (i + 1), by omega, rfl, lt, p'⟩, fun x F' y => ?_⟩
    obtain ⟨e, y⟩ := y
    subst e
    exact hs i x _ (y xs q) p
  · have e : i = xs.length := by omega
    subst e
    exact .inl ⟨⟨xs, q, Nat.le_refl _⟩, hd F p⟩
/-- all over what walks -/
theorem all_it {J : It} {n : Nat} {I : Hp → Prop} {Y : Nat → Hp → V → Hp → Prop} (w : Walk J n I Y) (Pv : Nat → Hp → Prop) (h0 : Pv 0 G) (hl : ∀ i H, i ≤ n → Pv i H → I H)
    (hs : ∀ i x H H', i < n → Pv i H → Y i H x H' → g x σ0 H' fun σ2 H2 => wipe σ2 vs = σ0 ∧ te σ2 H2 fun y H4 => ∃ b, y = .bl b ∧ if b = true then Pv (i + 1) H4 else Qe false H4) (hd : ∀ H, Pv n H → Qe true H) :
    ∃ W : Nat → Nat → Hp → Prop, (∃ m, W 0 m G) ∧ Turns J σ0 vs g te Qe W := by
  refine ⟨fun i m F => m = n - i ∧ i ≤ n ∧ Pv i F, ⟨_, rfl, Nat.zero_le _, h0⟩, fun i m F z => ?_⟩
  obtain ⟨rfl, hi, p⟩ := z
  have q := hl i F hi p
  by_cases lt : i < n
  · exact .inr ⟨w.goes i F lt q, Pv (i + 1), fun F' p' => ⟨n - (i + 1), by omega, rfl, lt, p'⟩, fun x F' y => hs i x F F' lt p (w.yields i F x F' lt q y)⟩
  · have e : i = n := by omega
    subst e
    exact .inl ⟨w.stops F q, hd F p⟩
theorem _root_.Kv.TupA.sm {T : List Addr} {H G : Hp} {b : Addr} {xs : List V} (e : Kv.TupA H b xs) (a : Sm T H G) (t : TbS T H) : Kv.TupA G b xs := e.elim (fun e => .inl (a.at t e (fun ps z => by cases z))) (fun ⟨o, p, e⟩ => .inr ⟨o, p, a.at t e (fun ps z => by cases z)⟩)
theorem _root_.Kv.TupA.ne {H : Hp} {a b : Addr} {xs : List V} (e : Kv.TupA H a xs) (h : H b = none) : a ≠ b := e.elim (fun e => ne_of_none e h) (fun ⟨o, p, e⟩ => ne_of_none e h)
theorem Sm.kn {T : List Addr} {N : Addr → Prop} {H G : Hp} (a : Sm T H G) (t : TbS T H) : Kv.Kn N H G :=
  ⟨fun b xs e => e.elim (fun e => .inl (a.at t e (fun ps z => by cases z))) (fun ⟨o, p, e⟩ => .inr ⟨o, p, a.at t e (fun ps z => by cases z)⟩), fun b xs _ e => a.at t e (fun ps z => by cases z), fun b xs _ e => a.at t e (fun ps z => by cases z)⟩
theorem Sm.new {T : List Addr} {H G : Hp} {p : Addr} {o : HO} (a : Sm T H G) (h : H p = none) (tb : TbS T H) : Sm T H (upd G p o) := by
  refine ⟨fun b u hb e => ?_, fun q hq => ?_⟩
  · rw [upd_ne (ne_of_none e h)]
    exact a.1 b u hb e
  · obtain ⟨ps, h1, h2⟩ := a.2 q hq
    obtain ⟨ps0, h10, _⟩ := tb q hq
    exact ⟨ps, by rw [upd_ne (ne_of_none h10 h)]; exact h1, h2⟩
end
end Kg

/-! dict(..) of a tuple of pairs, a tuple of two turned about -/
namespace Kt
open PySem PySem.Spec PyProof.Rows L2
section
variable {X : Cx}
/-- tuple(l): the object is known -/
theorem call_tupleF : CallR X (.type "tuple") (fun xs H Q => ∃ p ys, xs = [.ref p] ∧ SqL X.K H p ys ∧ ∀ l (o : Obj), H l = none → o.dict = none → o.cls = .type "tuple" → Q (.ref l) (upd H l (.frz o (.tup ys)))) := by
  intro pins s σ H xs us Q I r h
  obtain ⟨p, ys, rfl, hq, q⟩ := h
  obtain ⟨u, rfl, rx⟩ := vals1 r
  cases rx
  obtain ⟨its, r', pl, hz⟩ := I.list hq
  have hlen := r'.length
  refine call_tuple_list pl.isList (fun h' kp => ?_) (by simp only [List.size_toArray] <;> omega)
  have I1 : Inv X pins σ H { s with heap := h' } := I.kept (t' := s.toks) kp
  have I2 : Inv X pins σ (upd H h'.objs.size (.frz { cls := .type "tuple", data := .seq its.toArray } (.tup ys))) { s with heap := h'.push { cls := .type "tuple", data := .seq its.toArray } } :=
    I1.laid (t' := s.toks) (fun b o e => Heap.get?_push_of_some _ e) (Nat.le_refl _) (show ObjOk X.prog X.w _ _ _ (.frz _ (.tup ys)) from ⟨Heap.get?_push_size _ rfl, hz, its, r', IsTup.new _ _⟩)
  exact ⟨.ref h'.objs.size, _, I2, rfl, q _ _ (I1.hok.fresh (Nat.le_refl _)) rfl rfl⟩
/-- () -/
def tTup0 : TE := fun _ H Q => ∀ p (o : Obj), H p = none → o.dict = none → o.cls = .type "tuple" → Q (.ref p) (upd H p (.frz o (.tup [])))
theorem pe_tup0 {x1 : Nat} {pos : Pos} : PE X (.Tuple [] x1 pos) tTup0 := by
  refine ⟨fun pins s σ H Q I h => ?_⟩
  refine wpAny_Tuple_spliced (thn ((pa_nil (X := X)).run pos pins s σ H (fun xs H1 => xs = [] ∧ H1 = H) I ⟨rfl, rfl⟩) fun us s1 ⟨xs, H1, I1, r, e1, e2⟩ => ?_)
  subst e1 e2
  cases r
  refine ⟨Nat.zero_le _, ?_⟩
  refine ⟨.ref s1.heap.objs.size, _, I1.laid (t' := s1.toks) (o := .frz { cls := .type "tuple", data := .seq ([] : List Value).toArray } (.tup [])) (fun b u e => Heap.get?_push_of_some _ e) (Nat.le_refl _) ?_, rfl, h _ _ (I1.hok.fresh (Nat.le_refl _)) rfl rfl⟩
  exact ⟨Heap.get?_push_size _ rfl, Nat.zero_le _, [], .nil, IsTup.new _ _⟩
theorem raws_of {pins : List (Addr × Obj)} {σ : L2.St} {H : Hp} {s : Shared} (I : Inv X pins σ H s) : ∀ {ps : List Addr} {kvs : List (Key × V)}, Paired (fun p kv => SqT X.K H p [kV kv.1, kv.2]) ps kvs →
    ∃ (prs : List (Key × Value)) (raws : List (Value × Value)), KV kvs prs ∧ prs.length = ps.length ∧ raws.length = ps.length ∧ ∀ (j : Nat) (u v : Value), raws[j]? = some (u, v) → ∃ (b : Addr) (k : Key), ps[j]? = some b ∧ IsTup s.heap b #[u, v] ∧ prs[j]? = some (k, v) ∧ keyIs k u = true
  | _, _, .nil => ⟨[], [], .nil, rfl, rfl, fun j u v e => by simp at e⟩
  | _, _, .cons (a := p) (b := kv) h t => by
    obtain ⟨prs, raws, r, hl, hl2, hp⟩ := raws_of I t
    obtain ⟨its, rv, ht, _⟩ := I.tuple h
    obtain ⟨u, y, ei, ru, ry⟩ := vals2 rv
    subst ei
    refine ⟨(kv.1, y) :: prs, (u, y) :: raws, .cons ⟨rfl, ry⟩ r, by rw [List.length_cons, List.length_cons, hl], by rw [List.length_cons, List.length_cons, hl2], fun j u' v' e => ?_⟩
    cases j with
    | zero =>
      have e' : (u, y) = (u', v') := Option.some.inj e
      cases e'
      exact ⟨p, kv.1, rfl, ht, rfl, kV_is (P := X.prog) (w := X.w) ru⟩
    | succ j =>
      obtain ⟨b, k, e1, e2, e3, e4⟩ := hp j u' v' (by simpa using e)
      exact ⟨b, k, by simpa using e1, e2, by simpa using e3, e4⟩
/-- dict(t) of a tuple of pairs -/
theorem call_dictF (hcalm : X.calm = true) : CallR X (.type "dict") (fun xs H Q => ∃ (a : Addr) (o : Obj) (ps : List Addr) (kvs : List (Key × V)), xs = [.ref a] ∧ H a = some (.frz o (.tup (ps.map V.ref))) ∧ o.dict = none ∧ o.cls = .type "tuple" ∧ Paired (fun p kv => SqT X.K H p [kV kv.1, kv.2]) ps kvs ∧
    ∀ p, H p = none → Q (.ref p) (upd H p (.dK (mergeK [] kvs)))) := by
  intro pins s σ H xs us Q I r q
  obtain ⟨a, o, ps, kvs, ex, hq, hod, hoc, hp, q⟩ := q
  subst ex
  obtain ⟨u, eu, rx⟩ := vals1 r
  subst eu
  cases rx
  obtain ⟨ho, hz, its, rv, o2, ho2, hc2, n2, hdat⟩ := I.hok a _ hq
  rw [ho] at ho2
  cases ho2
  have ei := refs_at rv
  subst ei
  rw [List.length_map] at hz
  obtain ⟨prs, raws, rel, hl, hl2, hpr⟩ := raws_of I hp
  have PA := PairArg.tuple (prog := X.prog) (w := X.w) a (ps.map Value.ref).toArray (fun j => (ps[j]?).getD 0) raws
  refine PySem.call_dict_pairs (knd := mixKind X.prog X.w) (kvs := prs) PA (I.ok.hd hcalm) ⟨⟨o, n2, ho, hoc, hod, hdat⟩, by simp [hl2], fun j k v e => ?_⟩ ⟨by rw [hl, hl2], fun i key v e => ?_⟩ (by rw [hl2]; exact hz) fun h' tk hd' k => ?_
  · obtain ⟨b, kk, e1, e2, e3, e4⟩ := hpr j k v e
    refine ⟨by simp [e1], .inl ?_⟩
    show s.heap.IsTuple ((ps[j]?).getD 0) #[k, v]
    rw [e1]
    exact e2
  · obtain ⟨b, kk, e1, e2, e3, e4⟩ := hpr i key v e
    exact ⟨kk, e3, e4⟩
  · have hm : (s.heap.objs.size == sysModules) = false := beq_eq_false_iff_ne.mpr (Nat.ne_of_gt I.big)
    have hlen : (mergeK [] kvs).length ≤ sizeLine := by
      refine Nat.le_trans (length_mergeK kvs []) ?_
      rw [List.length_nil, Nat.zero_add, rel.length, hl]
      exact hz
    exact ⟨.ref s.heap.objs.size, upd H s.heap.objs.size (.dK (mergeK [] kvs)), I.laid (t' := tk) (fun b o e => k b o (by simp) e) (Nat.le_refl _) (show ObjOk X.prog X.w _ _ _ (.dK (mergeK [] kvs)) from ⟨hlen, hm, merged [] prs, KV.merge rel .nil, hd'⟩), rfl, q _ (I.hok.fresh (Nat.le_refl _))⟩
end
/-! t[::-1], t of two -/
section
variable {prog : Program} {w : World} {A : Around} {E : Value → Shared → Prop} {s : Shared}
theorem getItem_two {t sl : Addr} {x y vl vu vs : Value} {Q : Value → Shared → Prop} (ht : IsTup s.heap t #[x, y]) (hs : s.heap.IsSliceOf sl vl vu vs) (pl : IsPart vl none) (pu : IsPart vu none) (ps : IsPart vs (some (-1)))
    (h : Q (.ref s.heap.objs.size) { s with heap := s.heap.push { cls := .type "tuple", data := .seq #[y, x] } }) : wpAny (model prog w) A (getItem (.ref t) (.ref sl)) Q E s := by
  have htake : sizeOk (.seq #[y, x]) := by
    show 2 ≤ sizeLine
    decide
  obtain ⟨os, hos, hcs, hds⟩ := id hs
  have hTs : s.TypeIs (.ref sl) "slice" := ⟨os, hos, hcs⟩
  unfold getItem
  try with_reducible refine wpAny_holding ?_
  first | refine wpAny_bind (wpAny_pure ?_) | skip
  refine wpAny_bind (wpAny_sequenceKey ht.typeIs (by decide) ?_)
  refine wpAny_bind (wpAny_callSpecial?_slot (name := Str.ofString "__getitem__") ht.typeIs PyProof.Rows.slot_tuple_getitem
    (wpAny_call_entry PyProof.Rows.slot_tuple_getitem ht.typeIs entry_tuple_getitem ?_ (args_tuple_getitem _ _)))
  show wpAny _ _ (Builtin.Tuple.tupleItemsOf (.ref t) >>= _) _ _ s
  refine wpAny_bind (tupleItemsOf_ ht ?_)
  refine wpAny_bind (wpAny_typeOf hTs ?_)
  rw [if_pos (by decide)]
  refine wpAny_bind ?_
  unfold Builtin.Slice.sliceApplied Builtin.Slice.sliceFields
  refine wpAny_bind (wpAny_bind (wpAny_field hos hds (x := vl) rfl (wpAny_bind (wpAny_field hos hds (x := vu) rfl (wpAny_bind (wpAny_field hos hds (x := vs) rfl (wpAny_pure ?_)))))))
  refine wpAny_bind (HT.slicePart_ ps ?_)
  show wpAny _ _ (if ((-1 : Int) == 0) = true then _ else _) _ _ s
  rw [if_neg (by decide)]
  refine wpAny_bind (HT.slicePart_ pl (wpAny_bind (HT.slicePart_ pu (wpAny_bind (wpAny_pure ?_)))))
  refine wpAny_pure ?_
  show wpAny _ _ (if (((1 : Int) == 0 && (-1 : Int) == 1 && (2 : Nat) == 2) = true) then _ else _) _ _ s
  rw [if_neg (by decide)]
  generalize hA : (List.filterMap _ (List.range _)).toArray = arr
  have eA : arr = #[y, x] := by
    rw [← hA]
    first
      | rfl
      | kernel_rfl
      | with_unfolding_all rfl
  subst eA
  show wpAny _ _ (Builtin.Tuple.tupleExact #[y, x] >>= fun v => ret v) _ _ s
  have e : ((List.range 2).filterMap fun (m : Nat) => (#[x, y] : Array Value)[((1 : Int) + (m : Int) * (-1)).toNat]?).toArray = #[y, x] := rfl
  first
    | exact wpAny_bind (m := Builtin.Tuple.tupleExact _) (wpAny_newObj_type (wpAny_pure ⟨_, rfl, wpAny_pure h⟩) htake)
    | exact wpAny_bind (m := Builtin.Tuple.tupleExact _) (wpAny_newObj_type (wpAny_bind (wpAny_pure (wpAny_pure ⟨_, rfl, wpAny_pure h⟩))) htake)
    | exact wpAny_bind (wpAny_bind (m := Builtin.Tuple.tupleExact _) (wpAny_newObj_type (wpAny_pure (wpAny_pure ⟨_, rfl, wpAny_pure h⟩)) htake))
    | exact wpAny_bind (wpAny_bind (m := Builtin.Tuple.tupleExact _) (wpAny_newObj_type (wpAny_pure ⟨_, rfl, wpAny_pure h⟩) htake))
end
section
variable {X : Cx}
def tRev2 (K : PySem.W.Frag) (te : TE) : TE := fun σ H Q => te σ H fun x H1 => ∃ a y z, x = .ref a ∧ SqT K H1 a [y, z] ∧ ∀ p, H1 p = none → Q (.ref p) (upd H1 p (.tup [z, y]))
theorem pe_rev2 {e : Expr} {te : TE} {k : Nat} {p1 p2 p3 pos : Pos} (he : PE X e te) : PE X (.Subscript e (.Slice none none (some (.UnaryOp .USub (.Constant (.int 1) k p1) p2)) p3) pos) (tRev2 X.K te) := by
  refine ⟨fun pins s σ H Q I h => ?_⟩
  refine Subscript_ (thn (he.run pins s σ H _ I h) fun v s1 ⟨x, H1, I1, r1, q1⟩ => ?_)
  obtain ⟨a, y, z, ex, hx, q⟩ := q1
  subst ex
  cases r1
  have hst : PO X (some (.UnaryOp .USub (.Constant (.int 1) k p1) p2)) (tPart (tUn (rU fun i => .int (-i)) (tC (.int 1)))) := po_some (pe_un un_neg pe_int)
  refine wpAny_Slice (thn (po_none.run pins s1 σ H1 (fun o H2 => o = none ∧ H2 = H1) I1 ⟨rfl, rfl⟩) fun vl s2 ⟨l, H2, I2, pl, el, e2⟩ => ?_)
  subst el e2
  refine thn (po_none.run pins s2 σ H2 (fun o H3 => o = none ∧ H3 = H2) I2 ⟨rfl, rfl⟩) fun vu s3 ⟨u, H3, I3, pu, eu, e3⟩ => ?_
  subst eu e3
  refine thn (hst.run pins s3 σ H3 (fun o H4 => o = some (-1) ∧ H4 = H3) I3 ⟨1, rfl, -1, rfl, rfl, rfl⟩) fun vs s4 ⟨o, H4, I4, ps, eo, e4⟩ => ?_
  subst eo e4
  have I5 : Inv X pins σ H4 { s4 with heap := s4.heap.push { cls := .type "slice", data := .fields #[vl, vu, vs] } } := I4.kept (t' := s4.toks) fun b ob q => Heap.get?_push_of_some _ q
  obtain ⟨its, r, ht, hz⟩ := I5.tuple hx
  obtain ⟨yv, zv, ei, ry, rz⟩ := vals2 r
  subst ei
  show wpAny (model X.prog X.w) X.A (subscriptTail e (.Slice none none (some (.UnaryOp .USub (.Constant (.int 1) k p1) p2)) p3) (.ref a) (.ref s4.heap.objs.size)) (EP X pins σ Q) X.xe { s4 with heap := s4.heap.push { cls := .type "slice", data := .fields #[vl, vu, vs] } }
  refine tail_any (ops := [.ref a, .ref s4.heap.objs.size]) ht.typeIs (PyProof.Rows.slot_tuple_getitem.lookup) ?_ (by with_unfolding_all rfl)
  refine getItem_two ht (Heap.IsSliceOf.new _ vl vu vs) pl pu ps ?_
  refine ⟨.ref _, _, I5.laid (t' := s4.toks) (o := .tup [z, y]) (fun b ob q => Heap.get?_push_of_some _ q) (Nat.le_refl _) ?_, rfl, q _ (I5.hok.fresh (Nat.le_refl _))⟩
  exact ⟨by show 2 ≤ sizeLine; decide, [zv, yv], .cons rz (.cons ry .nil), IsTup.new _ _⟩
end
end Kt

/-! further rules: == of tuples by texts, enumerate of a tuple, a text many times, a tuple turned about -/
namespace Kv
open PySem PySem.Spec PyProof.Rows L2 Kf
theorem vals_at : ∀ {xs : List V} {us : List Value} {i : Nat} (h : i < us.length), Vals xs us → ∃ x, xs[i]? = some x ∧ RelV x us[i]
  | _, _, i, h, .nil => absurd h (Nat.not_lt_zero _)
  | _, _, 0, h, .cons r t => ⟨_, rfl, r⟩
  | _, _, i + 1, h, .cons r t => by
    obtain ⟨x, e, q⟩ := vals_at (i := i) (Nat.lt_of_succ_lt_succ h) t
    exact ⟨x, e, q⟩
/-- at places that both have stand texts -/
def BothTxt (xs ys : List V) : Prop := ∀ (i : Nat) (u v : V), xs[i]? = some u → ys[i]? = some v → ∃ a b : Str, u = .str a ∧ v = .str b
def rEqTT (K : PySem.W.Frag) : R2 := fun x y H Q => ∃ (a b : Addr) (xs ys : List V), x = .ref a ∧ y = .ref b ∧ SqT K H a xs ∧ SqT K H b ys ∧ BothTxt xs ys ∧ Q (.bl (decide (xs = ys))) H
theorem op_eqTT {X : Cx} (hu : X.A.units + 64 < cLine) : OpR X (compareOp .Eq) (rEqTT X.K) := by
  intro pins s σ H x y v u Q I rx ry h
  obtain ⟨a, b, xs, ys, rfl, rfl, ha, hb, bt, q⟩ := h
  cases rx
  cases ry
  obtain ⟨is, r1, ⟨o1, h1, c1, n1, d1⟩, _⟩ := I.tuple ha
  obtain ⟨js, r2, ⟨o2, h2, c2, n2, d2⟩, _⟩ := I.tuple hb
  have l1 := r1.length
  have l2 := r2.length
  refine PySem.SeqAt.eq_tupleAt (e := fun i => decide (xs[i]? = ys[i]?)) ⟨o1, h1, c1, n1, d1⟩ ⟨o2, h2, c2, n2, d2⟩ (by omega) (fun j j1 j2 => ?_) ?_
  · have j1' : j < is.length := by simpa using j1
    have j2' : j < js.length := by simpa using j2
    obtain ⟨p, ep, rp⟩ := vals_at j1' r1
    obtain ⟨p', ep', rp'⟩ := vals_at j2' r2
    obtain ⟨sa, sb, rfl, rfl⟩ := bt j p p' ep ep'
    obtain ⟨t1, e1⟩ := rp
    obtain ⟨t2, e2⟩ := rp'
    have z := PySem.SeqAt.EqAt.str_str (A := X.A.in1) (s := s) sa t1 sb t2
    simp only [List.getElem_toArray, e1, e2, ep, ep']
    have e : decide (some (V.str sa) = some (V.str sb)) = (sa == sb) := by
      by_cases c : sa = sb
      · subst c
        simp
      · have : ¬ some (V.str sa) = some (V.str sb) := fun z => c (V.str.inj (Option.some.inj z))
        rw [decide_eq_false this]
        exact (beq_eq_false_iff_ne.mpr c).symm
    rw [e]
    exact z
  · have e : ((List.range (min is.toArray.size js.toArray.size)).all (fun i => decide (xs[i]? = ys[i]?)) && is.toArray.size == js.toArray.size) = decide (xs = ys) := by
      rw [List.size_toArray, List.size_toArray, ← l1, ← l2]
      by_cases c : xs = ys
      · subst c
        simp
      · rw [decide_eq_false c]
        by_cases cl : xs.length = ys.length
        · rw [Bool.and_eq_false_iff]
          left
          rw [← Bool.not_eq_true, List.all_eq_true]
          intro all
          refine c (List.ext_getElem? fun i => ?_)
          by_cases hi : i < xs.length
          · exact of_decide_eq_true (all i (List.mem_range.mpr (by omega)))
          · rw [List.getElem?_eq_none (by omega), List.getElem?_eq_none (by omega)]
        · rw [Bool.and_eq_false_iff]
          right
          exact beq_eq_false_iff_ne.mpr cl
    rw [e]
    exact ⟨.bl _, H, I, rfl, q⟩
/-! a text many times -/
theorem fold_app : ∀ (l : List (Array Nat)) (acc : Array Nat), (l.foldl (· ++ ·) acc).toList = acc.toList ++ (l.map Array.toList).flatten
  | [], acc => by simp
  | x :: l, acc => by
    rw [List.foldl_cons, fold_app l]
    simp [Array.toList_append, List.append_assoc]
theorem mul_cps (z : Str) (n : Nat) : (∀ c ∈ (Txt.mul z (n : Int)).cps.toList, c ∈ z.cps.toList) ∧ (Txt.mul z (n : Int)).cps.toList.length ≤ z.cps.toList.length * n := by
  unfold Txt.mul
  by_cases h1 : (n : Int) < 1
  · rw [if_pos h1]
    exact ⟨fun c h => absurd h (by simp [Str.empty]), by simp [Str.empty]⟩
  rw [if_neg h1]
  by_cases h2 : ((n : Int) == 1 || z.length == 0) = true
  · rw [if_pos h2]
    exact ⟨fun c h => h, Nat.le_mul_of_pos_right _ (by omega)⟩
  rw [if_neg h2]
  show (∀ c ∈ ((List.replicate (n : Int).toNat z.cps).foldl (· ++ ·) #[]).toList, c ∈ z.cps.toList) ∧ ((List.replicate (n : Int).toNat z.cps).foldl (· ++ ·) #[]).toList.length ≤ _
  rw [fold_app, Int.toNat_natCast, List.map_replicate]
  refine ⟨fun c h => ?_, ?_⟩
  · have h' : c ∈ (List.replicate n z.cps.toList).flatten := by simpa using h
    obtain ⟨l, hl, hc⟩ := List.mem_flatten.mp h'
    rw [(List.mem_replicate.mp hl).2] at hc
    exact hc
  · have e : ((#[] : Array Nat).toList ++ (List.replicate n z.cps.toList).flatten).length = n * z.cps.toList.length := by simp
    rw [e, Nat.mul_comm]
    exact Nat.le_refl _
def rMulS : R2 := fun x y H Q => ∃ (z : Str) (n : Nat), x = .str z ∧ y = .int (n : Int) ∧ n ≤ 1000 ∧ z.length ≤ sizeLine ∧ z.length * n ≤ sizeLine ∧ Q (.str (Txt.mul z (n : Int))) H
theorem op_mulS {X : Cx} : OpR X (binaryOp .Mult) rMulS := by
  intro pins s σ H x y v u Q I rx ry h
  obtain ⟨z, n, rfl, rfl, hn, hz0, hz1, q⟩ := h
  have hz : z.length ≤ 16777216 := hz0
  obtain ⟨t1, rfl⟩ := rx
  obtain ⟨t2, rfl⟩ := ry
  refine SB.mul (x := z) (n := (n : Int)) ⟨?_, fun h1 _ => ?_, fun h1 _ => ?_⟩ fun t' k => ⟨.str _, H, I.tok _, ⟨t', rfl⟩, q⟩
  · have a : decide ((n : Int) < -(2 ^ 63 : Int)) = false := decide_eq_false (by omega)
    have b : decide ((n : Int) ≥ 2 ^ 63) = false := decide_eq_false (by omega)
    rw [a, b]
    rfl
  · have h0 : (0 : Int) < (n : Int) := by omega
    have h3 : (16777216 : Int) ≤ (2 ^ 63 - 1) / (n : Int) := by
      rw [Int.le_ediv_iff_mul_le h0]
      omega
    omega
  · have le : z.length * (n : Int).toNat ≤ 16777216 := by
      rw [Int.toNat_natCast]
      exact hz1
    unfold Builtin.Str.tooLong
    exact decide_eq_false (by have : sizeLine = 16777216 := rfl; omega)
/-! a tuple turned about -/
theorem fm_congr {α β : Type} {f g : α → Option β} : ∀ {l : List α}, (∀ x ∈ l, f x = g x) → l.filterMap f = l.filterMap g
  | [], _ => rfl
  | x :: l, h => by
    rw [List.filterMap_cons, List.filterMap_cons, h x List.mem_cons_self, fm_congr fun y hy => h y (List.mem_cons_of_mem _ hy)]
section
variable {prog : Program} {w : World} {A : Around} {E : Value → Shared → Prop} {s : Shared}
theorem getItem_back {t sl : Addr} {its : Array Value} {vl vu vs : Value} {Q : Value → Shared → Prop} (ht : IsTup s.heap t its) (hz : its.size ≤ sizeLine) (hs : s.heap.IsSliceOf sl vl vu vs) (pl : IsPart vl none) (pu : IsPart vu none) (ps : IsPart vs (some (-1)))
    (h : Q (.ref s.heap.objs.size) { s with heap := s.heap.push { cls := .type "tuple", data := .seq its.toList.reverse.toArray } }) : wpAny (model prog w) A (getItem (.ref t) (.ref sl)) Q E s := by
  have htake : sizeOk (.seq its.toList.reverse.toArray) := by
    show its.toList.reverse.toArray.size ≤ sizeLine
    simpa using hz
  obtain ⟨os, hos, hcs, hds⟩ := id hs
  have hTs : s.TypeIs (.ref sl) "slice" := ⟨os, hos, hcs⟩
  unfold getItem
  try with_reducible refine wpAny_holding ?_
  first | refine wpAny_bind (wpAny_pure ?_) | skip
  refine wpAny_bind (wpAny_sequenceKey ht.typeIs (by decide) ?_)
  refine wpAny_bind (wpAny_callSpecial?_slot (name := Str.ofString "__getitem__") ht.typeIs PyProof.Rows.slot_tuple_getitem
    (wpAny_call_entry PyProof.Rows.slot_tuple_getitem ht.typeIs entry_tuple_getitem ?_ (args_tuple_getitem _ _)))
  show wpAny _ _ (Builtin.Tuple.tupleItemsOf (.ref t) >>= _) _ _ s
  refine wpAny_bind (tupleItemsOf_ ht ?_)
  refine wpAny_bind (wpAny_typeOf hTs ?_)
  rw [if_pos (by decide)]
  refine wpAny_bind ?_
  unfold Builtin.Slice.sliceApplied Builtin.Slice.sliceFields
  refine wpAny_bind (wpAny_bind (wpAny_field hos hds (x := vl) rfl (wpAny_bind (wpAny_field hos hds (x := vu) rfl (wpAny_bind (wpAny_field hos hds (x := vs) rfl (wpAny_pure ?_)))))))
  refine wpAny_bind (HT.slicePart_ ps ?_)
  show wpAny _ _ (if ((-1 : Int) == 0) = true then _ else _) _ _ s
  rw [if_neg (by decide)]
  refine wpAny_bind (HT.slicePart_ pl (wpAny_bind (HT.slicePart_ pu (wpAny_bind (wpAny_pure ?_)))))
  refine wpAny_pure ?_
  have en : Builtin.Slice.slicePlaces ((its.size : Int) - 1) (-1) (-1) = its.size := by
    unfold Builtin.Slice.slicePlaces
    simp only [show ¬ ((-1 : Int) > 0) by decide, if_false, show (- -1 : Int) = 1 by decide, Int.ediv_one]
    split <;> omega
  show wpAny _ _ (if ((((its.size : Int) - 1) == 0 && (-1 : Int) == 1 && Builtin.Slice.slicePlaces ((its.size : Int) - 1) (-1) (-1) == its.size) = true) then _ else _) _ _ s
  rw [if_neg (by simp)]
  generalize hA : (List.filterMap _ (List.range _)).toArray = arr
  have hA' : (List.filterMap (fun k : Nat => its[(((its.size : Int) - 1) + (k : Int) * (-1)).toNat]?) (List.range (Builtin.Slice.slicePlaces ((its.size : Int) - 1) (-1) (-1)))).toArray = arr := hA
  have eA : arr = its.toList.reverse.toArray := by
    rw [← hA', en]
    have e : List.filterMap (fun k : Nat => its[(((its.size : Int) - 1) + (k : Int) * (-1)).toNat]?) (List.range its.size) = List.filterMap (its[·]?) ((List.range its.size).map fun k => its.size - 1 - k) := by
      rw [List.filterMap_map]
      refine fm_congr fun k hk => ?_
      have := List.mem_range.mp hk
      show its[(((its.size : Int) - 1) + (k : Int) * (-1)).toNat]? = its[its.size - 1 - k]?
      have e2 : (((its.size : Int) - 1) + (k : Int) * (-1)).toNat = its.size - 1 - k := by omega
      rw [e2]
    rw [e, PySem.W.krv_range, List.filterMap_reverse, PySem.W.krv_all]
  subst eA
  show wpAny _ _ (Builtin.Tuple.tupleExact its.toList.reverse.toArray >>= fun v => ret v) _ _ s
  first
    | exact wpAny_bind (m := Builtin.Tuple.tupleExact _) (wpAny_newObj_type (wpAny_pure ⟨_, rfl, wpAny_pure h⟩) htake)
    | exact wpAny_bind (m := Builtin.Tuple.tupleExact _) (wpAny_newObj_type (wpAny_bind (wpAny_pure (wpAny_pure ⟨_, rfl, wpAny_pure h⟩))) htake)
end
section
variable {X : Cx}
def tRevT (K : PySem.W.Frag) (te : TE) : TE := fun σ H Q => te σ H fun x H1 => ∃ (a : Addr) (xs : List V), x = .ref a ∧ SqT K H1 a xs ∧ ∀ p, H1 p = none → Q (.ref p) (upd H1 p (.tup xs.reverse))
theorem pe_revT {e : Expr} {te : TE} {k : Nat} {p1 p2 p3 pos : Pos} (he : PE X e te) : PE X (.Subscript e (.Slice none none (some (.UnaryOp .USub (.Constant (.int 1) k p1) p2)) p3) pos) (tRevT X.K te) := by
  refine ⟨fun pins s σ H Q I h => ?_⟩
  refine Subscript_ (thn (he.run pins s σ H _ I h) fun v s1 ⟨x, H1, I1, r1, q1⟩ => ?_)
  obtain ⟨a, xs, ex, hx, q⟩ := q1
  subst ex
  cases r1
  have hst : PO X (some (.UnaryOp .USub (.Constant (.int 1) k p1) p2)) (tPart (tUn (rU fun i => .int (-i)) (tC (.int 1)))) := po_some (pe_un un_neg pe_int)
  refine wpAny_Slice (thn (po_none.run pins s1 σ H1 (fun o H2 => o = none ∧ H2 = H1) I1 ⟨rfl, rfl⟩) fun vl s2 ⟨l, H2, I2, pl, el, e2⟩ => ?_)
  subst el e2
  refine thn (po_none.run pins s2 σ H2 (fun o H3 => o = none ∧ H3 = H2) I2 ⟨rfl, rfl⟩) fun vu s3 ⟨u, H3, I3, pu, eu, e3⟩ => ?_
  subst eu e3
  refine thn (hst.run pins s3 σ H3 (fun o H4 => o = some (-1) ∧ H4 = H3) I3 ⟨1, rfl, -1, rfl, rfl, rfl⟩) fun vs s4 ⟨o, H4, I4, ps, eo, e4⟩ => ?_
  subst eo e4
  have I5 : Inv X pins σ H4 { s4 with heap := s4.heap.push { cls := .type "slice", data := .fields #[vl, vu, vs] } } := I4.kept (t' := s4.toks) fun b ob q => Heap.get?_push_of_some _ q
  obtain ⟨its, r, ht, hz⟩ := I5.tuple hx
  have lr := r.length
  show wpAny (model X.prog X.w) X.A (subscriptTail e (.Slice none none (some (.UnaryOp .USub (.Constant (.int 1) k p1) p2)) p3) (.ref a) (.ref s4.heap.objs.size)) (EP X pins σ Q) X.xe { s4 with heap := s4.heap.push { cls := .type "slice", data := .fields #[vl, vu, vs] } }
  refine tail_any (ops := [.ref a, .ref s4.heap.objs.size]) ht.typeIs (PyProof.Rows.slot_tuple_getitem.lookup) ?_ (by with_unfolding_all rfl)
  refine getItem_back ht (by rw [List.size_toArray]; omega) (Heap.IsSliceOf.new _ vl vu vs) pl pu ps ?_
  refine ⟨.ref _, _, I5.laid (t' := s4.toks) (o := .tup xs.reverse) (fun b ob q => Heap.get?_push_of_some _ q) (Nat.le_refl _) ?_, rfl, q _ (I5.hok.fresh (Nat.le_refl _))⟩
  exact ⟨by rw [List.length_reverse]; exact hz, its.reverse, r.reverse, IsTup.new _ _⟩
end
/-! a list == the empty list -/
def rEqL0 (K : PySem.W.Frag) : R2 := fun x y H Q => ∃ (a b : Addr) (xs : List V), x = .ref a ∧ y = .ref b ∧ SqL K H a xs ∧ SqL K H b [] ∧ Q (.bl xs.isEmpty) H
theorem op_eqL0 {X : Cx} (hu : X.A.units + 64 < cLine) : OpR X (compareOp .Eq) (rEqL0 X.K) := by
  intro pins s σ H x y v u Q I rx ry h
  obtain ⟨a, b, xs, rfl, rfl, ha, hb, q⟩ := h
  cases rx
  cases ry
  obtain ⟨is, r1, ⟨o1, n1, h1, c1, _, d1⟩, _⟩ := I.list ha
  obtain ⟨js, r2, ⟨o2, n2, h2, c2, _, d2⟩, _⟩ := I.list hb
  cases r2
  cases r1 with
  | nil => exact PySem.SeqAt.eq_listAt (e := fun _ => true) ⟨o1, h1, c1, n1, d1⟩ ⟨o2, h2, c2, n2, d2⟩ rfl (by omega) (fun j j1 _ => absurd j1 (Nat.not_lt_zero _)) ⟨.bl true, H, I, rfl, q⟩
  | cons r t => exact PySem.SeqAt.eq_list_lengthsAt ⟨o1, h1, c1, n1, d1⟩ ⟨o2, h2, c2, n2, d2⟩ (by simp) (by omega) ⟨.bl false, H, I, rfl, q⟩
end Kv

/-! enumerate of a tuple -/
namespace PySem
open Sem (wp)
open AutoSeq1 (wpAny_loadPart')
theorem enumT_new (l : Addr) (its : Array Value) :
    Meets (Builtin.«enumerate.__new__» ⟨[.type "enumerate", .ref l], []⟩) (fun _ R s => s.heap.IsTuple l its ∧
      R (.ok (.ret (.ref (s.heap.push { cls := .type "tuple_iterator", data := .fields #[.ref l, .int 0 0] }).objs.size)))
        { s with heap := (s.heap.push { cls := .type "tuple_iterator", data := .fields #[.ref l, .int 0 0] }).push { cls := .type "enumerate", data := .fields #[.none, .bool false, .ref s.heap.objs.size, rawInt 0, .none, .none] } }) :=
  .of_wp fun prog w A R s h => by
    obtain ⟨hp, g, d, tk, os⟩ := s
    obtain ⟨hT, h⟩ := h
    obtain ⟨o, ho, hc, n, hd⟩ := id hT
    have ff := sub_enumerate
    wp_walk using wpAny_loadPart' ho
    refine wpAny_stack_any fun st => wpAny_pure ?_
    split
    · rename_i c _ _ _ _ _
      cases (c == Value.type "enumerate")
      · wp_walk using wpAny_loadPart' ho, wpAny_pyIter_tuple hT
        exact ⟨_, rfl, h⟩
      · wp_walk using wpAny_loadPart' ho, wpAny_pyIter_tuple hT
        exact ⟨_, rfl, h⟩
    · wp_walk using wpAny_loadPart' ho, wpAny_pyIter_tuple hT
      exact ⟨_, rfl, h⟩
end PySem
namespace Kv
open PySem PySem.Spec PyProof.Rows L2 Kf
/-- the tuple at a, each item in a new pair -/
def IteT (K : PySem.W.Frag) (a : Addr) : It where
  go := fun i H => ∃ (xs : List V) (x : V), SqT K H a xs ∧ xs[i]? = some x
  yld := fun i H v G => ∃ T x, v = .ref T ∧ H T = none ∧ G = upd H T (.tup [.int (i : Nat), x]) ∧ ∀ xs, SqT K H a xs → xs[i]? = some x
  stop := fun i H => ∃ xs : List V, SqT K H a xs ∧ xs.length ≤ i
theorem turn_enumT {P : Program} {w : World} {K : PySem.W.Frag} {elts : List Expr} {kk : Nat} {tpos : Pos} (a e it : Addr) :
    Turn P w K (.Tuple elts kk tpos) (IteT K a) [e, it] e (fun i h => (∃ old, IsEnum h e it ((i : Nat) : Int) old) ∧ h.IsTupleIter it a i ∧ e ≠ it) where
  mem := by simp
  obj := by
    intro i h st b hb
    obtain ⟨⟨old, he⟩, ⟨o, ho, hc, hd⟩, _⟩ := st
    rcases (by simpa using hb : b = e ∨ b = it) with rfl | rfl
    · exact ⟨_, he, fun v q => nomatch q⟩
    · exact ⟨o, ho, fun v q => by rw [hd] at q; cases q⟩
  keep := fun i h h' st k => let ⟨⟨old, he⟩, hi, hne⟩ := st; ⟨⟨old, k e (by simp) _ he⟩, hi.at fun o q => k it (by simp) o q, hne⟩
  item := by
    intro X hP hw hK hc i pins s σ H E I hf st hg
    subst hP hw hK
    obtain ⟨⟨old, he⟩, hit, hne⟩ := st
    obtain ⟨xs, x, hq, hx⟩ := hg
    obtain ⟨its, rv, tp, hz⟩ := I.tuple hq
    obtain ⟨u, hu, ru⟩ := rv.get hx
    obtain ⟨oi, hoi, hci, hdi⟩ := id hit
    obtain ⟨ot, hot, hct, nt, hdt⟩ := id tp
    have lt : i < its.length := (List.getElem?_eq_some_iff.mp hu).1
    have ai : a ≠ it := fun z => by
      rw [z, hoi] at hot
      cases hot
      rw [hci] at hct
      exact absurd (Value.type.inj hct) (by decide)
    have ea : e ≠ a := fun z => by
      rw [← z, he] at hot
      cases hot
      exact absurd (Value.type.inj hct) (by decide)
    have hel : e < s.heap.objs.size := Heap.lt_size he
    have hil : it < s.heap.objs.size := Heap.lt_size hoi
    refine wpAny_pyNext_enum_itemD (Draws.tuple (A := X.A.in1) (I.ok.hd hc) it a ai its.toArray) he ⟨hit, ⟨ot, hot, hct, nt, hdt⟩⟩ (by simpa using lt) hne (by simp [hne, ea]) ?_
    intro u' h1 tk hu' ho hst hT hsz hk
    have eu : u' = u := by
      have z : its[i]? = some u' := by simpa using hu'
      rw [hu] at z
      exact (Option.some.inj z).symm
    subst eu
    refine ⟨_, rfl, wpAny_letOwnedTupleGo_enum (s := { s with heap := h1, toks := tk + 1 }) ho ?_⟩
    intro h2 he' sb
    have hT2 : h2.get? s.heap.objs.size = some { cls := .type "tuple", data := .seq #[.int i tk, u'] } := (sb.2 _ (Nat.ne_of_gt hel)).trans hT
    have new : ObjOk X.prog X.w (upd H s.heap.objs.size (.tup [.int (i : Nat), x])) h2 s.heap.objs.size (.tup [.int (i : Nat), x]) := ⟨by show 2 ≤ sizeLine; decide, [.int i tk, u'], .cons ⟨_, rfl⟩ (.cons ru .nil), ⟨_, hT2, rfl, _, rfl⟩⟩
    have J : Inv X pins σ (upd H s.heap.objs.size (.tup [.int (i : Nat), x])) { s with heap := h2, toks := tk + 1 } :=
      I.turnedNew (ch := [e, it]) (fun b ob hb q => (sb.2 b (fun z => hb (by simp [z]))).trans (hk b ob (fun z => hb (by simp [z])) (fun z => hb (by simp [z])) q)) hf (Nat.le_refl _) new
    refine ⟨.ref s.heap.objs.size, _, J, rfl, ⟨_, x, rfl, I.hok.fresh (Nat.le_refl _), rfl, fun ys hy => by rw [I.tuple_inj hy hq]; exact hx⟩, ⟨⟨u', ?_⟩, hst.1.at fun o q => (sb.2 it (Ne.symm hne)).trans q, hne⟩, fun b hb => ?_⟩
    · rw [show ((i + 1 : Nat) : Int) = (i : Int) + 1 by omega]
      exact he'
    · have lb : b < s.heap.objs.size := by
        rcases (by simpa using hb : b = e ∨ b = it) with rfl | rfl
        · exact hel
        · exact hil
      rw [upd_ne (Nat.ne_of_lt lb)]
      exact (hf b hb).1
  done := by
    intro X hP hw hK hc i pins s σ H E I hf st hg
    subst hP hw hK
    obtain ⟨⟨old, he⟩, hit, hne⟩ := st
    obtain ⟨xs, hq, hx⟩ := hg
    obtain ⟨its, rv, tp, hz⟩ := I.tuple hq
    obtain ⟨oi, hoi, hci, hdi⟩ := id hit
    obtain ⟨ot, hot, hct, nt, hdt⟩ := id tp
    have ai : a ≠ it := fun z => by
      rw [z, hoi] at hot
      cases hot
      rw [hci] at hct
      exact absurd (Value.type.inj hct) (by decide)
    obtain ⟨f0, f1, f2, f3, f4, f5⟩ := hf it (by simp)
    have hl := rv.length
    have none : its.toArray[i]? = none := by
      rw [List.getElem?_toArray]
      exact List.getElem?_eq_none (by omega)
    have D : Draws X.prog X.w X.A.in1 it [it, a] i (fun _ _ => True) (fun j h => j = i ∧ h.IsTupleIter it a i ∧ h.IsTuple a its.toArray) :=
      { live := fun _ _ st => let ⟨o, ho, _⟩ := st.2.1; ⟨o, ho⟩
        frame := fun _ _ _ st hk => ⟨st.1, st.2.1.at fun o e => hk it (by simp) o e, st.2.2.at fun o e => hk a (by simp) o e⟩
        item := fun j s Q E hj st _ => absurd st.1 (Nat.ne_of_lt hj)
        done := fun s Q E st hE => wpAny_nextOf_tuple_end (I.ok.hd hc) st.2.1 st.2.2 none hE }
    exact wpAny_pyNext_enum_endD D he ⟨rfl, hit, ⟨ot, hot, hct, nt, hdt⟩⟩ fun h1 eb => ⟨rfl, I.turned (t' := s.toks) (fun b o hb q => eb b o hb q) f0 f1 f3 f4 f5⟩
  self := fun A i s Q E st h => let ⟨⟨_, he⟩, _⟩ := st; wpAny_pyIter_enum he h
def iEnumT (K : PySem.W.Frag) (ta : TA) : TI := fun σ H R => ta σ H fun vs G => ∃ (a : Addr) (xs : List V), vs = [.ref a] ∧ SqT K G a xs ∧ R (IteT K a) G
theorem pi_enumT {X : Cx} {e : Expr} {ta : TA} {p pos tpos : Pos} {elts : List Expr} {kk : Nat} (hg : Gl X "enumerate") (hm : X.mg "enumerate" = none) (ha : PA X [e] ta) (hs : starEach [e] X.env = [(false, eval e X.env)] := by rfl) :
    PI X (.Tuple elts kk tpos) (.Call (.Name "enumerate" p) [e] [] pos) (iEnumT X.K ta) := by
  constructor
  intro pins s σ H R I h
  refine Call_ (ld_blt I hg hm boot_enumerate (PyProof.Rows.callWith_type1 (thn (ha.run pos pins s σ H _ I h) ?_) hs rfl))
  rintro us s1 ⟨vs, G, J, r, a, xs, rfl, hq, q⟩
  rw [Vals.ref1 r]
  obtain ⟨its, rv, tp, hz⟩ := J.tuple hq
  have IT : s1.heap.IsTuple a its.toArray := let ⟨o, ho, hc, n, hd⟩ := tp; ⟨o, ho, hc, n, hd⟩
  have sz1 : (s1.heap.push { cls := .type "tuple_iterator", data := .fields #[.ref a, .int 0 0] }).objs.size = s1.heap.objs.size + 1 := Heap.size_push ..
  refine callType_new F.called_enumerate (by decide) (F.typeCall_enumerate_1 _) (F.newCall_enumerate_1 _) (fun obj => F.args_object_init_2 obj _) F.entry_enumerate_new (enumT_new a its.toArray) ⟨IT, ?_⟩
  show _ ∧ _
  rw [sz1]
  have he := Heap.get?_push_size (s1.heap.push { cls := .type "tuple_iterator", data := .fields #[.ref a, .int 0 0] }) (o := { cls := .type "enumerate", data := .fields #[.none, .bool false, .ref s1.heap.objs.size, rawInt 0, .none, .none] }) rfl
  rw [sz1] at he
  refine ⟨⟨_, he, rfl⟩, wpAny_pyIter_enum he ?_⟩
  have J2 := J.kept (h' := (s1.heap.push { cls := .type "tuple_iterator", data := .fields #[.ref a, .int 0 0] }).push { cls := .type "enumerate", data := .fields #[.none, .bool false, .ref s1.heap.objs.size, rawInt 0, .none, .none] }) (t' := s1.toks) (fun b o x => Heap.get?_push_of_some _ (Heap.get?_push_of_some _ x))
  refine ⟨s1.heap.objs.size + 1, [s1.heap.objs.size + 1, s1.heap.objs.size], _, _, G, rfl, J2, turn_enumT a (s1.heap.objs.size + 1) s1.heap.objs.size, ⟨⟨.none, he⟩, ⟨_, Heap.get?_push_of_some _ (Heap.get?_push_size _ rfl), rfl, rfl⟩, Nat.succ_ne_self _⟩, fun b hb => ?_, q⟩
  have le : s1.heap.objs.size ≤ b := by
    rcases (by simpa using hb : b = s1.heap.objs.size + 1 ∨ b = s1.heap.objs.size) with rfl | rfl
    · exact Nat.le_add_right _ _
    · exact Nat.le_refl _
  exact J.fpOk le (J.hok.fresh le)
theorem walk_enumT {K : PySem.W.Frag} {a : Addr} {xs : List V} : Walk (IteT K a) xs.length (fun H => SqT K H a xs) (YPair (fun i => some (.int (i : Nat))) (fun i => xs[i]?)) := by
  refine ⟨fun i _ hi q => ⟨xs, xs[i], q, by simp [hi]⟩, fun _ q => ⟨xs, q, Nat.le_refl _⟩, fun i H v G _ q y => ?_⟩
  obtain ⟨T, x, h1, h2, h3, h4⟩ := y
  exact ⟨T, .int (i : Nat), x, h1, h2, h3, rfl, h4 xs q⟩
end Kv

/-! a thing of anything == a text -/
namespace PySem.SeqAt
theorem sub_str_dic : isSubtype (.type "str") (.type "dict") = pure false := by kernel_rfl
theorem dic_declines (l : Addr) (es : Array DictEntry) (n : Nat) (dd : Option Addr) (sl : Array (Option Value)) (b : Str) (u : Tok) :
    Meets (Builtin.«dict.__eq__» ⟨[.ref l, .str b u], []⟩) (fun _ R s => s.heap.get? l = some { cls := .type "dict", dict := dd, data := .dict es n, slots := sl } ∧ R (.ok (.ret .notImplemented)) s) :=
  .of_wp fun prog w A R s h => by
    obtain ⟨hp, g, d, tk, os⟩ := s
    obtain ⟨hl, h⟩ := h
    have f1 := sub_str_dic
    wp_walk using AutoSeq1.wpAny_loadPart' hl
    exact ⟨_, rfl, h⟩
theorem str_declines_dic (b : Str) (u : Tok) (l : Addr) (es : Array DictEntry) (n : Nat) (dd : Option Addr) (sl : Array (Option Value)) :
    Meets (Builtin.«str.__eq__» ⟨[.str b u, .ref l], []⟩) (fun _ R s => s.heap.get? l = some { cls := .type "dict", dict := dd, data := .dict es n, slots := sl } ∧ R (.ok (.ret .notImplemented)) s) :=
  .of_wp fun prog w A R s h => by
    obtain ⟨hp, g, d, tk, os⟩ := s
    obtain ⟨hl, h⟩ := h
    wp_walk using AutoSeq1.wpAny_loadPart' hl, wpAny_load hl
    exact ⟨_, rfl, h⟩
theorem dic_str {A : Around} {s : Shared} {l : Addr} {o : Obj} {es : Array DictEntry} {n : Nat} (b : Str) (u : Tok) (ho : s.heap.get? l = some o) (hc : o.cls = .type "dict") (hd : o.data = .dict es n) (hu : A.units < cLine) : RcAt A s (.ref l) (.str b u) false := fun prog w E Q h => by
  obtain ⟨cls, dd, data, sl⟩ := o
  simp only at hc hd
  subst hc hd
  exact rc_eq_decline_or (k := false) ⟨_, ho, rfl⟩ (typeIs_str s b u) (by decide) sub_str_dic F.slot_dict_eq F.slot_str_eq_refl
    (fun _ hq => call_meets F.slot_dict_eq ⟨_, ho, rfl⟩ F.entry_dict_eq (F.args_dict_eq_2 _ _) (dic_declines l es n dd sl b u) ⟨ho, hq⟩)
    (fun _ hq => call_meets F.slot_str_eq_refl (typeIs_str s b u) F.entry_str_eq (F.args_str_eq_2 _ _) (str_declines_dic b u l es n dd sl) ⟨ho, hq⟩)
    (fun _ hq => wpAny_of_eq (rfl : isSame (.ref l) (.str b u) = pure false) hq) (.inr hu) h
end PySem.SeqAt
namespace Kv
open PySem PySem.Spec PyProof.Rows L2 Kf
def Dt.isS (x : Dt) (z : Str) : Bool := match x with
  | .str y => decide (y = z)
  | _ => false
def rEqUS : R2 := fun x y H Q => ∃ (d : Dt) (z : Str), Dd Any H d x ∧ y = .str z ∧ Q (.bl (d.isS z)) H
theorem op_eqUS {X : Cx} (hu : X.A.units + 64 < cLine) : OpR X (compareOp .Eq) rEqUS := by
  intro pins s σ H x y v u Q I rx ry h
  obtain ⟨d, z, hd, rfl, q⟩ := h
  obtain ⟨t2, rfl⟩ := ry
  have no : d.isS z = false → EP X pins σ Q (.bool false) s := fun e => by
    rw [e] at q
    exact ⟨.bl false, H, I, rfl, q⟩
  cases hd with
  | non =>
    cases rx
    exact SeqAt.RcAt.none_str z t2 _ _ _ _ (no rfl)
  | bl b =>
    cases rx
    exact SeqAt.RcAt.bool_str b z t2 _ _ _ _ (no rfl)
  | int i =>
    obtain ⟨t1, rfl⟩ := rx
    exact SeqAt.RcAt.int_str i t1 z t2 _ _ _ _ (no rfl)
  | str y =>
    obtain ⟨t1, rfl⟩ := rx
    refine SeqAt.RcAt.str_str y t1 z t2 _ _ _ _ ?_
    have e : (y == z) = (Dt.str y).isS z := by
      show (y == z) = decide (y = z)
      by_cases c : y = z
      · subst c
        simp
      · rw [decide_eq_false c]
        exact beq_eq_false_iff_ne.mpr c
    rw [e]
    exact ⟨.bl _, H, I, rfl, q⟩
  | tup h t =>
    cases rx
    obtain ⟨its, rv, ⟨o, ho, hc, n, hd⟩, _⟩ := I.tuple (TupA.sq (K := X.K) h)
    exact SeqAt.RcAt.tuple_str z t2 ⟨o, ho, hc, n, hd⟩ (by omega) _ _ _ _ (no rfl)
  | lst _ h t =>
    cases rx
    obtain ⟨its, rv, ⟨o, n, ho, hc, _, hd⟩, _⟩ := I.list (SqL.of h)
    exact SeqAt.RcAt.list_str z t2 ⟨o, ho, hc, n, hd⟩ (by omega) _ _ _ _ (no rfl)
  | dct _ h =>
    cases rx
    obtain ⟨o, es, n, ho, hc, hd, _, _, _⟩ := dct_obj I h
    exact SeqAt.dic_str z t2 ho hc hd (by omega) _ _ _ _ (no rfl)
end Kv

/-! numbers and truths reckoned with; a thing is a truth; None among things -/
namespace Kv
open PySem PySem.Spec PyProof.Rows L2 Kf
/-- a number, or a truth as a number -/
def nu : V → Option Int
  | .int i => some i
  | .bl b => some (if b = true then (1 : Int) else 0)
  | _ => none
section
variable {X : Cx}
theorem op_addU : OpR X (binaryOp .Add) (fun x y H Q => ∃ i j, nu x = some i ∧ y = .int j ∧ Q (.int (i + j)) H) := by
  intro pins s σ H x y v u Q I rx ry h
  obtain ⟨i, j, hx, rfl, q⟩ := h
  obtain ⟨t2, rfl⟩ := ry
  cases x with
  | int a =>
    obtain ⟨t1, rfl⟩ := rx
    cases hx
    exact (op_add (X := X)) pins s σ H (.int i) (.int j) _ _ Q I ⟨t1, rfl⟩ ⟨t2, rfl⟩ ⟨i, j, rfl, rfl, q⟩
  | bl b =>
    cases rx
    cases hx
    exact PySem.IntBool.add_bool_int ⟨.int _, H, I.tok _, ⟨_, rfl⟩, q⟩
  | _ => cases hx
theorem op_subU : OpR X (binaryOp .Sub) (fun x y H Q => ∃ i j, nu x = some i ∧ y = .int j ∧ Q (.int (i - j)) H) := by
  intro pins s σ H x y v u Q I rx ry h
  obtain ⟨i, j, hx, rfl, q⟩ := h
  obtain ⟨t2, rfl⟩ := ry
  cases x with
  | int a =>
    obtain ⟨t1, rfl⟩ := rx
    cases hx
    exact (op_sub (X := X)) pins s σ H (.int i) (.int j) _ _ Q I ⟨t1, rfl⟩ ⟨t2, rfl⟩ ⟨i, j, rfl, rfl, q⟩
  | bl b =>
    cases rx
    cases hx
    exact PySem.IntBool.sub_bool_int ⟨.int _, H, I.tok _, ⟨_, rfl⟩, q⟩
  | _ => cases hx
theorem op_subV : OpR X (binaryOp .Sub) (fun x y H Q => ∃ i j, x = .int i ∧ nu y = some j ∧ Q (.int (i - j)) H) := by
  intro pins s σ H x y v u Q I rx ry h
  obtain ⟨i, j, rfl, hy, q⟩ := h
  obtain ⟨t1, rfl⟩ := rx
  cases y with
  | int a =>
    obtain ⟨t2, rfl⟩ := ry
    cases hy
    exact (op_sub (X := X)) pins s σ H (.int i) (.int j) _ _ Q I ⟨t1, rfl⟩ ⟨t2, rfl⟩ ⟨i, j, rfl, rfl, q⟩
  | bl b =>
    cases ry
    cases hy
    exact PySem.IntBool.sub_int_bool ⟨.int _, H, I.tok _, ⟨_, rfl⟩, q⟩
  | _ => cases hy
theorem op_eqU1 : OpR X (compareOp .Eq) (fun x y H Q => ∃ i j, nu x = some i ∧ y = .int j ∧ ∀ b : Bool, Q (.bl b) H) := by
  intro pins s σ H x y v u Q I rx ry h
  obtain ⟨i, j, hx, rfl, q⟩ := h
  obtain ⟨t2, rfl⟩ := ry
  cases x with
  | int a =>
    obtain ⟨t1, rfl⟩ := rx
    exact SeqAt.RcAt.int_int a t1 j t2 _ _ _ _ ⟨.bl _, H, I, rfl, q _⟩
  | bl b =>
    cases rx
    exact SeqAt.RcAt.bool_int b j t2 _ _ _ _ ⟨.bl _, H, I, rfl, q _⟩
  | _ => cases hx
theorem call_strU : CallR X (.type "str") (fun xs H Q => ∃ x i, xs = [x] ∧ nu x = some i ∧ i.natAbs < 10 ^ 45 ∧ ∀ z : Str, z.length ≤ 50 → (∀ c ∈ z.cps.toList, c < 16 ^ 8) → Q (.str z) H) := by
  intro pins s σ H xs us Q I r h
  obtain ⟨x, i, rfl, hx, hi, q⟩ := h
  obtain ⟨u, rfl, rx⟩ := vals1 r
  cases x with
  | int a =>
    obtain ⟨t, rfl⟩ := rx
    cases hx
    have hl : i.natAbs.log2 < 1920 := by
      by_cases z : i.natAbs = 0
      · rw [z]
        decide
      · have : i.natAbs.log2 < 150 := (Nat.log2_lt z).mpr (Nat.lt_of_lt_of_le hi (by decide))
        omega
    refine PySem.P.str_of_int hl ⟨.str _, H, I.tok _, ⟨_, rfl⟩, q _ ?_ ?_⟩
    · have z := int_text_length_le10 (a := i) (k := 45) (by decide) hi
      have e : (Str.ofString (toString i)).length = (toString i).length := PySem.ofString_length _
      show (Str.ofString (toString i)).length ≤ 50
      rw [e]
      omega
    · intro c hc
      have hc : c ∈ (Str.ofString (toString i)).cps.toList := hc
      rw [Str.ofString_eq_toList] at hc
      simp only [List.mem_map] at hc
      obtain ⟨ch, _, rfl⟩ := hc
      exact ch.val.toNat_lt
  | bl b =>
    cases rx
    refine PySem.P.str_of_bool ⟨.str _, H, I.tok _, ⟨_, rfl⟩, q _ ?_ ?_⟩
    · cases b <;> decide +kernel
    · cases b <;> decide +kernel
  | _ => cases hx
/-- a thing is this truth -/
def Dt.isB (x : Dt) (b : Bool) : Bool := match x with
  | .bl c => decide (c = b)
  | _ => false
theorem op_isU : OpR X (compareOp .Is) (fun x y H Q => ∃ (d : Dt) (b : Bool), Dd Any H d x ∧ y = .bl b ∧ Q (.bl (d.isB b)) H) := by
  intro pins s σ H x y v u Q I rx ry h
  obtain ⟨d, b, hd, rfl, q⟩ := h
  cases ry
  have no : d.isB b = false → EP X pins σ Q (.bool false) s := fun e => by
    rw [e] at q
    exact ⟨.bl false, H, I, rfl, q⟩
  cases hd with
  | non =>
    cases rx
    exact wpAny_is_other rfl (fun z => by cases z) (no rfl)
  | bl c =>
    cases rx
    by_cases e : c = b
    · subst e
      exact wpAny_is_self rfl ⟨.bl true, H, I, rfl, by simpa [Dt.isB] using q⟩
    · exact wpAny_is_other rfl (fun z => e (Value.bool.inj z)) (no (by simp [Dt.isB, e]))
  | int i =>
    obtain ⟨t1, rfl⟩ := rx
    exact wpAny_is_other rfl (fun z => by cases z) (no rfl)
  | str y =>
    obtain ⟨t1, rfl⟩ := rx
    exact wpAny_is_other rfl (fun z => by cases z) (no rfl)
  | tup h t =>
    cases rx
    exact wpAny_is_other rfl (fun z => by cases z) (no rfl)
  | lst _ h t =>
    cases rx
    exact wpAny_is_other rfl (fun z => by cases z) (no rfl)
  | dct _ h =>
    cases rx
    exact wpAny_is_other rfl (fun z => by cases z) (no rfl)
/-- None, a number, a truth, a tuple -/
def Plainy (H : Hp) (z : V) : Prop := z = .non ∨ (∃ i, z = .int i) ∨ (∃ b, z = .bl b) ∨ ∃ a xs, z = .ref a ∧ H a = some (.tup xs)
theorem isNone_pl {z : V} {u : Value} {H : Hp} (r : RelV z u) (f : Plainy H z) : PySem.Numpy.isNone u = isNon z := by
  rcases f with rfl | ⟨i, rfl⟩ | ⟨b, rfl⟩ | ⟨a, xs, rfl, _⟩
  · cases r; rfl
  · obtain ⟨t, rfl⟩ := r; rfl
  · cases r; rfl
  · cases r; rfl
theorem any_pl {H : Hp} : ∀ {xs : List V} {us : List Value}, Vals xs us → (∀ z ∈ xs, Plainy H z) → us.any PySem.Numpy.isNone = xs.any isNon
  | _, _, .nil, _ => rfl
  | y :: xs, u :: us, .cons r t, f => by
    rw [List.any_cons, List.any_cons, isNone_pl r (f y (List.mem_cons_self ..)), any_pl t fun z hz => f z (List.mem_cons_of_mem _ hz)]
theorem pl_eq {A : Around} {pins : List (Addr × Obj)} {σ : L2.St} {H : Hp} {s : Shared} (I : Inv X pins σ H s) (hu : A.units < cLine) {z : V} {u : Value} (r : RelV z u) (f : Plainy H z) : SeqAt.EqAt A s u .none (PySem.Numpy.isNone u) := by
  rcases f with rfl | ⟨i, rfl⟩ | ⟨b, rfl⟩ | ⟨a, xs, rfl, h⟩
  · cases r
    exact SeqAt.EqAt.same _
  · obtain ⟨t, rfl⟩ := r
    exact SeqAt.EqAt.int_none i t
  · cases r
    exact SeqAt.EqAt.bool_none b
  · cases r
    obtain ⟨its, rv, ⟨o, ho, hc, n, hd⟩, _⟩ := I.tuple (SqT.of h)
    exact SeqAt.EqAt.tuple_none ⟨o, ho, hc, n, hd⟩ hu
theorem mem_pl {A : Around} {pins : List (Addr × Obj)} {σ : L2.St} {H : Hp} {s : Shared} (I : Inv X pins σ H s) (hu : A.units < cLine) : ∀ {xs : List V} {us : List Value}, Vals xs us → (∀ z ∈ xs, Plainy H z) → ∀ u ∈ us, SeqAt.EqAt A s u .none (PySem.Numpy.isNone u)
  | _, _, .nil, _ => fun u hu' => by cases hu'
  | y :: xs, u :: us, .cons r t, f => fun u' hu' => by
    rcases List.mem_cons.mp hu' with e | hu'
    · subst e
      exact pl_eq I hu r (f y (List.mem_cons_self ..))
    · exact mem_pl I hu t (fun z hz => f z (List.mem_cons_of_mem _ hz)) u' hu'
def rNoneInU (K : PySem.W.Frag) : R2 := fun x y H Q => ∃ p xs, x = .non ∧ y = .ref p ∧ SqL K H p xs ∧ (∀ z ∈ xs, Plainy H z) ∧ Q (.bl (xs.any isNon)) H
theorem op_noneInU (hu : X.A.units + 64 < cLine) : OpR X (compareOp .In) (rNoneInU X.K) := by
  intro pins s σ H x y v u Q I rx ry h
  obtain ⟨p, xs, rfl, rfl, hq, f, q⟩ := h
  cases rx
  cases ry
  obtain ⟨its, rv, hl, _⟩ := I.list hq
  have hu1 : X.A.in1.units < cLine := by show X.A.units + 1 < cLine; omega
  refine SeqAt.in_listAt PySem.Numpy.isNone hl.isList (fun z hz => mem_pl I hu1 rv f z (by simpa using hz)) ⟨.bl _, H, I, rfl, ?_⟩
  rw [show its.toArray.any PySem.Numpy.isNone = its.any PySem.Numpy.isNone by simp, any_pl rv f]
  exact q
end
end Kv

/-! things of anything: how great they are -/
namespace Kv
open PySem PySem.Spec PyProof.Rows L2 Kf
mutual
def Dt.sz : Dt → Nat
  | .tup xs => 1 + Dt.szs xs
  | .lst xs => 1 + Dt.szs xs
  | .dct kvs => 1 + 3 * kvs.length
  | _ => 1
def Dt.szs : List Dt → Nat
  | [] => 0
  | x :: xs => x.sz + Dt.szs xs
end
theorem sz_mem : ∀ {xs : List Dt} {x : Dt}, x ∈ xs → x.sz ≤ Dt.szs xs
  | y :: ys, x, h => by
    rcases List.mem_cons.mp h with rfl | h
    · exact Nat.le_add_right _ _
    · exact Nat.le_trans (sz_mem h) (Nat.le_add_left _ _)
theorem szs_app : ∀ (xs ys : List Dt), Dt.szs (xs ++ ys) = Dt.szs xs + Dt.szs ys
  | [], ys => by show _ = 0 + _; rw [Nat.zero_add]; rfl
  | x :: xs, ys => by
    show x.sz + Dt.szs (xs ++ ys) = x.sz + Dt.szs xs + Dt.szs ys
    rw [szs_app xs ys, Nat.add_assoc]
mutual
def Dt.dp : Dt → Nat
  | .tup xs => Dt.dps xs + 1
  | .lst xs => Dt.dps xs + 1
  | .dct _ => 1
  | _ => 0
def Dt.dps : List Dt → Nat
  | [] => 0
  | x :: xs => max x.dp (Dt.dps xs)
end
def kwt : List (Str × Int) → Nat
  | [] => 3
  | p :: r => 10 * p.1.length + 60 + kwt r
mutual
def Dt.wt : Dt → Nat
  | .non => 4
  | .bl _ => 5
  | .int _ => 52
  | .str x => 10 * x.length + 2
  | .tup xs => Dt.wts xs + 3
  | .lst xs => Dt.wts xs + 3
  | .dct kvs => kwt kvs
def Dt.wts : List Dt → Nat
  | [] => 0
  | x :: xs => x.wt + 2 + Dt.wts xs
end
mutual
def Dt.fine (B : Nat) : Dt → Prop
  | .int i => i.natAbs < B
  | .str x => ∀ c ∈ x.cps.toList, c < 16 ^ 8
  | .tup xs => Dt.fines B xs
  | .lst xs => Dt.fines B xs
  | .dct kvs => ∀ p ∈ kvs, (∀ c ∈ p.1.cps.toList, c < 16 ^ 8) ∧ p.2.natAbs < B
  | _ => True
def Dt.fines (B : Nat) : List Dt → Prop
  | [] => True
  | x :: xs => x.fine B ∧ Dt.fines B xs
end
theorem int_shw {B : Nat} (hB : B ≤ 10 ^ 45) (i : Int) (h : i.natAbs < B) : (PyData.int i).showable = true ∧ (PyData.int i).depth = 0 ∧ (PyData.int i).shown.length ≤ 52 := by
  have h : i.natAbs < 10 ^ 45 := Nat.lt_of_lt_of_le h hB
  refine ⟨?_, by simp [PyData.depth], ?_⟩
  · simp only [PyData.showable]
    refine decide_eq_true ?_
    by_cases z : i.natAbs = 0
    · rw [z]
      decide
    · have : i.natAbs.log2 < 150 := (Nat.log2_lt z).mpr (Nat.lt_of_lt_of_le h (by decide))
      omega
  · have z := int_text_length_le10 (a := i) (k := 45) (by decide) h
    simp only [PyData.shown]
    have e : (Str.ofString (toString i)).length = (toString i).length := PySem.ofString_length _
    rw [e]
    omega
theorem dct_shw {B : Nat} (hB : B ≤ 10 ^ 45) : ∀ (kvs : List (Str × Int)), (∀ p ∈ kvs, (∀ c ∈ p.1.cps.toList, c < 16 ^ 8) ∧ p.2.natAbs < B) → PyData.showableKv (dkp kvs) = true ∧ PyData.depthKv (dkp kvs) = 0 ∧ ((PyData.shownKv (dkp kvs)).map (·.length)).sum + 2 * (PyData.shownKv (dkp kvs)).length + 3 ≤ kwt kvs
  | [], _ => ⟨by simp [dkp, PyData.showableKv], by simp [dkp, PyData.depthKv], by simp [dkp, PyData.shownKv, kwt]⟩
  | (x, i) :: kvs, h => by
    obtain ⟨a, b, c⟩ := dct_shw hB kvs fun p hp => h p (List.mem_cons_of_mem _ hp)
    obtain ⟨f1, f2⟩ := h (x, i) List.mem_cons_self
    obtain ⟨i1, i2, i3⟩ := int_shw hB i f2
    have e : dkp ((x, i) :: kvs) = (.str x, .int i) :: dkp kvs := rfl
    rw [e]
    refine ⟨by simp only [PyData.showableKv, a, i1]; simp [PyData.showable], by simp only [PyData.depthKv, b, i2]; simp [PyData.depth], ?_⟩
    have z : (PyData.str x).shown.length ≤ 10 * x.length + 2 := by simp only [PyData.shown]; exact PySem.StrLaws.reprText_len x f1
    have e2 : ((": " : Str)).length = 2 := by decide +kernel
    simp only [PyData.shownKv, List.map_cons, List.sum_cons, List.length_cons, kwt, strLen_append, e2]
    omega
mutual
theorem Dt.shw {B : Nat} (hB : B ≤ 10 ^ 45) : ∀ (x : Dt), x.fine B → x.toP.showable = true ∧ x.toP.depth = x.dp ∧ x.toP.shown.length ≤ x.wt
  | .non, _ => ⟨by simp [Dt.toP, PyData.showable], by simp [Dt.toP, PyData.depth, Dt.dp], by simp only [Dt.toP, PyData.shown, Dt.wt]; decide⟩
  | .bl b, _ => ⟨by simp [Dt.toP, PyData.showable], by simp [Dt.toP, PyData.depth, Dt.dp], by cases b <;> (simp only [Dt.toP, PyData.shown, Dt.wt]; decide)⟩
  | .int i, h => by
    have h : i.natAbs < B := by simpa only [Dt.fine] using h
    have h : i.natAbs < 10 ^ 45 := Nat.lt_of_lt_of_le h hB
    refine ⟨?_, by simp [Dt.toP, PyData.depth, Dt.dp], ?_⟩
    · simp only [Dt.toP, PyData.showable]
      refine decide_eq_true ?_
      by_cases z : i.natAbs = 0
      · rw [z]
        decide
      · have : i.natAbs.log2 < 150 := (Nat.log2_lt z).mpr (Nat.lt_of_lt_of_le h (by decide))
        omega
    · have z := int_text_length_le10 (a := i) (k := 45) (by decide) h
      simp only [Dt.toP, PyData.shown, Dt.wt]
      have e : (Str.ofString (toString i)).length = (toString i).length := PySem.ofString_length _
      rw [e]
      omega
  | .str x, h => by
    have h : ∀ c ∈ x.cps.toList, c < 16 ^ 8 := by simpa only [Dt.fine] using h
    exact ⟨by simp [Dt.toP, PyData.showable], by simp [Dt.toP, PyData.depth, Dt.dp], by simp only [Dt.toP, PyData.shown, Dt.wt]; exact PySem.StrLaws.reprText_len x h⟩
  | .tup xs, h => by
    obtain ⟨a, b, c⟩ := Dt.shws hB xs (by simpa only [Dt.fine] using h)
    refine ⟨by simpa only [Dt.toP, PyData.showable] using a, by simp only [Dt.toP, PyData.depth, Dt.dp]; omega, ?_⟩
    simp only [Dt.toP, PyData.shown, Dt.wt]
    have := tupleText_len_le (PyData.shownAll (Dt.toPs xs))
    omega
  | .lst xs, h => by
    obtain ⟨a, b, c⟩ := Dt.shws hB xs (by simpa only [Dt.fine] using h)
    refine ⟨by simpa only [Dt.toP, PyData.showable] using a, by simp only [Dt.toP, PyData.depth, Dt.dp]; omega, ?_⟩
    simp only [Dt.toP, PyData.shown, Dt.wt]
    have := listText_len_le (PyData.shownAll (Dt.toPs xs))
    omega
  | .dct kvs, h => by
    obtain ⟨a, b, c⟩ := dct_shw hB kvs (by simpa only [Dt.fine] using h)
    refine ⟨by simp only [Dt.toP, PyData.showable, a], by simp only [Dt.toP, PyData.depth, b, Dt.dp], ?_⟩
    simp only [Dt.toP, PyData.shown, Dt.wt]
    have := dictText_len_le (PyData.shownKv (dkp kvs))
    omega
theorem Dt.shws {B : Nat} (hB : B ≤ 10 ^ 45) : ∀ (xs : List Dt), Dt.fines B xs → PyData.showableAll (Dt.toPs xs) = true ∧ PyData.depthAll (Dt.toPs xs) = Dt.dps xs ∧ ((PyData.shownAll (Dt.toPs xs)).map (·.length)).sum + 2 * (PyData.shownAll (Dt.toPs xs)).length ≤ Dt.wts xs
  | [], _ => ⟨by simp [Dt.toPs, PyData.showableAll], by simp [Dt.toPs, PyData.depthAll, Dt.dps], by simp [Dt.toPs, PyData.shownAll]⟩
  | x :: xs, h => by
    have h : x.fine B ∧ Dt.fines B xs := by simpa only [Dt.fines] using h
    obtain ⟨a, b, c⟩ := x.shw hB h.1
    obtain ⟨a', b', c'⟩ := Dt.shws hB xs h.2
    refine ⟨by simp [Dt.toPs, PyData.showableAll, a, a'], by simp [Dt.toPs, PyData.depthAll, Dt.dps, b, b'], ?_⟩
    simp only [Dt.toPs, PyData.shownAll, List.map_cons, List.sum_cons, List.length_cons, Dt.wts]
    omega
end
/-- it is fine, and within the bounds -/
structure Fine (B n W : Nat) (x : Dt) : Prop where
  ok : x.fine B
  dp : x.dp ≤ n
  wt : x.wt ≤ W
theorem Fine.shw {B n W : Nat} {x : Dt} (h : Fine B n W x) (hB : B ≤ 10 ^ 45) (hW : W ≤ sizeLine) : Shw n x := by
  obtain ⟨a, b, c⟩ := x.shw hB h.ok
  exact ⟨a, by rw [b]; exact h.dp, Nat.le_trans c (Nat.le_trans h.wt hW)⟩
mutual
theorem Dt.fine_up {B C : Nat} (h : B ≤ C) : ∀ {x : Dt}, x.fine B → x.fine C
  | .non, _ => by simp only [Dt.fine]
  | .bl _, _ => by simp only [Dt.fine]
  | .int i, f => by
    simp only [Dt.fine] at f ⊢
    omega
  | .str x, f => by
    simp only [Dt.fine] at f ⊢
    exact f
  | .tup xs, f => by
    simp only [Dt.fine] at f ⊢
    exact Dt.fines_up h f
  | .lst xs, f => by
    simp only [Dt.fine] at f ⊢
    exact Dt.fines_up h f
  | .dct kvs, f => by
    simp only [Dt.fine] at f ⊢
    exact fun p hp => ⟨(f p hp).1, Nat.lt_of_lt_of_le (f p hp).2 h⟩
theorem Dt.fines_up {B C : Nat} (h : B ≤ C) : ∀ {xs : List Dt}, Dt.fines B xs → Dt.fines C xs
  | [], _ => by simp only [Dt.fines]
  | x :: xs, f => by
    simp only [Dt.fines] at f ⊢
    exact ⟨Dt.fine_up h f.1, Dt.fines_up h f.2⟩
end
theorem Fine.mono {A B n W m V : Nat} {x : Dt} (h : Fine A n W x) (ha : A ≤ B) (hn : n ≤ m) (hw : W ≤ V) : Fine B m V x := ⟨Dt.fine_up ha h.ok, Nat.le_trans h.dp hn, Nat.le_trans h.wt hw⟩
mutual
theorem Dt.sz_wt : ∀ x : Dt, x.sz ≤ x.wt
  | .non => by simp only [Dt.sz, Dt.wt]; omega
  | .bl _ => by simp only [Dt.sz, Dt.wt]; omega
  | .int _ => by simp only [Dt.sz, Dt.wt]; omega
  | .str _ => by simp only [Dt.sz, Dt.wt]; omega
  | .tup xs => by
    have := Dt.szs_wts xs
    simp only [Dt.sz, Dt.wt]
    omega
  | .lst xs => by
    have := Dt.szs_wts xs
    simp only [Dt.sz, Dt.wt]
    omega
  | .dct kvs => by
    have : ∀ l : List (Str × Int), 1 + 3 * l.length ≤ kwt l := by
      intro l
      induction l with
      | nil => simp [kwt]
      | cons p r ih => simp only [kwt, List.length_cons]; omega
    simp only [Dt.sz, Dt.wt]
    exact this kvs
theorem Dt.szs_wts : ∀ xs : List Dt, Dt.szs xs ≤ Dt.wts xs
  | [] => by simp only [Dt.szs, Dt.wts]; omega
  | x :: xs => by
    have := x.sz_wt
    have := Dt.szs_wts xs
    simp only [Dt.szs, Dt.wts]
    omega
end
theorem len_szs : ∀ xs : List Dt, xs.length ≤ Dt.szs xs
  | [] => Nat.zero_le _
  | x :: xs => by
    have := len_szs xs
    have : 1 ≤ x.sz := by cases x <;> simp only [Dt.sz] <;> omega
    simp only [Dt.szs, List.length_cons]
    omega
theorem wts_app : ∀ (xs ys : List Dt), Dt.wts (xs ++ ys) = Dt.wts xs + Dt.wts ys
  | [], ys => by simp only [List.nil_append, Dt.wts]; omega
  | x :: xs, ys => by
    simp only [List.cons_append, Dt.wts]
    rw [wts_app xs ys]
    omega
theorem dps_app : ∀ (xs ys : List Dt), Dt.dps (xs ++ ys) = max (Dt.dps xs) (Dt.dps ys)
  | [], ys => by simp only [List.nil_append, Dt.dps]; omega
  | x :: xs, ys => by
    simp only [List.cons_append, Dt.dps]
    rw [dps_app xs ys]
    omega
theorem fines_app {B : Nat} : ∀ (xs ys : List Dt), Dt.fines B (xs ++ ys) ↔ Dt.fines B xs ∧ Dt.fines B ys
  | [], ys => by simp only [List.nil_append, Dt.fines, true_and]
  | x :: xs, ys => by
    simp only [List.cons_append, Dt.fines]
    rw [fines_app xs ys, and_assoc]
end Kv

/-! the end of a law whose defs show things -/
namespace Kf
open PySem PySem.Spec PyProof.Rows L2 LamX
/-- the heap at the law's call: the written part, the tables cs, the script -/
structure Beg (h : Heap) (K : PySem.W.Frag) (mg : Str → Option Value) (cs : List (Addr × Addr)) (a : Addr) (us : Array Value) : Prop where
  kin : K.In h
  gl : h.Ns mainGlobals mg
  bl : ∃ m, h.Ns builtinsNs m ∧ ∀ y : Str, y ≠ "__name__" → m y = bootBuiltins y
  nl : h.NoLimit
  tb : ∀ p ∈ cs, h.get? p.2 = some { cls := .none, data := .fields #[] }
  nk : ∀ p ∈ cs, K.lookup p.2 = none
  cd : ∀ p ∈ cs, PySem.W.CodeHd h p.1 p.2
  bm : ∃ (z : Addr) (q : Obj), mg "__builtins__" = some (.ref z) ∧ z ≠ builtinsNs ∧ h.get? z = some q ∧ q.cls = .type "module" ∧ q.dict = some builtinsNs ∧ q.data = .plain
  sc : h.get? a = some { cls := .type "list", data := .seq us }
/-- tracked are the tables, and perhaps the script -/
structure Fit (H : Hp) (K : PySem.W.Frag) (cs : List (Addr × Addr)) (a : Addr) : Prop where
  tb : ∀ p ∈ cs, H p.2 = some (.tbl #[])
  no : ∀ b u, H b = some u → (∃ p ∈ cs, p.2 = b ∧ u = .tbl #[]) ∨ (b = a ∧ K.lookup a = none ∧ ∃ o xs, u = .frz o (.lst xs))
section
variable {h : Heap} {K : PySem.W.Frag} {mg : Str → Option Value} {cs : List (Addr × Addr)} {a : Addr} {us : Array Value} {H : Hp}
theorem Fit.off (F : Fit H K cs a) (B : Beg h K mg cs a us) {b : Addr} {o : Obj} (e : h.get? b = some o) (n1 : ∀ vs n, o.data ≠ .seq vs n) (n2 : o.data ≠ .fields #[]) : H b = none := by
  match q : H b with
  | none => rfl
  | some u =>
    rcases F.no b u q with ⟨p, hp, rfl, _⟩ | ⟨rfl, _⟩
    · have z := (B.tb p hp).symm.trans e
      exact absurd (congrArg Obj.data (Option.some.inj z)).symm n2
    · have z := B.sc.symm.trans e
      exact absurd (congrArg Obj.data (Option.some.inj z)).symm (n1 _ _)
theorem Fit.dic (F : Fit H K cs a) (B : Beg h K mg cs a us) {b : Addr} {m : Str → Option Value} (N : h.Ns b m) : (hidT h H).Ns b m := by
  obtain ⟨o, es, n, e, d, r⟩ := N
  refine ⟨o, es, n, hidT_get e (F.off B e ?_ ?_), d, r⟩
  · intro vs k z
    rw [d] at z
    cases z
  · intro z
    rw [d] at z
    cases z
theorem Fit.kin (F : Fit H K cs a) (B : Beg h K mg cs a us) : K.In (hidT h H) := fun b o e => hidT_get (B.kin b o e) <| by
  match q : H b with
  | none => rfl
  | some u =>
    rcases F.no b u q with ⟨p, hp, rfl, _⟩ | ⟨rfl, n, _⟩
    · rw [B.nk p hp] at e
      cases e
    · rw [n] at e
      cases e
theorem Fit.mod (F : Fit H K cs a) (B : Beg h K mg cs a us) : L2.Mod K mg (hidT h H) := by
  obtain ⟨m, m1, m2⟩ := B.bl
  obtain ⟨c, c1, c2⟩ := B.nl
  exact ⟨F.kin B, F.dic B B.gl, ⟨m, F.dic B m1, m2⟩, ⟨c, F.dic B c1, c2⟩⟩
theorem Fit.tabs (F : Fit H K cs a) (B : Beg h K mg cs a us) : ∀ p ∈ cs, TabB (hidT h H) mg p.1 p.2 := by
  intro p hp
  have tp := B.tb p hp
  have gP : mainGlobals ≠ p.2 := by
    intro z
    obtain ⟨o, es, n, e, d, _⟩ := B.gl
    rw [z, tp] at e
    cases e
    cases d
  refine ⟨?_, ?_, gP⟩
  · obtain ⟨o, vs, fl, tf, fg, tg, iF, tx, tt, e, r1, r2, r3, r⟩ := B.cd p hp
    refine ⟨o, vs, fl, tf, fg, tg, iF, tx, tt, hidT_get e (F.off B e (fun vs n z => ?_) (fun z => ?_)), r1, r2, r3, r⟩
    · rw [r2] at z
      cases z
    · rw [r2] at z
      cases z
      simp at r3
  · obtain ⟨z, q, b1, b2, b3, b4, b5, b6⟩ := B.bm
    refine ⟨z, q, b1, b2, fun y => ?_, fun y => ?_, hidT_get b3 (F.off B b3 (fun vs n y => ?_) (fun y => ?_)), b4, b5, b6⟩
    · obtain ⟨o, es, n, e, d, _⟩ := B.gl
      rw [← y, b3] at e
      cases e
      rw [b6] at d
      cases d
    · rw [y, tp] at b3
      cases b3
      cases b6
    · rw [b6] at y
      cases y
    · rw [b6] at y
      cases y
/-- what stood stands, behind the call -/
theorem Fit.old (F : Fit H K cs a) (B : Beg h K mg cs a us) {P : Program} {w : World} {G : Hp} {h' : Heap} (U : Un [] [] H G h h') (o1 : HOk P w H h) (o2 : HOk P w G h') : OldK h h' := by
  have tab : ∀ p ∈ cs, ∃ m : Array Value, h'.get? p.2 = some { cls := .none, data := .fields m } := fun p hp => by
    obtain ⟨m, z⟩ := U.tbls p.2 #[] (F.tb p hp)
    exact ⟨_, o2 p.2 _ z⟩
  have rest : ∀ b o, h.get? b = some o → (∃ p ∈ cs, p.2 = b) ∨ h'.get? b = some o := fun b o e => by
    match q : H b with
    | none => exact .inr (U.keep b o e q (by simp) (by simp))
    | some u =>
      rcases F.no b u q with ⟨p, hp, z, _⟩ | ⟨_, _, ob, xs, rfl⟩
      · exact .inl ⟨p, hp, z⟩
      · have e1 := (o1 b _ q).1
        have e2 := (o2 b _ (U.frzs b ob _ q)).1
        rw [e] at e1
        cases e1
        exact .inr e2
  constructor
  · intro b o e
    rcases rest b o e with ⟨p, hp, rfl⟩ | z
    · obtain ⟨m, hm⟩ := tab p hp
      have tp := B.tb p hp
      rw [tp] at e
      cases e
      exact .inr (.inl ⟨((B.cd p hp).tab tp).isCodeTable, rfl, #[], m, rfl, by rw [Array.empty_append]; exact hm⟩)
    · exact .inl z
  · intro b o e
    rcases rest b o e with ⟨p, hp, rfl⟩ | z
    · obtain ⟨m, hm⟩ := tab p hp
      exact ⟨_, hm⟩
    · exact ⟨o, z⟩
end
/-- such a heap there is -/
theorem fit_of {h : Heap} {K : PySem.W.Frag} {mg : Str → Option Value} {cs : List (Addr × Addr)} {a : Addr} {vs : List Value} {ns : List Int} (P : Program) (w : World) (B : Beg h K mg cs a vs.toArray) (hi : IntsAre vs ns) (hl : ns.length ≤ sizeLine) :
    ∃ H : Hp, Fit H K cs a ∧ SqL K H a (ns.map V.int) ∧ HOk P w H h := by
  have lv := hi.length
  have isT : ∀ b, (∃ p ∈ cs, p.2 = b) → h.get? b = some { cls := .none, data := .fields #[] } := by
    rintro b ⟨p, hp, rfl⟩
    exact B.tb p hp
  have na : ¬ ∃ p ∈ cs, p.2 = a := fun z => by
    have y := congrArg Obj.data (Option.some.inj ((isT a z).symm.trans B.sc))
    cases y
  open Classical in
  let T : Hp := fun b => if ∃ p ∈ cs, p.2 = b then some (.tbl #[]) else none
  have Ty : ∀ p ∈ cs, T p.2 = some (.tbl #[]) := fun p hp => if_pos ⟨p, hp, rfl⟩
  have Tn : ∀ b u, T b = some u → (∃ p ∈ cs, p.2 = b) ∧ u = .tbl #[] := fun b u z => by
    by_cases c : ∃ p ∈ cs, p.2 = b
    · exact ⟨c, (Option.some.inj ((if_pos c).symm.trans z)).symm⟩
    · have y := (if_neg c).symm.trans z
      cases y
  match hk : K.lookup a with
  | some o =>
    have e := B.kin a o hk
    rw [B.sc] at e
    cases e
    refine ⟨T, ⟨Ty, fun b u z => ?_⟩, .inr ⟨_, vs.toArray, _, hk, rfl, rfl, rfl, by rw [List.size_toArray, lv]; exact hl, by simpa using vals_ints hi⟩, fun b u z => ?_⟩
    · obtain ⟨⟨p, hp, e⟩, e2⟩ := Tn b u z
      exact .inl ⟨p, hp, e, e2⟩
    · obtain ⟨c, rfl⟩ := Tn b u z
      exact isT b c
  | none =>
    refine ⟨upd T a (.frz { cls := .type "list", data := .seq vs.toArray } (.lst (ns.map V.int))), ⟨fun p hp => ?_, fun b u z => ?_⟩, .inl (.inr ⟨_, upd_same⟩), fun b u z => ?_⟩
    · rw [upd_ne (fun y => na ⟨p, hp, y⟩)]
      exact Ty p hp
    · by_cases c : b = a
      · subst c
        rw [upd_same] at z
        cases z
        exact .inr ⟨rfl, hk, _, _, rfl⟩
      · rw [upd_ne c] at z
        obtain ⟨⟨p, hp, e⟩, e2⟩ := Tn b u z
        exact .inl ⟨p, hp, e, e2⟩
    · by_cases c : b = a
      · subst c
        rw [upd_same] at z
        cases z
        exact ⟨B.sc, by rw [List.length_map]; exact hl, vs, _, vals_ints hi, B.sc⟩
      · rw [upd_ne c] at z
        obtain ⟨c, rfl⟩ := Tn b u z
        exact isT b c
/-- what is known of the law's promise at the head's heap -/
def LawG (l : PySem.W.OpenLaw) (w : World) (K : PySem.W.Frag) (CX : CXT) (k n : Nat) (x : Str) (mg : Str → Option Value) (fa : Addr) (h : Heap) : Prop :=
  ∃ (fd : FuncData) (cs : List (Addr × Addr)) (sp : Sp), (∀ p ∈ cs, h.get? p.2 = some { cls := .none, data := .fields #[] } ∧ K.lookup p.2 = none ∧ PySem.W.CodeHd h p.1 p.2) ∧ (∀ (s : Shared) (u : Value), BindsTo s fd ⟨[u], []⟩ [(x, u)]) ∧
    (∀ (H : Hp) (a : Addr) (ns : List Int), ns.length ≤ n → (∀ z ∈ ns, Builtin.Int.intBits z ≤ 1048576) → (∀ p ∈ cs, H p.2 = some (.tbl #[])) → SqL K H a (ns.map V.int) → sp [.ref a] H (fun v _ => v = .bl true) E0) ∧
    ∀ base : Heap, K.In base → base.Ns mainGlobals mg → (∀ p ∈ cs, TabB base mg p.1 p.2) → FnG l.prog w K mg base CX k fa fd [x] sp
/-- the end; names: the defs with generator expressions -/
theorem walk_ofG {l : PySem.W.OpenLaw} {n k : Nat} {q : Program} {loose : List Str} {XP : (Str → Option Value) → Heap → Prop} {YP : World → Heap → Prop} {d : DefRec} {K : Params → PySem.W.Frag} {CX : World → CXT} {x : Str}
    (hn : l.most = some n) (hz : n ≤ sizeLine) (hdf : d.params.defaults = []) (hr : Room k callerA) (hY : ∀ (w : World) (h : Heap), YP w h → (K w.params).In h)
    (F : ∀ (w : World) (mg : Str → Option Value) (fa : Addr) (h : Heap), YP w h → (K w.params).In h → h.Ns mainGlobals mg → mg d.name = some (.ref fa) →
      (∀ e ∈ recsOf q, ∃ (a : Addr) (o : Obj) (fd : FuncData) (c p : Addr), mg e.name = some (.ref a) ∧ h.get? a = some o ∧ o.data = .func fd ∧ fd.code = .ref c ∧ h.IsCode c p #[] ∧ h.TableAt c p #[]) → LawG l w (K w.params) (CX w) k n x mg fa h)
    (hX : ∀ (w : World) (H : Hp) (s : Shared) (e : Value) (t : Shared), CX w [] H s E0 e t → False) :
    PySem.W.WalkO q loose XP YP l.row.toRowW d [] (fun f vs => PySem.call f vs) := by
  refine Att.attach_callB hn hdf ?_
  intro w s₀ s mg mb fa o pm cd doc a vs ns G Y _ _ _ hmg ha hi hlen bits hg
  have KX := hY w _ Y
  obtain ⟨fd, cs, sp, tabs, bind, start, run⟩ := F w mg fa _ Y KX G.T.g hmg fun e he => G.T.tab e he
  have B : Beg s.heap (K w.params) mg cs a vs.toArray := ⟨KX, G.T.g, ⟨mb, G.T.b, G.T.builtins⟩, G.T.nolimit, fun p hp => (tabs p hp).1, fun p hp => (tabs p hp).2.1, fun p hp => (tabs p hp).2.2, G.T.bmain, ha⟩
  obtain ⟨H, Ft, sq, ok⟩ := fit_of l.prog w B hi (Nat.le_trans hlen hz)
  have e0 : Env0 l.prog w (K w.params) mg (hidT s.heap H) callerA [] s H := ⟨rfl, Ft.mod B, fun b u e => of_hidT e, Nat.le_of_eq (hidT_size _ _), trivial, by simp [frs], ok, .of_eq hg⟩
  refine codeAny_mono ((run _ (Ft.kin B) (Ft.dic B G.T.g) (Ft.tabs B)).go callerA [] s H ⟨[.ref a], []⟩ [.ref a] [.ref a] _ E0 rfl hr e0 (bind s (.ref a)) (.cons rfl .nil) (start H a ns hlen bits Ft.tb sq)) ?_
  intro r t z
  match r, z with
  | .error e, z => exact (hX w H s e t z).elim
  | .ok .next, z => exact z.elim
  | .ok .brk, z => exact z.elim
  | .ok .cont, z => exact z.elim
  | .ok (.ret u), ⟨v, G', os, bare, un, ok', rv, e⟩ =>
    have e : v = .bl true := e
    subst e
    obtain rfl : u = Value.bool true := rv
    exact ⟨rfl, Ft.old B un ok ok', os, bare⟩
end Kf

/-! the signs of a repr: texts of letters, tuples -/
namespace Kf
open PySem PySem.Spec PyProof.Rows L2 PySem.Builtin.Str
/-- of small letters alone -/
def Low (x : Str) : Prop := ∀ c ∈ x.cps.toList, 97 ≤ c ∧ c < 123
theorem ch_low : ∀ i : Fin 26, reprChar 39 (97 + i.val) = [97 + i.val] := by decide +kernel
theorem ch_low' {c : Nat} (h : 97 ≤ c ∧ c < 123) : reprChar 39 c = [c] := by
  have z := ch_low ⟨c - 97, by omega⟩
  have e : 97 + (c - 97) = c := by omega
  simp only [e] at z
  exact z
theorem fold_low : ∀ (l : List Nat) (acc : Array Nat), (∀ c ∈ l, 97 ≤ c ∧ c < 123) → (l.foldl (fun out c => out ++ (reprChar 39 c).toArray) acc).toList = acc.toList ++ l
  | [], acc, _ => by simp
  | c :: l, acc, h => by
    rw [List.foldl_cons, fold_low l _ fun d hd => h d (List.mem_cons_of_mem _ hd), ch_low' (h c List.mem_cons_self)]
    simp
theorem quote_low {x : Str} (h : Low x) : reprQuote x = 39 := by
  unfold reprQuote
  have e : x.cps.contains 39 = false := by
    rw [← Bool.not_eq_true]
    intro z
    have m : (39 : Nat) ∈ x.cps := by simpa using z
    have := h 39 (Array.mem_def.mp m)
    omega
  rw [e]
  rfl
theorem repr_low {x : Str} (h : Low x) : (reprText x).cps.toList = 39 :: (x.cps.toList ++ [39]) := by
  unfold reprText
  rw [quote_low h, ← Array.foldl_toList, Array.toList_push, fold_low _ _ h]
  rfl
theorem cnt_low {x : Str} (h : Low x) : cnt 40 (reprText x).cps.toList = 0 := by
  rw [repr_low h, cnt_cons, cnt_append]
  have z : ∀ l : List Nat, (∀ c ∈ l, 97 ≤ c ∧ c < 123) → cnt 40 l = 0 := by
    intro l
    induction l with
    | nil => intro _; rfl
    | cons c l ih =>
      intro h
      rw [cnt_cons, ih fun d hd => h d (List.mem_cons_of_mem _ hd)]
      have := h c List.mem_cons_self
      rw [if_neg (by omega)]
      rfl
  rw [z _ h]
  decide
theorem len_low {x : Str} (h : Low x) : (reprText x).length = x.cps.toList.length + 2 := by
  show (reprText x).cps.size = _
  rw [← Array.length_toList, repr_low h]
  simp
theorem cps_app (x y : Str) : (x ++ y).cps.toList = x.cps.toList ++ y.cps.toList := by
  show (x.cps ++ y.cps).toList = _
  rw [Array.toList_append]
theorem cnt_tup (ts : List Str) : cnt 40 (tupleText ts).cps.toList = 1 + (ts.map fun t => cnt 40 t.cps.toList).sum := by
  unfold tupleText
  rw [cps_app, cps_app, cnt_append, cnt_append, cnt_join_sum]
  have e1 : cnt 40 (("(" : Str)).cps.toList = 1 := by decide +kernel
  have e2 : cnt 40 ((", " : Str)).cps.toList = 0 := by decide +kernel
  have e3 : cnt 40 (((if ts.length == 1 then ",)" else ")" : String) : Str)).cps.toList = 0 := by split <;> decide +kernel
  rw [e1, e2, e3, Int.mul_zero]
  omega
theorem count_par (x : Str) : Txt.count x "(" = cnt 40 x.cps.toList := by
  have e : (("(" : String) : Str) = ⟨#[40]⟩ := by decide +kernel
  rw [e]
  exact count_cnt x 40
end Kf

namespace Kq
open PySem PySem.Spec PyProof.Rows L2 Kf Kg Kv GxR
/-! what is a data kind, a kind -/
def isLo (c : Nat) : Bool := decide (c ∈ lets.cps.toList)
def nmS (x : Str) : Bool := decide (1 ≤ x.length) && decide (x.length ≤ 8) && x.cps.toList.all isLo
def nmD : Dt → Bool
  | .str x => nmS x
  | _ => false
def ar (w : Str) : Option Nat :=
  if w = "open" then some 1 else if w = "num" then some 0 else if w = "truth" then some 0 else if w = "pair" then some 2 else if w = "either" then some 2 else if w = "list" then some 1 else if w = "fun" then some 2 else none
def nm1 : List Dt → Bool
  | x :: _ => nmD x
  | [] => false
/-- the form alone -/
def frm : Dt → Bool
  | .tup (.str w :: xs) => !decide (w = "fun") && (match ar w with | some k => decide (xs.length = k) | none => false) && (!decide (w = "open") || nm1 xs)
  | _ => false
/-- the parts that are kinds -/
def prt : Dt → List Dt
  | .tup (.str w :: xs) => if w = "open" then [] else xs
  | _ => []
theorem prt_sz : ∀ x : Dt, Dt.szs (prt x) + 1 ≤ x.sz
  | .tup [] => Nat.le_refl _
  | .tup (.str w :: xs) => by
    have e : (Dt.tup (.str w :: xs)).sz = 1 + (1 + Dt.szs xs) := by simp only [Dt.sz, Dt.szs]
    rw [e]
    show Dt.szs (if w = "open" then [] else xs) + 1 ≤ _
    by_cases h : w = "open"
    · rw [if_pos h]
      simp only [Dt.szs]
      omega
    · rw [if_neg h]
      omega
  | .tup (.non :: xs) => by show 0 + 1 ≤ 1 + _; omega
  | .tup (.bl _ :: xs) => by show 0 + 1 ≤ 1 + _; omega
  | .tup (.int _ :: xs) => by show 0 + 1 ≤ 1 + _; omega
  | .tup (.tup _ :: xs) => by show 0 + 1 ≤ 1 + _; omega
  | .tup (.lst _ :: xs) => by show 0 + 1 ≤ 1 + _; omega
  | .tup (.dct _ :: xs) => by show 0 + 1 ≤ 1 + _; omega
  | .lst xs => by show 0 + 1 ≤ 1 + _; omega
  | .non => Nat.le_refl _
  | .bl _ => Nat.le_refl _
  | .int _ => Nat.le_refl _
  | .str _ => Nat.le_refl _
  | .dct _ => by show 0 + 1 ≤ 1 + _; omega
theorem sz_pos : ∀ x : Dt, 1 ≤ x.sz := fun x => by
  have := prt_sz x
  omega
/-- a data kind: the form, and the parts are so -/
def dat (x : Dt) : Bool := frm x && (prt x).attach.all fun y => dat y.1
termination_by x.sz
decreasing_by
  have h1 := prt_sz x
  have h2 := sz_mem y.2
  omega
theorem dat_eq (x : Dt) : dat x = (frm x && (prt x).all dat) := by
  rw [dat]
  congr 1
  rw [List.all_subtype (g := dat)]
  · simp
  · intro x h
    rfl
end Kq

namespace Kq
open PySem PySem.Spec PyProof.Rows L2 Kf Kg Kv GxR
abbrev tName : Stmt := tp 18
abbrev tTagged : Stmt := tp 22
theorem take_allL {α : Type} {f : α → Bool} {xs : List α} {i : Nat} {x : α} (hx : xs[i]? = some x) (h : (xs.take i).all f = true) (e : f x = true) : (xs.take (i + 1)).all f = true := by
  rw [List.take_add_one, hx, List.all_append, h]
  simp [e]
theorem not_allL {α : Type} {f : α → Bool} {xs : List α} {i : Nat} {x : α} (hx : xs[i]? = some x) (e : f x = false) : xs.all f = false := by
  rw [← Bool.not_eq_true, List.all_eq_true]
  intro z
  rw [z x (List.mem_of_getElem? hx)] at e
  cases e
section
variable {P : Program} {w : World} {K : PySem.W.Frag} {mg : Str → Option Value} {base : Heap}
/-! is_name -/
theorem scName : FnScope ["thing"] ["thing"] (defScope tName) := ⟨rfl, rfl, rfl, by decide +kernel, rfl, by decide +kernel, by decide +kernel⟩
def spName (T : List Addr) : Sp := fun vs H Q _ => ∃ (v : V) (x : Dt), vs = [v] ∧ Dd Any H x v ∧ x.wt ≤ sizeLine ∧ TbS T H ∧ ∀ G : Hp, Sm T H G → Q (.bl (nmD x)) G
theorem okName {f c p : Addr} {fd : FuncData} {k : Nat} {T : List Addr} {u1 u2 : Value} (F : FunC K "is_name" "is_name" tName f fd c) (TB : TabB base mg c p) (hp : p ∈ T)
    (gL : mg "LETTERS" = some u1) (rL : RelV (.str lets) u1) (gN : mg "LONGEST_NAME" = some u2) (rN : RelV (.int 8) u2)
    (ma : mg "all" = none) (mi : mg "isinstance" = none) (ms : mg "str" = none) (ml : mg "len" = none) : FnOk P w K mg base CX0 (k + 4) f fd ["thing"] (spName T) := by
  refine F.ok scName (fun vs H Q E h => ?_) (fun A outer s H vs Q E hr h => ?_)
  · obtain ⟨v, x, rfl, _⟩ := h
    rfl
  obtain ⟨v, x, rfl, hd, hw, tb, q⟩ := h
  refine ⟨_, pss_cons (ps_if (PW.pt (pw_or (pt_not (pt_val (pe_callB (isiK K rfl) (by rfl) mi PyProof.Rows.boot_isinstance (pa_cons (pv 0) (pa_cons (pe_bltn (v := .ty "str") (by rfl) ms PyProof.Rows.boot_str rfl) pa_nil)))))
      (pw_or1 (pt_not (pt_chain op_le op_le pe_int (pe_callB call_len_str (by rfl) ml PySem.boot_len (pa_cons (pv 0) pa_nil)) (pe_glob (v := .int 8) (by rfl) gN rN))))))
      (pss_one (ps_ret pe_bl)) pss_nil)
    (pss_one (ps_ret (pe_allG (c := c) (P := p) (own := ["letter"]) (caps := []) (vs := [0]) (g := gName 0) hr (by rfl) ma TB rfl
    (gxS_by (N := ["thing"]) (sc := defScope tName) (by decide +kernel)) (pi_str (pv 0))
    (fun _ _ _ _ _ => pg_name (i := 0) (show (["letter"] : List Str).Nodup by decide +kernel) rfl (.inl rfl)) (fun _ _ _ _ _ => pe_cmpR op_in_sign (pv 0) (pe_glob (v := .str lets) (by rfl) gL rL) rfl)))), ?_⟩
  refine ⟨_, rfl, _, _, _, _, x.isStr, rfl, .ty "str", hd.ty, kStr K x, _, rfl, ?_⟩
  refine ite2 (fun e => iteT ?_) (fun e => ?_)
  · have e1 : nmD x = false := by
      cases x <;> first | rfl | cases e
    have z := q _ (Sm.refl tb)
    rw [e1] at z
    exact z
  obtain ⟨y, rfl⟩ : ∃ y, x = .str y := by
    cases x with
    | str y => exact ⟨y, rfl⟩
    | _ => exact absurd rfl e
  cases hd
  have hl : y.length ≤ sizeLine := by
    have : (Dt.str y).wt = 10 * y.length + 2 := by simp only [Dt.wt]
    omega
  have no : (decide (1 ≤ y.length) && decide (y.length ≤ 8)) = false → Q (.bl false) H := fun e => by
    have z := q _ (Sm.refl tb)
    have e2 : nmD (.str y) = false := by
      show (decide (1 ≤ y.length) && decide (y.length ≤ 8) && _) = false
      rw [e, Bool.false_and]
    rw [e2] at z
    exact z
  refine ⟨_, rfl, y, rfl, hl, _, _, rfl, rfl, _, rfl, ite2 (fun e1 => ?_) (fun e1 => ?_)⟩
  rotate_left
  · refine ⟨_, rfl, iteT (no ?_)⟩
    have : ¬ ((1 : Int) ≤ (y.length : Int)) := fun z => e1 (decide_eq_true z)
    rw [decide_eq_false (show ¬ 1 ≤ y.length by omega), Bool.false_and]
  have h1 : 1 ≤ y.length := by
    have : (1 : Int) ≤ (y.length : Int) := of_decide_eq_true e1
    omega
  refine ⟨_, _, rfl, rfl, _, rfl, ite2 (fun e2 => no ?_) (fun e2 => ?_)⟩
  · have : ¬ ((y.length : Int) ≤ 8) := fun z => by
      rw [decide_eq_true z] at e2
      cases e2
    rw [decide_eq_false (show ¬ y.length ≤ 8 by omega), Bool.and_false]
  have h2 : y.length ≤ 8 := by
    have : (y.length : Int) ≤ 8 := by
      by_cases z : (y.length : Int) ≤ 8
      · exact z
      · rw [decide_eq_false z] at e2
        exact absurd rfl e2
    omega
  have et : nmD (.str y) = y.cps.toList.all isLo := by
    show (decide (1 ≤ y.length) && decide (y.length ≤ 8) && _) = _
    rw [decide_eq_true h1, decide_eq_true h2]
    rfl
  refine ⟨_, rfl, y, rfl, tb p hp, fun H2 htab => ?_⟩
  have s2 : Sm T H H2 := Sm.tab hp tb htab
  refine all_it walk_str (fun i F => Sm T H F ∧ (y.cps.toList.take i).all isLo = true) ⟨s2, rfl⟩ (fun i F _ _ => trivial) (fun i x F F' hi z yy => ?_) (fun F z => ?_)
  · obtain ⟨sF, al⟩ := z
    obtain ⟨rfl, c, hc, rfl⟩ := yy
    have hc' : y.cps.toList[i]? = some c := by rw [Array.getElem?_toList]; exact hc
    refine ⟨rfl, _, rfl, c, lets, rfl, rfl, _, rfl, ite2 (fun e => ⟨sF, take_allL hc' al e⟩) (fun e => ?_)⟩
    have z := q _ sF
    rw [et, not_allL hc' (by simpa [isLo] using e)] at z
    exact z
  · obtain ⟨sF, al⟩ := z
    have el : y.cps.toList.take y.cps.size = y.cps.toList := by
      rw [← Array.length_toList, List.take_length]
    rw [el] at al
    have z := q _ sF
    rw [et, al] at z
    exact z
end
end Kq

namespace Kq
open PySem PySem.Spec PyProof.Rows L2 Kf Kg Kv GxR
abbrev tForm : Stmt := tp 27
abbrev tWithin : Stmt := tp 28
/-- this word and so many parts behind it -/
def tagD (x : Dt) (z : Str) (m : Nat) : Bool := match x with
  | .tup (y :: ys) => decide (ys.length = m) && y.isS z
  | _ => false
theorem Dd.tupS {N : Addr → Prop} {H : Hp} {xs : List Dt} {v : V} (h : Dd N H (.tup xs) v) : ∃ a vs, v = .ref a ∧ TupA H a vs ∧ DdL N H xs vs := by
  cases h with
  | tup h t => exact ⟨_, _, rfl, h, t⟩
theorem DdL.see {N : Addr → Prop} {H : Hp} {xs : List Dt} {vs : List V} (h : DdL N H xs vs) : (xs = [] ∧ vs = []) ∨ ∃ y ys w ws, xs = y :: ys ∧ vs = w :: ws ∧ Dd N H y w ∧ DdL N H ys ws := by
  cases h with
  | nil => exact .inl ⟨rfl, rfl⟩
  | cons h t => exact .inr ⟨_, _, _, _, rfl, rfl, h, t⟩
/-- the table of forms -/
structure Forms (K : PySem.W.Frag) (w : World) (dA : Addr) (es : Array DictEntry) (n : Nat) : Prop where
  dict : KDict K w dA es n
  no : ∀ z : Str, ar z = none → PySem.W.nsIn K dA z = some none
  yes : ∀ (z : Str) (m : Nat), ar z = some m → ∃ (t : Addr) (ys : List V), PySem.W.nsIn K dA z = some (some (.ref t)) ∧ ys.length = m ∧ ∀ G : Hp, SqT K G t ys
section
variable {P : Program} {w : World} {K : PySem.W.Frag} {mg : Str → Option Value} {base : Heap}
/-! is_tagged -/
theorem scTagged : FnScope ["thing", "word", "many"] ["thing", "word", "many"] (defScope tTagged) := ⟨rfl, rfl, rfl, by decide +kernel, rfl, by decide +kernel, by decide +kernel⟩
def spTagged : Sp := fun vs H Q _ => ∃ (v : V) (x : Dt) (z : Str) (m : Nat), vs = [v, .str z, .int (m : Int)] ∧ Dd Any H x v ∧ Q (.bl (tagD x z m)) H
theorem okTagged {f : Addr} {fd : FuncData} {k : Nat} (F : Fun K "is_tagged" "is_tagged" tTagged f fd) (mi : mg "isinstance" = none) (mt : mg "tuple" = none) (ml : mg "len" = none) : FnOk P w K mg base CX0 (k + 1) f fd ["thing", "word", "many"] spTagged := by
  refine F.ok scTagged (fun vs H Q E h => ?_) (fun cdv A outer s H vs Q E hr h => ?_)
  · obtain ⟨v, x, z, m, rfl, _⟩ := h
    rfl
  obtain ⟨v, x, z, m, rfl, hd, q⟩ := h
  refine ⟨_, pss_one (ps_ret (pe_and (pe_callB (isiK K rfl) (by rfl) mi PyProof.Rows.boot_isinstance (pa_cons (pv 0) (pa_cons (pe_bltn (v := .ty "tuple") (by rfl) mt PyProof.Rows.boot_tuple rfl) pa_nil)))
    (pe_and (pe_cmpR op_eq (pe_callB call_len_seq (by rfl) ml PySem.boot_len (pa_cons (pv 0) pa_nil)) (pe_op op_add (pv 2) pe_int) (nomark _))
    (pe_one (pe_cmpR (op_eqUS hr.units) (pe_ix ix_tup (pv 0) pe_int (fun _ _ => rfl)) (pv 1) (nomark _)))))), ?_⟩
  refine ⟨_, rfl, _, _, _, _, x.isTup, rfl, .ty "tuple", hd.ty, kTup K x, _, rfl, ite2 (fun e => ?_) (fun e => ?_)⟩
  rotate_left
  · have e1 : tagD x z m = false := by
      cases x <;> first | rfl | exact absurd rfl e
    rw [e1] at q
    exact q
  obtain ⟨xs, rfl⟩ : ∃ xs, x = .tup xs := by
    cases x with
    | tup xs => exact ⟨xs, rfl⟩
    | _ => cases e
  obtain ⟨a, us, rfl, ha, hL⟩ := Dd.tupS hd
  have ll := hL.len
  refine ⟨_, rfl, a, us, rfl, .inr (TupA.sq ha), _, rfl, _, _, rfl, rfl, rfl, _, rfl, ite2 (fun e => ?_) (fun e => ?_)⟩
  · have e1 : (us.length : Int) = (m : Int) + 1 := V.int.inj (of_decide_eq_true e)
    rcases DdL.see hL with ⟨rfl, rfl⟩ | ⟨y, ys, w, ws, rfl, rfl, h, t⟩
    · have : ((0 : Nat) : Int) = (m : Int) + 1 := e1
      omega
    · refine ⟨_, rfl, a, _, _, _, rfl, rfl, TupA.sq ha, atI_nat (j := 0) rfl, _, rfl, y, z, h, rfl, ?_⟩
      have l2 := t.len
      have e2 : tagD (.tup (y :: ys)) z m = y.isS z := by
        show (decide (ys.length = m) && _) = _
        rw [List.length_cons] at e1
        rw [decide_eq_true (by omega), Bool.true_and]
      rw [e2] at q
      exact q
  · have e1 : ¬ (us.length : Int) = (m : Int) + 1 := fun z => e (decide_eq_true (by rw [z]))
    have e2 : tagD (.tup xs) z m = false := by
      cases xs with
      | nil => rfl
      | cons y ys =>
        show (decide (ys.length = m) && _) = _
        rw [List.length_cons] at ll
        rw [decide_eq_false (by omega), Bool.false_and]
    rw [e2] at q
    exact q
/-! kinds_within -/
theorem scWithin : FnScope ["kind"] ["kind"] (defScope tWithin) := ⟨rfl, rfl, rfl, by decide +kernel, rfl, by decide +kernel, by decide +kernel⟩
def spWithin (N : Addr → Prop) : Sp := fun vs H Q _ => ∃ (v : V) (x : Dt), vs = [v] ∧ Dd N H x v ∧ frm x = true ∧ ∀ (p : Addr) (us : List V) (G : Hp), Same H G → G p = some (.tup us) → DdL N G (prt x) us → Q (.ref p) G
theorem okWithin {f : Addr} {fd : FuncData} {k : Nat} {N : Addr → Prop} (F : Fun K "kinds_within" "kinds_within" tWithin f fd) : FnOk P w K mg base CX0 (k + 1) f fd ["kind"] (spWithin N) := by
  refine F.ok scWithin (fun vs H Q E h => ?_) (fun cdv A outer s H vs Q E hr h => ?_)
  · obtain ⟨v, t, rfl, _⟩ := h
    rfl
  obtain ⟨v, x, rfl, hd, hf, q⟩ := h
  obtain ⟨wd, xs, rfl⟩ : ∃ wd xs, x = .tup (.str wd :: xs) := by
    unfold frm at hf
    split at hf
    · exact ⟨_, _, rfl⟩
    · cases hf
  obtain ⟨a, us, rfl, ha, hL⟩ := Dd.tupS hd
  obtain ⟨us, rfl, hL2⟩ : ∃ ys, us = .str wd :: ys ∧ DdL N H xs ys := by
    cases hL with
    | cons h t =>
      cases h
      exact ⟨_, rfl, t⟩
  refine ⟨_, pss_cons (ps_if (pt_cmpR op_eq (pe_ix ix_tup (pv 0) pe_int (fun _ _ => rfl)) pe_str (nomark _)) (pss_one (ps_ret (pe_tup pa_nil))) pss_nil)
    (pss_one (ps_ret (pe_slice sl_tup (pv 0) (po_some pe_int) po_none))), ?_⟩
  have ep : prt (.tup (.str wd :: xs)) = if wd = "open" then [] else xs := rfl
  rw [ep] at q
  refine ⟨_, rfl, a, _, _, _, rfl, rfl, TupA.sq ha, atI_nat (j := 0) rfl, rfl, _, rfl, ?_⟩
  refine ite2 (fun e => ?_) (fun e => ?_)
  · have e1 : wd = "open" := V.str.inj (of_decide_eq_true e)
    rw [if_pos e1] at q
    exact ⟨Nat.zero_le _, fun p np => q p [] _ (newS np) upd_same .nil⟩
  · have e1 : ¬ wd = "open" := fun z => e (decide_eq_true (by rw [z]))
    rw [if_neg e1] at q
    refine ⟨_, rfl, 1, rfl, a, _, rfl, TupA.sq ha, notWhole _ _, fun p np => ?_⟩
    rw [cutFrom1]
    exact q p us _ (newS np) upd_same (hL2.same (newS np))
end
end Kq

namespace Kq
open PySem PySem.Spec PyProof.Rows L2 Kf Kg Kv GxR
theorem frm_eq (wd : Str) (xs : List Dt) : frm (.tup (.str wd :: xs)) = (!decide (wd = "fun") && (match ar wd with | some k => decide (xs.length = k) | none => false) && (!decide (wd = "open") || nm1 xs)) := rfl
def u0s (ws : List V) : Nat := ws.length + 1
section
variable {P : Program} {w : World} {K : PySem.W.Frag} {mg : Str → Option Value} {base : Heap}
theorem scForm : FnScope ["thing", "word"] ["thing"] (defScope tForm) := ⟨rfl, rfl, rfl, by decide +kernel, rfl, by decide +kernel, by decide +kernel⟩
def spForm (T : List Addr) : Sp := fun vs H Q _ => ∃ (v : V) (x : Dt), vs = [v] ∧ Dd Any H x v ∧ x.wt ≤ sizeLine ∧ TbS T H ∧ ∀ G : Hp, Sm T H G → Q (.bl (frm x)) G
theorem okForm {f fN dA : Addr} {fd fdN : FuncData} {k : Nat} {T : List Addr} {es : Array DictEntry} {n : Nat} (F : Fun K "has_data_form" "has_data_form" tForm f fd)
    (GN : FnOk P w K mg base CX0 (k + 4) fN fdN ["thing"] (spName T)) (bN : Binds K fdN ["thing"] []) (gN : mg "is_name" = some (.ref fN)) (kN : PySem.W.keepIn K (.ref fN) = true)
    (gD : mg "KIND_FORMS" = some (.ref dA)) (hD : Forms K w dA es n)
    (mi : mg "isinstance" = none) (mt : mg "tuple" = none) (ms : mg "str" = none) (ml : mg "len" = none) : FnOk P w K mg base CX0 (k + 5) f fd ["thing"] (spForm T) := by
  refine F.ok scForm (fun vs H Q E h => ?_) (fun cdv A outer s H vs Q E hr h => ?_)
  · obtain ⟨v, x, rfl, _⟩ := h
    rfl
  obtain ⟨v, x, rfl, hd, hw, tb, q⟩ := h
  refine ⟨_, pss_cons (ps_if (PW.pt (pw_or (pt_not (pt_val (pe_callB (isiK K rfl) (by rfl) mi PyProof.Rows.boot_isinstance (pa_cons (pv 0) (pa_cons (pe_bltn (v := .ty "tuple") (by rfl) mt PyProof.Rows.boot_tuple rfl) pa_nil)))))
      (pw_or (pt_not (pt_truth (pv 0) (by intro _; rfl)))
      (pw_or1 (pt_not (pt_val (pe_callB (isiK K rfl) (by rfl) mi PyProof.Rows.boot_isinstance (pa_cons (pe_ix ix_tup (pv 0) pe_int (fun _ _ => rfl)) (pa_cons (pe_bltn (v := .ty "str") (by rfl) ms PyProof.Rows.boot_str rfl) pa_nil)))))))))
      (pss_one (ps_ret pe_bl)) pss_nil)
    (pss_cons (ps_set (i := 1) scForm.nd rfl (.inl rfl) (pe_ix ix_tup (pv 0) pe_int (fun _ _ => rfl)))
    (pss_cons (ps_if (PW.pt (pw_or (pt_cmpR op_eq (pv 1) pe_str (nomark _)) (pw_or (pt_cmpR (op_notIn_kd hD.dict) (pv 1) (pe_glob (v := .ref dA) (by rfl) gD rfl) rfl)
      (pw_or1 (pt_cmpR op_ne (pe_callB call_len_seq (by rfl) ml PySem.boot_len (pa_cons (pv 0) pa_nil)) (pe_op op_add (pe_callB call_len_seq (by rfl) ml PySem.boot_len (pa_cons (pe_ix ix_kdict (pe_glob (v := .ref dA) (by rfl) gD rfl) (pv 1) (fun _ _ => rfl)) pa_nil)) pe_int) (nomark _))))))
      (pss_one (ps_ret pe_bl)) pss_nil)
    (pss_one (ps_ret (pe_or (pe_cmpR op_ne (pv 1) pe_str (nomark _)) (pe_one (pe_call GN hr (by rfl) gN kN bN .nil pass0 (pa_cons (pe_ix ix_tup (pv 0) pe_int (fun _ _ => rfl)) pa_nil)))))))), ?_⟩
  have no : frm x = false → Q (.bl false) H := fun e => by
    have z := q _ (Sm.refl tb)
    rw [e] at z
    exact z
  refine ⟨_, rfl, _, _, _, _, x.isTup, rfl, .ty "tuple", hd.ty, kTup K x, _, rfl, ite2 (fun e => iteT (no ?_)) (fun e => ?_)⟩
  · cases x <;> first | rfl | cases e
  obtain ⟨xs, rfl⟩ : ∃ xs, x = .tup xs := by
    cases x with
    | tup xs => exact ⟨xs, rfl⟩
    | _ => exact absurd rfl e
  obtain ⟨a, us, rfl, ha, hL⟩ := Dd.tupS hd
  refine ⟨_, rfl, _, .inr (.inl ⟨us, TupA.sq ha, rfl⟩), ite2 (fun e => iteT (no ?_)) (fun e => ?_)⟩
  · rcases DdL.see hL with ⟨rfl, rfl⟩ | ⟨y, ys, w, ws, rfl, rfl, h, t⟩
    · rfl
    · cases e
  rcases DdL.see hL with ⟨rfl, rfl⟩ | ⟨y, ys, u0, ws, rfl, rfl, hy, hys⟩
  · exact absurd rfl e
  have hix : atI (u0 :: ws) 0 = some u0 := atI_nat (j := 0) rfl
  refine ⟨_, rfl, a, _, _, _, rfl, rfl, TupA.sq ha, hix, _, _, _, _, y.isStr, rfl, .ty "str", hy.ty, kStr K y, _, rfl, ite2 (fun e => no ?_) (fun e => ?_)⟩
  · cases y <;> first | rfl | cases e
  obtain ⟨wd, rfl⟩ : ∃ z, y = .str z := by
    cases y with
    | str z => exact ⟨z, rfl⟩
    | _ => exact absurd rfl e
  cases hy
  refine ⟨_, rfl, a, _, _, _, rfl, rfl, TupA.sq ha, hix, ?_⟩
  refine ⟨_, rfl, rfl, _, rfl, ite2 (fun e => iteT (no ?_)) (fun e => ?_)⟩
  · have e1 : wd = "fun" := V.str.inj (of_decide_eq_true e)
    rw [frm_eq, decide_eq_true e1]
    rfl
  have e1 : ¬ wd = "fun" := fun z => e (decide_eq_true (by rw [z]))
  cases har : ar wd with
  | none =>
    refine ⟨_, rfl, wd, none, rfl, rfl, hD.no wd har, _, rfl, iteT (iteT (no ?_))⟩
    rw [frm_eq, har, Bool.and_false]
    rfl
  | some m =>
    obtain ⟨t, zs, ht, lz, hs⟩ := hD.yes wd m har
    refine ⟨_, rfl, wd, _, rfl, rfl, ht, _, rfl, iteF ?_⟩
    have ly := hys.len
    refine ⟨_, rfl, a, _, rfl, .inr (TupA.sq ha), _, rfl, dA, wd, .ref t, rfl, rfl, ⟨es, n, _, hD.dict.at_, hD.dict.lit, ht, rfl⟩, t, zs, rfl, .inr (hs _), _, _, rfl, rfl, rfl, _, rfl, ite2 (fun e => no ?_) (fun e => ?_)⟩
    · have e2 : ¬ ys.length = m := fun z => by
        have : ((u0s ws : Nat) : Int) = (zs.length : Int) + 1 := by
          unfold u0s
          omega
        rw [show decide (V.int ((V.str wd :: ws).length : Int) = _) = true from decide_eq_true (congrArg V.int this)] at e
        cases e
      rw [frm_eq, har]
      show (_ && decide (ys.length = m) && _) = false
      rw [decide_eq_false e2, Bool.and_false, Bool.false_and]
    have e2 : ys.length = m := by
      by_cases z : ys.length = m
      · exact z
      · refine absurd ?_ e
        have : ¬ ((u0s ws : Nat) : Int) = (zs.length : Int) + 1 := by
          unfold u0s
          omega
        rw [show decide (V.int ((V.str wd :: ws).length : Int) = _) = false from decide_eq_false (fun h => this (V.int.inj h))]
        rfl
    have ef : frm (.tup (.str wd :: ys)) = (!decide (wd = "open") || nm1 ys) := by
      rw [frm_eq, har, decide_eq_false e1]
      show (true && decide (ys.length = m) && _) = _
      rw [decide_eq_true e2]
      rfl
    refine ⟨_, rfl, rfl, _, rfl, ite2 (fun e => ?_) (fun e => ?_)⟩
    · have z := q _ (Sm.refl tb)
      have e3 : ¬ wd = "open" := fun z => by
        rw [z] at e
        revert e
        decide
      rw [ef, decide_eq_false e3] at z
      exact z
    · have e3 : wd = "open" := by
        by_cases z : wd = "open"
        · exact z
        · refine absurd ?_ e
          rw [decide_eq_false (fun h => z (V.str.inj h))]
          rfl
      subst e3
      have hm : m = 1 := by
        have : ar "open" = some 1 := by decide +kernel
        rw [this] at har
        exact (Option.some.inj har).symm
      rcases DdL.see hys with ⟨rfl, rfl⟩ | ⟨y, ys', u1, ws', rfl, rfl, hy, _⟩
      · rw [hm] at e2
        cases e2
      have hwy : y.wt ≤ sizeLine := by
        have : (Dt.tup (.str "open" :: y :: ys')).wt = Dt.wts (.str "open" :: y :: ys') + 3 := by simp only [Dt.wt]
        have : Dt.wts (.str "open" :: y :: ys') = (Dt.str "open").wt + 2 + (y.wt + 2 + Dt.wts ys') := by simp only [Dt.wts]
        omega
      refine ⟨_, rfl, a, _, _, _, rfl, rfl, TupA.sq ha, atI_nat (j := 1) rfl, u1, y, rfl, hy, hwy, tb, fun G sG => ?_⟩
      have z := q _ sG
      rw [ef] at z
      exact z
end
end Kq

namespace Kq
open PySem PySem.Spec PyProof.Rows L2 Kf Kg Kv GxR
abbrev tIsData : Stmt := tp 26
theorem prt_wt (x : Dt) : Dt.wts (prt x) ≤ x.wt := by
  unfold prt
  split
  · rename_i w xs
    have e : (Dt.tup (.str w :: xs)).wt = (Dt.str w).wt + 2 + Dt.wts xs + 3 := by simp only [Dt.wt, Dt.wts]
    by_cases h : w = "open"
    · rw [if_pos h]
      simp only [Dt.wts]
      omega
    · rw [if_neg h]
      omega
  · simp only [Dt.wts]
    omega
theorem szs1 (x : Dt) : Dt.szs [x] = x.sz := by simp only [Dt.szs, Nat.add_zero]
theorem wts1 (x : Dt) : Dt.wts [x] = x.wt + 2 := by simp only [Dt.wts, Nat.add_zero]
/-- the places of a heap -/
abbrev Pl (H : Hp) : Addr → Prop := fun b => ∃ u, H b = some u
theorem _root_.Kv.Dd.pl {N : Addr → Prop} {H : Hp} {x : Dt} {v : V} (h : Dd N H x v) : Dd (Pl H) H x v := h.at fun b u _ e => ⟨u, e⟩
theorem _root_.Kv.DdL.pl {N : Addr → Prop} {H : Hp} {x : List Dt} {v : List V} (h : DdL N H x v) : DdL (Pl H) H x v := h.at fun b u _ e => ⟨u, e⟩
section
variable {P : Program} {w : World} {K : PySem.W.Frag} {mg : Str → Option Value} {base : Heap}
theorem scIsData : FnScope ["thing", "waiting", "part"] ["thing"] (defScope tIsData) := ⟨rfl, rfl, rfl, by decide +kernel, rfl, by decide +kernel, by decide +kernel⟩
def spIsData (T : List Addr) : Sp := fun vs H Q _ => ∃ (v : V) (x : Dt), vs = [v] ∧ Dd Any H x v ∧ x.wt + 2 ≤ sizeLine ∧ TbS T H ∧ ∀ G : Hp, Sm T H G → Q (.bl (dat x)) G
theorem okIsData {f fF fW : Addr} {fd fdF fdW : FuncData} {k : Nat} {T : List Addr} (F : Fun K "is_data" "is_data" tIsData f fd)
    (GF : FnOk P w K mg base CX0 (k + 5) fF fdF ["thing"] (spForm T)) (bF : Binds K fdF ["thing"] []) (gF : mg "has_data_form" = some (.ref fF)) (kF : PySem.W.keepIn K (.ref fF) = true)
    (GW : ∀ N : Addr → Prop, FnOk P w K mg base CX0 (k + 5) fW fdW ["kind"] (spWithin N)) (bW : Binds K fdW ["kind"] []) (gW : mg "kinds_within" = some (.ref fW)) (kW : PySem.W.keepIn K (.ref fW) = true) : FnOk P w K mg base CX0 (k + 6) f fd ["thing"] (spIsData T) := by
  refine F.ok scIsData (fun vs H Q E h => ?_) (fun cdv A outer s H vs Q E hr h => ?_)
  · obtain ⟨v, x, rfl, _⟩ := h
    rfl
  obtain ⟨v, x, rfl, hd, hw, tb, q⟩ := h
  refine ⟨_, pss_cons (ps_set (i := 1) scIsData.nd rfl (.inl rfl) (pe_lst (pa_cons (pv 0) pa_nil)))
    (pss_cons (ps_while PassesOwn.never (pt_truth (pv 1) (by intro _; rfl))
      (pss_cons (ps_set (i := 2) scIsData.nd rfl (.inl rfl) (pe_bm0 PySem.F.plainAttrs_list PySem.F.slot_list_pop PySem.F.type_list_pop mt_pop (pv 1)))
      (pss_cons (ps_if (pt_not (pt_val (pe_call GF hr (by rfl) gF kF bF .nil pass0 (pa_cons (pv 2) pa_nil)))) (pss_one (ps_ret pe_bl)) pss_nil)
      (pss_one (ps_expr (pe_bm PySem.F.plainAttrs_list PySem.F.slot_list_extend PySem.F.type_list_extend Kr.mt_extT (pv 1) (pa_cons (pe_call (GW (Pl H)) hr (by rfl) gW kW bW .nil pass0 (pa_cons (pv 2) pa_nil)) pa_nil)))))))
    (pss_one (ps_ret pe_bl))), ?_⟩
  refine ⟨_, rfl, (by show 1 ≤ sizeLine; decide), fun wa nwa => ?_⟩
  have nW : ¬ Pl H wa := fun ⟨u, e⟩ => by
    rw [nwa] at e
    cases e
  let Iv : Nat → L2.St → Hp → Prop := fun m σ G => ∃ ws vs y, m = Dt.szs ws ∧ σ = [some v, some (.ref wa), y] ∧ Sm T H G ∧ G wa = some (.lst vs) ∧ DdL (Pl H) G ws vs ∧ Dt.wts ws ≤ x.wt + 2 ∧ dat x = ws.all dat
  have I0 : Iv (Dt.szs [x]) [some v, some (.ref wa), none] (upd H wa (.lst [v])) := ⟨[x], [v], none, rfl, rfl, (Sm.refl tb).new nwa tb, upd_same, .cons (hd.pl.same (newS nwa)) .nil, by rw [wts1]; omega, by simp⟩
  refine ⟨Iv, ⟨_, I0⟩, fun m σ G z => ?_⟩
  obtain ⟨ws, vs, y, rfl, rfl, sG, gw, rL, hwt, hdat⟩ := z
  refine ⟨_, rfl, _, .inl ⟨vs, SqL.of gw, rfl⟩, ?_⟩
  refine ite2 (fun e => ?_) (fun e => ?_)
  · have nn : vs ≠ [] := fun z => by
      rw [z] at e
      cases e
    obtain ⟨xs, u, zs, p, rfl, rfl, rx, ru⟩ := rL.last nn
    refine ⟨fun σ' G' => ∃ m', m' < _ ∧ Iv m' σ' G', fun σ' G' z => z, ?_⟩
    refine ⟨_, rfl, .inl ⟨rfl, _, SqL.of gw⟩, wa, _, p, rfl, rfl, gw, ?_, ?_⟩
    · rw [List.length_append, List.length_singleton, Nat.add_sub_cancel, List.getElem?_concat_length]
    rw [List.dropLast_concat]
    have ntG : ∀ u, G wa = some u → hoT u = false := fun _ z => by rw [gw] at z; cases z; rfl
    have k1 : Kn (Pl H) G (upd G wa (.lst zs)) := Kn.rfl.put nW ntG
    have s1 : Sm T H (upd G wa (.lst zs)) := sG.new nwa tb
    rw [wts_app, wts1] at hwt
    refine ⟨_, rfl, p, u, rfl, (ru.kn k1).any, by omega, s1.2, fun G2 s2 => ⟨_, rfl, ite2 (fun e => ?_) (fun e => ?_)⟩⟩
    · have z := q _ (s1.trans s2)
      have ed : dat x = false := by
        rw [hdat, List.all_append, List.all_cons, dat_eq u, show frm u = false by simpa using e]
        simp
      rw [ed] at z
      exact z
    have hf : frm u = true := by simpa using e
    have k2 : Kn (Pl H) (upd G wa (.lst zs)) G2 := s2.kn s1.2
    have gw2 : G2 wa = some (.lst zs) := s2.at s1.2 upd_same (fun ps z => by cases z)
    refine ⟨_, rfl, .inl ⟨rfl, _, SqL.of gw2⟩, _, rfl, p, u, rfl, (ru.kn k1).kn k2, hf, fun pa us G3 s3 gp rp => ?_⟩
    have gw3 := s3 _ _ gw2
    have lx := rx.len
    have lp := rp.len
    have l1 := len_szs xs
    have l2 := Dt.szs_wts xs
    have l3 := len_szs (prt u)
    have l4 := Dt.szs_wts (prt u)
    have l5 := prt_wt u
    have l6 := prt_sz u
    refine ⟨wa, pa, zs, us, rfl, rfl, gw3, SqT.of gp, by omega, ?_⟩
    have nt3 : ∀ u, G3 wa = some u → hoT u = false := fun _ z => by rw [gw3] at z; cases z; rfl
    have k3 : Kn (Pl H) G2 G3 := .of s3
    have k4 : Kn (Pl H) G3 (upd G3 wa (.lst (zs ++ us))) := Kn.rfl.put nW nt3
    have s4 : Sm T H (upd G3 wa (.lst (zs ++ us))) := ((s1.trans s2).trans (Sm.of s3 s2.2)).new nwa tb
    refine ⟨Dt.szs (xs ++ prt u), ?_, xs ++ prt u, zs ++ us, _, rfl, rfl, s4, upd_same, ?_, ?_, ?_⟩
    · rw [szs_app, szs_app, szs1]
      omega
    · exact ((((rx.kn k1).kn k2).kn k3).kn k4).app (rp.kn k4)
    · rw [wts_app]
      omega
    · rw [hdat, List.all_append, List.all_append, List.all_cons, dat_eq u, hf]
      simp
  · have ev : vs = [] := by
      cases vs with
      | nil => rfl
      | cons a b => exact absurd rfl e
    subst ev
    cases rL
    have z := q _ sG
    rw [hdat] at z
    exact z
end
end Kq

namespace Kq
open PySem PySem.Spec PyProof.Rows L2 Kf Kg Kv GxR
abbrev tIsFirst : Stmt := tp 29
abbrev tIsArg : Stmt := tp 30
/-- from arguments of p to a data kind -/
def chD (p : Dt → Bool) (x : Dt) : Bool := match x with
  | .tup [.str z, a, b] => if z = "fun" then p a && chD p b else dat x
  | _ => dat x
termination_by x.sz
decreasing_by
  simp only [Dt.sz, Dt.szs]
  omega
theorem chD_fn (p : Dt → Bool) (a b : Dt) : chD p (.tup [.str "fun", a, b]) = (p a && chD p b) := by
  rw [chD]
  exact if_pos rfl
theorem tag_fn {x : Dt} (h : tagD x "fun" 2 = true) : ∃ a b, x = .tup [.str "fun", a, b] := by
  unfold tagD at h
  split at h
  · rename_i y ys
    obtain ⟨h1, h2⟩ := Bool.and_eq_true_iff.mp h
    have h1 := of_decide_eq_true h1
    obtain ⟨a, b, rfl⟩ : ∃ a b, ys = [a, b] := by
      match ys, h1 with
      | [a, b], _ => exact ⟨a, b, rfl⟩
    cases y with
    | str z => exact ⟨a, b, by rw [show z = "fun" from of_decide_eq_true h2]⟩
    | _ => cases h2
  · cases h
theorem tag_fn' (a b : Dt) : tagD (.tup [.str "fun", a, b]) "fun" 2 = true := by
  show (decide ([a, b].length = 2) && decide (("fun" : Str) = "fun")) = true
  simp
theorem chD_no (p : Dt → Bool) {x : Dt} (h : tagD x "fun" 2 = false) : chD p x = dat x := by
  unfold chD
  split
  · rename_i z a b
    by_cases e : z = "fun"
    · subst e
      rw [tag_fn'] at h
      cases h
    · exact if_neg e
  · rfl
theorem dat_fn (a b : Dt) : dat (.tup [.str "fun", a, b]) = false := by
  rw [dat_eq]
  have : frm (.tup [.str "fun", a, b]) = false := by
    unfold frm
    simp
  rw [this]
  rfl
def fstD (x : Dt) : Bool := tagD x "fun" 2 && chD dat x
def argD (x : Dt) : Bool := dat x || fstD x
def kndD (x : Dt) : Bool := chD argD x
theorem wt3 (u a b : Dt) : (Dt.tup [u, a, b]).wt = u.wt + a.wt + b.wt + 9 := by
  simp only [Dt.wt, Dt.wts]
  omega
theorem sz3 (u a b : Dt) : (Dt.tup [u, a, b]).sz = u.sz + a.sz + b.sz + 1 := by
  simp only [Dt.sz, Dt.szs]
  omega
theorem Dd.tup3 {N : Addr → Prop} {H : Hp} {u a b : Dt} {v : V} (h : Dd N H (.tup [u, a, b]) v) : ∃ p x y z, v = .ref p ∧ TupA H p [x, y, z] ∧ Dd N H u x ∧ Dd N H a y ∧ Dd N H b z := by
  obtain ⟨p, vs, rfl, hp, hL⟩ := Dd.tupS h
  cases hL with
  | cons h1 t =>
    cases t with
    | cons h2 t =>
      cases t with
      | cons h3 t =>
        cases t
        exact ⟨p, _, _, _, rfl, hp, h1, h2, h3⟩
section
variable {P : Program} {w : World} {K : PySem.W.Frag} {mg : Str → Option Value} {base : Heap}
theorem scIsFirst : FnScope ["thing", "rest"] ["thing"] (defScope tIsFirst) := ⟨rfl, rfl, rfl, by decide +kernel, rfl, by decide +kernel, by decide +kernel⟩
def spYes (T : List Addr) (p : Dt → Bool) : Sp := fun vs H Q _ => ∃ (v : V) (x : Dt), vs = [v] ∧ Dd Any H x v ∧ x.wt + 2 ≤ sizeLine ∧ TbS T H ∧ ∀ G : Hp, Sm T H G → Q (.bl (p x)) G
theorem okIsFirst {f fT fD : Addr} {fd fdT fdD : FuncData} {k : Nat} {T : List Addr} (F : Fun K "is_first" "is_first" tIsFirst f fd)
    (GT : FnOk P w K mg base CX0 (k + 6) fT fdT ["thing", "word", "many"] spTagged) (bT : Binds K fdT ["thing", "word", "many"] []) (gT : mg "is_tagged" = some (.ref fT)) (kT : PySem.W.keepIn K (.ref fT) = true)
    (GD : FnOk P w K mg base CX0 (k + 6) fD fdD ["thing"] (spIsData T)) (bD : Binds K fdD ["thing"] []) (gD : mg "is_data" = some (.ref fD)) (kD : PySem.W.keepIn K (.ref fD) = true) : FnOk P w K mg base CX0 (k + 7) f fd ["thing"] (spYes T fstD) := by
  refine F.ok scIsFirst (fun vs H Q E h => ?_) (fun cdv A outer s H vs Q E hr h => ?_)
  · obtain ⟨v, x, rfl, _⟩ := h
    rfl
  obtain ⟨v, x, rfl, hd, hw, tb, q⟩ := h
  refine ⟨_, pss_cons (ps_if (pt_not (pt_val (pe_call GT hr (by rfl) gT kT bT .nil pass0 (pa_cons (pv 0) (pa_cons pe_str (pa_cons pe_int pa_nil)))))) (pss_one (ps_ret pe_bl)) pss_nil)
    (pss_cons (ps_set (i := 1) scIsFirst.nd rfl (.inl rfl) (pv 0))
    (pss_cons (ps_while PassesOwn.never (pt_val (pe_call GT hr (by rfl) gT kT bT .nil pass0 (pa_cons (pv 1) (pa_cons pe_str (pa_cons pe_int pa_nil)))))
      (pss_cons (ps_if (pt_not (pt_val (pe_call GD hr (by rfl) gD kD bD .nil pass0 (pa_cons (pe_ix ix_tup (pv 1) pe_int (fun _ _ => rfl)) pa_nil)))) (pss_one (ps_ret pe_bl)) pss_nil)
      (pss_one (ps_set (i := 1) scIsFirst.nd rfl (.inl rfl) (pe_ix ix_tup (pv 1) pe_int (fun _ _ => rfl))))))
    (pss_one (ps_ret (pe_call GD hr (by rfl) gD kD bD .nil pass0 (pa_cons (pv 1) pa_nil)))))), ?_⟩
  refine ⟨_, rfl, v, x, "fun", 2, rfl, hd, _, rfl, ite2 (fun e => ?_) (fun e => ?_)⟩
  · have z := q _ (Sm.refl tb)
    have e1 : fstD x = false := by
      unfold fstD
      rw [show tagD x "fun" 2 = false by simpa using e, Bool.false_and]
    rw [e1] at z
    exact z
  have et : fstD x = chD dat x := by
    unfold fstD
    rw [show tagD x "fun" 2 = true by simpa using e, Bool.true_and]
  let Iv : Nat → L2.St → Hp → Prop := fun m σ G => ∃ y u, m = y.sz ∧ σ = [some v, some u] ∧ Sm T H G ∧ Dd Any G y u ∧ y.wt ≤ x.wt ∧ chD dat x = chD dat y
  refine ⟨_, rfl, Iv, ⟨_, x, v, rfl, rfl, Sm.refl tb, hd, Nat.le_refl _, rfl⟩, fun m σ G z => ?_⟩
  obtain ⟨y, u, rfl, rfl, sG, hy, hyw, hc⟩ := z
  refine ⟨_, rfl, u, y, "fun", 2, rfl, hy, _, rfl, ite2 (fun e => ?_) (fun e => ?_)⟩
  · obtain ⟨a, b, rfl⟩ := tag_fn e
    obtain ⟨p, x0, y0, z0, rfl, hp, _, ha, hb⟩ := Dd.tup3 hy
    rw [wt3] at hyw
    refine ⟨fun σ' G' => ∃ m', m' < _ ∧ Iv m' σ' G', fun σ' G' z => z, ?_⟩
    refine ⟨_, rfl, p, _, _, _, rfl, rfl, TupA.sq hp, atI_nat (j := 1) rfl, y0, a, rfl, ha, by omega, sG.2, fun G2 s2 => ⟨_, rfl, ite2 (fun e => ?_) (fun e => ?_)⟩⟩
    · have z := q _ (sG.trans s2)
      rw [et, hc, chD_fn, show dat a = false by simpa using e] at z
      exact z
    refine ⟨_, rfl, p, _, _, _, rfl, rfl, TupA.sq (hp.sm s2 sG.2), atI_nat (j := 2) rfl, b.sz, ?_, b, z0, rfl, rfl, sG.trans s2, hb.kn (s2.kn sG.2), by omega, ?_⟩
    · rw [sz3]
      omega
    · rw [hc, chD_fn, show dat a = true by simpa using e, Bool.true_and]
  · refine ⟨_, rfl, u, y, rfl, hy, by omega, sG.2, fun G2 s2 => ?_⟩
    have z := q _ (sG.trans s2)
    rw [et, hc, chD_no _ (by simpa using e)] at z
    exact z
theorem scIsArg : FnScope ["thing"] ["thing"] (defScope tIsArg) := ⟨rfl, rfl, rfl, by decide +kernel, rfl, by decide +kernel, by decide +kernel⟩
theorem okIsArg {f fT fD : Addr} {fd fdT fdD : FuncData} {k : Nat} {T : List Addr} (F : Fun K "is_argument" "is_argument" tIsArg f fd)
    (GT : FnOk P w K mg base CX0 (k + 7) fT fdT ["thing"] (spYes T fstD)) (bT : Binds K fdT ["thing"] []) (gT : mg "is_first" = some (.ref fT)) (kT : PySem.W.keepIn K (.ref fT) = true)
    (GD : FnOk P w K mg base CX0 (k + 7) fD fdD ["thing"] (spIsData T)) (bD : Binds K fdD ["thing"] []) (gD : mg "is_data" = some (.ref fD)) (kD : PySem.W.keepIn K (.ref fD) = true) : FnOk P w K mg base CX0 (k + 8) f fd ["thing"] (spYes T argD) := by
  refine F.ok scIsArg (fun vs H Q E h => ?_) (fun cdv A outer s H vs Q E hr h => ?_)
  · obtain ⟨v, x, rfl, _⟩ := h
    rfl
  obtain ⟨v, x, rfl, hd, hw, tb, q⟩ := h
  refine ⟨_, pss_one (ps_ret (pe_or (pe_call GD hr (by rfl) gD kD bD .nil pass0 (pa_cons (pv 0) pa_nil)) (pe_one (pe_call GT hr (by rfl) gT kT bT .nil pass0 (pa_cons (pv 0) pa_nil))))), ?_⟩
  refine ⟨_, rfl, v, x, rfl, hd, hw, tb, fun G sG => ⟨_, rfl, ite2 (fun e => ?_) (fun e => ?_)⟩⟩
  · have z := q _ sG
    unfold argD at z
    rw [e] at z
    exact z
  · refine ⟨_, rfl, v, x, rfl, hd.kn (sG.kn tb), hw, sG.2, fun G2 s2 => ?_⟩
    have z := q _ (sG.trans s2)
    unfold argD at z
    rw [show dat x = false by simpa using e, Bool.false_or] at z
    exact z
end
end Kq

namespace Kq
open PySem PySem.Spec PyProof.Rows L2 Kf Kg Kv GxR
def numD : Dt → Bool
  | .int i => decide (0 ≤ i)
  | _ => false
abbrev tTruth : Stmt := tp 19
abbrev tWhole : Stmt := tp 20
abbrev tNumber : Stmt := tp 21
section
variable {P : Program} {w : World} {K : PySem.W.Frag} {mg : Str → Option Value} {base : Heap}
def spYesS (p : Dt → Bool) : Sp := fun vs H Q _ => ∃ (v : V) (x : Dt), vs = [v] ∧ Dd Any H x v ∧ Q (.bl (p x)) H
theorem scTruth : FnScope ["thing"] ["thing"] (defScope tTruth) := ⟨rfl, rfl, rfl, by decide +kernel, rfl, by decide +kernel, by decide +kernel⟩
theorem okTruth {f : Addr} {fd : FuncData} {k : Nat} (F : Fun K "is_truth" "is_truth" tTruth f fd) (mi : mg "isinstance" = none) (mb : mg "bool" = none) : FnOk P w K mg base CX0 (k + 1) f fd ["thing"] (spYesS Dt.isBl) := by
  refine F.ok scTruth (fun vs H Q E h => ?_) (fun cdv A outer s H vs Q E hr h => ?_)
  · obtain ⟨v, x, rfl, _⟩ := h
    rfl
  obtain ⟨v, x, rfl, hd, q⟩ := h
  refine ⟨_, pss_one (ps_ret (pe_callB (isiK K rfl) (by rfl) mi PyProof.Rows.boot_isinstance (pa_cons (pv 0) (pa_cons (pe_bltn (v := .ty "bool") (by rfl) mb PyProof.Rows.boot_bool rfl) pa_nil)))), ?_⟩
  exact ⟨_, rfl, _, _, _, _, x.isBl, rfl, .ty "bool", hd.ty, kBl K x, q⟩
def whlD : Dt → Bool
  | .int _ => true
  | _ => false
theorem scWhole : FnScope ["thing"] ["thing"] (defScope tWhole) := ⟨rfl, rfl, rfl, by decide +kernel, rfl, by decide +kernel, by decide +kernel⟩
theorem okWhole {f : Addr} {fd : FuncData} {k : Nat} (F : Fun K "is_whole" "is_whole" tWhole f fd) (mi : mg "isinstance" = none) (mb : mg "bool" = none) (mn : mg "int" = none) : FnOk P w K mg base CX0 (k + 1) f fd ["thing"] (spYesS whlD) := by
  refine F.ok scWhole (fun vs H Q E h => ?_) (fun cdv A outer s H vs Q E hr h => ?_)
  · obtain ⟨v, x, rfl, _⟩ := h
    rfl
  obtain ⟨v, x, rfl, hd, q⟩ := h
  refine ⟨_, pss_one (ps_ret (pe_and (pe_callB (isiK K rfl) (by rfl) mi PyProof.Rows.boot_isinstance (pa_cons (pv 0) (pa_cons (pe_bltn (v := .ty "int") (by rfl) mn (by decide +kernel) rfl) pa_nil)))
    (pe_one (pe_not (pe_callB (isiK K rfl) (by rfl) mi PyProof.Rows.boot_isinstance (pa_cons (pv 0) (pa_cons (pe_bltn (v := .ty "bool") (by rfl) mb PyProof.Rows.boot_bool rfl) pa_nil))))))), ?_⟩
  refine ⟨_, rfl, _, _, _, _, x.isInt, rfl, .ty "int", hd.ty, kInt K x, _, rfl, ite2 (fun e => ?_) (fun e => ?_)⟩
  · refine ⟨_, rfl, _, _, _, _, x.isBl, rfl, .ty "bool", hd.ty, kBl K x, _, rfl, ?_⟩
    have e1 : (!x.isBl) = whlD x := by
      cases x <;> first | rfl | cases e
    rw [e1]
    exact q
  · have e1 : whlD x = false := by
      cases x <;> first | rfl | exact absurd rfl e
    rw [e1] at q
    exact q
theorem scNumber : FnScope ["thing"] ["thing"] (defScope tNumber) := ⟨rfl, rfl, rfl, by decide +kernel, rfl, by decide +kernel, by decide +kernel⟩
theorem okNumber {f fW : Addr} {fd fdW : FuncData} {k : Nat} (F : Fun K "is_number" "is_number" tNumber f fd)
    (GW : FnOk P w K mg base CX0 (k + 1) fW fdW ["thing"] (spYesS whlD)) (bW : Binds K fdW ["thing"] []) (gW : mg "is_whole" = some (.ref fW)) (kW : PySem.W.keepIn K (.ref fW) = true) : FnOk P w K mg base CX0 (k + 2) f fd ["thing"] (spYesS numD) := by
  refine F.ok scNumber (fun vs H Q E h => ?_) (fun cdv A outer s H vs Q E hr h => ?_)
  · obtain ⟨v, x, rfl, _⟩ := h
    rfl
  obtain ⟨v, x, rfl, hd, q⟩ := h
  refine ⟨_, pss_one (ps_ret (pe_and (pe_call GW hr (by rfl) gW kW bW .nil pass0 (pa_cons (pv 0) pa_nil)) (pe_one (pe_cmpR op_ge (pv 0) pe_int (nomark _))))), ?_⟩
  refine ⟨_, rfl, v, x, rfl, hd, _, rfl, ite2 (fun e => ?_) (fun e => ?_)⟩
  · obtain ⟨i, rfl⟩ : ∃ i, x = .int i := by
      cases x with
      | int i => exact ⟨i, rfl⟩
      | _ => cases e
    cases hd
    exact ⟨_, rfl, _, _, rfl, rfl, q⟩
  · have e1 : numD x = false := by
      cases x <;> first | rfl | exact absurd rfl e
    rw [e1] at q
    exact q
end
end Kq

namespace Kq
open PySem PySem.Spec PyProof.Rows L2 Kf Kg Kv GxR RZ
/-! all over two at once -/
section
variable {K : PySem.W.Frag} {a b : Addr} {xs ys : List V} {g : TG} {te : TE} {vs : List Nat} {σ0 : L2.St} {G : Hp} {Qe : Bool → Hp → Prop}
theorem all_zipL (Pv : Nat → Hp → Prop) (h0 : Pv 0 G) (hl : ∀ i H, Pv i H → SqL K H a xs ∧ SqL K H b ys)
    (hs : ∀ i x y T H, xs[i]? = some x → ys[i]? = some y → Pv i H → H T = none → g (.ref T) σ0 (upd H T (.tup [x, y])) fun σ2 H2 => wipe σ2 vs = σ0 ∧ te σ2 H2 fun y H4 => ∃ b, y = .bl b ∧ if b = true then Pv (i + 1) H4 else Qe false H4)
    (hd : ∀ H, Pv (min xs.length ys.length) H → Qe true H) : ∃ W : Nat → Nat → Hp → Prop, (∃ m, W 0 m G) ∧ Turns (Itz K a b) σ0 vs g te Qe W := by
  refine ⟨fun i m F => m = min xs.length ys.length - i ∧ i ≤ min xs.length ys.length ∧ Pv i F, ⟨_, rfl, Nat.zero_le _, h0⟩, fun i m F z => ?_⟩
  obtain ⟨rfl, hi, p⟩ := z
  obtain ⟨q1, q2⟩ := hl i F p
  by_cases lt : i < min xs.length ys.length
  · have l1 : i < xs.length := by omega
    have l2 : i < ys.length := by omega
    refine .inr ⟨⟨xs, ys, xs[i], ys[i], q1, q2, List.getElem?_eq_getElem l1, List.getElem?_eq_getElem l2⟩, Pv (i + 1), fun F' p' => ⟨min xs.length ys.length - (i + 1), by omega, rfl, lt, p'⟩, fun x F' y => ?_⟩
    obtain ⟨T, x1, y1, rfl, hT, rfl, e1, e2⟩ := y
    exact hs i x1 y1 T F (e1 xs q1) (e2 ys q2) p hT
  · have e : i = min xs.length ys.length := by omega
    subst e
    exact .inl ⟨⟨xs, ys, q1, q2, by omega⟩, hd F p⟩
theorem all_zipT (Pv : Nat → Hp → Prop) (h0 : Pv 0 G) (hl : ∀ i H, Pv i H → SqT K H a xs ∧ SqT K H b ys)
    (hs : ∀ i x y T H, xs[i]? = some x → ys[i]? = some y → Pv i H → H T = none → g (.ref T) σ0 (upd H T (.tup [x, y])) fun σ2 H2 => wipe σ2 vs = σ0 ∧ te σ2 H2 fun y H4 => ∃ b, y = .bl b ∧ if b = true then Pv (i + 1) H4 else Qe false H4)
    (hd : ∀ H, Pv (min xs.length ys.length) H → Qe true H) : ∃ W : Nat → Nat → Hp → Prop, (∃ m, W 0 m G) ∧ Turns (ItzT K a b) σ0 vs g te Qe W := by
  refine ⟨fun i m F => m = min xs.length ys.length - i ∧ i ≤ min xs.length ys.length ∧ Pv i F, ⟨_, rfl, Nat.zero_le _, h0⟩, fun i m F z => ?_⟩
  obtain ⟨rfl, hi, p⟩ := z
  obtain ⟨q1, q2⟩ := hl i F p
  by_cases lt : i < min xs.length ys.length
  · have l1 : i < xs.length := by omega
    have l2 : i < ys.length := by omega
    refine .inr ⟨⟨xs, ys, xs[i], ys[i], q1, q2, List.getElem?_eq_getElem l1, List.getElem?_eq_getElem l2⟩, Pv (i + 1), fun F' p' => ⟨min xs.length ys.length - (i + 1), by omega, rfl, lt, p'⟩, fun x F' y => ?_⟩
    obtain ⟨T, x1, y1, rfl, hT, rfl, e1, e2⟩ := y
    exact hs i x1 y1 T F (e1 xs q1) (e2 ys q2) p hT
  · have e : i = min xs.length ys.length := by omega
    subst e
    exact .inl ⟨⟨xs, ys, q1, q2, by omega⟩, hd F p⟩
end
/-! rising -/
theorem cutD1 (xs : List Str) : cutV (xs.map V.str) (some 1) none = (xs.drop 1).map V.str := by
  cases xs with
  | nil => rfl
  | cons x r => exact cutFrom1 (.str x) (r.map V.str)
def ltS (x y : Str) : Bool := decide (x.cps.toList < y.cps.toList)
def rising : List Str → Bool
  | x :: y :: r => ltS x y && rising (y :: r)
  | _ => true
theorem rising_at : ∀ {xs : List Str} {i : Nat} {x y : Str}, rising xs = true → xs[i]? = some x → xs[i + 1]? = some y → ltS x y = true
  | a :: b :: r, 0, x, y, h, e1, e2 => by
    obtain rfl := Option.some.inj e1
    obtain rfl := Option.some.inj e2
    exact (Bool.and_eq_true_iff.mp h).1
  | a :: b :: r, i + 1, x, y, h, e1, e2 => rising_at (xs := b :: r) (i := i) (Bool.and_eq_true_iff.mp h).2 e1 e2
  | [], _, _, _, _, e1, _ => by simp at e1
  | [_], 0, _, _, _, _, e2 => by simp at e2
  | [_], _ + 1, _, _, _, e1, _ => by simp at e1
theorem rising_of : ∀ {xs : List Str}, (∀ i x y, xs[i]? = some x → xs[i + 1]? = some y → ltS x y = true) → rising xs = true
  | [], _ => rfl
  | [_], _ => rfl
  | a :: b :: r, h => Bool.and_eq_true_iff.mpr ⟨h 0 a b rfl rfl, rising_of fun i x y e1 e2 => h (i + 1) x y e1 e2⟩
abbrev tRising : Stmt := tp 23
abbrev tTurns : Stmt := tp 40
abbrev tFills : Stmt := tp 41
abbrev tFill : Stmt := tp 42
section
variable {P : Program} {w : World} {K : PySem.W.Frag} {mg : Str → Option Value} {base : Heap}
theorem scRising : FnScope ["row"] ["row"] (defScope tRising) := ⟨rfl, rfl, rfl, by decide +kernel, rfl, by decide +kernel, by decide +kernel⟩
def spRising (T : List Addr) : Sp := fun vs H Q _ => ∃ (a : Addr) (xs : List Str), vs = [.ref a] ∧ H a = some (.lst (xs.map V.str)) ∧ TbS T H ∧ ∀ G : Hp, Sm T H G → Q (.bl (rising xs)) G
theorem okRising {f c p : Addr} {fd : FuncData} {k : Nat} {T : List Addr} (F : FunC K "is_rising" "is_rising" tRising f fd c) (TB : TabB base mg c p) (hp : p ∈ T)
    (ma : mg "all" = none) (mz : mg "zip" = none) : FnOk P w K mg base CX0 (k + 4) f fd ["row"] (spRising T) := by
  refine F.ok scRising (fun vs H Q E h => ?_) (fun A outer s H vs Q E hr h => ?_)
  · obtain ⟨a, xs, rfl, _⟩ := h
    rfl
  obtain ⟨a, xs, rfl, ha, tb, q⟩ := h
  refine ⟨_, pss_one (ps_ret (pe_allG (c := c) (P := p) (own := ["one", "other"]) (caps := []) (vs := [0, 1]) (g := gTup K 2 (gCons (gName 0) (gCons (gName 1) gNil))) hr (by rfl) ma TB rfl
      (gxS_by (N := ["row"]) (sc := defScope tRising) (by decide +kernel)) (pi_zipA (by rfl) mz (pa_cons (pv 0) (pa_cons (pe_slice sl_list (pv 0) (po_some pe_int) po_none) pa_nil)))
      (fun _ _ _ _ _ => pg_tup rfl (pgs_cons (pg_name (i := 0) (show (["one", "other"] : List Str).Nodup by decide +kernel) rfl (.inl rfl)) (pgs_cons (pg_name (i := 1) (show (["one", "other"] : List Str).Nodup by decide +kernel) rfl (.inl rfl)) pgs_nil)))
      (fun _ _ _ _ _ => pe_cmpR op_lt_str (pv 0) (pv 1) (nomark _)))), ?_⟩
  refine ⟨_, rfl, _, rfl, 1, rfl, a, _, rfl, SqL.of ha, fun b nb => ?_⟩
  have s1 := newS (o := .lst (cutV (xs.map V.str) (some 1) none)) nb
  have ec : cutV (xs.map V.str) (some 1) none = (xs.drop 1).map V.str := cutD1 xs
  rw [ec] at s1 ⊢
  have tb1 := tb.same s1
  refine ⟨a, b, _, _, rfl, .inl ⟨SqL.of (s1 _ _ ha), SqL.of upd_same, tb1 p hp, fun H2 htab => ?_⟩⟩
  have s2 : Sm T H H2 := (Sm.of s1 tb).trans (Sm.tab hp tb1 htab)
  have ga2 : H2 a = some (.lst (xs.map V.str)) := s2.at tb ha fun _ z => by cases z
  have gb2 : H2 b = some (.lst ((xs.drop 1).map V.str)) := (Sm.tab hp tb1 htab).at tb1 upd_same fun _ z => by cases z
  refine all_zipL (xs := xs.map V.str) (ys := (xs.drop 1).map V.str) (fun i F => Sm T H2 F ∧ ∀ j x y, j < i → xs[j]? = some x → xs[j + 1]? = some y → ltS x y = true) ⟨Sm.refl s2.2, fun j x y h => by omega⟩
    (fun i F z => ⟨SqL.of (z.1.at s2.2 ga2 fun _ z => by cases z), SqL.of (z.1.at s2.2 gb2 fun _ z => by cases z)⟩) (fun i x y To F hx hy z nT => ?_) (fun F z => ?_)
  · obtain ⟨sF, al⟩ := z
    rw [List.getElem?_map] at hx hy
    rw [List.getElem?_drop] at hy
    cases h1 : xs[i]? with
    | none => rw [h1] at hx; cases hx
    | some x1 =>
      rw [h1] at hx
      obtain rfl := Option.some.inj hx
      rw [Nat.add_comm 1 i] at hy
      cases h2 : xs[i + 1]? with
      | none => rw [h2] at hy; cases hy
      | some y1 =>
        rw [h2] at hy
        obtain rfl := Option.some.inj hy
        have sT := newS (o := .tup [V.str x1, .str y1]) nT
        refine ⟨To, _, rfl, SqT.of upd_same, rfl, _, _, rfl, _, _, rfl, rfl, rfl, _, rfl, _, rfl, _, _, rfl, rfl, _, rfl, ?_⟩
        refine ite2 (fun e => ⟨sF.trans (Sm.of sT sF.2), fun j x y hj e1 e2 => ?_⟩) (fun e => ?_)
        · by_cases c : j = i
          · subst c
            rw [h1] at e1
            rw [h2] at e2
            obtain rfl := Option.some.inj e1
            obtain rfl := Option.some.inj e2
            exact e
          · exact al j x y (by omega) e1 e2
        · have z := q _ ((s2.trans sF).trans (Sm.of sT sF.2))
          have er : rising xs = false := by
            cases c : rising xs with
            | false => rfl
            | true => exact absurd (rising_at c h1 h2) e
          rw [er] at z
          exact z
  · obtain ⟨sF, al⟩ := z
    have z := q _ (s2.trans sF)
    have er : rising xs = true := rising_of fun i x y e1 e2 => by
      refine al i x y ?_ e1 e2
      have := (List.getElem?_eq_some_iff.mp e2).1
      rw [List.length_map, List.length_map, List.length_drop]
      omega
    rw [er] at z
    exact z
end
end Kq

namespace Kq
open PySem PySem.Spec PyProof.Rows L2 Kf Kg Kv GxR RZ
def trnD : Dt → Bool
  | .int i => decide (1 ≤ i) && decide (i ≤ 30)
  | _ => false
def filD1 : Dt → Bool
  | .tup [n, k] => nmD n && dat k
  | _ => false
def nmOf : Dt → Str
  | .tup (.str n :: _) => n
  | _ => ""
def filD : Dt → Bool
  | .tup xs => xs.all filD1 && rising (xs.map nmOf)
  | _ => false
theorem wts_mem : ∀ {xs : List Dt} {x : Dt}, x ∈ xs → x.wt + 2 ≤ Dt.wts xs
  | y :: ys, x, h => by
    rcases List.mem_cons.mp h with rfl | h
    · simp only [Dt.wts]
      omega
    · have := wts_mem h
      simp only [Dt.wts]
      omega
theorem filD1_see {x : Dt} (h : filD1 x = true) : ∃ n k, x = .tup [.str n, k] ∧ nmS n = true ∧ dat k = true := by
  cases x with
  | tup xs =>
    match xs, h with
    | [n, k], h =>
      obtain ⟨h1, h2⟩ := Bool.and_eq_true_iff.mp h
      cases n with
      | str n => exact ⟨n, k, rfl, h1, h2⟩
      | _ => cases h1
  | _ => cases h
section
variable {P : Program} {w : World} {K : PySem.W.Frag} {mg : Str → Option Value} {base : Heap}
/-! is_turns -/
theorem scTurns : FnScope ["thing"] ["thing"] (defScope tTurns) := ⟨rfl, rfl, rfl, by decide +kernel, rfl, by decide +kernel, by decide +kernel⟩
theorem okTurns {f fW : Addr} {fd fdW : FuncData} {k : Nat} {u1 : Value} (F : Fun K "is_turns" "is_turns" tTurns f fd)
    (GW : FnOk P w K mg base CX0 (k + 1) fW fdW ["thing"] (spYesS whlD)) (bW : Binds K fdW ["thing"] []) (gW : mg "is_whole" = some (.ref fW)) (kW : PySem.W.keepIn K (.ref fW) = true)
    (gM : mg "MOST_TURNS" = some u1) (rM : RelV (.int 30) u1) : FnOk P w K mg base CX0 (k + 2) f fd ["thing"] (spYesS trnD) := by
  refine F.ok scTurns (fun vs H Q E h => ?_) (fun cdv A outer s H vs Q E hr h => ?_)
  · obtain ⟨v, x, rfl, _⟩ := h
    rfl
  obtain ⟨v, x, rfl, hd, q⟩ := h
  refine ⟨_, pss_one (ps_ret (pe_and (pe_call GW hr (by rfl) gW kW bW .nil pass0 (pa_cons (pv 0) pa_nil))
    (pe_one (pe_chain op_le op_le pe_int (pv 0) (pe_glob (v := .int 30) (by rfl) gM rM))))), ?_⟩
  refine ⟨_, rfl, v, x, rfl, hd, _, rfl, ite2 (fun e => ?_) (fun e => ?_)⟩
  · cases x with
    | int i =>
      cases hd
      refine ⟨_, rfl, _, _, rfl, rfl, _, rfl, ite2 (fun e1 => ?_) (fun e1 => ?_)⟩
      · have z := q
        have e2 : trnD (.int i) = decide (i ≤ 30) := by
          show (decide (1 ≤ i) && _) = _
          rw [show decide (1 ≤ i) = true from e1, Bool.true_and]
        rw [e2] at z
        exact ⟨_, _, rfl, rfl, z⟩
      · have z := q
        have e2 : trnD (.int i) = false := by
          show (decide (1 ≤ i) && _) = _
          rw [show decide (1 ≤ i) = false by simpa using e1, Bool.false_and]
        rw [e2] at z
        exact z
    | _ => cases e
  · have e1 : trnD x = false := by
      cases x <;> first | rfl | exact absurd rfl e
    rw [e1] at q
    exact q
/-! is_fill -/
theorem scFill : FnScope ["thing"] ["thing"] (defScope tFill) := ⟨rfl, rfl, rfl, by decide +kernel, rfl, by decide +kernel, by decide +kernel⟩
theorem okFill {f fN fD : Addr} {fd fdN fdD : FuncData} {k : Nat} {T : List Addr} (F : Fun K "is_fill" "is_fill" tFill f fd)
    (GN : FnOk P w K mg base CX0 k fN fdN ["thing"] (spName T)) (bN : Binds K fdN ["thing"] []) (gN : mg "is_name" = some (.ref fN)) (kN : PySem.W.keepIn K (.ref fN) = true)
    (GD : FnOk P w K mg base CX0 k fD fdD ["thing"] (spIsData T)) (bD : Binds K fdD ["thing"] []) (gD : mg "is_data" = some (.ref fD)) (kD : PySem.W.keepIn K (.ref fD) = true)
    (mi : mg "isinstance" = none) (mt : mg "tuple" = none) (ml : mg "len" = none) : FnOk P w K mg base CX0 (k + 1) f fd ["thing"] (spYes T filD1) := by
  refine F.ok scFill (fun vs H Q E h => ?_) (fun cdv A outer s H vs Q E hr h => ?_)
  · obtain ⟨v, x, rfl, _⟩ := h
    rfl
  obtain ⟨v, x, rfl, hd, hw, tb, q⟩ := h
  refine ⟨_, pss_one (ps_ret (pe_and (pe_callB (isiK K rfl) (by rfl) mi PyProof.Rows.boot_isinstance (pa_cons (pv 0) (pa_cons (pe_bltn (v := .ty "tuple") (by rfl) mt PyProof.Rows.boot_tuple rfl) pa_nil)))
    (pe_and (pe_cmpR op_eq (pe_callB call_len_seq (by rfl) ml PySem.boot_len (pa_cons (pv 0) pa_nil)) pe_int (nomark _))
    (pe_and (pe_call GN hr (by rfl) gN kN bN .nil pass0 (pa_cons (pe_ix ix_tup (pv 0) pe_int (fun _ _ => rfl)) pa_nil))
    (pe_one (pe_call GD hr (by rfl) gD kD bD .nil pass0 (pa_cons (pe_ix ix_tup (pv 0) pe_int (fun _ _ => rfl)) pa_nil))))))), ?_⟩
  have no : filD1 x = false → Q (.bl false) H := fun e => by
    have z := q _ (Sm.refl tb)
    rw [e] at z
    exact z
  refine ⟨_, rfl, _, _, _, _, x.isTup, rfl, .ty "tuple", hd.ty, kTup K x, _, rfl, ite2 (fun e => ?_) (fun e => ?_)⟩
  rotate_left
  · refine no ?_
    cases x <;> first | rfl | exact absurd rfl e
  obtain ⟨xs, rfl⟩ : ∃ xs, x = .tup xs := by
    cases x with
    | tup xs => exact ⟨xs, rfl⟩
    | _ => cases e
  obtain ⟨a, us, rfl, ha, hL⟩ := Dd.tupS hd
  have ll := hL.len
  refine ⟨_, rfl, a, _, rfl, .inr (TupA.sq ha), rfl, _, rfl, ite2 (fun e => ?_) (fun e => ?_)⟩
  rotate_left
  · have e1 : ¬ us.length = 2 := fun z => e (decide_eq_true (by rw [z]; rfl))
    refine no ?_
    match xs, ll with
    | [], _ => rfl
    | [_], _ => rfl
    | [_, _], ll => exact absurd ll.symm e1
    | _ :: _ :: _ :: _, _ => rfl
  have e1 : us.length = 2 := by
    have := V.int.inj (of_decide_eq_true e)
    omega
  obtain ⟨y, z, u1, u2, rfl, rfl, hy, hz⟩ : ∃ y z u1 u2, xs = [y, z] ∧ us = [u1, u2] ∧ Dd Any H y u1 ∧ Dd Any H z u2 := by
    rcases DdL.see hL with ⟨rfl, rfl⟩ | ⟨y, ys, u1, ws, rfl, rfl, hy, hys⟩
    · cases e1
    rcases DdL.see hys with ⟨rfl, rfl⟩ | ⟨z, zs, u2, ws', rfl, rfl, hz, hzs⟩
    · cases e1
    rcases DdL.see hzs with ⟨rfl, rfl⟩ | ⟨z', zs, u3, ws', rfl, rfl, hz', hzs⟩
    · exact ⟨y, z, u1, u2, rfl, rfl, hy, hz⟩
    · simp at e1
  have hwt : y.wt + 2 + (z.wt + 2) ≤ (Dt.tup [y, z]).wt := by
    simp only [Dt.wt, Dt.wts]
    omega
  refine ⟨_, rfl, a, _, _, _, rfl, rfl, TupA.sq ha, atI_nat (j := 0) rfl, u1, y, rfl, hy, by omega, tb, fun G sG => ⟨_, rfl, ite2 (fun e => ?_) (fun e => ?_)⟩⟩
  · have ha' := ha.sm sG tb
    refine ⟨_, rfl, a, _, _, _, rfl, rfl, TupA.sq ha', atI_nat (j := 1) rfl, u2, z, rfl, hz.kn (sG.kn tb), by omega, sG.2, fun G2 s2 => ?_⟩
    have z' := q _ (sG.trans s2)
    have e2 : filD1 (.tup [y, z]) = dat z := by
      show (nmD y && dat z) = _
      rw [show nmD y = true from e, Bool.true_and]
    rw [e2] at z'
    exact z'
  · have z' := q _ sG
    have e2 : filD1 (.tup [y, z]) = false := by
      show (nmD y && dat z) = _
      rw [show nmD y = false by simpa using e, Bool.false_and]
    rw [e2] at z'
    exact z'
end
end Kq

namespace Kq
open PySem PySem.Spec PyProof.Rows L2 Kf Kg Kv GxR RZ
abbrev tFits : Stmt := tp 39
def fitD (role : Str) (x : Dt) : Bool :=
  if role = "name" then nmD x else if role = "number" then numD x else if role = "truth" then x.isBl else if role = "turns" then trnD x else if role = "data" then dat x else if role = "argument" then argD x else (decide (role = "term") || filD x)
theorem Dd.tup2 {N : Addr → Prop} {H : Hp} {a b : Dt} {v : V} (h : Dd N H (.tup [a, b]) v) : ∃ p y z, v = .ref p ∧ TupA H p [y, z] ∧ Dd N H a y ∧ Dd N H b z := by
  obtain ⟨p, vs, rfl, hp, hL⟩ := Dd.tupS h
  rcases DdL.see hL with ⟨e, _⟩ | ⟨y, ys, u1, ws, e, rfl, hy, hys⟩
  · cases e
  cases e
  rcases DdL.see hys with ⟨e, _⟩ | ⟨z, zs, u2, ws', e, rfl, hz, hzs⟩
  · cases e
  cases e
  rcases DdL.see hzs with ⟨_, rfl⟩ | ⟨z, zs, u3, ws', e, _⟩
  · exact ⟨p, u1, u2, rfl, hp, hy, hz⟩
  · cases e
section
variable {P : Program} {w : World} {K : PySem.W.Frag} {mg : Str → Option Value} {base : Heap}
abbrev nFills : List Str := ["thing", "name", "kind"]
theorem scFills : FnScope nFills ["thing"] (defScope tFills) := ⟨rfl, rfl, rfl, by decide +kernel, rfl, by decide +kernel, by decide +kernel⟩
theorem okFills {f c p fF fR : Addr} {fd fdF fdR : FuncData} {k : Nat} {T : List Addr} (F : FunC K "is_fills" "is_fills" tFills f fd c) (TB : TabB base mg c p) (hp : p ∈ T)
    (GF : FnOk P w K mg base CX0 k fF fdF ["thing"] (spYes T filD1)) (bF : Binds K fdF ["thing"] []) (gF : mg "is_fill" = some (.ref fF)) (kF : PySem.W.keepIn K (.ref fF) = true)
    (GR : FnOk P w K mg base CX0 (k + 3) fR fdR ["row"] (spRising T)) (bR : Binds K fdR ["row"] []) (gR : mg "is_rising" = some (.ref fR)) (kR : PySem.W.keepIn K (.ref fR) = true)
    (ma : mg "all" = none) (mi : mg "isinstance" = none) (mt : mg "tuple" = none) : FnOk P w K mg base CX0 (k + 4) f fd ["thing"] (spYes T filD) := by
  refine F.ok scFills (fun vs H Q E h => ?_) (fun A outer s H vs Q E hr h => ?_)
  · obtain ⟨v, x, rfl, _⟩ := h
    rfl
  obtain ⟨v, x, rfl, hd, hw, tb, q⟩ := h
  refine ⟨_, pss_cons (ps_if (PW.pt (pw_or (pt_not (pt_val (pe_callB (isiK K rfl) (by rfl) mi PyProof.Rows.boot_isinstance (pa_cons (pv 0) (pa_cons (pe_bltn (v := .ty "tuple") (by rfl) mt PyProof.Rows.boot_tuple rfl) pa_nil)))))
      (pw_or1 (pt_not (pt_val (pe_allG (c := c) (P := p) (own := ["fill"]) (caps := []) (vs := [0]) (g := gName 0) hr (by rfl) ma TB rfl
        (gxS_by (N := nFills) (sc := defScope tFills) (by decide +kernel)) (pi_tup (pv 0))
        (fun _ _ _ _ _ => pg_name (i := 0) (show (["fill"] : List Str).Nodup by decide +kernel) rfl (.inl rfl))
        (fun _ _ _ _ _ => pe_call GF (Room.deeper hr.in1.in1 _) (by rfl) gF kF bF .nil pass0 (pa_cons (pv 0) pa_nil))))))))
      (pss_one (ps_ret pe_bl)) pss_nil)
    (pss_one (ps_ret (pe_call GR hr (by rfl) gR kR bR .nil pass0 (pa_cons (pe_lc (own := [("name", 1), ("kind", 2)]) (g := gTup K 2 (gCons (gName 1) (gCons (gName 2) gNil))) (by rfl) scFills.nd (pi_tup (pv 0)) (blkOk_by (own := [("name", 1), ("kind", 2)]) (N := nFills) (sc := defScope tFills) (by decide +kernel))
      (fun _ _ _ _ _ => pg_tup rfl (pgs_cons (pg_name (i := 1) scFills.nd rfl (.inl rfl)) (pgs_cons (pg_name (i := 2) scFills.nd rfl (.inl rfl)) pgs_nil))) (fun _ _ _ _ _ => pts_nil) (fun _ _ _ _ _ => pv 1)) pa_nil)))), ?_⟩
  have no : filD x = false → Q (.bl false) H := fun e => by
    have z := q _ (Sm.refl tb)
    rw [e] at z
    exact z
  refine ⟨_, rfl, _, _, _, _, x.isTup, rfl, .ty "tuple", hd.ty, kTup K x, _, rfl, ite2 (fun e => iteT (no ?_)) (fun e => ?_)⟩
  · cases x <;> first | rfl | cases e
  obtain ⟨xs, rfl⟩ : ∃ xs, x = .tup xs := by
    cases x with
    | tup xs => exact ⟨xs, rfl⟩
    | _ => exact absurd rfl e
  obtain ⟨a, us, rfl, ha, hL⟩ := Dd.tupS hd
  have ll := hL.len
  have hws : Dt.wts xs + 2 ≤ sizeLine := by
    have : Dt.wts xs ≤ (Dt.tup xs).wt := by
      simp only [Dt.wt]
      omega
    omega
  refine ⟨_, rfl, a, rfl, ⟨_, TupA.sq ha⟩, tb p hp, fun H2 htab => ?_⟩
  have s2 : Sm T H H2 := Sm.tab hp tb htab
  refine all_tup (xs := us) (fun i F => Sm T H F ∧ (xs.take i).all filD1 = true) ⟨s2, rfl⟩ (fun i F _ z => TupA.sq (ha.sm z.1 tb)) (fun i u F hu z => ?_) (fun F z => ?_)
  · obtain ⟨sF, al⟩ := z
    obtain ⟨d, hd', rd⟩ := hL.get hu
    have hwd := wts_mem (List.mem_of_getElem? hd')
    refine ⟨rfl, _, rfl, u, d, rfl, rd.kn (sF.kn tb), by omega, sF.2, fun F2 s3 => ⟨_, rfl, ?_⟩⟩
    have sF2 := sF.trans s3
    refine ite2 (fun e => ⟨sF2, take_allL hd' al e⟩) (fun e => ?_)
    refine ⟨_, rfl, ?_⟩
    have z := q _ sF2
    have e2 : filD (.tup xs) = false := by
      show (xs.all filD1 && _) = _
      rw [not_allL hd' (by simpa using e), Bool.false_and]
    rw [e2] at z
    exact z
  obtain ⟨sF, al⟩ := z
  rw [← ll, List.take_length] at al
  refine ⟨_, rfl, ?_⟩
  have ha' := ha.sm sF tb
  have hL' := hL.kn (sF.kn tb)
  refine ⟨_, rfl, a, rfl, ⟨_, TupA.sq ha'⟩, fun D nD => ?_⟩
  have aD : a ≠ D := ha'.ne nD
  refine lc_tup (xs := us) (fun i G => Same F G ∧ G D = some (.lst (((xs.take i).map nmOf).map V.str))) ⟨newS nD, upd_same⟩ (fun i G _ z => TupA.sq (ha'.same z.1)) (fun i u G hu z => ?_) (fun G z => ?_)
  · obtain ⟨sG, gD⟩ := z
    obtain ⟨d, hd', rd⟩ := hL'.get hu
    obtain ⟨n, kd, rfl, _, _⟩ := filD1_see (List.all_eq_true.mp al d (List.mem_of_getElem? hd'))
    obtain ⟨pp, y1, y2, rfl, hpp, h1, h2⟩ := Dd.tup2 rd
    cases h1
    refine ⟨pp, _, rfl, TupA.sq (hpp.same sG), rfl, _, _, rfl, _, _, rfl, rfl, rfl, _, rfl, _, gD, ?_, ?_, ?_⟩
    · rw [List.length_map, List.length_map, List.length_take]
      have h3 := (List.getElem?_eq_some_iff.mp hd').1
      have := len_szs xs
      have := Dt.szs_wts xs
      have e0 : sizeLine = 16777216 := rfl
      omega
    · exact fun b o e => by
        rw [upd_ne (fun z => by
          rw [z] at e
          have := sF
          rw [nD] at e
          cases e)]
        exact sG b o e
    · rw [upd_same, List.take_add_one, hd', List.map_append, List.map_append]
      rfl
  · obtain ⟨sG, gD⟩ := z
    rw [← ll, List.take_length] at gD
    have sFG : Sm T H G := sF.trans (Sm.of sG sF.2)
    refine ⟨D, xs.map nmOf, rfl, gD, sFG.2, fun G2 s4 => ?_⟩
    have z := q _ (sFG.trans s4)
    have e2 : filD (.tup xs) = rising (xs.map nmOf) := by
      show (xs.all filD1 && _) = _
      rw [al, Bool.true_and]
    rw [e2] at z
    exact z
/-! fits -/
theorem scFits : FnScope ["role", "part"] ["role", "part"] (defScope tFits) := ⟨rfl, rfl, rfl, by decide +kernel, rfl, by decide +kernel, by decide +kernel⟩
def spFits (T : List Addr) : Sp := fun vs H Q _ => ∃ (r : Str) (v : V) (x : Dt), vs = [.str r, v] ∧ Dd Any H x v ∧ x.wt + 2 ≤ sizeLine ∧ TbS T H ∧ ∀ G : Hp, Sm T H G → Q (.bl (fitD r x)) G
theorem okFits {f f1 f2 f3 f4 f5 f6 f7 : Addr} {fd fd1 fd2 fd3 fd4 fd5 fd6 fd7 : FuncData} {k : Nat} {T : List Addr} (F : Fun K "fits" "fits" tFits f fd)
    (G1 : FnOk P w K mg base CX0 k f1 fd1 ["thing"] (spName T)) (b1 : Binds K fd1 ["thing"] []) (g1 : mg "is_name" = some (.ref f1)) (k1 : PySem.W.keepIn K (.ref f1) = true)
    (G2 : FnOk P w K mg base CX0 k f2 fd2 ["thing"] (spYesS numD)) (b2 : Binds K fd2 ["thing"] []) (g2 : mg "is_number" = some (.ref f2)) (k2 : PySem.W.keepIn K (.ref f2) = true)
    (G3 : FnOk P w K mg base CX0 k f3 fd3 ["thing"] (spYesS Dt.isBl)) (b3 : Binds K fd3 ["thing"] []) (g3 : mg "is_truth" = some (.ref f3)) (k3 : PySem.W.keepIn K (.ref f3) = true)
    (G4 : FnOk P w K mg base CX0 k f4 fd4 ["thing"] (spYesS trnD)) (b4 : Binds K fd4 ["thing"] []) (g4 : mg "is_turns" = some (.ref f4)) (k4 : PySem.W.keepIn K (.ref f4) = true)
    (G5 : FnOk P w K mg base CX0 k f5 fd5 ["thing"] (spIsData T)) (b5 : Binds K fd5 ["thing"] []) (g5 : mg "is_data" = some (.ref f5)) (k5 : PySem.W.keepIn K (.ref f5) = true)
    (G6 : FnOk P w K mg base CX0 k f6 fd6 ["thing"] (spYes T argD)) (b6 : Binds K fd6 ["thing"] []) (g6 : mg "is_argument" = some (.ref f6)) (k6 : PySem.W.keepIn K (.ref f6) = true)
    (G7 : FnOk P w K mg base CX0 k f7 fd7 ["thing"] (spYes T filD)) (b7 : Binds K fd7 ["thing"] []) (g7 : mg "is_fills" = some (.ref f7)) (k7 : PySem.W.keepIn K (.ref f7) = true) : FnOk P w K mg base CX0 (k + 1) f fd ["role", "part"] (spFits T) := by
  refine F.ok scFits (fun vs H Q E h => ?_) (fun cdv A outer s H vs Q E hr h => ?_)
  · obtain ⟨r, v, x, rfl, _⟩ := h
    rfl
  obtain ⟨r, v, x, rfl, hd, hw, tb, q⟩ := h
  refine ⟨_, pss_cons (ps_if (pt_cmpR op_eq (pv 0) pe_str (nomark _)) (pss_one (ps_ret (pe_call G1 hr (by rfl) g1 k1 b1 .nil pass0 (pa_cons (pv 1) pa_nil)))) pss_nil)
    (pss_cons (ps_if (pt_cmpR op_eq (pv 0) pe_str (nomark _)) (pss_one (ps_ret (pe_call G2 hr (by rfl) g2 k2 b2 .nil pass0 (pa_cons (pv 1) pa_nil)))) pss_nil)
    (pss_cons (ps_if (pt_cmpR op_eq (pv 0) pe_str (nomark _)) (pss_one (ps_ret (pe_call G3 hr (by rfl) g3 k3 b3 .nil pass0 (pa_cons (pv 1) pa_nil)))) pss_nil)
    (pss_cons (ps_if (pt_cmpR op_eq (pv 0) pe_str (nomark _)) (pss_one (ps_ret (pe_call G4 hr (by rfl) g4 k4 b4 .nil pass0 (pa_cons (pv 1) pa_nil)))) pss_nil)
    (pss_cons (ps_if (pt_cmpR op_eq (pv 0) pe_str (nomark _)) (pss_one (ps_ret (pe_call G5 hr (by rfl) g5 k5 b5 .nil pass0 (pa_cons (pv 1) pa_nil)))) pss_nil)
    (pss_cons (ps_if (pt_cmpR op_eq (pv 0) pe_str (nomark _)) (pss_one (ps_ret (pe_call G6 hr (by rfl) g6 k6 b6 .nil pass0 (pa_cons (pv 1) pa_nil)))) pss_nil)
    (pss_one (ps_ret (pe_or (pe_cmpR op_eq (pv 0) pe_str (nomark _)) (pe_one (pe_call G7 hr (by rfl) g7 k7 b7 .nil pass0 (pa_cons (pv 1) pa_nil))))))))))), ?_⟩
  have eqv : ∀ {z : Str}, decide (V.str r = V.str z) = true → r = z := fun e => V.str.inj (of_decide_eq_true e)
  have nev : ∀ {z : Str}, ¬ decide (V.str r = V.str z) = true → ¬ r = z := fun e h => e (decide_eq_true (by rw [h]))
  have e0 := Nat.le_trans (Nat.le_add_right x.wt 2) hw
  refine ⟨_, rfl, rfl, _, rfl, ite2 (fun e => ?_) (fun n1 => ?_)⟩
  · refine ⟨_, rfl, v, x, rfl, hd, e0, tb, fun G sG => ?_⟩
    have z := q _ sG
    unfold fitD at z
    rw [if_pos (eqv e)] at z
    exact z
  replace n1 := nev n1
  refine ⟨_, rfl, rfl, _, rfl, ite2 (fun e => ?_) (fun n2 => ?_)⟩
  · refine ⟨_, rfl, v, x, rfl, hd, ?_⟩
    have z := q _ (Sm.refl tb)
    unfold fitD at z
    rw [if_neg n1, if_pos (eqv e)] at z
    exact z
  replace n2 := nev n2
  refine ⟨_, rfl, rfl, _, rfl, ite2 (fun e => ?_) (fun n3 => ?_)⟩
  · refine ⟨_, rfl, v, x, rfl, hd, ?_⟩
    have z := q _ (Sm.refl tb)
    unfold fitD at z
    rw [if_neg n1, if_neg n2, if_pos (eqv e)] at z
    exact z
  replace n3 := nev n3
  refine ⟨_, rfl, rfl, _, rfl, ite2 (fun e => ?_) (fun n4 => ?_)⟩
  · refine ⟨_, rfl, v, x, rfl, hd, ?_⟩
    have z := q _ (Sm.refl tb)
    unfold fitD at z
    rw [if_neg n1, if_neg n2, if_neg n3, if_pos (eqv e)] at z
    exact z
  replace n4 := nev n4
  refine ⟨_, rfl, rfl, _, rfl, ite2 (fun e => ?_) (fun n5 => ?_)⟩
  · refine ⟨_, rfl, v, x, rfl, hd, hw, tb, fun G sG => ?_⟩
    have z := q _ sG
    unfold fitD at z
    rw [if_neg n1, if_neg n2, if_neg n3, if_neg n4, if_pos (eqv e)] at z
    exact z
  replace n5 := nev n5
  refine ⟨_, rfl, rfl, _, rfl, ite2 (fun e => ?_) (fun n6 => ?_)⟩
  · refine ⟨_, rfl, v, x, rfl, hd, hw, tb, fun G sG => ?_⟩
    have z := q _ sG
    unfold fitD at z
    rw [if_neg n1, if_neg n2, if_neg n3, if_neg n4, if_neg n5, if_pos (eqv e)] at z
    exact z
  replace n6 := nev n6
  have ef : fitD r x = (decide (r = "term") || filD x) := by
    unfold fitD
    rw [if_neg n1, if_neg n2, if_neg n3, if_neg n4, if_neg n5, if_neg n6]
  rw [ef] at q
  refine ⟨_, rfl, rfl, _, rfl, ite2 (fun e => ?_) (fun n7 => ?_)⟩
  · have z := q _ (Sm.refl tb)
    rw [decide_eq_true (eqv e), Bool.true_or] at z
    exact z
  · refine ⟨_, rfl, v, x, rfl, hd, hw, tb, fun G sG => ?_⟩
    have z := q _ sG
    rw [decide_eq_false (nev n7), Bool.false_or] at z
    exact z
end
end Kq

namespace Kq
open PySem PySem.Spec PyProof.Rows L2 Kf Kg Kv GxR RZ
abbrev tHasTerm : Stmt := tp 38
abbrev tIsTerm : Stmt := tp 37
abbrev tTermsIn : Stmt := tp 43
/-- the roles of a word's parts -/
def tblT : List (Str × List Str) := [("name", ["name"]), ("fun", ["name", "argument", "term"]), ("call", ["term", "term"]), ("num", ["number"]), ("plus", ["term", "term"]), ("less", ["term", "term"]), ("truth", ["truth"]), ("if", ["term", "term", "term"]), ("pair", ["term", "term"]), ("first", ["term"]), ("second", ["term"]), ("left", ["term", "data"]), ("right", ["data", "term"]), ("case", ["term", "name", "term", "name", "term"]), ("none", ["data"]), ("more", ["term", "term"]), ("fold", ["term", "term", "name", "name", "term"]), ("built", ["data", "name", "name", "name", "term"]), ("alike", ["term", "term"]), ("fault", ["data"]), ("rounds", ["turns", "term", "name", "term"]), ("told", ["name", "fills"])]
def rls (w : Str) : Option (List Str) := tblT.lookup w
def two (w : Str) : Bool := decide (w = "fold") || decide (w = "built")
/-- the names at the third and the fourth place are one -/
def same34 (xs : List Dt) : Bool := match xs[2]?, xs[3]? with
  | some (Dt.str a), some (Dt.str b) => decide (a = b)
  | _, _ => false
def tfm (w : Str) (xs : List Dt) : Bool := match rls w with
  | some rs => decide (xs.length = rs.length) && ((rs.zip xs).all fun p => fitD p.1 p.2) && (!two w || !same34 xs)
  | none => false
def tfrm : Dt → Bool
  | .tup (.str w :: xs) => tfm w xs
  | _ => false
def tpt (w : Str) (xs : List Dt) : List Dt := match rls w with
  | some rs => ((rs.zip xs).filter fun (p : Str × Dt) => decide (p.1 = ("term" : Str))).map (·.2)
  | none => []
def tprt : Dt → List Dt
  | .tup (.str w :: xs) => tpt w xs
  | _ => []
theorem szs_sub : ∀ {xs ys : List Dt}, xs.Sublist ys → Dt.szs xs ≤ Dt.szs ys ∧ Dt.wts xs ≤ Dt.wts ys
  | _, _, .slnil => ⟨Nat.le_refl _, Nat.le_refl _⟩
  | _, _, .cons a h => by
    obtain ⟨h1, h2⟩ := szs_sub h
    simp only [Dt.szs, Dt.wts]
    omega
  | _, _, .cons₂ a h => by
    obtain ⟨h1, h2⟩ := szs_sub h
    simp only [Dt.szs, Dt.wts]
    omega
theorem zip_snd : ∀ (rs : List Str) (xs : List Dt), ((rs.zip xs).map (·.2)).Sublist xs
  | [], xs => by simp
  | r :: rs, [] => by simp
  | r :: rs, x :: xs => by
    simp only [List.zip_cons_cons, List.map_cons]
    exact (zip_snd rs xs).cons₂ x
theorem tpt_sub (w : Str) (xs : List Dt) : (tpt w xs).Sublist xs := by
  unfold tpt
  split
  · rename_i rs _
    exact ((List.filter_sublist).map _).trans (zip_snd rs xs)
  · exact List.nil_sublist _
theorem tprt_sz : ∀ x : Dt, Dt.szs (tprt x) + 1 ≤ x.sz := fun x => by
  unfold tprt
  split
  · rename_i w xs
    have h := (szs_sub (tpt_sub w xs)).1
    have e : (Dt.tup (.str w :: xs)).sz = 1 + (1 + Dt.szs xs) := by simp only [Dt.sz, Dt.szs]
    rw [e]
    omega
  · have := sz_pos x
    simp only [Dt.szs]
    omega
theorem tprt_wt (x : Dt) : Dt.wts (tprt x) ≤ x.wt := by
  unfold tprt
  split
  · rename_i w xs
    have h := (szs_sub (tpt_sub w xs)).2
    simp only [Dt.wt, Dt.wts]
    omega
  · simp only [Dt.wts]
    omega
/-- a term: the form, and the terms within are so -/
def trm (x : Dt) : Bool := tfrm x && (tprt x).attach.all fun y => trm y.1
termination_by x.sz
decreasing_by
  have h1 := tprt_sz x
  have h2 := sz_mem y.2
  omega
theorem trm_eq (x : Dt) : trm x = (tfrm x && (tprt x).all trm) := by
  rw [trm]
  congr 1
  rw [List.all_subtype (g := trm)]
  · simp
  · intro x h
    rfl
theorem notInK {X : Cx} (K : PySem.W.Frag) (h : X.K = K) : OpR X (compareOp .NotIn) (rIn K true) := by
  subst h
  exact op_notIn_seq
theorem inFB (z : Str) : inV (V.str z) [V.str "fold", V.str "built"] = two z := by
  show ((("fold" : Str) == z) || ((("built" : Str) == z) || false)) = _
  rw [Bool.or_false]
  have e : ∀ a : Str, (a == z) = decide (z = a) := fun a => by
    by_cases h : z = a
    · subst h
      simp
    · rw [decide_eq_false h]
      exact beq_eq_false_iff_ne.mpr (Ne.symm h)
  rw [e, e]
  rfl
/-- the table of forms -/
structure TForms (K : PySem.W.Frag) (w : World) (dA : Addr) (es : Array DictEntry) (n : Nat) : Prop where
  dict : KDict K w dA es n
  no : ∀ z : Str, rls z = none → PySem.W.nsIn K dA z = some none
  yes : ∀ (z : Str) (rs : List Str), rls z = some rs → ∃ t : Addr, PySem.W.nsIn K dA z = some (some (.ref t)) ∧ ∀ G : Hp, SqT K G t (rs.map V.str)
section
variable {P : Program} {w : World} {K : PySem.W.Frag} {mg : Str → Option Value} {base : Heap}
theorem scHasTerm : FnScope ["thing", "word"] ["thing"] (defScope tHasTerm) := ⟨rfl, rfl, rfl, by decide +kernel, rfl, by decide +kernel, by decide +kernel⟩
theorem names34 {w : Str} {rs : List Str} {xs : List Dt} (hr : rls w = some rs) (ht : two w = true) (hl : xs.length = rs.length) (al : ((rs.zip xs).all fun p => fitD p.1 p.2) = true) : ∃ a b c d e, xs = [a, b, .str c, .str d, e] := by
  have hrs : ∃ r1 r2 r5 : Str, rs = [r1, r2, "name", "name", r5] := by
    unfold two at ht
    rcases Bool.or_eq_true_iff.mp ht with h | h
    · rw [of_decide_eq_true h] at hr
      have h2 : rls "fold" = some (["term", "term", "name", "name", "term"] : List Str) := by decide +kernel
      rw [h2] at hr
      exact ⟨_, _, _, (Option.some.inj hr).symm⟩
    · rw [of_decide_eq_true h] at hr
      have h2 : rls "built" = some (["data", "name", "name", "name", "term"] : List Str) := by decide +kernel
      rw [h2] at hr
      exact ⟨_, _, _, (Option.some.inj hr).symm⟩
  obtain ⟨r1, r2, r5, rfl⟩ := hrs
  match xs, hl, al with
  | [a, b, c, d, e], _, al =>
    simp only [List.zip_cons_cons, List.all_cons, Bool.and_eq_true] at al
    obtain ⟨_, _, h3, h4, _⟩ := al
    have f : ∀ x, fitD "name" x = nmD x := fun x => if_pos rfl
    rw [f] at h3 h4
    cases c with
    | str c =>
      cases d with
      | str d => exact ⟨a, b, c, d, e, rfl⟩
      | _ => cases h4
    | _ => cases h3
theorem okHasTerm {f c p fT dA : Addr} {fd fdT : FuncData} {k : Nat} {T : List Addr} {es : Array DictEntry} {n : Nat} (F : FunC K "has_term_form" "has_term_form" tHasTerm f fd c) (TB : TabB base mg c p) (hp : p ∈ T)
    (GT : FnOk P w K mg base CX0 k fT fdT ["role", "part"] (spFits T)) (bT : Binds K fdT ["role", "part"] []) (gT : mg "fits" = some (.ref fT)) (kT : PySem.W.keepIn K (.ref fT) = true)
    (gD : mg "TERM_FORMS" = some (.ref dA)) (hD : TForms K w dA es n)
    (ma : mg "all" = none) (mz : mg "zip" = none) (mi : mg "isinstance" = none) (mt : mg "tuple" = none) (ms : mg "str" = none) (ml : mg "len" = none) : FnOk P w K mg base CX0 (k + 4) f fd ["thing"] (spYes T tfrm) := by
  refine F.ok scHasTerm (fun vs H Q E h => ?_) (fun A outer s H vs Q E hr h => ?_)
  · obtain ⟨v, x, rfl, _⟩ := h
    rfl
  obtain ⟨v, x, rfl, hd, hw, tb, q⟩ := h
  refine ⟨_, pss_cons (ps_if (PW.pt (pw_or (pt_not (pt_val (pe_callB (isiK K rfl) (by rfl) mi PyProof.Rows.boot_isinstance (pa_cons (pv 0) (pa_cons (pe_bltn (v := .ty "tuple") (by rfl) mt PyProof.Rows.boot_tuple rfl) pa_nil)))))
      (pw_or (pt_not (pt_truth (pv 0) (by intro _; rfl)))
      (pw_or1 (pt_not (pt_val (pe_callB (isiK K rfl) (by rfl) mi PyProof.Rows.boot_isinstance (pa_cons (pe_ix ix_tup (pv 0) pe_int (fun _ _ => rfl)) (pa_cons (pe_bltn (v := .ty "str") (by rfl) ms PyProof.Rows.boot_str rfl) pa_nil)))))))))
      (pss_one (ps_ret pe_bl)) pss_nil)
    (pss_cons (ps_set (i := 1) scHasTerm.nd rfl (.inl rfl) (pe_ix ix_tup (pv 0) pe_int (fun _ _ => rfl)))
    (pss_cons (ps_if (PW.pt (pw_or (pt_cmpR (op_notIn_kd hD.dict) (pv 1) (pe_glob (v := .ref dA) (by rfl) gD rfl) rfl)
      (pw_or1 (pt_cmpR op_ne (pe_callB call_len_seq (by rfl) ml PySem.boot_len (pa_cons (pv 0) pa_nil)) (pe_op op_add (pe_callB call_len_seq (by rfl) ml PySem.boot_len (pa_cons (pe_ix ix_kdict (pe_glob (v := .ref dA) (by rfl) gD rfl) (pv 1) (fun _ _ => rfl)) pa_nil)) pe_int) (nomark _)))))
      (pss_one (ps_ret pe_bl)) pss_nil)
    (pss_cons (ps_if (pt_not (pt_val (pe_allG (c := c) (P := p) (own := ["role", "part"]) (caps := []) (vs := [0, 1]) (g := gTup K 2 (gCons (gName 0) (gCons (gName 1) gNil))) hr (by rfl) ma TB rfl
        (gxS_by (N := ["thing", "word"]) (sc := defScope tHasTerm) (by decide +kernel)) (pi_zipA (by rfl) mz (pa_cons (pe_ix ix_kdict (pe_glob (v := .ref dA) (by rfl) gD rfl) (pv 1) (fun _ _ => rfl)) (pa_cons (pe_slice sl_tup (pv 0) (po_some pe_int) po_none) pa_nil)))
        (fun _ _ _ _ _ => pg_tup rfl (pgs_cons (pg_name (i := 0) (show (["role", "part"] : List Str).Nodup by decide +kernel) rfl (.inl rfl)) (pgs_cons (pg_name (i := 1) (show (["role", "part"] : List Str).Nodup by decide +kernel) rfl (.inl rfl)) pgs_nil)))
        (fun _ _ _ _ _ => pe_call GT (Room.deeper hr.in1.in1 _) (by rfl) gT kT bT .nil pass0 (pa_cons (pv 0) (pa_cons (pv 1) pa_nil))))))
      (pss_one (ps_ret pe_bl)) pss_nil)
    (pss_one (ps_ret (pe_or (pe_cmpR (notInK K rfl) (pv 1) (pe_tup (pa_cons pe_str (pa_cons pe_str pa_nil))) rfl)
      (pe_one (pe_cmpR op_ne (pe_ix ix_tup (pv 0) pe_int (fun _ _ => rfl)) (pe_ix ix_tup (pv 0) pe_int (fun _ _ => rfl)) (nomark _))))))))), ?_⟩
  have no : tfrm x = false → Q (.bl false) H := fun e => by
    have z := q _ (Sm.refl tb)
    rw [e] at z
    exact z
  refine ⟨_, rfl, _, _, _, _, x.isTup, rfl, .ty "tuple", hd.ty, kTup K x, _, rfl, ite2 (fun e => iteT (no ?_)) (fun e => ?_)⟩
  · cases x <;> first | rfl | cases e
  obtain ⟨xs, rfl⟩ : ∃ xs, x = .tup xs := by
    cases x with
    | tup xs => exact ⟨xs, rfl⟩
    | _ => exact absurd rfl e
  obtain ⟨a, us, rfl, ha, hL⟩ := Dd.tupS hd
  refine ⟨_, rfl, _, .inr (.inl ⟨us, TupA.sq ha, rfl⟩), ite2 (fun e => iteT (no ?_)) (fun e => ?_)⟩
  · rcases DdL.see hL with ⟨rfl, rfl⟩ | ⟨y, ys, w, ws, rfl, rfl, h, t⟩
    · rfl
    · cases e
  rcases DdL.see hL with ⟨rfl, rfl⟩ | ⟨y, ys, u0, ws, rfl, rfl, hy, hys⟩
  · exact absurd rfl e
  have hix : atI (u0 :: ws) 0 = some u0 := atI_nat (j := 0) rfl
  refine ⟨_, rfl, a, _, _, _, rfl, rfl, TupA.sq ha, hix, _, _, _, _, y.isStr, rfl, .ty "str", hy.ty, kStr K y, _, rfl, ite2 (fun e => no ?_) (fun e => ?_)⟩
  · cases y <;> first | rfl | cases e
  obtain ⟨wd, rfl⟩ : ∃ z, y = .str z := by
    cases y with
    | str z => exact ⟨z, rfl⟩
    | _ => exact absurd rfl e
  cases hy
  have no : tfm wd ys = false → Q (.bl false) H := no
  refine ⟨_, rfl, a, _, _, _, rfl, rfl, TupA.sq ha, hix, ?_⟩
  cases har : rls wd with
  | none =>
    refine ⟨_, rfl, wd, none, rfl, rfl, hD.no wd har, _, rfl, iteT (iteT (no ?_))⟩
    unfold tfm
    rw [har]
  | some rs =>
    obtain ⟨t, ht, hs⟩ := hD.yes wd rs har
    refine ⟨_, rfl, wd, _, rfl, rfl, ht, _, rfl, iteF ?_⟩
    have ly := hys.len
    have et : tfm wd ys = (decide (ys.length = rs.length) && ((rs.zip ys).all fun p => fitD p.1 p.2) && (!two wd || !same34 ys)) := by
      unfold tfm
      rw [har]
    refine ⟨_, rfl, a, _, rfl, .inr (TupA.sq ha), _, rfl, dA, wd, .ref t, rfl, rfl, ⟨es, n, _, hD.dict.at_, hD.dict.lit, ht, rfl⟩, t, _, rfl, .inr (hs _), _, _, rfl, rfl, rfl, _, rfl, ite2 (fun e => no ?_) (fun e => ?_)⟩
    · have e2 : ¬ ys.length = rs.length := fun z => by
        have : (((V.str wd :: ws).length : Nat) : Int) = ((rs.map V.str).length : Int) + 1 := by
          rw [List.length_map, List.length_cons]
          omega
        rw [show decide (V.int ((V.str wd :: ws).length : Int) = _) = true from decide_eq_true (congrArg V.int this)] at e
        cases e
      rw [et, decide_eq_false e2, Bool.false_and, Bool.false_and]
    have e2 : ys.length = rs.length := by
      by_cases z : ys.length = rs.length
      · exact z
      · refine absurd ?_ e
        have : ¬ (((V.str wd :: ws).length : Nat) : Int) = ((rs.map V.str).length : Int) + 1 := by
          rw [List.length_map, List.length_cons]
          omega
        rw [show decide (V.int ((V.str wd :: ws).length : Int) = _) = false from decide_eq_false (fun h => this (V.int.inj h))]
        rfl
    rw [decide_eq_true e2, Bool.true_and] at et
    have hws : Dt.wts ys + 4 ≤ sizeLine := by
      have : Dt.wts ys + 4 ≤ (Dt.tup (.str wd :: ys)).wt + 2 := by
        simp only [Dt.wt, Dt.wts]
        omega
      omega
    refine ⟨_, rfl, dA, wd, .ref t, rfl, rfl, ⟨es, n, _, hD.dict.at_, hD.dict.lit, ht, rfl⟩, _, rfl, 1, rfl, a, _, rfl, TupA.sq ha, notWhole _ _, fun b nb => ?_⟩
    rw [cutFrom1]
    have s1 := newS (o := .tup ws) nb
    have tb1 := tb.same s1
    refine ⟨t, b, _, _, rfl, .inr ⟨hs _, SqT.of upd_same, tb1 p hp, fun H2 htab => ?_⟩⟩
    have s2 : Sm T H H2 := (Sm.of s1 tb).trans (Sm.tab hp tb1 htab)
    have gb2 : H2 b = some (.tup ws) := (Sm.tab hp tb1 htab).at tb1 upd_same fun _ z => by cases z
    have hy2 := hys.kn (s2.kn tb)
    refine all_zipT (xs := rs.map V.str) (ys := ws) (fun i F => Sm T H2 F ∧ ((rs.zip ys).take i).all (fun p => fitD p.1 p.2) = true) ⟨Sm.refl s2.2, rfl⟩
      (fun i F z => ⟨hs _, SqT.of (z.1.at s2.2 gb2 fun _ z => by cases z)⟩) (fun i x u To F hx hu z nT => ?_) (fun F z => ?_)
    · obtain ⟨sF, al⟩ := z
      rw [List.getElem?_map] at hx
      cases h1 : rs[i]? with
      | none => rw [h1] at hx; cases hx
      | some r =>
        rw [h1] at hx
        obtain rfl := Option.some.inj hx
        obtain ⟨d, hd', rd⟩ := hy2.get hu
        have hz : (rs.zip ys)[i]? = some (r, d) := by
          rw [List.getElem?_zip_eq_some]
          exact ⟨h1, hd'⟩
        have sT := newS (o := .tup [V.str r, u]) nT
        have sFT := sF.trans (Sm.of sT sF.2)
        have hwd := wts_mem (List.mem_of_getElem? hd')
        refine ⟨To, _, rfl, SqT.of upd_same, rfl, _, _, rfl, _, _, rfl, rfl, rfl, _, rfl, _, rfl, r, u, d, rfl, (rd.kn (sFT.kn s2.2)), by omega, sFT.2, fun F2 s3 => ⟨_, rfl, ?_⟩⟩
        refine ite2 (fun e => ⟨sFT.trans s3, take_allL hz al e⟩) (fun e => ⟨_, rfl, ?_⟩)
        have z := q _ ((s2.trans sFT).trans s3)
        have e3 : tfrm (.tup (.str wd :: ys)) = false := by
          show tfm wd ys = false
          rw [et, not_allL (f := fun p : Str × Dt => fitD p.1 p.2) hz (by simpa using e), Bool.false_and]
        rw [e3] at z
        exact z
    · obtain ⟨sF, al⟩ := z
      have lz : (rs.zip ys).length = min (rs.map V.str).length ws.length := by
        rw [List.length_zip, List.length_map, ly]
      rw [← lz, List.take_length] at al
      rw [al, Bool.true_and] at et
      refine ⟨_, rfl, ?_⟩
      have s5 := s2.trans sF
      refine ⟨_, rfl, (by show 2 ≤ sizeLine; decide), fun p4 np4 => ?_⟩
      have s4 := newS (o := .tup [V.str "fold", V.str "built"]) np4
      have s6 := s5.trans (Sm.of s4 s5.2)
      refine ⟨p4, _, rfl, .inr (SqT.of upd_same), rfl, rfl, _, rfl, ?_⟩
      show if (!inV (V.str wd) [V.str "fold", V.str "built"]) = true then _ else _
      rw [inFB]
      refine ite2 (fun e => ?_) (fun e => ?_)
      · have z := q _ s6
        have e3 : tfrm (.tup (.str wd :: ys)) = true := by
          show tfm wd ys = true
          rw [et, e, Bool.true_or]
        rw [e3] at z
        exact z
      · have e1 : two wd = true := by simpa using e
        obtain ⟨d1, d2, n3, n4, d5, rfl⟩ := names34 har e1 e2 al
        have ha6 := ha.sm s6 tb
        obtain ⟨v1, v2, v5, rfl⟩ : ∃ v1 v2 v5, ws = [v1, v2, .str n3, .str n4, v5] := by
          rcases DdL.see hys with ⟨z1, _⟩ | ⟨_, _, v1, _, z1, rfl, _, hys⟩ <;> cases z1
          rcases DdL.see hys with ⟨z1, _⟩ | ⟨_, _, v2, _, z1, rfl, _, hys⟩ <;> cases z1
          rcases DdL.see hys with ⟨z1, _⟩ | ⟨_, _, v3, _, z1, rfl, h3, hys⟩ <;> cases z1
          rcases DdL.see hys with ⟨z1, _⟩ | ⟨_, _, v4, _, z1, rfl, h4, hys⟩ <;> cases z1
          rcases DdL.see hys with ⟨z1, _⟩ | ⟨_, _, v5, _, z1, rfl, _, hys⟩ <;> cases z1
          rcases DdL.see hys with ⟨_, rfl⟩ | ⟨_, _, v5, _, z1, rfl, _, hys⟩
          · cases h3
            cases h4
            exact ⟨_, _, _, rfl⟩
          · cases z1
        refine ⟨_, rfl, a, _, _, _, rfl, rfl, TupA.sq ha6, atI_nat (j := 3) rfl, _, rfl, a, _, _, _, rfl, rfl, TupA.sq ha6, atI_nat (j := 4) rfl, rfl, ?_⟩
        have z := q _ s6
        have e3 : tfrm (.tup (.str wd :: [d1, d2, .str n3, .str n4, d5])) = !decide (V.str n3 = V.str n4) := by
          show tfm wd _ = _
          rw [et, e1]
          have e4 : same34 [d1, d2, .str n3, .str n4, d5] = decide (n3 = n4) := rfl
          rw [e4, Bool.not_true, Bool.false_or]
          by_cases c : n3 = n4
          · rw [decide_eq_true c, decide_eq_true (congrArg V.str c)]
          · rw [decide_eq_false c, decide_eq_false (fun h => c (V.str.inj h))]
        rw [e3] at z
        exact z
end
end Kq

namespace Kq
open PySem PySem.Spec PyProof.Rows L2 Kf Kg Kv GxR RZ
theorem look_mem {α : Type} {z : Str} {v : α} : ∀ {l : List (Str × α)}, l.lookup z = some v → (z, v) ∈ l
  | (a, b) :: l, h => by
    rw [List.lookup_cons] at h
    cases c : (z == a) with
    | true =>
      rw [c] at h
      have e := beq_iff_eq.mp c
      subst e
      cases h
      exact List.mem_cons_self
    | false =>
      rw [c] at h
      exact List.mem_cons_of_mem _ (look_mem h)
theorem tblT_few : ∀ p ∈ tblT, p.2.length ≤ 5 := by decide +kernel
theorem rls_few {w : Str} {rs : List Str} (h : rls w = some rs) : rs.length ≤ 5 := tblT_few _ (look_mem h)
section
variable {P : Program} {w : World} {K : PySem.W.Frag} {mg : Str → Option Value} {base : Heap}
/-! a list over two tuples at once -/
theorem lc_zipT {K : PySem.W.Frag} {a b : Addr} {xs ys : List V} {g : TG} {tt : TT} {te : TE} {vs : List Nat} {σ : L2.St} {H1 : Hp} {D : Addr} {Qd : Hp → Prop} (Pv : Nat → Hp → Prop) (h0 : Pv 0 (upd H1 D (.lst []))) (hl : ∀ i H, Pv i H → SqT K H a xs ∧ SqT K H b ys)
    (hs : ∀ i x y T H, xs[i]? = some x → ys[i]? = some y → Pv i H → H T = none → g (.ref T) (wipe σ vs) (upd H T (.tup [x, y])) fun σ2 H2 => wipe σ2 vs = wipe σ vs ∧ tt σ2 H2 fun b H3 =>
      if b = true then te σ2 H3 fun y H4 => ∃ acc, H4 D = some (.lst acc) ∧ acc.length < sizeLine ∧ Pv (i + 1) (upd H4 D (.lst (acc ++ [y]))) else Pv (i + 1) H3) (hd : ∀ H, Pv (min xs.length ys.length) H → Qd H) :
    ∃ W : Nat → Nat → Hp → Prop, (∃ m, W 0 m (upd H1 D (.lst []))) ∧ ∀ i m H, W i m H →
      ((ItzT K a b).stop i H ∧ Qd H) ∨ ((ItzT K a b).go i H ∧ ∃ Nx : Hp → Prop, (∀ H', Nx H' → ∃ m', m' < m ∧ W (i + 1) m' H') ∧ ∀ x H', (ItzT K a b).yld i H x H' → g x (wipe σ vs) H' fun σ2 H2 => wipe σ2 vs = wipe σ vs ∧ tt σ2 H2 fun b H3 =>
        if b = true then te σ2 H3 fun y H4 => ∃ acc, H4 D = some (.lst acc) ∧ acc.length < sizeLine ∧ Nx (upd H4 D (.lst (acc ++ [y]))) else Nx H3) := by
  refine ⟨fun i m H => m = min xs.length ys.length - i ∧ i ≤ min xs.length ys.length ∧ Pv i H, ⟨_, rfl, Nat.zero_le _, h0⟩, ?_⟩
  rintro i m F ⟨rfl, hi, p⟩
  obtain ⟨q1, q2⟩ := hl i F p
  by_cases lt : i < min xs.length ys.length
  · have l1 : i < xs.length := by omega
    have l2 : i < ys.length := by omega
    refine .inr ⟨⟨xs, ys, xs[i], ys[i], q1, q2, List.getElem?_eq_getElem l1, List.getElem?_eq_getElem l2⟩, Pv (i + 1), fun F' p' => ⟨min xs.length ys.length - (i + 1), by omega, rfl, lt, p'⟩, fun x F' y => ?_⟩
    obtain ⟨T, x1, y1, rfl, hT, rfl, e1, e2⟩ := y
    exact hs i x1 y1 T F (e1 xs q1) (e2 ys q2) p hT
  · have e : i = min xs.length ys.length := by omega
    subst e
    exact .inl ⟨⟨xs, ys, q1, q2, by omega⟩, hd F p⟩
abbrev nTermsIn : List Str := ["term", "role", "part"]
theorem scTermsIn : FnScope nTermsIn ["term"] (defScope tTermsIn) := ⟨rfl, rfl, rfl, by decide +kernel, rfl, by decide +kernel, by decide +kernel⟩
def spTermsIn (N : Addr → Prop) : Sp := fun vs H Q _ => ∃ (v : V) (x : Dt), vs = [v] ∧ Dd N H x v ∧ tfrm x = true ∧ (∀ b, H b = none → ¬ N b) ∧ ∀ (p : Addr) (us : List V) (G : Hp), Same H G → H p = none → G p = some (.lst us) → DdL N G (tprt x) us → Q (.ref p) G
theorem okTermsIn {f dA : Addr} {fd : FuncData} {k : Nat} {N : Addr → Prop} {es : Array DictEntry} {n : Nat} (F : Fun K "terms_in" "terms_in" tTermsIn f fd) (gD : mg "TERM_FORMS" = some (.ref dA)) (hD : TForms K w dA es n) (mz : mg "zip" = none) : FnOk P w K mg base CX0 (k + 1) f fd ["term"] (spTermsIn N) := by
  refine F.ok scTermsIn (fun vs H Q E h => ?_) (fun cdv A outer s H vs Q E hr h => ?_)
  · obtain ⟨v, t, rfl, _⟩ := h
    rfl
  obtain ⟨v, x, rfl, hd, hf, hN, q⟩ := h
  obtain ⟨wd, xs, rfl⟩ : ∃ wd xs, x = .tup (.str wd :: xs) := by
    unfold tfrm at hf
    split at hf
    · exact ⟨_, _, rfl⟩
    · cases hf
  obtain ⟨a, us, rfl, ha, hL⟩ := Dd.tupS hd
  obtain ⟨us, rfl, hL2⟩ : ∃ ys, us = .str wd :: ys ∧ DdL N H xs ys := by
    cases hL with
    | cons h t =>
      cases h
      exact ⟨_, rfl, t⟩
  have hf : tfm wd xs = true := hf
  obtain ⟨rs, har, hlen⟩ : ∃ rs, rls wd = some rs ∧ xs.length = rs.length := by
    unfold tfm at hf
    cases h : rls wd with
    | none => rw [h] at hf; cases hf
    | some rs =>
      rw [h] at hf
      exact ⟨rs, rfl, of_decide_eq_true (Bool.and_eq_true_iff.mp (Bool.and_eq_true_iff.mp hf).1).1⟩
  obtain ⟨t, ht, hs⟩ := hD.yes wd rs har
  have few := rls_few har
  refine ⟨_, pss_one (ps_ret (pe_lc (own := [("role", 1), ("part", 2)]) (g := gTup K 2 (gCons (gName 1) (gCons (gName 2) gNil))) (by rfl) scTermsIn.nd (pi_zipA (by rfl) mz (pa_cons (pe_ix ix_kdict (pe_glob (v := .ref dA) (by rfl) gD rfl) (pe_ix ix_tup (pv 0) pe_int (fun _ _ => rfl)) (fun _ _ => rfl)) (pa_cons (pe_slice sl_tup (pv 0) (po_some pe_int) po_none) pa_nil)))
      (blkOk_by (own := [("role", 1), ("part", 2)]) (N := nTermsIn) (sc := defScope tTermsIn) (by decide +kernel))
      (fun _ _ _ _ _ => pg_tup rfl (pgs_cons (pg_name (i := 1) scTermsIn.nd rfl (.inl rfl)) (pgs_cons (pg_name (i := 2) scTermsIn.nd rfl (.inl rfl)) pgs_nil))) (fun _ _ _ _ _ => pts_one (pt_cmpR op_eq (pv 1) pe_str (nomark _))) (fun _ _ _ _ _ => pv 2))), ?_⟩
  refine ⟨_, rfl, a, _, _, _, rfl, rfl, TupA.sq ha, atI_nat (j := 0) rfl, dA, wd, .ref t, rfl, rfl, ⟨es, n, _, hD.dict.at_, hD.dict.lit, ht, rfl⟩, _, rfl, 1, rfl, a, _, rfl, TupA.sq ha, notWhole _ _, fun b nb => ?_⟩
  rw [cutFrom1]
  have s1 := newS (o := .tup us) nb
  refine ⟨t, b, _, _, rfl, .inr ⟨hs _, SqT.of upd_same, fun D nD => ?_⟩⟩
  have gb : (upd H b (.tup us)) b = some (.tup us) := upd_same
  have hLb := hL2.same s1
  generalize upd H b (.tup us) = H1 at nD s1 gb hLb
  have bD : b ≠ D := ne_of_none gb nD
  have ly := hL2.len
  refine lc_zipT (xs := rs.map V.str) (ys := us) (fun i G => Same H1 G ∧ ∃ ws, ws.length ≤ i ∧ G D = some (.lst ws) ∧ DdL N G ((((rs.zip xs).take i).filter fun (p : Str × Dt) => decide (p.1 = ("term" : Str))).map (·.2)) ws) ⟨newS nD, [], Nat.le_refl _, upd_same, .nil⟩ (fun i G z => ⟨hs _, SqT.of (z.1 _ _ gb)⟩) (fun i x u To G hx hu z nT => ?_) (fun G z => ?_)
  · obtain ⟨sG, ws, lw, gD', rL⟩ := z
    rw [List.getElem?_map] at hx
    cases h1 : rs[i]? with
    | none => rw [h1] at hx; cases hx
    | some r =>
      rw [h1] at hx
      obtain rfl := Option.some.inj hx
      obtain ⟨d, hd', rd⟩ := hLb.get hu
      have hz : (rs.zip xs)[i]? = some (r, d) := by
        rw [List.getElem?_zip_eq_some]
        exact ⟨h1, hd'⟩
      have li := (List.getElem?_eq_some_iff.mp h1).1
      have sT := newS (o := .tup [V.str r, u]) nT
      have tk : (rs.zip xs).take (i + 1) = (rs.zip xs).take i ++ [(r, d)] := by rw [List.take_add_one, hz]; rfl
      refine ⟨To, _, rfl, SqT.of upd_same, rfl, _, _, rfl, _, _, rfl, rfl, rfl, _, rfl, rfl, _, rfl, ite2 (fun e => ?_) (fun e => ?_)⟩
      · have er : r = "term" := V.str.inj (of_decide_eq_true e)
        have kn2 : Same H1 (upd (upd G To (.tup [V.str r, u])) D (.lst (ws ++ [u]))) := fun c o z => by
          rw [upd_ne (ne_of_none z nD)]
          exact sT _ _ (sG _ _ z)
        refine ⟨_, rfl, ws, sT _ _ gD', small1000 (by omega), kn2, ws ++ [u], by rw [List.length_append]; exact Nat.succ_le_succ lw, upd_same, ?_⟩
        rw [tk, List.filter_append, List.map_append]
        have hall : DdL N (upd (upd G To (.tup [V.str r, u])) D (.lst (ws ++ [u]))) ((((rs.zip xs).take i).filter fun (p : Str × Dt) => decide (p.1 = ("term" : Str))).map (·.2)) ws := by
          exact (rL.same sT).kn (Kn.rfl.put (hN D (s1.free nD)) (fun _ z => by rw [sT _ _ gD'] at z; cases z; rfl))
        refine hall.app ?_
        rw [List.filter_cons, if_pos (by exact decide_eq_true er)]
        exact .cons (rd.same kn2) .nil
      · have er : ¬ r = "term" := fun z => e (decide_eq_true (by rw [z]))
        refine ⟨sG.trans sT, ws, by omega, sT _ _ gD', ?_⟩
        rw [tk, List.filter_append, List.map_append, List.filter_cons, if_neg (by simpa using er)]
        show DdL N _ (_ ++ []) ws
        rw [List.append_nil]
        exact rL.same sT
  · obtain ⟨sG, ws, lw, gD', rL⟩ := z
    have lz : (rs.zip xs).length = min (rs.map V.str).length us.length := by
      rw [List.length_zip, List.length_map, ly]
    rw [← lz, List.take_length] at rL
    have ep : tprt (.tup (.str wd :: xs)) = ((rs.zip xs).filter fun (p : Str × Dt) => decide (p.1 = ("term" : Str))).map (·.2) := by
      show tpt wd xs = _
      unfold tpt
      rw [har]
    refine q D ws _ (s1.trans sG) (s1.free nD) gD' ?_
    rw [ep]
    exact rL
/-! is_term -/
theorem scIsTerm : FnScope ["thing", "waiting", "part"] ["thing"] (defScope tIsTerm) := ⟨rfl, rfl, rfl, by decide +kernel, rfl, by decide +kernel, by decide +kernel⟩
theorem okIsTerm {f fF fW : Addr} {fd fdF fdW : FuncData} {k : Nat} {T : List Addr} (F : Fun K "is_term" "is_term" tIsTerm f fd)
    (GF : FnOk P w K mg base CX0 k fF fdF ["thing"] (spYes T tfrm)) (bF : Binds K fdF ["thing"] []) (gF : mg "has_term_form" = some (.ref fF)) (kF : PySem.W.keepIn K (.ref fF) = true)
    (GW : ∀ N : Addr → Prop, FnOk P w K mg base CX0 k fW fdW ["term"] (spTermsIn N)) (bW : Binds K fdW ["term"] []) (gW : mg "terms_in" = some (.ref fW)) (kW : PySem.W.keepIn K (.ref fW) = true) : FnOk P w K mg base CX0 (k + 1) f fd ["thing"] (spYes T trm) := by
  refine F.ok scIsTerm (fun vs H Q E h => ?_) (fun cdv A outer s H vs Q E hr h => ?_)
  · obtain ⟨v, x, rfl, _⟩ := h
    rfl
  obtain ⟨v, x, rfl, hd, hw, tb, q⟩ := h
  refine ⟨_, pss_cons (ps_set (i := 1) scIsTerm.nd rfl (.inl rfl) (pe_lst (pa_cons (pv 0) pa_nil)))
    (pss_cons (ps_while PassesOwn.never (pt_truth (pv 1) (by intro _; rfl))
      (pss_cons (ps_set (i := 2) scIsTerm.nd rfl (.inl rfl) (pe_bm0 PySem.F.plainAttrs_list PySem.F.slot_list_pop PySem.F.type_list_pop mt_pop (pv 1)))
      (pss_cons (ps_if (pt_not (pt_val (pe_call GF hr (by rfl) gF kF bF .nil pass0 (pa_cons (pv 2) pa_nil)))) (pss_one (ps_ret pe_bl)) pss_nil)
      (pss_one (ps_expr (pe_bm PySem.F.plainAttrs_list PySem.F.slot_list_extend PySem.F.type_list_extend mt_extend (pv 1) (pa_cons (pe_call (GW (Pl H)) hr (by rfl) gW kW bW .nil pass0 (pa_cons (pv 2) pa_nil)) pa_nil)))))))
    (pss_one (ps_ret pe_bl))), ?_⟩
  refine ⟨_, rfl, (by show 1 ≤ sizeLine; decide), fun wa nwa => ?_⟩
  have nW : ¬ Pl H wa := fun ⟨u, e⟩ => by
    rw [nwa] at e
    cases e
  let Iv : Nat → L2.St → Hp → Prop := fun m σ G => ∃ ws vs y, m = Dt.szs ws ∧ σ = [some v, some (.ref wa), y] ∧ Sm T H G ∧ G wa = some (.lst vs) ∧ DdL (Pl H) G ws vs ∧ Dt.wts ws ≤ x.wt + 2 ∧ trm x = ws.all trm
  have I0 : Iv (Dt.szs [x]) [some v, some (.ref wa), none] (upd H wa (.lst [v])) := ⟨[x], [v], none, rfl, rfl, (Sm.refl tb).new nwa tb, upd_same, .cons (hd.pl.same (newS nwa)) .nil, by rw [wts1]; omega, by simp⟩
  refine ⟨Iv, ⟨_, I0⟩, fun m σ G z => ?_⟩
  obtain ⟨ws, vs, y, rfl, rfl, sG, gw, rL, hwt, hdat⟩ := z
  refine ⟨_, rfl, _, .inl ⟨vs, SqL.of gw, rfl⟩, ?_⟩
  refine ite2 (fun e => ?_) (fun e => ?_)
  · have nn : vs ≠ [] := fun z => by
      rw [z] at e
      cases e
    obtain ⟨xs, u, zs, p, rfl, rfl, rx, ru⟩ := rL.last nn
    refine ⟨fun σ' G' => ∃ m', m' < _ ∧ Iv m' σ' G', fun σ' G' z => z, ?_⟩
    refine ⟨_, rfl, .inl ⟨rfl, _, SqL.of gw⟩, wa, _, p, rfl, rfl, gw, ?_, ?_⟩
    · rw [List.length_append, List.length_singleton, Nat.add_sub_cancel, List.getElem?_concat_length]
    rw [List.dropLast_concat]
    have ntG : ∀ u, G wa = some u → hoT u = false := fun _ z => by rw [gw] at z; cases z; rfl
    have k1 : Kn (Pl H) G (upd G wa (.lst zs)) := Kn.rfl.put nW ntG
    have s1 : Sm T H (upd G wa (.lst zs)) := sG.new nwa tb
    rw [wts_app, wts1] at hwt
    refine ⟨_, rfl, p, u, rfl, (ru.kn k1).any, by omega, s1.2, fun G2 s2 => ⟨_, rfl, ite2 (fun e => ?_) (fun e => ?_)⟩⟩
    · have z := q _ (s1.trans s2)
      have ed : trm x = false := by
        rw [hdat, List.all_append, List.all_cons, trm_eq u, show tfrm u = false by simpa using e]
        simp
      rw [ed] at z
      exact z
    have hf : tfrm u = true := by simpa using e
    have k2 : Kn (Pl H) (upd G wa (.lst zs)) G2 := s2.kn s1.2
    have gw2 : G2 wa = some (.lst zs) := s2.at s1.2 upd_same (fun ps z => by cases z)
    refine ⟨_, rfl, .inl ⟨rfl, _, SqL.of gw2⟩, _, rfl, p, u, rfl, (ru.kn k1).kn k2, hf, fun b hb ⟨o, e⟩ => ?_, fun pa us G3 s3 npa gp rp => ?_⟩
    · have := (s1.trans s2).free hb
      rw [this] at e
      cases e
    have gw3 := s3 _ _ gw2
    have lx := rx.len
    have lp := rp.len
    have l1 := len_szs xs
    have l2 := Dt.szs_wts xs
    have l3 := len_szs (tprt u)
    have l4 := Dt.szs_wts (tprt u)
    have l5 := tprt_wt u
    have l6 := tprt_sz u
    refine ⟨wa, pa, zs, us, rfl, rfl, gw3, gp, by omega, ?_⟩
    have nt3 : ∀ u, G3 wa = some u → hoT u = false := fun _ z => by rw [gw3] at z; cases z; rfl
    have k3 : Kn (Pl H) G2 G3 := .of s3
    have k4 : Kn (Pl H) G3 (upd G3 wa (.lst (zs ++ us))) := Kn.rfl.put nW nt3
    have s4 : Sm T H (upd G3 wa (.lst (zs ++ us))) := ((s1.trans s2).trans (Sm.of s3 s2.2)).new nwa tb
    refine ⟨Dt.szs (xs ++ tprt u), ?_, xs ++ tprt u, zs ++ us, _, rfl, rfl, s4, upd_same, ?_, ?_, ?_⟩
    · rw [szs_app, szs_app, szs1]
      omega
    · exact ((((rx.kn k1).kn k2).kn k3).kn k4).app (rp.kn k4)
    · rw [wts_app]
      omega
    · rw [hdat, List.all_append, List.all_append, List.all_cons, trm_eq u, hf]
      simp
  · have ev : vs = [] := by
      cases vs with
      | nil => rfl
      | cons a b => exact absurd rfl e
    subst ev
    cases rL
    have z := q _ sG
    rw [hdat] at z
    exact z
end
end Kq

namespace Kq
open PySem PySem.Spec PyProof.Rows L2
/-! kinds as trees -/
inductive Kd where
  | opn (x : Str)
  | num
  | tru
  | pair (a b : Kd)
  | eith (a b : Kd)
  | lst (a : Kd)
  | fn (a b : Kd)
  deriving DecidableEq
namespace Kd
def word : Kd → Str
  | opn _ => "open"
  | num => "num"
  | tru => "truth"
  | pair _ _ => "pair"
  | eith _ _ => "either"
  | lst _ => "list"
  | fn _ _ => "fun"
def kids : Kd → List Kd
  | pair a b => [a, b]
  | eith a b => [a, b]
  | lst a => [a]
  | fn a b => [a, b]
  | _ => []
def isFn : Kd → Bool
  | fn _ _ => true
  | _ => false
def isOp : Kd → Bool
  | opn _ => true
  | _ => false
def nodes : Kd → List Kd
  | opn x => [opn x]
  | num => [num]
  | tru => [tru]
  | pair a b => pair a b :: (nodes a ++ nodes b)
  | eith a b => eith a b :: (nodes a ++ nodes b)
  | lst a => lst a :: nodes a
  | fn a b => fn a b :: (nodes a ++ nodes b)
def size (t : Kd) : Nat := t.nodes.length
def dp : Kd → Nat
  | pair a b => max a.dp b.dp + 1
  | eith a b => max a.dp b.dp + 1
  | lst a => a.dp + 1
  | fn a b => max a.dp b.dp + 1
  | _ => 0
def opens : Kd → List Str
  | opn x => [x]
  | num => []
  | tru => []
  | pair a b => opens a ++ opens b
  | eith a b => opens a ++ opens b
  | lst a => opens a
  | fn a b => opens a ++ opens b
def args : Kd → List Kd
  | fn a b => a :: args b
  | _ => []
def res : Kd → Kd
  | fn _ b => res b
  | t => t
def ledTo (ts : List Kd) (t : Kd) : Kd := ts.foldr fn t
theorem nodes_eq (t : Kd) : t.nodes = t :: t.kids.flatMap nodes := by
  cases t <;> simp [nodes, kids]
theorem isFn_word (t : Kd) : decide (V.str t.word = V.str "fun") = t.isFn := by
  cases t <;> rfl
theorem isOp_word (t : Kd) : decide (V.str t.word = V.str "open") = t.isOp := by
  cases t <;> rfl
end Kd
/-- a tuple, or one of the written part -/
def Sq (K : PySem.W.Frag) (H : Hp) (a : Addr) (xs : List V) : Prop := H a = some (.tup xs) ∨ ∀ G : Hp, SqT K G a xs
theorem Sq.t {K : PySem.W.Frag} {H : Hp} {a : Addr} {xs : List V} (h : Sq K H a xs) : SqT K H a xs := by
  rcases h with h | h
  · exact SqT.of h
  · exact h H
theorem Sq.tk {K : PySem.W.Frag} {H G : Hp} {a : Addr} {xs : List V} (h : Sq K H a xs) (k : Tk H G) : Sq K G a xs := by
  rcases h with h | h
  · exact .inl (k _ _ h)
  · exact .inr h
/-- the tree stands at v -/
def Rp (K : PySem.W.Frag) (H : Hp) : Kd → V → Prop
  | .opn x, v => ∃ a, v = .ref a ∧ Sq K H a [.str "open", .str x]
  | .num, v => ∃ a, v = .ref a ∧ Sq K H a [.str "num"]
  | .tru, v => ∃ a, v = .ref a ∧ Sq K H a [.str "truth"]
  | .pair s t, v => ∃ a x y, v = .ref a ∧ Sq K H a [.str "pair", x, y] ∧ Rp K H s x ∧ Rp K H t y
  | .eith s t, v => ∃ a x y, v = .ref a ∧ Sq K H a [.str "either", x, y] ∧ Rp K H s x ∧ Rp K H t y
  | .lst s, v => ∃ a x, v = .ref a ∧ Sq K H a [.str "list", x] ∧ Rp K H s x
  | .fn s t, v => ∃ a x y, v = .ref a ∧ Sq K H a [.str "fun", x, y] ∧ Rp K H s x ∧ Rp K H t y
def RpL (K : PySem.W.Frag) (H : Hp) : List Kd → List V → Prop
  | [], [] => True
  | t :: ts, v :: vs => Rp K H t v ∧ RpL K H ts vs
  | _, _ => False
theorem Rp.tk {K : PySem.W.Frag} {H G : Hp} (k : Tk H G) : ∀ {t : Kd} {v : V}, Rp K H t v → Rp K G t v := by
  intro t
  induction t with
  | opn x => exact fun ⟨a, e, h⟩ => ⟨a, e, h.tk k⟩
  | num => exact fun ⟨a, e, h⟩ => ⟨a, e, h.tk k⟩
  | tru => exact fun ⟨a, e, h⟩ => ⟨a, e, h.tk k⟩
  | pair s t i j => exact fun ⟨a, x, y, e, h, p, q⟩ => ⟨a, x, y, e, h.tk k, i p, j q⟩
  | eith s t i j => exact fun ⟨a, x, y, e, h, p, q⟩ => ⟨a, x, y, e, h.tk k, i p, j q⟩
  | lst s i => exact fun ⟨a, x, e, h, p⟩ => ⟨a, x, e, h.tk k, i p⟩
  | fn s t i j => exact fun ⟨a, x, y, e, h, p, q⟩ => ⟨a, x, y, e, h.tk k, i p, j q⟩
theorem RpL.tk {K : PySem.W.Frag} {H G : Hp} (k : Tk H G) : ∀ {ts : List Kd} {vs : List V}, RpL K H ts vs → RpL K G ts vs
  | [], [], _ => trivial
  | _ :: _, _ :: _, h => ⟨h.1.tk k, RpL.tk k h.2⟩
  | [], _ :: _, h => h.elim
  | _ :: _, [], h => h.elim
theorem RpL.len {K : PySem.W.Frag} {H : Hp} : ∀ {ts : List Kd} {vs : List V}, RpL K H ts vs → ts.length = vs.length
  | [], [], _ => rfl
  | _ :: _, _ :: _, h => congrArg (· + 1) (RpL.len h.2)
  | [], _ :: _, h => h.elim
  | _ :: _, [], h => h.elim
theorem RpL.app {K : PySem.W.Frag} {H : Hp} : ∀ {ts us : List Kd} {vs ws : List V}, RpL K H ts vs → RpL K H us ws → RpL K H (ts ++ us) (vs ++ ws)
  | [], _, [], _, _, h => h
  | _ :: _, _, _ :: _, _, h, k => ⟨h.1, RpL.app h.2 k⟩
  | [], _, _ :: _, _, h, _ => h.elim
  | _ :: _, _, [], _, h, _ => h.elim
theorem RpL.get {K : PySem.W.Frag} {H : Hp} : ∀ {ts : List Kd} {vs : List V} {i : Nat} {v : V}, RpL K H ts vs → vs[i]? = some v → ∃ t, ts[i]? = some t ∧ Rp K H t v
  | [], [], i, v, _, e => by simp at e
  | t :: _, w :: _, 0, v, h, e => ⟨t, rfl, by rw [← show w = v from Option.some.inj e]; exact h.1⟩
  | _ :: ts, _ :: vs, i + 1, v, h, e => RpL.get (ts := ts) (vs := vs) (i := i) h.2 e
  | [], _ :: _, _, _, h, _ => h.elim
  | _ :: _, [], _, _, h, _ => h.elim
theorem RpL.last {K : PySem.W.Frag} {H : Hp} : ∀ {ts : List Kd} {vs : List V}, RpL K H ts vs → vs ≠ [] → ∃ us u ws w, ts = us ++ [u] ∧ vs = ws ++ [w] ∧ RpL K H us ws ∧ Rp K H u w
  | [t], [v], h, _ => ⟨[], t, [], v, rfl, rfl, trivial, h.1⟩
  | t :: t' :: ts, v :: v' :: vs, h, _ => by
    obtain ⟨us, u, ws, w, e1, e2, k, r⟩ := RpL.last (ts := t' :: ts) (vs := v' :: vs) h.2 (by simp)
    exact ⟨t :: us, u, v :: ws, w, by rw [e1]; rfl, by rw [e2]; rfl, ⟨h.1, k⟩, r⟩
  | [], [], _, n => absurd rfl n
  | [], _ :: _, h, _ => h.elim
  | _ :: _, [], h, _ => h.elim
  | [_], _ :: _ :: _, h, _ => h.2.elim
  | _ :: _ :: _, [_], h, _ => h.2.elim
/-- the tuple at v: the word, and the rest -/
theorem Rp.see {K : PySem.W.Frag} {H : Hp} {t : Kd} {v : V} (h : Rp K H t v) : ∃ a vs, v = .ref a ∧ Sq K H a (.str t.word :: vs) ∧ ((t.isOp = false ∧ RpL K H t.kids vs) ∨ ∃ x, t = .opn x ∧ vs = [.str x]) := by
  cases t with
  | opn x =>
    obtain ⟨a, e, g⟩ := h
    exact ⟨a, _, e, g, .inr ⟨x, rfl, rfl⟩⟩
  | num =>
    obtain ⟨a, e, g⟩ := h
    exact ⟨a, [], e, g, .inl ⟨rfl, trivial⟩⟩
  | tru =>
    obtain ⟨a, e, g⟩ := h
    exact ⟨a, [], e, g, .inl ⟨rfl, trivial⟩⟩
  | pair s t =>
    obtain ⟨a, x, y, e, g, p, q⟩ := h
    exact ⟨a, _, e, g, .inl ⟨rfl, p, q, trivial⟩⟩
  | eith s t =>
    obtain ⟨a, x, y, e, g, p, q⟩ := h
    exact ⟨a, _, e, g, .inl ⟨rfl, p, q, trivial⟩⟩
  | lst s =>
    obtain ⟨a, x, e, g, p⟩ := h
    exact ⟨a, _, e, g, .inl ⟨rfl, p, trivial⟩⟩
  | fn s t =>
    obtain ⟨a, x, y, e, g, p, q⟩ := h
    exact ⟨a, _, e, g, .inl ⟨rfl, p, q, trivial⟩⟩
abbrev tWithinT : Stmt := tp 28
abbrev tLeads : Stmt := tp 31
abbrev tParts : Stmt := tp 32
section
variable {P : Program} {w : World} {K : PySem.W.Frag} {mg : Str → Option Value} {base : Heap}
/-! leads -/
theorem scLeads : FnScope ["kind"] ["kind"] (defScope tLeads) := ⟨rfl, rfl, rfl, by decide +kernel, rfl, by decide +kernel, by decide +kernel⟩
def spLeads (K : PySem.W.Frag) : Sp := fun vs H Q _ => ∃ (v : V) (t : Kd), vs = [v] ∧ Rp K H t v ∧ Q (.bl t.isFn) H
theorem okLeads {f : Addr} {fd : FuncData} {k : Nat} (F : Fun K "leads" "leads" tLeads f fd) : FnOk P w K mg base CX0 (k + 1) f fd ["kind"] (spLeads K) := by
  refine F.ok scLeads (fun vs H Q E h => ?_) (fun cdv A outer s H vs Q E hr h => ?_)
  · obtain ⟨v, t, rfl, _⟩ := h
    rfl
  obtain ⟨v, t, rfl, r, q⟩ := h
  obtain ⟨a, us, rfl, ha, _⟩ := r.see
  refine ⟨_, pss_one (ps_ret (pe_cmpR op_eq (pe_ix ix_tup (pv 0) pe_int (fun _ _ => rfl)) pe_str (nomark _))), ?_⟩
  refine ⟨_, rfl, a, _, _, _, rfl, rfl, ha.t, atI_nat (j := 0) rfl, rfl, ?_⟩
  rw [Kd.isFn_word]
  exact q
/-! kinds_within -/
theorem scWithinT : FnScope ["kind"] ["kind"] (defScope tWithinT) := ⟨rfl, rfl, rfl, by decide +kernel, rfl, by decide +kernel, by decide +kernel⟩
def spWithinT (K : PySem.W.Frag) : Sp := fun vs H Q _ => ∃ (v : V) (t : Kd), vs = [v] ∧ Rp K H t v ∧ ∀ (p : Addr) (us : List V) (G : Hp), Same H G → G p = some (.tup us) → RpL K G t.kids us → Q (.ref p) G
theorem okWithinT {f : Addr} {fd : FuncData} {k : Nat} (F : Fun K "kinds_within" "kinds_within" tWithinT f fd) : FnOk P w K mg base CX0 (k + 1) f fd ["kind"] (spWithinT K) := by
  refine F.ok scWithinT (fun vs H Q E h => ?_) (fun cdv A outer s H vs Q E hr h => ?_)
  · obtain ⟨v, t, rfl, _⟩ := h
    rfl
  obtain ⟨v, t, rfl, r, q⟩ := h
  obtain ⟨a, us, rfl, ha, hu⟩ := r.see
  refine ⟨_, pss_cons (ps_if (pt_cmpR op_eq (pe_ix ix_tup (pv 0) pe_int (fun _ _ => rfl)) pe_str (nomark _)) (pss_one (ps_ret (pe_tup pa_nil))) pss_nil)
    (pss_one (ps_ret (pe_slice sl_tup (pv 0) (po_some pe_int) po_none))), ?_⟩
  refine ⟨_, rfl, a, _, _, _, rfl, rfl, ha.t, atI_nat (j := 0) rfl, rfl, _, rfl, ?_⟩
  rw [Kd.isOp_word]
  refine ite2 (fun e => ?_) (fun e => ?_)
  · refine ⟨Nat.zero_le _, fun p np => q p [] _ (newS np) upd_same ?_⟩
    cases t with
    | opn x => trivial
    | _ => cases e
  · refine ⟨_, rfl, 1, rfl, a, _, rfl, ha.t, notWhole _ _, fun p np => ?_⟩
    rw [cutFrom1]
    refine q p us _ (newS np) upd_same ?_
    rcases hu with hu | ⟨x, rfl, _⟩
    · exact hu.2.tk (Tk.of (newS np))
    · exact absurd rfl e
/-! parts_of -/
theorem scParts : FnScope ["kind", "parts", "waiting", "part"] ["kind"] (defScope tParts) := ⟨rfl, rfl, rfl, by decide +kernel, rfl, by decide +kernel, by decide +kernel⟩
def spParts (K : PySem.W.Frag) : Sp := fun vs H Q _ => ∃ (v : V) (t : Kd), vs = [v] ∧ Rp K H t v ∧ t.size ≤ 900 ∧ ∀ (p : Addr) (ts : List Kd) (us : List V) (G : Hp), Same H G → G p = some (.lst us) → RpL K G ts us → ts.Perm t.nodes → Q (.ref p) G
theorem okParts {f fW : Addr} {fd fdW : FuncData} {k : Nat} (F : Fun K "parts_of" "parts_of" tParts f fd) (FW : Fun K "kinds_within" "kinds_within" tWithinT fW fdW) (bW : Binds K fdW ["kind"] []) (gW : mg "kinds_within" = some (.ref fW)) : FnOk P w K mg base CX0 (k + 2) f fd ["kind"] (spParts K) := by
  have GW : FnOk P w K mg base CX0 (k + 1) fW fdW ["kind"] (spWithinT K) := okWithinT FW
  refine F.ok scParts (fun vs H Q E h => ?_) (fun cdv A outer s H vs Q E hr h => ?_)
  · obtain ⟨v, t, rfl, _⟩ := h
    rfl
  obtain ⟨v, t, rfl, r, hz, q⟩ := h
  refine ⟨_, pss_cons (ps_set (i := 1) scParts.nd rfl (.inl rfl) (pe_lst pa_nil))
    (pss_cons (ps_set (i := 2) scParts.nd rfl (.inl rfl) (pe_lst (pa_cons (pv 0) pa_nil)))
    (pss_cons (ps_while PassesOwn.never (pt_truth (pv 2) (by intro _; rfl))
      (pss_cons (ps_set (i := 3) scParts.nd rfl (.inl rfl) (pe_bm0 PySem.F.plainAttrs_list PySem.F.slot_list_pop PySem.F.type_list_pop mt_pop (pv 2)))
      (pss_cons (ps_expr (pe_bm PySem.F.plainAttrs_list PySem.F.slot_list_append PySem.F.type_list_append mt_append (pv 1) (pa_cons (pv 3) pa_nil)))
      (pss_one (ps_expr (pe_bm PySem.F.plainAttrs_list PySem.F.slot_list_extend PySem.F.type_list_extend Kr.mt_extT (pv 2) (pa_cons (pe_call GW hr (by rfl) gW FW.kp bW .nil pass0 (pa_cons (pv 3) pa_nil)) pa_nil)))))))
    (pss_one (ps_ret (pv 1))))), ?_⟩
  refine ⟨Nat.zero_le _, fun pa npa => ?_⟩
  refine ⟨_, rfl, (by show 1 ≤ sizeLine; decide), fun wa nwa => ?_⟩
  have s2 : Same H (upd (upd H pa (.lst [])) wa (.lst [v])) := (newS npa).trans (newS nwa)
  have hpw : pa ≠ wa := fun z => by
    rw [z, upd_same] at nwa
    cases nwa
  have hwa : H wa = none := (newS npa).free nwa
  refine ⟨fun m σ G => ∃ ts ws us vs y, m = (ws.flatMap Kd.nodes).length ∧ σ = [some v, some (.ref pa), some (.ref wa), y] ∧ Same H G ∧ G pa = some (.lst us) ∧ G wa = some (.lst vs) ∧ RpL K G ts us ∧ RpL K G ws vs ∧ (ts ++ ws.flatMap Kd.nodes).Perm t.nodes,
    ⟨_, [], [t], [], [v], none, rfl, rfl, s2, ?_, upd_same, trivial, ⟨r.tk (Tk.of s2), trivial⟩, ?_⟩, fun m σ G z => ?_⟩
  · rw [upd_ne hpw, upd_same]
  · rw [List.flatMap_cons, List.flatMap_nil, List.append_nil, List.nil_append]
  obtain ⟨ts, ws, us, vs, y, rfl, rfl, sG, gp, gw, rt, rw', pm⟩ := z
  refine ⟨_, rfl, _, .inl ⟨vs, SqL.of gw, rfl⟩, ?_⟩
  have lens : ts.length + (ws.flatMap Kd.nodes).length = t.size := by
    have e := pm.length_eq
    rw [List.length_append] at e
    exact e
  refine ite2 (fun e => ?_) (fun e => ?_)
  · have nn : vs ≠ [] := fun z => by
      rw [z] at e
      cases e
    obtain ⟨xs, u, zs, x, rfl, rfl, rx, ru⟩ := rw'.last nn
    refine ⟨fun σ' G' => ∃ m', m' < _ ∧ (∃ ts ws us vs y, m' = (ws.flatMap Kd.nodes).length ∧ σ' = [some v, some (.ref pa), some (.ref wa), y] ∧ Same H G' ∧ G' pa = some (.lst us) ∧ G' wa = some (.lst vs) ∧ RpL K G' ts us ∧ RpL K G' ws vs ∧ (ts ++ ws.flatMap Kd.nodes).Perm t.nodes), fun σ' G' z => z, ?_⟩
    refine ⟨_, rfl, .inl ⟨rfl, _, SqL.of gw⟩, wa, _, x, rfl, rfl, gw, ?_, ?_⟩
    · rw [List.length_append, List.length_singleton, Nat.add_sub_cancel, List.getElem?_concat_length]
    rw [List.dropLast_concat]
    have t1 : Tk G (upd G wa (.lst zs)) := Tk.rfl.put (fun _ z => by rw [gw] at z; cases z)
    have gp1 : (upd G wa (.lst zs)) pa = some (.lst us) := by rw [upd_ne hpw]; exact gp
    refine ⟨_, rfl, .inl ⟨rfl, _, SqL.of gp1⟩, _, rfl, pa, _, _, rfl, rfl, gp1, ?_, ?_⟩
    · have := rt.len
      exact small1000 (by omega)
    have t2 : Tk G (upd (upd G wa (.lst zs)) pa (.lst (us ++ [x]))) := t1.put (fun _ z => by rw [gp] at z; cases z)
    have gw2 : (upd (upd G wa (.lst zs)) pa (.lst (us ++ [x]))) wa = some (.lst zs) := by rw [upd_ne hpw.symm, upd_same]
    have gp2 : (upd (upd G wa (.lst zs)) pa (.lst (us ++ [x]))) pa = some (.lst (us ++ [x])) := upd_same
    have s3 : Same H (upd (upd G wa (.lst zs)) pa (.lst (us ++ [x]))) := smk (smk sG hwa) npa
    generalize upd (upd G wa (.lst zs)) pa (.lst (us ++ [x])) = G2 at t2 gw2 gp2 s3
    refine ⟨_, rfl, .inl ⟨rfl, _, SqL.of gw2⟩, _, rfl, x, u, rfl, ru.tk t2, fun p ks G3 s4 gk rk => ?_⟩
    have lk : ks.length ≤ 2 := by
      rw [← rk.len]
      cases u <;> simp [Kd.kids]
    refine ⟨wa, p, _, _, rfl, rfl, s4 _ _ gw2, SqT.of gk, ?_, ?_⟩
    · have l1 := rx.len
      have l2 : xs.length ≤ ((xs ++ [u]).flatMap Kd.nodes).length := by
        clear lens pm gw nn e rw' l1 rx
        induction xs with
        | nil => exact Nat.zero_le _
        | cons a xs ih =>
          have : 1 ≤ a.nodes.length := by rw [Kd.nodes_eq]; exact Nat.succ_le_succ (Nat.zero_le _)
          simp only [List.cons_append, List.flatMap_cons, List.length_append, List.length_cons] at ih ⊢
          omega
      exact sz (by omega)
    have e4 := Kd.nodes_eq u
    have t4 : Tk G3 (upd G3 wa (.lst (zs ++ ks))) := Tk.rfl.put (fun _ z => by rw [s4 _ _ gw2] at z; cases z)
    refine ⟨_, ?_, ts ++ [u], xs ++ u.kids, us ++ [x], zs ++ ks, _, rfl, rfl, smk (s3.trans s4) hwa, ?_, upd_same, ?_, ?_, ?_⟩
    · simp only [List.flatMap_append, List.flatMap_cons, List.flatMap_nil, List.append_nil, List.length_append]
      rw [e4, List.length_cons]
      omega
    · rw [upd_ne hpw]
      exact s4 _ _ gp2
    · exact (RpL.app (us := [u]) (ws := [x]) (rt.tk t2) ⟨ru.tk t2, trivial⟩).tk ((Tk.of s4).trans t4)
    · exact ((rx.tk (t2.trans (Tk.of s4))).app rk).tk t4
    · refine List.Perm.trans ?_ pm
      simp only [List.flatMap_append, List.flatMap_cons, List.flatMap_nil, List.append_nil, List.append_assoc]
      refine List.Perm.append_left ts ?_
      rw [e4]
      show (u :: (xs.flatMap Kd.nodes ++ u.kids.flatMap Kd.nodes)).Perm (xs.flatMap Kd.nodes ++ (u :: u.kids.flatMap Kd.nodes))
      exact List.perm_middle.symm
  · have nv : vs = [] := by
      cases vs with
      | nil => rfl
      | cons a b => exact absurd rfl e
    subst nv
    cases ws with
    | cons a b => exact rw'.elim
    | nil =>
      rw [List.flatMap_nil, List.append_nil] at pm
      exact ⟨_, rfl, q pa ts us G sG gp rt pm⟩
end
end Kq

namespace Ks
open PySem PySem.Spec PyProof.Rows L2
/-! a set of texts -/
def tx (e : Int × Value) : Str := match e.2 with
  | .str x _ => x
  | _ => Str.empty
def GoodT (w : World) (e : Int × Value) : Prop := ∃ x t, e.2 = Value.str x t ∧ e.1 = hashStr w x
structure SetT (w : World) (es : Array (Int × Value)) (t : SetTable) (S : Str → Bool) (n : Nat) : Prop where
  good : ∀ e ∈ es.toList, GoodT w e
  nd : (es.toList.map tx).Nodup
  mem : ∀ k, S k = true ↔ k ∈ es.toList.map tx
  few : es.size < scanBound
  fit : t.fits es.size = true
  num : es.size = n
  ris : Ris t.place.toList
  led : w.params.followText "set-order" = true ∨ t.led = true
def SetS (w : World) (h : Heap) (a : Addr) (S : Str → Bool) (n : Nat) : Prop :=
  ∃ o es ep t, h.get? a = some o ∧ o.ExactSet ∧ o.data = .set es ep t ∧ SetT w es t S n
section
variable {P : Program} {w : World} {A : Around} {E : Value → Shared → Prop} {s : Shared} {a : Addr} {S : Str → Bool} {n : Nat}
theorem kis (x : Str) (t : Tok) : (PySem.strKind P w).is x (.str x t) = true := by
  show Value.isStrOf x (.str x t) = true
  simp [Value.isStrOf]
theorem goodElems {l : List (Int × Value)} (g : ∀ e ∈ l, GoodT w e) : ElemsOf (PySem.strKind P w) l := fun e he => by
  obtain ⟨x, t, h1, h2⟩ := g e he
  refine ⟨⟨x, ?_, h2⟩, ?_⟩
  · rw [h1]
    exact kis x t
  · rw [h1] <;> rfl
theorem goodMem {l : List (Int × Value)} (g : ∀ e ∈ l, GoodT w e) (k : Str) : k ∈ l.map tx ↔ ∃ e ∈ l, (PySem.strKind P w).is k e.2 = true := by
  have one : ∀ e ∈ l, ((PySem.strKind P w).is k e.2 = true ↔ tx e = k) := fun e he => by
    obtain ⟨x, t, h1, _⟩ := g e he
    unfold tx
    rw [h1]
    constructor
    · intro z
      obtain ⟨u, hu⟩ := Value.isStrOf_shape (show Value.isStrOf k (.str x t) = true from z)
      injection hu
    · intro z
      show (PySem.strKind P w).is k (.str x t) = true
      have z' : x = k := z
      rw [z']
      exact kis k t
  rw [List.mem_map]
  exact ⟨fun ⟨e, he, q⟩ => ⟨e, he, (one e he).2 q⟩, fun ⟨e, he, q⟩ => ⟨e, he, (one e he).1 q⟩⟩
theorem typ (R : SetS w s.heap a S n) : s.TypeIs (.ref a) "set" := by
  obtain ⟨o, es, ep, t, ho, hx, _⟩ := R
  exact ⟨o, ho, hx.1⟩
theorem after {h : Heap} {o : Obj} {es es' : Array (Int × Value)} {ep : Nat} {t t' : SetTable} (ho : h.get? a = some o) (hd : o.data = .set es ep t) :
    (h.update a (Obj.putSet es' t')).get? a = some { o with data := .set es' (ep + 1) t' } := by
  have q := Heap.get?_update_self (Obj.putSet es' t') ho (by rw [putSet_of es' t' hd]; rfl)
  rw [putSet_of es' t' hd] at q
  exact q
theorem tail {g : Bool → Sem Unit} (hg : ∀ (b : Bool) (s₁ : Shared) (Q' : Unit → Shared → Prop), Q' () s₁ → wpAny (model P w) A (g b) Q' E s₁)
    {o : Obj} {es : Array (Int × Value)} {ep : Nat} {t : SetTable} (ho : s.heap.get? a = some o) (hex : o.ExactSet) (hd : o.data = .set es ep t)
    {fs : Array (Int × Value)} {u : SetTable} {S' : Str → Bool} (T : SetT w fs u S' fs.size) {wd : Bool} {R : Option Bool → Shared → Prop}
    (hR : ∀ h', Heap.SameBut a s.heap h' → SetS w h' a S' fs.size → R (some true) { s with heap := h' }) :
    wpAny (model P w) A (do
        storeSet a fs u
        if (!wd && u.tooFull) = true then do
            g (relayAll u fs (SetTable.grown fs.size)).2.2
            storeSet a (relayAll u fs (SetTable.grown fs.size)).1 (relayAll u fs (SetTable.grown fs.size)).2.1
            pure (some true)
          else pure (some true)) R E s := by
  refine wpAny_bind (wpAny_storeSet_of ho hd ?_ (fits_of_scanBound T.few))
  have o1 := after (es' := fs) (t' := u) ho hd
  have sb := Heap.SameBut.update s.heap a (Obj.putSet fs u)
  split
  · have pm := relayAll_perm u fs (SetTable.grown fs.size)
    have f3 := relayAll_fits u fs (SetTable.grown fs.size)
    have r3 := relayAll_ris u fs (SetTable.grown fs.size)
    have l3 := relayAll_led u fs (SetTable.grown fs.size)
    generalize relayAll u fs (SetTable.grown fs.size) = Z at pm f3 r3 l3 ⊢
    obtain ⟨gs, v, gave⟩ := Z
    dsimp only at pm f3 r3 l3 ⊢
    have e : gs.size = fs.size := by
      rw [← Array.length_toList, pm.length_eq, Array.length_toList]
    have few : gs.size < scanBound := by
      rw [e]
      exact T.few
    refine wpAny_bind (hg _ _ _ ?_)
    refine wpAny_bind (wpAny_storeSet_of o1 rfl ?_ (fits_of_scanBound few))
    have o2 := after (es' := gs) (t' := v) o1 rfl
    refine wpAny_pure (hR _ (sb.trans (Heap.SameBut.update _ a _)) ⟨_, gs, _, v, o2, hex, rfl, ?_⟩)
    exact ⟨fun x hx => T.good x (pm.mem_iff.mp hx), (pm.map tx).nodup_iff.mpr T.nd, fun k => (T.mem k).trans (pm.map tx).mem_iff.symm, few, f3, e, r3, T.led.imp id fun z => by rw [l3]; exact z⟩
  · exact wpAny_pure (hR _ sb ⟨_, fs, _, u, o1, hex, rfl, T⟩)
theorem addHashed {k : Str} {tk : Tok} {Q : Bool → Shared → Prop} (R : SetS w s.heap a S n) (room : n + 1 < scanBound)
    (hQ : ∀ h', Heap.SameBut a s.heap h' → SetS w h' a (fun j => S j || decide (j = k)) (if S k = true then n else n + 1) → Q (!S k) { s with heap := h' }) :
    wpAny (model P w) A (setAddHashed a (.str k tk) ((PySem.strKind P w).hash k)) Q E s := by
  obtain ⟨o, es, ep, t, ho, hex, hd, T⟩ := R
  have key := kis (P := P) (w := w) k tk
  have sc : (Value.str k tk).scannable = true := rfl
  have el : ElemsOf (PySem.strKind P w) es.toList := goodElems T.good
  unfold setAddHashed setAddHashedIn
  refine wpAny_holding (wpAny_bind (wpAny_setState_of ho hd T.fit ?_))
  dsimp only
  rw [byScan_of sc T.few el]
  simp only [↓reduceIte]
  unfold setAddByScan
  refine wpAny_bind ?_
  refine wpAny_bind (wpAny_rule ?_)
  refine wpAny_bind (wpAny_setScan_of key ho hd T.fit el ?_)
  cases fi : List.findIdx? (fun e => (PySem.strKind P w).is k e.2) es.toList with
  | some j =>
    dsimp only
    obtain ⟨hj, pj, _⟩ := List.findIdx?_eq_some_iff_getElem.mp fi
    have yes : S k = true := (T.mem k).2 ((goodMem (P := P) T.good k).2 ⟨es.toList[j], List.getElem_mem hj, pj⟩)
    refine wpAny_pure (wpAny_pure ?_)
    have q := hQ s.heap (Heap.SameBut.refl a s.heap) ⟨o, es, ep, t, ho, hex, hd, T.good, T.nd, fun i => by
      rw [Bool.or_eq_true, decide_eq_true_eq, ← T.mem i]
      exact ⟨fun z => z.elim id (fun e => e ▸ yes), .inl⟩, T.few, T.fit, by rw [if_pos yes]; exact T.num, T.ris, T.led⟩
    rw [yes] at q
    exact q
  | none =>
    dsimp only
    have out : k ∉ es.toList.map tx := fun z => by
      obtain ⟨e, he, q⟩ := (goodMem (P := P) T.good k).1 z
      have c := List.findIdx?_eq_none_iff.mp fi e he
      rw [q] at c
      cases c
    have no : S k = false := by
      cases q : S k with
      | false => rfl
      | true => exact absurd ((T.mem k).1 q) out
    have gw : ∀ (b : Bool) {s₁ : Shared} {Q' : Unit → Shared → Prop}, Q' () s₁ → wpAny (model P w) A (match b with
        | true => rule "set.scan.the-table-gave-way"
        | false => pure ()) Q' E s₁ := fun b s₁ Q' q => by
      cases b
      · exact wpAny_pure q
      · exact wpAny_rule q
    have pm := layNew_perm t es ((PySem.strKind P w).hash k) (.str k tk)
    have f1 := layNew_fits t es ((PySem.strKind P w).hash k) (.str k tk)
    have r1 := layNew_ris t es ((PySem.strKind P w).hash k) (.str k tk) T.ris
    have l1 := layNew_led t es ((PySem.strKind P w).hash k) (.str k tk)
    generalize layNew t es ((PySem.strKind P w).hash k) (.str k tk) = Z at pm f1 r1 l1 ⊢
    obtain ⟨fs, u, wd, gave⟩ := Z
    dsimp only at pm f1 r1 l1 ⊢
    rw [Array.toList_push] at pm
    have pc : fs.toList.Perm (((PySem.strKind P w).hash k, Value.str k tk) :: es.toList) := pm.trans (List.perm_append_singleton _ _)
    have pk : (fs.toList.map tx).Perm (k :: es.toList.map tx) := pc.map tx
    have e1 : fs.size = n + 1 := by
      rw [← Array.length_toList, pc.length_eq, List.length_cons, Array.length_toList, T.num]
    have T1 : SetT w fs u (fun j => S j || decide (j = k)) fs.size := by
      refine ⟨fun e he => ?_, pk.nodup_iff.mpr (List.nodup_cons.mpr ⟨out, T.nd⟩), fun i => ?_, by rw [e1]; exact room, f1, rfl, r1, T.led.imp id fun z => by rw [l1]; exact z⟩
      · rcases List.mem_cons.mp (pc.mem_iff.mp he) with z | z
        · rw [z]
          exact ⟨k, tk, rfl, rfl⟩
        · exact T.good e z
      · rw [Bool.or_eq_true, decide_eq_true_eq, T.mem i, pk.mem_iff, List.mem_cons]
        exact Or.comm
    have fin : ∀ h', Heap.SameBut a s.heap h' → SetS w h' a (fun j => S j || decide (j = k)) fs.size → Q true { s with heap := h' } := fun h' sb r => by
      have q := hQ h' sb
      rw [no] at q
      rw [e1] at r
      exact q r
    refine wpAny_bind (gw _ ?_)
    split
    · refine wpAny_bind ?_
      rw [hashByValue_scannable 8 sc]
      refine wpAny_pure ?_
      have T2 : SetT w fs (if plainKind (.str k tk) = true then u else { u with plain := false }) (fun j => S j || decide (j = k)) fs.size := by
        split
        · exact T1
        · exact { T1 with fit := SetTable.fits_plain_off T1.fit, ris := T1.ris, led := T1.led }
      refine tail (S' := fun j => S j || decide (j = k)) ?_ ho hex hd T2 ?_
      · intro b s₁ Q' q
        exact gw b q
      · intro h' sb r
        dsimp only
        exact wpAny_pure (fin h' sb r)
    · refine wpAny_bind (wpAny_pure ?_)
      simp only [↓reduceIte]
      refine tail (S' := fun j => S j || decide (j = k)) ?_ ho hex hd T1 ?_
      · intro b s₁ Q' q
        exact gw b q
      · intro h' sb r
        dsimp only
        exact wpAny_pure (fin h' sb r)
/-- set.add of a text -/
theorem addCall {k : Str} {tk : Tok} {Q : Value → Shared → Prop} (R : SetS w s.heap a S n) (room : n + 1 < scanBound)
    (hQ : ∀ h', Heap.SameBut a s.heap h' → SetS w h' a (fun j => S j || decide (j = k)) (if S k = true then n else n + 1) → Q .none { s with heap := h', toks := s.toks + 1 }) :
    wpAny (model P w) A (call (.builtin "set.add") [.ref a, .str k tk]) Q E s := by
  refine wpAny_call_entry F.slot_set_add (typ R) F.entry_set_add ?_ (F.args_set_add_2 _ _)
  unfold Builtin.«set.add» Builtin.Frozenset.oneOther
  simp only [List.isEmpty_nil, bind_assoc]
  unfold Builtin.Frozenset.addrOf setAdd
  refine wpAny_bind (wpAny_pure ?_)
  try dsimp only
  refine wpAny_bind (wpAny_pure ?_)
  try dsimp only
  refine wpAny_bind ?_
  refine wpAny_holding ?_
  refine wpAny_bind ((PySem.strKind P w).pyHash (kis k tk) ?_)
  refine addHashed (s := { s with toks := s.toks + 1 }) R room (fun h' sb r => ?_)
  show wpAny _ _ (ret Value.none) _ _ _
  exact wpAny_pure ⟨_, rfl, hQ h' sb r⟩
theorem fresh {h : Heap} (w : World) : SetS w (h.push { cls := .type "set", dict := none, data := .set #[] 0 (.fresh 0 0 (!w.params.followText "set-order")) }) h.objs.size (fun _ => false) 0 := by
  refine ⟨_, #[], 0, _, Heap.get?_push_size _ rfl, ⟨rfl, rfl, rfl⟩, rfl, ⟨fun e he => ?_, ?_, fun k => ?_, ?_, ?_, rfl, List.Pairwise.nil, ?_⟩⟩
  · simp at he
  · simp
  · simp
  · decide
  · rfl
  · show _ ∨ (!w.params.followText "set-order") = true
    cases w.params.followText "set-order"
    · exact .inr rfl
    · exact .inl rfl
end
/-- the set of texts at a, as a tracked thing -/
def SetH (w : World) (a : Addr) (S : Str → Bool) (n : Nat) : HO := .ext fun h => SetS w h a S n
theorem setH_new {w : World} {P : Program} {H : Hp} {h : Heap} {a : Addr} {S : Str → Bool} {n : Nat} (R : SetS w h a S n) : ObjOk P w H h a (SetH w a S n) := by
  have ⟨o, es, ep, t, ho, r⟩ := R
  refine ⟨R, ⟨o, ho⟩, fun h1 h2 p k => ?_⟩
  obtain ⟨o, es, ep, t, ho, r⟩ := p
  exact ⟨o, es, ep, t, k o ho, r⟩
section
variable {X : Cx} {pins : List (Addr × Obj)} {σ : L2.St} {H : Hp} {s : Shared}
theorem setH_get {a : Addr} {S : Str → Bool} {n : Nat} (I : Inv X pins σ H s) (ha : H a = some (SetH X.w a S n)) : SetS X.w s.heap a S n := (I.hok a _ ha).1
theorem addIn {E : Value → Shared → Prop} {D : Addr} {S : Str → Bool} {n : Nat} {y : Str} {tk : Tok} {Q : Value → Shared → Prop} (I : Inv X pins σ H s) (hD : H D = some (SetH X.w D S n)) (room : n + 1 < scanBound)
    (h : ∀ s', Inv X pins σ (upd H D (SetH X.w D (fun j => S j || decide (j = y)) (if S y = true then n else n + 1))) s' → Q .none s') : wpAny (model X.prog X.w) X.A (call (.builtin "set.add") [.ref D, .str y tk]) Q E s := by
  refine addCall (setH_get I hD) room fun h' sb new => h _ ?_
  have he : ∃ u, h'.get? D = some u := let ⟨o, _, _, _, ho, _⟩ := new; ⟨o, ho⟩
  exact I.write (e := D) (t' := s.toks + 1) (by rw [hD]; trivial) (.inl rfl) (fun b u hb hu => (sb.2 b hb).trans hu) he (setH_new new)
end
end Ks

namespace Ks
open PySem PySem.Spec PyProof.Rows L2
section
variable {P : Program} {w : World} {A : Around} {E : Value → Shared → Prop} {s : Shared} {a : Addr} {S : Str → Bool} {n : Nat}
theorem strsOf {l : List Value} (h : ∀ v ∈ l, ∃ x t, v = Value.str x t) : ∃ xs, StrsAre l xs := by
  induction l with
  | nil => exact ⟨[], .nil⟩
  | cons v l ih =>
    obtain ⟨x, t, rfl⟩ := h v List.mem_cons_self
    obtain ⟨xs, hx⟩ := ih fun u hu => h u (List.mem_cons_of_mem _ hu)
    exact ⟨x :: xs, .cons x t hx⟩
def txv (v : Value) : Str := match v with
  | .str x _ => x
  | _ => Str.empty
theorem strs_eq {l : List Value} {xs : List Str} (h : StrsAre l xs) : xs = l.map txv := by
  induction h with
  | nil => rfl
  | cons x t _ ih =>
    rw [List.map_cons, ← ih]
    rfl
/-- sorted(a set of texts) -/
theorem sortedSet {Q : Value → Shared → Prop} (R : SetS w s.heap a S n) (hh : A.handled = none) (h64 : n < 64)
    (hQ : ∀ (s' : Shared) (p : Addr) (out : Array Value) (c : Nat) (ys : List Str), (∀ b o, s.heap.get? b = some o → s'.heap.get? b = some o) → s'.gens = s.gens → s'.os = s.os → s.heap.objs.size ≤ p →
      s'.heap.get? p = some (seqObj "list" out c) → StrsAre out.toList ys → sortedS ys = true → ys.Nodup → (∀ k, k ∈ ys ↔ S k = true) → ys.length = n → Q (.ref p) s') :
    wpAny (model P w) A (call (.builtin "sorted") [.ref a]) Q E s := by
  obtain ⟨o, es, ep, t, ho, hex, hd, T⟩ := R
  refine Calls.call_function_entry kind_sorted plain_sorted entry_sorted (args_sorted1 _) ?_
  unfold Builtin.«sorted»
  refine wpAny_bind (m := checkCount "sorted" 1 1 _) (wpAny_pure ?_)
  refine wpAny_bind (collect_set (A := A.in1) hh ⟨o, ho, hex.1, hd⟩ T.fit T.few T.ris T.led fun s1 vs k1 z1 g1 o1 pm => ?_)
  have len : vs.length = n := by
    rw [pm.length_eq, List.length_map, Array.length_toList]
    exact T.num
  obtain ⟨xs, hx⟩ := strsOf (l := vs) fun v hv => by
    obtain ⟨e, he, q⟩ := List.mem_map.mp (pm.mem_iff.mp hv)
    obtain ⟨x, t, h1, _⟩ := T.good e he
    exact ⟨x, t, by rw [← q]; exact h1⟩
  have px : xs.Perm (es.toList.map tx) := by
    have q := pm.map txv
    rw [List.map_map] at q
    rw [strs_eq hx]
    exact q
  refine wpAny_bind (wpAny_newList ?_ (by rw [len, sizeLine_eq]; omega))
  have oL : (s1.heap.push (seqObj "list" vs.toArray 0)).get? s1.heap.objs.size = some (seqObj "list" vs.toArray 0) := Heap.get?_push_size _ rfl
  refine wpAny_bind (wpAny_holding (wpAny_call_entry slot_list_sort ⟨_, oL, rfl⟩ entry_list_sort (list_sort_treeK strKind_oneLt oL hx.keysOf
    (fun v₁ v₂ rest e => keyKind_strs (by rw [← e]; exact hx)) (by rw [len]; exact h64) fun st' hp hs => ⟨_, rfl, ?_⟩) (args_list_sort _)))
  obtain ⟨ys, a1, a2, a3⟩ := sorted_out_str hx hp hs
  obtain ⟨c, hc⟩ := sortedHeap_at (vs := vs) (out := (arrOf st').map (·.2)) oL
  have py : ys.Perm (es.toList.map tx) := a2.trans px
  refine wpAny_pure ⟨_, rfl, hQ _ s1.heap.objs.size _ c ys (fun b u e => ?_) g1 o1 z1 hc a1 a3 (py.nodup_iff.mpr T.nd) (fun k => by rw [py.mem_iff, ← T.mem k]) ?_⟩
  · have q := k1 b u e
    have lt := Heap.lt_size q
    show (sortedHeap (s1.heap.push (seqObj "list" vs.toArray 0)) s1.heap.objs.size vs _).get? b = some u
    rw [sortedHeap_old (Nat.ne_of_lt lt) (by rw [size_push']; exact Nat.lt_succ_of_lt lt)]
    exact Heap.get?_push_of_some _ q
  · rw [py.length_eq, List.length_map, Array.length_toList]
    exact T.num
end
section
variable {X : Cx}
def rSortT (w : World) : List V → Hp → VK → Prop := fun vs H Q => ∃ (a : Addr) (S : Str → Bool) (n : Nat), vs = [V.ref a] ∧ H a = some (SetH w a S n) ∧ n < 64 ∧
  ∀ (ys : List Str) (p : Addr), sortedS ys = true → ys.Nodup → (∀ k : Str, k ∈ ys ↔ S k = true) → ys.length = n → H p = none → Q (.ref p) (upd H p (.lst (ys.map V.str)))
theorem cr_sortT (hc : X.calm = true) : CallR X (.builtin "sorted") (rSortT X.w) := by
  intro pins s σ H vs us Q I r h
  obtain ⟨a, S, n, rfl, ha, h64, q⟩ := h
  rw [Vals.ref1 r]
  refine sortedSet (setH_get I ha) (I.ok.hd hc) h64 fun s' p out c ys k g o hp hg hi hs hd hm hl => ?_
  have len : (ys.map V.str).length ≤ sizeLine := by
    rw [List.length_map, hl, sizeLine_eq]
    omega
  have hn : H p = none := I.hok.fresh hp
  have e : s' = { s with heap := s'.heap, gens := s'.gens, drawn := s'.drawn, toks := s'.toks } := by
    cases s'
    cases s
    cases o
    rfl
  have J : Inv X pins σ (upd H p (.lst (ys.map V.str))) { s with heap := s'.heap, gens := s'.gens, drawn := s'.drawn, toks := s'.toks } :=
    I.call (ch := []) (Un.laid k hp hn) (I.hok.laid k hp ⟨len, out.toList, c, vals_of_strs hi, hg⟩) (by rw [g]; exact I.bare) (fun _ z => nomatch z)
  rw [e]
  exact ⟨.ref p, _, J, rfl, q ys p hs hd hm hl hn⟩
end
end Ks

namespace Ks
open PySem PySem.Spec PyProof.Rows L2
def inL (l : List Str) : Str → Bool := fun k => decide (k ∈ l)
section
variable {P : Program} {w : World} {A : Around} {E : Value → Shared → Prop} {s : Shared}
theorem SetS.keep {h h' : Heap} {a : Addr} {S : Str → Bool} {n : Nat} (R : SetS w h a S n) (k : ∀ o, h.get? a = some o → h'.get? a = some o) : SetS w h' a S n := by
  obtain ⟨o, es, ep, t, ho, r⟩ := R
  exact ⟨o, es, ep, t, k o ho, r⟩
theorem SetS.as {h : Heap} {a : Addr} {S S' : Str → Bool} {n : Nat} (R : SetS w h a S n) (e : ∀ k, S' k = S k) : SetS w h a S' n := by
  have q : S' = S := funext e
  rw [q]
  exact R
theorem strGet {l : List Value} {xs : List Str} (h : StrsAre l xs) : ∀ (i : Nat) (v : Value), l[i]? = some v → ∃ x t, xs[i]? = some x ∧ v = .str x t := by
  induction h with
  | nil =>
    intro i v z
    simp at z
  | cons x t _ ih =>
    intro i v z
    cases i with
    | zero => exact ⟨x, t, rfl, (Option.some.inj z).symm⟩
    | succ i => exact ih i v z
/-- the loop of set.update over texts -/
theorem updLoop {I : Addr} {fp wr : List Addr} {G : Array GenState → Array GenState → Prop} {n : Nat} {Pv : Nat → Value → Prop} {St : Nat → Shared → Prop} {R : Result → Shared → Prop}
    (W : WalksS P w A.in1 I fp wr G n Pv St) (D : Addr) (hDf : D ∉ fp) (xs : List Str) (hn : n = xs.length) (few : n + 1 < scanBound) (hval : ∀ i v, Pv i v → ∃ x t, xs[i]? = some x ∧ v = .str x t) :
    ∀ (k i : Nat) (s : Shared), n - i = k → i ≤ n → St i s → (∃ m, m ≤ i ∧ SetS w s.heap D (inL (xs.take i)) m) →
      (∀ s' m, m ≤ n → Moved (D :: wr) G s s' → SetS w s'.heap D (inL xs) m → R (.ok (.ret .none)) s') → codeAny (model P w) A (.builtin "set.update.loop" ⟨[.ref D, .ref I], []⟩) R s := by
  have hDw : D ∉ wr := fun z => hDf (W.sub _ z)
  have sub : ∀ b ∈ wr, b ∈ D :: wr := fun b hb => List.mem_cons_of_mem _ hb
  intro k
  induction k with
  | zero =>
    intro i s hk hi st ⟨m, hm, hS⟩ hR
    have e : i = n := by omega
    refine codeAny_builtin F.entry_set_update_loop ?_
    rw [Around.under_plainId F.plain_set_update_loop _]
    show wpAny _ A.in1 (pyNext (.ref I) >>= _) _ _ s
    rw [e] at st
    refine wpAny_bind (W.done s _ _ st fun s' mv => ?_)
    show wpAny _ A.in1 (ret Value.none) _ _ s'
    refine wpAny_pure (hR s' m (by omega) (mv.mono sub) ?_)
    rw [e, hn, List.take_length] at hS
    exact hS.keep fun o z => mv.heap D o hDw z
  | succ k ih =>
    intro i s hk hi st ⟨m, hm, hS⟩ hR
    have lt : i < n := by omega
    refine codeAny_builtin F.entry_set_update_loop ?_
    rw [Around.under_plainId F.plain_set_update_loop _]
    show wpAny _ A.in1 (pyNext (.ref I) >>= _) _ _ s
    refine wpAny_bind (W.item i s _ _ lt st fun v s' hP st' mv => ?_)
    obtain ⟨x, t, hx, rfl⟩ := hval i v hP
    have hS' : SetS w s'.heap D (inL (xs.take i)) m := hS.keep fun o z => mv.heap D o hDw z
    show wpAny _ A.in1 (holding [Value.str x t] (setAdd D (.str x t)) >>= _) _ _ s'
    refine wpAny_bind (wpAny_holding ?_)
    unfold setAdd
    refine wpAny_holding ?_
    refine wpAny_bind ((PySem.strKind P w).pyHash (kis x t) ?_)
    refine addHashed (s := { s' with toks := s'.toks + 1 }) hS' (by omega) (fun h' sb S2 => ?_)
    have grow : xs.take (i + 1) = xs.take i ++ [x] := by rw [List.take_add_one, hx]; rfl
    have S3 : ∃ q, q ≤ i + 1 ∧ SetS w h' D (inL (xs.take (i + 1))) q := by
      refine ⟨_, ?_, S2.as fun j => ?_⟩
      · split <;> omega
      · unfold inL
        rw [grow, ← Bool.decide_or]
        exact decide_eq_decide.mpr (by rw [List.mem_append, List.mem_singleton])
    refine wpAny_pure ⟨plainId_quiet F.plain_set_update_loop _, ih (i + 1) _ (by omega) lt (W.frame _ s' _ _ st' (Nat.le_succ _) fun b hb o z => ?_) S3 (fun s'' q hq mv' S4 => ?_)⟩
    · rw [sb.2 b (fun y : b = D => hDf (by rw [← y]; exact hb))]
      exact z
    · refine hR s'' q hq (Moved.trans W.gtrans ((mv.mono sub).then_heap (Nat.le_succ _) fun b o hb z => ?_) mv') S4
      rw [sb.2 b (fun y : b = D => hb (by rw [y]; exact List.mem_cons_self))]
      exact z
abbrev set0 (w : World) : Obj := { cls := .type "set", dict := none, data := .set #[] 0 (.fresh 0 0 (!w.params.followText "set-order")) }
/-- set(a list of texts) -/
theorem callSet {l : Addr} {items : Array Value} (xs : List Str) {Q : Value → Shared → Prop} (hh : A.handled = none) (hl : s.heap.IsList l items) (hit : StrsAre items.toList xs) (few : xs.length + 1 < scanBound)
    (h : ∀ (h' : Heap) (tk m : Nat), m ≤ xs.length → SetS w h' s.heap.objs.size (inL xs) m → (∀ b o, s.heap.get? b = some o → h'.get? b = some o) → Q (.ref s.heap.objs.size) { s with heap := h', toks := tk }) :
    wpAny (model P w) A (call (.type "set") [.ref l]) Q E s := by
  have hsz : items.size = xs.length := by
    rw [← Array.length_toList]
    exact StrsAre.len_eq hit
  obtain ⟨c, tl, hmro⟩ := F.called_set.mro
  have hmade := F.called_set.made
  have hsub := F.called_set.sub
  refine wpAny_call (codeAny_of_tree ?_)
  show wpAny _ _ (callAny (.type "set") _) _ _ _
  refine wpAny_pure ⟨Code.quiet_builtin _ (by decide +kernel), codeAny_builtin F.entry_type_call ?_⟩
  rw [Around.under_plain (weight_type_call_type "set" [.ref l] []) rfl]
  have h1 := F.called_set.notType
  have h2 := F.called_set.canCreate
  have h3 := F.typeCall_set_1 (.ref l)
  repeat (any_goals (first | assumption | wp_step))
  refine codeAny_mono (code_set_led1 (.ref l) (E := E) (Q₁ := fun obj s₁ => obj = .ref s.heap.objs.size ∧ s₁ = { s with heap := s.heap.push (set0 w) }) ⟨rfl, rfl⟩) (fun r s₁ hr => ?_)
  cases r with
  | error e => exact hr
  | ok fl =>
    cases fl with
    | ret obj =>
      obtain ⟨rfl, rfl⟩ := hr
      have hS : (s.heap.push (set0 w)).get? s.heap.objs.size = some (set0 w) := Heap.get?_push_size _ rfl
      have hT : Shared.TypeIs { s with heap := s.heap.push (set0 w) } (.ref s.heap.objs.size) "set" := ⟨_, hS, rfl⟩
      have hli := F.called_set.init.lookup
      have hbi := F.called_set.init.bind (.ref s.heap.objs.size)
      repeat (any_goals (first | assumption | wp_step))
      refine codeAny_mono (codeAny_call_builtin (R := wants (fun r s₂ => r = .none ∧ ∃ h' tk m, m ≤ xs.length ∧ s₂ = { s with heap := h', toks := tk } ∧ SetS w h' s.heap.objs.size (inL xs) m ∧
          (∀ b o, s.heap.get? b = some o → h'.get? b = some o)) E) F.called_set.init.plain F.entry_set_init (check_set_init_1 hT ?_)) (fun r₂ s₂ hr₂ => ?_)
      · obtain ⟨ol, hol, hcl, nl, hdl⟩ := hl
        obtain ⟨ocls, odict, odata, oslots⟩ := ol
        simp only at hcl hdl
        subst hcl
        subst hdl
        have hol' : (s.heap.push (set0 w)).get? l = some { cls := .type "list", dict := odict, data := .seq items nl, slots := oslots } := Heap.get?_push_of_some _ hol
        have hsls := F.sub_list_set
        have hslf := F.sub_list_frozenset
        have hne : (Value.type "list" == Value.type "dict") = false := by decide
        have hl1 : (s.heap.push (set0 w)).IsList l items := ⟨_, hol', rfl, nl, rfl⟩
        unfold Builtin.«set.__init__» noKeywords Builtin.Frozenset.updateFrom
        generalize hPI : pyIter = PI
        wp_walk
        subst hPI
        refine wpAny_pyIter_list hl1 ?_
        refine wpAny_bind (wpAny_runValue ?_)
        have ll : l < s.heap.objs.size := Heap.lt_size hol
        have hh3 : A.in1.in1.in1.handled = none := by simp [hh]
        have zz : (s.heap.push (set0 w)).objs.size = s.heap.objs.size + 1 := Heap.size_push ..
        have nI : l ≠ (s.heap.push (set0 w)).objs.size := by
          rw [zz]
          exact Nat.ne_of_lt (Nat.lt_succ_of_lt ll)
        have out : s.heap.objs.size ∉ [(s.heap.push (set0 w)).objs.size, l] := by
          rw [zz]
          intro z
          rcases List.mem_cons.mp z with z | z
          · exact Nat.lt_irrefl _ (Nat.lt_of_lt_of_eq (Nat.lt_succ_self _) z.symm)
          · exact Nat.lt_irrefl _ (Nat.lt_of_lt_of_eq ll (List.mem_singleton.mp z))
        have hval : ∀ (i : Nat) (v : Value), items[i]? = some v → ∃ x t, xs[i]? = some x ∧ v = .str x t := fun i v hv => by
          exact strGet hit i v (by rw [Array.getElem?_toList]; exact hv)
        refine updLoop ((Walks.list hh3 _ l nI items).toS) s.heap.objs.size out xs hsz (by omega) hval (items.size - 0) 0 _ (by omega) (Nat.zero_le _)
          ⟨⟨_, Heap.get?_push_size _ rfl, rfl, rfl⟩, (hl1.push _)⟩ ⟨0, Nat.le_refl _, ?_⟩ (fun s' m hm mv S4 => ?_)
        · refine ((fresh w).keep fun o z => Heap.get?_push_of_some _ z).as fun k => ?_
          unfold inL
          exact decide_eq_false (by rw [List.take_zero]; exact List.not_mem_nil)
        · obtain ⟨h', g2, d', tk', os'⟩ := s'
          have eg : g2 = s.gens := mv.gens
          have ed : d' = s.drawn := mv.drawn
          have eo : os' = s.os := mv.os
          subst eg
          subst ed
          subst eo
          show wpAny _ _ _ _ _ _
          refine wpAny_pure ?_
          show wpAny _ _ (ret Value.none) _ _ _
          refine wpAny_pure ⟨rfl, h', tk', m, by omega, rfl, S4, fun b o z => mv.heap b o (fun y => ?_) (Heap.get?_push_of_some _ (Heap.get?_push_of_some _ z))⟩
          have lb := Heap.lt_size z
          rcases List.mem_cons.mp y with y | y
          · rw [y] at lb
            exact Nat.lt_irrefl _ lb
          · rw [List.mem_singleton.mp y, zz] at lb
            exact Nat.lt_irrefl _ (Nat.lt_of_succ_lt lb)
      · cases r₂ with
        | error e => exact hr₂
        | ok fl₂ =>
          cases fl₂ with
          | ret r =>
            obtain ⟨rfl, h', tk, m, hm, rfl, S4, kp⟩ := hr₂
            repeat (any_goals (first | assumption | wp_step))
            exact h _ _ _ hm S4 kp
          | _ => exact hr₂.elim
    | _ => exact hr.elim
end
section
variable {X : Cx}
def rSetT (K : PySem.W.Frag) (w : World) : List V → Hp → VK → Prop := fun vs H Q => ∃ (l : Addr) (xs : List Str), vs = [V.ref l] ∧ SqL K H l (xs.map V.str) ∧ xs.length + 1 < scanBound ∧
  ∀ (p : Addr) (m : Nat), m ≤ xs.length → H p = none → Q (.ref p) (upd H p (SetH w p (inL xs) m))
theorem cr_setT (hc : X.calm = true) : CallR X (.type "set") (rSetT X.K X.w) := by
  intro pins s σ H vs us Q I r h
  obtain ⟨l, xs, rfl, hq, few, q⟩ := h
  rw [Vals.ref1 r]
  obtain ⟨its, rv, pl, hz⟩ := I.list hq
  refine callSet xs (I.ok.hd hc) pl.isList (by rw [List.toList_toArray]; exact rv.strs) few fun h' tk m hm S kp => ?_
  have hn : H s.heap.objs.size = none := I.hok.fresh (Nat.le_refl _)
  exact ⟨.ref _, _, I.laid (t' := tk) kp (Nat.le_refl _) (setH_new S), rfl, q _ m hm hn⟩
end
end Ks

namespace Ks
open PySem PySem.Spec PyProof.Rows L2
section
variable {X : Cx}
/-- {elt for target in iter if ..}, elt a text: D the new set -/
def tScT (w : World) (wi : TI) (g : TG) (tt : TT) (te : TE) (vs : List Nat) : TE := fun σ H Q => wi σ H fun J G => ∀ D, G D = none →
  ∃ W : Nat → Nat → Hp → Prop, (∃ m, W 0 m (upd G D (SetH w D (fun _ => false) 0))) ∧ ∀ i m H, W i m H →
    (J.stop i H ∧ Q (.ref D) H) ∨ (J.go i H ∧ ∃ N : Hp → Prop, (∀ H', N H' → ∃ m', m' < m ∧ W (i + 1) m' H') ∧ ∀ x H', J.yld i H x H' →
      g x (wipe σ vs) H' fun τ H2 => wipe τ vs = wipe σ vs ∧ tt τ H2 fun b H3 => if b = true then
        te τ H3 fun y H4 => ∃ (c : Str) (S : Str → Bool) (n : Nat), y = .str c ∧ H4 D = some (SetH w D S n) ∧ n + 1 < scanBound ∧ N (upd H4 D (SetH w D (fun j => S j || decide (j = c)) (if S c = true then n else n + 1)))
      else N H3)
theorem pe_scT {elt tg iter : Expr} {ifs : List Expr} {scope : Scope} {own : List (PySem.Str × Nat)} {pos : Pos} {wi : TI} {g : TG} {tt : TT} {te : TE} (hc : X.calm = true) (hN : X.N.Nodup) (hi : PI X tg iter wi) (ok : BlkOk X.N X.env.scope scope own)
    (hg : ∀ (s : Shared) (H : Hp) (C : Addr) (cl : List (PySem.Str × Addr)) (fp : List Addr), PG (X.blk s H scope (compEnvC scope cl C X.env) fp) tg g)
    (ht : ∀ (s : Shared) (H : Hp) (C : Addr) (cl : List (PySem.Str × Addr)) (fp : List Addr), PTs (X.blk s H scope (compEnvC scope cl C X.env) fp) ifs tt)
    (he : ∀ (s : Shared) (H : Hp) (C : Addr) (cl : List (PySem.Str × Addr)) (fp : List Addr), PE (X.blk s H scope (compEnvC scope cl C X.env) fp) elt te)
    (hs : ∀ x, foldedSetIterable iter X.env x = pure x := by intro _; rfl) :
    PE X (.SetComp elt [⟨tg, iter, ifs, 0⟩] scope pos) (tScT X.w wi g tt te (own.map (·.2))) := by
  refine ⟨fun pins s σ H Q I h => ?_⟩
  rw [PpSet.eval_SetComp]
  have hfree : ∀ y ∈ scope.names, y.2 = .free → ∃ c, X.env.cells.lookup y.1 = some c := fun y hy e => (ok.free y hy e).elim (fun k => I.ok.has _ (.inl k)) fun k => I.ok.has _ (.inr k)
  refine wpAny_comprehension_free (use := none) rfl hs (closure_ok hfree) ok.kind (fun y hy e => by rw [ok.uniq y hy, e])
    (thn (hi.run pins s σ H _ I h) fun xv s1 hx => thn hx fun itv s2 h2 => ?_)
  obtain ⟨it, fp, tn, J, G, e, I2, T, st2, f2, q⟩ := h2
  subst e
  refine PpSet.newSet_ok (newEnv_comp ?_)
  generalize hD : s2.heap.objs.size = D
  have free : G D = none := I2.hok.fresh (Nat.le_of_eq hD)
  obtain ⟨W, ⟨m0, w0⟩, turn⟩ := q D free
  generalize e3 : ({ s2 with heap := s2.heap.push { cls := .type "set", dict := none, data := .set #[] 0 (.fresh 0 0 (!X.w.params.followText "set-order")) } } : Shared) = s3
  have kp : ∀ b o, s2.heap.get? b = some o → s3.heap.get? b = some o := fun b o z => by
    rw [← e3]
    exact Heap.get?_push_of_some _ z
  have I3 : Inv X pins σ (upd G D (SetH X.w D (fun _ => false) 0)) s3 := by
    rw [← e3]
    refine I2.laid (t' := s2.toks) (fun b o z => Heap.get?_push_of_some _ z) (Nat.le_of_eq hD) ?_
    rw [← hD]
    exact setH_new (fresh X.w)
  have f3 : ∀ b ∈ fp, FpOk X pins (upd G D (SetH X.w D (fun _ => false) 0)) b ∧ b < s3.heap.objs.size := fun b hb => by
    obtain ⟨o, z, _⟩ := T.obj _ _ st2 b hb
    have lt := Heap.lt_size z
    refine ⟨⟨?_, (f2 b hb).2⟩, Heap.lt_size (kp b o z)⟩
    rw [upd_ne (by rw [← hD]; exact Nat.ne_of_lt lt)]
    exact (f2 b hb).1
  have st3 : tn 0 s3.heap := T.keep _ _ _ st2 fun b _ o z => kp b o z
  have I4 := block_start I3 ok hN f3
  generalize eH : upd G D (SetH X.w D (fun _ => false) 0) = H3 at I3 I4 w0 f3
  have pg := hg s3 H3 s3.heap.objs.size (cellsFrom (s3.heap.objs.size + 1) scope.names (cloFrom X.env.cells scope.names [])) fp
  have pt := ht s3 H3 s3.heap.objs.size (cellsFrom (s3.heap.objs.size + 1) scope.names (cloFrom X.env.cells scope.names [])) fp
  have pe := he s3 H3 s3.heap.objs.size (cellsFrom (s3.heap.objs.size + 1) scope.names (cloFrom X.env.cells scope.names [])) fp
  have nfp : ∀ b ∈ fp, H3 b = none := fun b hb => (f3 b hb).1.1
  show codeAny _ _ (.compStart (.SetComp elt [⟨tg, iter, ifs, 0⟩] scope pos) 0 (.ref it) (.ref D)
      (compEnvC scope (cellsFrom (s3.heap.objs.size + 1) scope.names (cloFrom X.env.cells scope.names [])) s3.heap.objs.size X.env))
    (compPost (model X.prog X.w) X.A X.xe none (EP X pins σ Q) (.ref D) s3.heap.objs.size)
    { s3 with heap := pushCells (s3.heap.push { cls := .type "dict", data := .dict #[] }) scope.names }
  generalize ece : compEnvC scope (cellsFrom (s3.heap.objs.size + 1) scope.names (cloFrom X.env.cells scope.names [])) s3.heap.objs.size X.env = ce at I4 pg pt pe ⊢
  have cL : ce.locals = s3.heap.objs.size := by
    subst ece
    rfl
  generalize e4 : ({ s3 with heap := pushCells (s3.heap.push { cls := .type "dict", data := .dict #[] }) scope.names } : Shared) = s4 at I4 ⊢
  have st4 : tn 0 s4.heap := T.keep _ _ _ st3 fun b _ o z => by
    rw [← e4]
    exact pushCells_keeps _ _ _ _ (Heap.get?_push_of_some _ z)
  have sta : ∀ {τ : L2.St} {F : Hp} {s' : Shared}, Inv (X.blk s3 H3 scope ce fp) [] τ F s' → (∀ b ∈ fp, F b = none) → ∀ b ∈ fp, FpOk (X.blk s3 H3 scope ce fp) [] F b := fun {τ F s'} K hn b hb =>
    ⟨hn b hb, (K.ok.exf b hb).1, K.ok.exfs b hb, .inl hb, fun x c z => (K.ok.exf b hb).2 x c z, fun p hp => absurd (show p ∈ ([] : List (Addr × Obj)) ++ [] from hp) (by simp)⟩
  have done : ∀ (s' : Shared) (m : Str → Option Value) (F : Hp), Inv X pins σ F s' → Q (.ref D) F → s'.heap.Ns s3.heap.objs.size m → FpOk X pins F s3.heap.objs.size →
      compPost (model X.prog X.w) X.A X.xe none (EP X pins σ Q) (.ref D) s3.heap.objs.size (.ok .next) s' := fun s' m F K k hn f => ⟨m, hn, fun h'' sb => by
    obtain ⟨f0, f1, f2, f3, f4, f5⟩ := f
    exact ⟨.ref D, F, K.turned (t' := s'.toks) (fun b o hb z => (sb.2 b hb).trans z) f0 f1 f3 f4 f5, rfl, k⟩⟩
  have loop : codeAny (model X.prog X.w) X.A (.compLoop (.SetComp elt [⟨tg, iter, ifs, 0⟩] scope pos) 0 (.ref it) (.ref D) ce) (compPost (model X.prog X.w) X.A X.xe none (EP X pins σ Q) (.ref D) s3.heap.objs.size) s4 := by
    refine PpSet.compLoopS_any (fun n s' => ∃ i F, Inv (X.blk s3 H3 scope ce fp) [] (wipe σ (own.map (·.2))) F s' ∧ tn i s'.heap ∧ (∀ b ∈ fp, F b = none) ∧ W i n F) ?_ m0 ⟨0, H3, I4, st4, nfp, w0⟩
    rintro n s5 ⟨i, H5, I5, st5, n5, w5⟩
    rcases turn i n H5 w5 with ⟨stop, qq⟩ | ⟨go, N, hNx, step⟩
    · have td := T.done (X.blk s3 H3 scope ce fp) rfl rfl rfl hc i [] s5 _ H5 (fun _ _ => False) I5 (sta I5 n5) st5 stop
      refine thnF td fun r s6 ⟨hr, I6⟩ => ?_
      subst hr
      have I7 : Inv X pins σ H5 s6 := I3.call' (ch := fp) I6.os I6.base I6.hok I6.bare fun b hb =>
        let z := (f3 b hb).1
        ⟨z.2.2.2.1, z.2.1, z.2.2.2.2.1, z.2.2.2.2.2⟩
      have nC : H5 s3.heap.objs.size = none := by
        rw [← cL]
        exact I6.free
      obtain ⟨m, hn, _⟩ := I6.loc
      have hn : s6.heap.Ns ce.locals m := hn
      rw [cL] at hn
      exact done s6 m H5 I7 qq hn (I3.fpOk (Nat.le_refl _) nC)
    · have ti := T.item (X.blk s3 H3 scope ce fp) rfl rfl rfl hc i [] s5 _ H5 (fun _ _ => False) I5 (sta I5 n5) st5 go
      refine thnF ti fun r s6 ⟨u, hr, h6⟩ => ?_
      subst hr
      refine thnF h6 fun _ s7 ⟨x, H7, I7, r7, y7, st7, n7⟩ => ?_
      have J7 := I7.pinned (sta I7 n7) (T.obj _ _ st7)
      refine thnF (pg.run _ s7 _ H7 x u _ J7 r7 (step x H7 y7)) fun _ s8 ⟨τ, H8, I8, hw, q8⟩ => ?_
      refine thnF (pt.run _ s8 τ H8 _ I8 q8) fun b s9 ⟨H9, I9, q9⟩ => ?_
      have fin : ∀ {s' : Shared} {F : Hp}, Inv (X.blk s3 H3 scope ce fp) ([] ++ pinsAt fp s7.heap) τ F s' → N F →
          ∃ m, m < n ∧ ∃ i F, Inv (X.blk s3 H3 scope ce fp) [] (wipe σ (own.map (·.2))) F s' ∧ tn i s'.heap ∧ (∀ b ∈ fp, F b = none) ∧ W i m F := fun {s' F} K nx => by
        obtain ⟨m', hm, w'⟩ := hNx F nx
        have pin : ∀ b ∈ fp, ∀ o, s7.heap.get? b = some o → s'.heap.get? b = some o ∧ F b = none := fun b hb o z =>
          let y := K.pin (b, o) (List.mem_append_right _ (List.mem_append_right _ (mem_pinsAt hb z)))
          ⟨y.1, y.2.1⟩
        have hl : (wipe σ (own.map (·.2))).length = τ.length := by
          rw [← hw, wipe_length]
        refine ⟨m', hm, i + 1, F, (K.unpinned (pins := [])).weak hl (fun j v z => ?_), T.keep _ _ _ st7 fun b hb o z => (pin b hb o z).1, fun b hb => ?_, w'⟩
        · rw [← hw] at z
          exact (wipe_some z).1
        · obtain ⟨o, z, _⟩ := T.obj _ _ st7 b hb
          exact (pin b hb o z).2
      cases b with
      | false =>
        simp only [Bool.false_eq_true, if_false] at q9 ⊢
        exact fin I9 q9
      | true =>
        simp only [if_true] at q9 ⊢
        refine thnF (pe.run _ s9 τ H9 _ I9 q9) fun z s10 ⟨yv, H10, I10, r10, cb, S0, n0, ey, hD10, hz10, nx⟩ => ?_
        subst ey
        obtain ⟨tk, rfl⟩ := r10
        exact addIn (X := X.blk s3 H3 scope ce fp) I10 hD10 hz10 fun s11 I11 => fin I11 nx
  exact PpSet.codeAny_compStart_set loop (T.self X.A 0 _ _ _ st4 loop)
end
end Ks

namespace Kq
open PySem PySem.Spec PyProof.Rows L2
namespace Kd
theorem size_fn (a b : Kd) : (fn a b).size = a.size + b.size + 1 := by
  show (a.nodes ++ b.nodes).length + 1 = _
  rw [List.length_append]
  rfl
theorem size_pos (t : Kd) : 1 ≤ t.size := by
  unfold size
  rw [nodes_eq]
  exact Nat.succ_le_succ (Nat.zero_le _)
theorem args_le : ∀ t : Kd, t.args.length ≤ t.size
  | fn a b => by
    have := args_le b
    rw [size_fn]
    show b.args.length + 1 ≤ _
    omega
  | opn _ => Nat.zero_le _
  | num => Nat.zero_le _
  | tru => Nat.zero_le _
  | pair _ _ => Nat.zero_le _
  | eith _ _ => Nat.zero_le _
  | lst _ => Nat.zero_le _
def nm? : Kd → Option Str
  | opn x => some x
  | _ => none
theorem opens_nodes : ∀ t : Kd, t.nodes.filterMap nm? = t.opens
  | opn _ => rfl
  | num => rfl
  | tru => rfl
  | pair a b => by
    show ((a.nodes ++ b.nodes).filterMap nm?) = a.opens ++ b.opens
    rw [List.filterMap_append, opens_nodes a, opens_nodes b]
  | eith a b => by
    show ((a.nodes ++ b.nodes).filterMap nm?) = a.opens ++ b.opens
    rw [List.filterMap_append, opens_nodes a, opens_nodes b]
  | lst a => by
    show (a.nodes.filterMap nm?) = a.opens
    exact opens_nodes a
  | fn a b => by
    show ((a.nodes ++ b.nodes).filterMap nm?) = a.opens ++ b.opens
    rw [List.filterMap_append, opens_nodes a, opens_nodes b]
end Kd
/-- a set comprehension over a list that stays -/
theorem sc_list {w : World} {K : PySem.W.Frag} {a : Addr} {xs : List V} {g : TG} {tt : TT} {te : TE} {vs : List Nat} {σ : L2.St} {G : Hp} {D : Addr} {Qd : Hp → Prop} (Pv : Nat → Hp → Prop) (h0 : Pv 0 (upd G D (Ks.SetH w D (fun _ => false) 0)))
    (hl : ∀ i H, i ≤ xs.length → Pv i H → SqL K H a xs)
    (hs : ∀ i x H, xs[i]? = some x → Pv i H → g x (wipe σ vs) H fun τ H2 => wipe τ vs = wipe σ vs ∧ tt τ H2 fun b H3 => if b = true then
        te τ H3 fun y H4 => ∃ (c : Str) (S : Str → Bool) (n : Nat), y = .str c ∧ H4 D = some (Ks.SetH w D S n) ∧ n + 1 < scanBound ∧ Pv (i + 1) (upd H4 D (Ks.SetH w D (fun j => S j || decide (j = c)) (if S c = true then n else n + 1)))
      else Pv (i + 1) H3) (hd : ∀ H, Pv xs.length H → Qd H) :
    ∃ W : Nat → Nat → Hp → Prop, (∃ m, W 0 m (upd G D (Ks.SetH w D (fun _ => false) 0))) ∧ ∀ i m H, W i m H →
      ((Itl K a).stop i H ∧ Qd H) ∨ ((Itl K a).go i H ∧ ∃ N : Hp → Prop, (∀ H', N H' → ∃ m', m' < m ∧ W (i + 1) m' H') ∧ ∀ x H', (Itl K a).yld i H x H' →
        g x (wipe σ vs) H' fun τ H2 => wipe τ vs = wipe σ vs ∧ tt τ H2 fun b H3 => if b = true then
          te τ H3 fun y H4 => ∃ (c : Str) (S : Str → Bool) (n : Nat), y = .str c ∧ H4 D = some (Ks.SetH w D S n) ∧ n + 1 < scanBound ∧ N (upd H4 D (Ks.SetH w D (fun j => S j || decide (j = c)) (if S c = true then n else n + 1)))
        else N H3) := by
  refine ⟨fun i m F => m = xs.length - i ∧ i ≤ xs.length ∧ Pv i F, ⟨_, rfl, Nat.zero_le _, h0⟩, fun i m F z => ?_⟩
  obtain ⟨rfl, hi, p⟩ := z
  have q := hl i F hi p
  by_cases lt : i < xs.length
  · refine .inr ⟨⟨xs, xs[i], q, List.getElem?_eq_getElem lt⟩, Pv (i + 1), fun F' p' => ⟨xs.length - (i + 1), by omega, rfl, lt, p'⟩, fun x F' y => ?_⟩
    obtain ⟨e, y⟩ := y
    subst e
    exact hs i x _ (y xs q) p
  · have e : i = xs.length := by omega
    subst e
    exact .inl ⟨⟨xs, q, Nat.le_refl _⟩, hd F p⟩
theorem cnt_add : ∀ {ns : List Str} {S : Str → Bool} {c : Str}, ns.Nodup → c ∈ ns → S c = false → (ns.filter fun j => S j || decide (j = c)).length = (ns.filter S).length + 1
  | [], _, _, _, h, _ => by cases h
  | a :: l, S, c, nd, hc, h => by
    obtain ⟨na, nl⟩ := List.nodup_cons.mp nd
    by_cases e : a = c
    · subst e
      have e1 : (l.filter fun j => S j || decide (j = a)) = l.filter S := List.filter_congr fun j hj => by
        have : j ≠ a := fun z => na (by rw [← z]; exact hj)
        simp [this]
      rw [List.filter_cons, List.filter_cons, if_pos (by simp), if_neg (by rw [h]; exact Bool.false_ne_true), e1, List.length_cons]
    · have hc' : c ∈ l := by
        rcases List.mem_cons.mp hc with z | z
        · exact absurd z.symm e
        · exact z
      have ih := cnt_add nl hc' h
      rw [List.filter_cons, List.filter_cons]
      have e2 : (S a || decide (a = c)) = S a := by simp [e]
      rw [e2]
      cases S a with
      | true => simpa using ih
      | false => simpa using ih
theorem cnt_none : ∀ ns : List Str, 0 = (ns.filter fun _ => false).length
  | [] => rfl
  | _ :: l => cnt_none l
theorem cnt_same {S : Str → Bool} {c : Str} (h : S c = true) : (fun j => S j || decide (j = c)) = S := by
  funext j
  by_cases e : j = c
  · rw [e, h]
    rfl
  · simp [e]
abbrev tOpens : Stmt := tp 33
section
variable {P : Program} {w : World} {K : PySem.W.Frag} {mg : Str → Option Value} {base : Heap}
/-! opens_in -/
theorem scOpens : FnScope ["kind", "part"] ["kind"] (defScope tOpens) := ⟨rfl, rfl, rfl, by decide +kernel, rfl, by decide +kernel, by decide +kernel⟩
def spOpens (K : PySem.W.Frag) : Sp := fun vs H Q _ => ∃ (v : V) (t : Kd), vs = [v] ∧ Rp K H t v ∧ t.size ≤ 900 ∧ (∃ ns : List Str, ns.Nodup ∧ ns.length ≤ 40 ∧ ∀ x ∈ t.opens, x ∈ ns) ∧ ∀ (p : Addr) (ys : List Str) (G : Hp), Same H G → G p = some (.tup (ys.map V.str)) → sortedS ys = true → ys.Nodup → (∀ k, k ∈ ys ↔ k ∈ t.opens) → Q (.ref p) G
theorem okOpens {f fP : Addr} {fd fdP : FuncData} {k : Nat} (F : Fun K "opens_in" "opens_in" tOpens f fd) (GP : FnOk P w K mg base CX0 (k + 2) fP fdP ["kind"] (spParts K)) (bP : Binds K fdP ["kind"] []) (gP : mg "parts_of" = some (.ref fP)) (kP : PySem.W.keepIn K (.ref fP) = true)
    (mt : mg "tuple" = none) (ms : mg "sorted" = none) : FnOk P w K mg base CX0 (k + 3) f fd ["kind"] (spOpens K) := by
  refine F.ok scOpens (fun vs H Q E h => ?_) (fun cdv A outer s H vs Q E hr h => ?_)
  · obtain ⟨v, t, rfl, _⟩ := h
    rfl
  obtain ⟨v, t, rfl, r, hz, ⟨ns, nsd, nsl, nso⟩, q⟩ := h
  refine ⟨_, pss_one (ps_ret (pe_callTy call_tuple_of (by rfl) mt PyProof.Rows.boot_tuple (pa_cons (pe_callB (Ks.cr_sortT rfl) (by rfl) ms PyProof.Rows.boot_sorted (pa_cons
    (Ks.pe_scT (own := [("part", 1)]) (g := gName 1) (by rfl) scOpens.nd (pi_list (pe_call GP hr (by rfl) gP kP bP .nil pass0 (pa_cons (pv 0) pa_nil))) (blkOk_by (own := [("part", 1)]) (N := ["kind", "part"]) (sc := defScope tOpens) (by decide +kernel))
      (fun _ _ _ _ _ => pg_name (i := 1) scOpens.nd rfl (.inl rfl)) (fun _ _ _ _ _ => pts_one (pt_cmpR op_eq (pe_ix (ixTK K rfl) (pv 1) pe_int (fun _ _ => rfl)) pe_str (nomark _)))
      (fun _ _ _ _ _ => pe_ix (ixTK K rfl) (pv 1) pe_int (fun _ _ => rfl))) pa_nil)) pa_nil))), ?_⟩
  refine ⟨_, rfl, v, t, rfl, r, by omega, fun p ts us G sG gp rt pm => ⟨p, rfl, ⟨_, SqL.of gp⟩, fun D nD => ?_⟩⟩
  have lt : ts.length ≤ 900 := by rw [pm.length_eq]; exact hz
  have l1 := rt.len
  refine sc_list (xs := us) (fun i F => Same G F ∧ ∃ S n, F D = some (Ks.SetH w D S n) ∧ n = (ns.filter S).length ∧ ∀ k, S k = true ↔ k ∈ (ts.take i).filterMap Kd.nm?) ⟨newS nD, fun _ => false, 0, upd_same, cnt_none ns, fun k => ?_⟩ (fun i F _ z => SqL.of (z.1 _ _ gp)) (fun i x F hx z => ?_) (fun F z => ?_)
  · rw [List.take_zero]
    exact ⟨fun z => (nomatch z), fun z => (nomatch z)⟩
  · obtain ⟨sF, S, n, gD, hn, hS⟩ := z
    obtain ⟨c, hc, rx⟩ := rt.get hx
    obtain ⟨a, ws, rfl, ha, hw⟩ := (rx.tk (Tk.of sF)).see
    have li : i < us.length := (List.getElem?_eq_some_iff.mp hx).1
    have tk : ts.take (i + 1) = ts.take i ++ [c] := by rw [List.take_add_one, hc]; rfl
    refine ⟨rfl, _, rfl, a, _, _, _, rfl, rfl, ha.t, atI_nat (j := 0) rfl, rfl, _, rfl, ?_⟩
    rw [Kd.isOp_word]
    refine ite2 (fun e => ?_) (fun e => ?_)
    · rcases hw with hw | ⟨y, rfl, rfl⟩
      · rw [hw.1] at e
        cases e
      · refine ⟨_, rfl, a, _, _, _, rfl, rfl, ha.t, atI_nat (j := 1) rfl, y, S, n, rfl, gD, ?_, smk sF nD, _, _, upd_same, ?_, fun k => ?_⟩
        · show n + 1 < scanBound
          have : scanBound = 4096 := rfl
          have := List.length_filter_le S ns
          omega
        · have hyn : y ∈ ns := by
            refine nso y ?_
            rw [← Kd.opens_nodes t]
            refine List.mem_filterMap.mpr ⟨.opn y, ?_, rfl⟩
            exact pm.mem_iff.mp (List.mem_of_getElem? hc)
          split
          · rename_i hSy
            rw [cnt_same hSy]
            exact hn
          · rename_i hSy
            rw [cnt_add nsd hyn (by simpa using hSy), hn]
        · rw [tk, List.filterMap_append, List.mem_append, Bool.or_eq_true, decide_eq_true_eq, hS k]
          show _ ↔ _ ∨ k ∈ [y]
          rw [List.mem_singleton]
    · refine ⟨sF, S, n, gD, hn, fun k => ?_⟩
      have none : c.nm? = none := by
        cases c with
        | opn x => exact absurd rfl e
        | _ => rfl
      rw [tk, List.filterMap_append, List.mem_append, hS k]
      simp [none]
  · obtain ⟨sF, S, n, gD, hn, hS⟩ := z
    rw [← l1, List.take_length] at hS
    have nl := List.length_filter_le S ns
    refine ⟨D, S, n, rfl, gD, by omega, fun ys l hs hd hm _ nl' => ?_⟩
    refine ⟨l, _, rfl, .inl ⟨SqL.of upd_same, fun m nm => ?_⟩⟩
    refine q m ys _ (sG.trans (sF.trans ((newS nl').trans (newS nm)))) upd_same hs hd (fun k => ?_)
    rw [hm k, hS k, ← Kd.opens_nodes t]
    exact (pm.filterMap Kd.nm?).mem_iff
end
end Kq

namespace Kq
open PySem PySem.Spec PyProof.Rows L2 Kf Kg Kv
/-! trees as data -/
def toD : Kd → PyData
  | .opn x => .tuple [.str "open", .str x]
  | .num => .tuple [.str "num"]
  | .tru => .tuple [.str "truth"]
  | .pair a b => .tuple [.str "pair", toD a, toD b]
  | .eith a b => .tuple [.str "either", toD a, toD b]
  | .lst a => .tuple [.str "list", toD a]
  | .fn a b => .tuple [.str "fun", toD a, toD b]
theorem dpT (K : PySem.W.Frag) {H : Hp} : ∀ {t : Kd} {v : V}, Rp K H t v → Dp K H v (toD t) := by
  intro t
  induction t with
  | opn x =>
    rintro v ⟨a, rfl, h⟩
    exact .tup (h.t) (.cons (.str _) (.cons (.str _) .nil))
  | num =>
    rintro v ⟨a, rfl, h⟩
    exact .tup (h.t) (.cons (.str _) .nil)
  | tru =>
    rintro v ⟨a, rfl, h⟩
    exact .tup (h.t) (.cons (.str _) .nil)
  | pair s t i j =>
    rintro v ⟨a, x, y, rfl, h, p, q⟩
    exact .tup (h.t) (.cons (.str _) (.cons (i p) (.cons (j q) .nil)))
  | eith s t i j =>
    rintro v ⟨a, x, y, rfl, h, p, q⟩
    exact .tup (h.t) (.cons (.str _) (.cons (i p) (.cons (j q) .nil)))
  | lst s i =>
    rintro v ⟨a, x, rfl, h, p⟩
    exact .tup (h.t) (.cons (.str _) (.cons (i p) .nil))
  | fn s t i j =>
    rintro v ⟨a, x, y, rfl, h, p, q⟩
    exact .tup (h.t) (.cons (.str _) (.cons (i p) (.cons (j q) .nil)))
theorem dpTs (K : PySem.W.Frag) {H : Hp} : ∀ {ts : List Kd} {vs : List V}, RpL K H ts vs → DpAll K H vs (ts.map toD)
  | [], [], _ => .nil
  | _ :: _, _ :: _, h => .cons (dpT K h.1) (dpTs K h.2)
  | [], _ :: _, h => h.elim
  | _ :: _, [], h => h.elim
theorem layT : ∀ t : Kd, (∀ x ∈ t.opens, Nm x) → (toD t).canLay0 = true ∧ (toD t).depth ≤ t.dp + 1 := by
  have w1 : PyData.strOk "open" = true := by decide +kernel
  have w2 : PyData.strOk "num" = true := by decide +kernel
  have w3 : PyData.strOk "truth" = true := by decide +kernel
  have w4 : PyData.strOk "pair" = true := by decide +kernel
  have w5 : PyData.strOk "either" = true := by decide +kernel
  have w6 : PyData.strOk "list" = true := by decide +kernel
  have w7 : PyData.strOk "fun" = true := by decide +kernel
  intro t
  induction t with
  | opn x =>
    intro h
    have := (h x List.mem_cons_self).ok
    simp [toD, PyData.canLay0, PyData.canLayAll0, PyData.depth, PyData.depthAll, Kd.dp, w1, this]
  | num =>
    intro h
    simp [toD, PyData.canLay0, PyData.canLayAll0, PyData.depth, PyData.depthAll, Kd.dp, w2]
  | tru =>
    intro h
    simp [toD, PyData.canLay0, PyData.canLayAll0, PyData.depth, PyData.depthAll, Kd.dp, w3]
  | pair s t i j =>
    intro h
    obtain ⟨a1, a2⟩ := i fun x hx => h x (List.mem_append_left _ hx)
    obtain ⟨b1, b2⟩ := j fun x hx => h x (List.mem_append_right _ hx)
    simp only [toD, PyData.canLay0, PyData.canLayAll0, PyData.depth, PyData.depthAll, Kd.dp, w4, a1, b1, Bool.and_self, true_and]
    omega
  | eith s t i j =>
    intro h
    obtain ⟨a1, a2⟩ := i fun x hx => h x (List.mem_append_left _ hx)
    obtain ⟨b1, b2⟩ := j fun x hx => h x (List.mem_append_right _ hx)
    simp only [toD, PyData.canLay0, PyData.canLayAll0, PyData.depth, PyData.depthAll, Kd.dp, w5, a1, b1, Bool.and_self, true_and]
    omega
  | lst s i =>
    intro h
    obtain ⟨a1, a2⟩ := i h
    simp only [toD, PyData.canLay0, PyData.canLayAll0, PyData.depth, PyData.depthAll, Kd.dp, w6, a1, Bool.and_self, true_and]
    omega
  | fn s t i j =>
    intro h
    obtain ⟨a1, a2⟩ := i fun x hx => h x (List.mem_append_left _ hx)
    obtain ⟨b1, b2⟩ := j fun x hx => h x (List.mem_append_right _ hx)
    simp only [toD, PyData.canLay0, PyData.canLayAll0, PyData.depth, PyData.depthAll, Kd.dp, w7, a1, b1, Bool.and_self, true_and]
    omega
theorem shT {t : Kd} (h : ∀ x ∈ t.opens, Nm x) (hd : t.dp ≤ 50) : SeqAt.shaped (toD t) = true ∧ (toD t).canLay0 = true := by
  obtain ⟨a, b⟩ := layT t h
  refine ⟨?_, a⟩
  unfold SeqAt.shaped
  rw [a, Bool.true_and]
  exact decide_eq_true (by omega)
theorem shTs {ts : List Kd} (h : ∀ t ∈ ts, (∀ x ∈ t.opens, Nm x) ∧ t.dp ≤ 50) : SeqAt.shaped (.list (ts.map toD)) = true ∧ (PyData.list (ts.map toD)).canLay0 = true := by
  have all : PyData.canLayAll0 (ts.map toD) = true ∧ PyData.depthAll (ts.map toD) ≤ 51 := by
    induction ts with
    | nil => exact ⟨by simp [PyData.canLayAll0], by simp [PyData.depthAll]⟩
    | cons t ts ih =>
      obtain ⟨a, b⟩ := ih fun u hu => h u (List.mem_cons_of_mem _ hu)
      obtain ⟨h1, h2⟩ := h t List.mem_cons_self
      obtain ⟨c, e⟩ := layT t h1
      refine ⟨by simp [PyData.canLayAll0, a, c], ?_⟩
      simp only [List.map_cons, PyData.depthAll]
      omega
  have lay : (PyData.list (ts.map toD)).canLay0 = true := by simp only [PyData.canLay0]; exact all.1
  refine ⟨?_, lay⟩
  unfold SeqAt.shaped
  rw [lay, Bool.true_and]
  refine decide_eq_true ?_
  simp only [PyData.depth]
  omega
theorem neF {d : PyData} (lay : d.canLay0 = true) {A B : Prop} (h : B) : if (!PyData.eqv d d) = true then A else B := by
  rw [SeqAt.eqv_refl d lay]
  exact iteF h

theorem eqv_tup (xs ys : List PyData) : PyData.eqv (.tuple xs) (.tuple ys) = PyData.eqvAll xs ys := by rw [PyData.eqv]
theorem eqv_str (x y : Str) : PyData.eqv (.str x) (.str y) = (x == y) := by rw [PyData.eqv]
theorem eqv_cons (x y : PyData) (xs ys : List PyData) : PyData.eqvAll (x :: xs) (y :: ys) = (PyData.eqv x y && PyData.eqvAll xs ys) := by rw [PyData.eqvAll]
theorem two_see {a b c d : PyData} (h : PyData.eqvAll [a, b] [c, d] = true) : PyData.eqv a c = true ∧ PyData.eqv b d = true := by
  rw [eqv_cons, eqv_cons] at h
  obtain ⟨h1, h2⟩ := Bool.and_eq_true_iff.mp h
  exact ⟨h1, (Bool.and_eq_true_iff.mp h2).1⟩
theorem one_see {a c : PyData} (h : PyData.eqvAll [a] [c] = true) : PyData.eqv a c = true := by
  rw [eqv_cons] at h
  exact (Bool.and_eq_true_iff.mp h).1
def Kd.pys : Kd → List PyData
  | .opn x => [.str x]
  | .num => []
  | .tru => []
  | .pair a b => [toD a, toD b]
  | .eith a b => [toD a, toD b]
  | .lst a => [toD a]
  | .fn a b => [toD a, toD b]
theorem py_eq (k : Kd) : toD k = .tuple (.str k.word :: k.pys) := by cases k <;> rfl
theorem eqv_see {a b : Kd} (h : PyData.eqv (toD a) (toD b) = true) : a.word = b.word ∧ PyData.eqvAll a.pys b.pys = true := by
  rw [py_eq a, py_eq b, eqv_tup, eqv_cons, eqv_str] at h
  obtain ⟨h1, h2⟩ := Bool.and_eq_true_iff.mp h
  exact ⟨beq_iff_eq.mp h1, h2⟩
theorem eqv_inj : ∀ {a b : Kd}, PyData.eqv (toD a) (toD b) = true → a = b := by
  intro a
  induction a with
  | opn x =>
    intro b h
    obtain ⟨h1, h2⟩ := eqv_see h
    cases b with
    | opn y =>
      have h3 := one_see h2
      rw [eqv_str] at h3
      rw [beq_iff_eq.mp h3]
    | _ => exact absurd h1 (by simp only [Kd.word]; decide)
  | num =>
    intro b h
    obtain ⟨h1, h2⟩ := eqv_see h
    cases b with
    | num => rfl
    | _ => exact absurd h1 (by simp only [Kd.word]; decide)
  | tru =>
    intro b h
    obtain ⟨h1, h2⟩ := eqv_see h
    cases b with
    | tru => rfl
    | _ => exact absurd h1 (by simp only [Kd.word]; decide)
  | pair a c i j =>
    intro b h
    obtain ⟨h1, h2⟩ := eqv_see h
    cases b with
    | pair e g =>
      obtain ⟨h3, h4⟩ := two_see h2
      rw [i h3, j h4]
    | _ => exact absurd h1 (by simp only [Kd.word]; decide)
  | eith a c i j =>
    intro b h
    obtain ⟨h1, h2⟩ := eqv_see h
    cases b with
    | eith e g =>
      obtain ⟨h3, h4⟩ := two_see h2
      rw [i h3, j h4]
    | _ => exact absurd h1 (by simp only [Kd.word]; decide)
  | fn a c i j =>
    intro b h
    obtain ⟨h1, h2⟩ := eqv_see h
    cases b with
    | fn e g =>
      obtain ⟨h3, h4⟩ := two_see h2
      rw [i h3, j h4]
    | _ => exact absurd h1 (by simp only [Kd.word]; decide)
  | lst a i =>
    intro b h
    obtain ⟨h1, h2⟩ := eqv_see h
    cases b with
    | lst e => rw [i (one_see h2)]
    | _ => exact absurd h1 (by simp only [Kd.word]; decide)
theorem eqv_iff {a b : Kd} (lay : (toD a).canLay0 = true) : PyData.eqv (toD a) (toD b) = true ↔ a = b := ⟨eqv_inj, fun e => by rw [← e]; exact SeqAt.eqv_refl _ lay⟩
end Kq

/-! d.update(e), two dicts of numbers and texts -/
namespace Kc
open PySem PySem.Spec PyProof.Rows L2
theorem mergeK_le : ∀ (more kvs : List (Key × V)), (mergeK kvs more).length ≤ kvs.length + more.length
  | [], kvs => Nat.le_refl _
  | kv :: r, kvs => by
    show (mergeK (putK kvs kv.1 kv.2) r).length ≤ _
    have h1 := mergeK_le r (putK kvs kv.1 kv.2)
    have h2 := length_putK kvs kv.1 kv.2
    rw [List.length_cons]
    omega
section
variable {X : Cx}
def rUpd : V → List V → Hp → VK → Prop := fun x vs H Q => ∃ d o kvs more, x = .ref d ∧ vs = [.ref o] ∧ d ≠ o ∧ H d = some (.dK kvs) ∧ H o = some (.dK more) ∧ kvs.length + more.length ≤ sizeLine ∧ Q .non (upd H d (.dK (mergeK kvs more)))
theorem mt_update : MtR X "dict.update" rUpd := by
  intro pins s σ H x xs v us Q I rx rxs h
  obtain ⟨d, o, kvs, more, rfl, rfl, hne, hd, ho, hz, q⟩ := h
  cases rx
  obtain ⟨u, rfl, ru⟩ := rxs.one
  cases ru
  obtain ⟨z1, n1, vs1, r1, dd1⟩ := dk_of I.hok hd
  obtain ⟨z2, n2, vs2, r2, dd2⟩ := dk_of I.hok ho
  refine call_meetsIn PySem.F.slot_dict_update dd1.typeIs PySem.F.entry_dict_update (PySem.F.args_dict_update_2 _ _) (meets_dict_update (mixKind X.prog X.w) d o hne n2)
    ⟨vs1, vs2, dd1, dd2, by rw [← Paired.length r1, ← Paired.length r2]; exact hz, fun h' hm _ hs => ?_⟩
  have hm' := hm
  obtain ⟨ob, es, ep, hq, _⟩ := hm'
  have I2 : Inv X pins σ (upd H d (.dK (mergeK kvs more))) { s with heap := h' } :=
    d_write (t' := s.toks) I (by rw [hd]; exact True.intro) hs ⟨ob, hq⟩ ⟨Nat.le_trans (mergeK_le _ _) hz, n1, _, KV.merge r2 r1, hm⟩
  exact ⟨.non, _, I2, rfl, q⟩
end
end Kc

/-! {**d, k: v, ..} of a dict of numbers and texts -/
namespace Ku
open PySem PySem.Spec PyProof.Rows L2
section
variable {prog : Program} {w : World} {K : Type} [DecidableEq K] {knd : KeyKind prog w K} {A : Around} {E : Value → Shared → Prop} {s : Shared}
theorem put_pairs {d : Addr} {kvs : List (K × Value)} {k : K} {key v : Value} {Q : Unit → Shared → Prop} (ik : knd.is k key = true) (dd : s.heap.DictOf knd d kvs) (few : kvs.length ≤ sizeLine)
    (hQ : ∀ h', h'.DictOf knd d (stored kvs k v) → Heap.SameBut d s.heap h' → Q () { s with heap := h' }) : wpAny (model prog w) A (dictPut d (knd.hash k) key v) Q E s := by
  obtain ⟨ob, es, n, hob, hcl, hda, hks, hps, hnd⟩ := dd
  have hz : es.size ≤ sizeLine := by
    have z := hps.length
    simp only [Array.length_toList] at z
    omega
  unfold dictPut
  refine wpAny_bind (wpAny_dictFind_of ik hob hda hks ?_)
  have hix : (es.findIdx? fun e => knd.is k e.key) = kvs.findIdx? fun p => decide (p.1 = k) := by
    have z := hps.findIdx k
    obtain ⟨l⟩ := es
    simpa using z
  cases hf : es.findIdx? fun e => knd.is k e.key with
  | some i =>
    have hany := any_of_findIdx_some (hix ▸ hf)
    refine wpAny_updateDict hob hda (hQ _ ⟨_, _, n, Heap.get?_update_self _ hob (Obj.isFreed_of_dict (Obj.data_mapDict hda _)), hcl.mapDict _, Obj.data_mapDict hda _, hks.modify _ _, ?_, ?_⟩ (Heap.SameBut.update ..))
    · rw [stored, if_pos hany]
      have hl : (es.toList.findIdx? fun e => knd.is k e.key) = some i := by
        obtain ⟨l⟩ := es
        simpa using hf
      have z := hps.modify hnd hl v
      obtain ⟨l⟩ := es
      simpa using z
    · rw [stored, if_pos hany, keys_map_store]
      exact hnd
  | none =>
    have out : k ∉ kvs.map (·.1) := not_mem_of_findIdx_none (hix ▸ hf)
    have hany : ¬ (kvs.any fun p => decide (p.1 = k)) = true := fun z => by
      obtain ⟨p, hp, e⟩ := List.any_eq_true.mp z
      exact out (List.mem_map.mpr ⟨p, hp, of_decide_eq_true e⟩)
    refine wpAny_updateDictKeys (hz := hz) hob hda (hQ _ ⟨_, _, n + 1, Heap.get?_update_self _ hob (Obj.isFreed_of_dict (Obj.data_mapDictKeys hda _)), hcl.mapDictKeys _, Obj.data_mapDictKeys hda _, hks.push ik _, ?_, ?_⟩ (Heap.SameBut.update ..))
    · rw [stored, if_neg hany]
      have z := hps.append ik (knd.hash k) v
      obtain ⟨l⟩ := es
      simpa using z
    · rw [stored, if_neg hany, List.map_append]
      refine List.nodup_append.mpr ⟨hnd, by simp, fun x hx y hy e => ?_⟩
      have hy : y = k := by simpa using hy
      rw [e, hy] at hx
      exact out hx
theorem merge_map {d o : Addr} {kvs more : List (K × Value)} {Q : Unit → Shared → Prop} (hdo : d ≠ o) (hoS : (o == sysModules) = false) (noref : ∀ (k : K) (a : Addr), knd.is k (.ref a) = false)
    (hd : s.heap.DictOf knd d kvs) (ho : s.heap.DictOf knd o more) (few : kvs.length + more.length ≤ sizeLine)
    (hQ : ∀ h', h'.DictOf knd d (merged kvs more) → h'.DictOf knd o more → Heap.SameBut d s.heap h' → Q () { s with heap := h' }) :
    wpAny (model prog w) A (mergeMapping d (.ref o) false) Q E s := by
  obtain ⟨od, esd, epd, hod, hcd, hdd, hkd, hpd, hnd⟩ := id hd
  obtain ⟨oo, eso, epo, hoo, hco, hdo', hko, hpo, hno⟩ := id ho
  have hlen : more.length = eso.size := by
    rw [← hpo.length]
    simp
  unfold mergeMapping
  refine wpAny_bind (wpAny_isInstance ho.typeIs isSubtype_dict_dict ?_)
  rw [if_pos rfl]
  refine wpAny_bind (wpAny_specialOf ho.typeIs F.slot_dict_iter.lookup (wpAny_bind (wpAny_pure ?_)))
  simp only [beq_self_eq_true, hoS, Bool.false_eq_true, if_false]
  have loop : wpAny (model prog w) A (do
      let l ← dictEntries o
      let epoch ← dictEpoch o
      forIn (List.range l.size) PUnit.unit fun i (_ : PUnit) => do
        let l ← dictEntries o
        match l[i]? with
          | some e => do
            holding [e.key, e.val] (dictPut d e.hash e.key e.val)
            let ep ← dictEpoch o
            if (ep != epoch) = true then do
              unsupported "dict.changed-during-merge"
              pure (ForInStep.yield PUnit.unit)
            else pure (ForInStep.yield PUnit.unit)
          | x => do
            unsupported "dict.changed-during-merge"
            pure (ForInStep.yield PUnit.unit)
      pure () : Sem Unit) Q E s := by
    refine wpAny_bind (wpAny_dictEntries hoo hdo' (wpAny_bind (wpAny_dictEpoch hoo hdo' (wpAny_bind ?_))))
    refine wpAny_forIn_list _ (fun rest _ s' => ∃ h' i, s' = { s with heap := h' } ∧ rest = (List.range eso.size).drop i ∧ i ≤ eso.size ∧ h'.DictOf knd d (merged kvs (more.take i)) ∧ h'.get? o = some oo ∧ Heap.SameBut d s.heap h') _ ?_ ?_ _ _ ⟨s.heap, 0, rfl, rfl, Nat.zero_le _, by simpa [merged] using hd, hoo, Heap.SameBut.refl _ _⟩
    · rintro x rest b s' ⟨h', i, rfl, hr, hi, hd', hoo', hs'⟩
      have hlt : i < eso.size := by
        rcases Nat.lt_or_ge i eso.size with h | h
        · exact h
        · rw [List.drop_eq_nil_of_le (by rw [List.length_range]; exact h)] at hr
          cases hr
      have hr2 := hr
      rw [List.drop_eq_getElem_cons (by rw [List.length_range]; exact hlt), List.getElem_range] at hr2
      injection hr2 with e1 e2
      subst e1
      obtain ⟨kv, hkv⟩ : ∃ kv, more[x]? = some kv := ⟨_, List.getElem?_eq_getElem (by rw [hlen]; exact hlt)⟩
      obtain ⟨k, v⟩ := kv
      obtain ⟨ik, ev⟩ := hpo.get? (e := eso[x]) (by simp [hlt]) hkv
      obtain ⟨k', ik', eh⟩ := hko eso[x] (Array.getElem_mem hlt)
      obtain rfl : k' = k := knd.inj _ _ _ ik' ik
      refine wpAny_bind (wpAny_dictEntries hoo' hdo' ?_)
      rw [Array.getElem?_eq_getElem hlt]
      have hmx : (merged kvs (more.take x)).length ≤ sizeLine := by
        have z1 := merged_length_le kvs (more.take x)
        have z2 : (more.take x).length ≤ more.length := by
          rw [List.length_take]
          omega
        omega
      refine wpAny_bind (wpAny_holding ?_)
      rw [eh, ev]
      refine put_pairs ik hd' hmx fun h2 hd2 hs2 => ?_
      have hoo2 : h2.get? o = some oo := (hs2.2 o (Ne.symm hdo)).trans hoo'
      refine wpAny_bind (wpAny_dictEpoch hoo2 hdo' ?_)
      rw [if_neg (by simp)]
      exact wpAny_pure ⟨h2, x + 1, rfl, e2, hlt, by rw [merged_take_succ kvs more x (k', v) hkv]; exact hd2, hoo2, hs'.trans hs2⟩
    · rintro b s' ⟨h', i, rfl, hr, hi, hd', hoo', hs'⟩
      have hin : i = eso.size := by
        rcases Nat.lt_or_ge i eso.size with h | h
        · rw [List.drop_eq_getElem_cons (by rw [List.length_range]; exact h)] at hr
          cases hr
        · omega
      refine wpAny_pure (hQ h' ?_ ⟨oo, eso, epo, hoo', hco, hdo', hko, hpo, hno⟩ hs')
      rw [hin, ← hlen, List.take_length] at hd'
      exact hd'
  refine wpAny_bind (wpAny_dictEntries hod hdd ?_)
  split
  · refine wpAny_bind (wpAny_dictEntries hoo hdo' (wpAny_bind ?_))
    rw [← Array.forIn_toList]
    refine wpAny_forIn_list _ (fun rest _ s' => s' = s ∧ ∀ e ∈ rest, e ∈ eso) _ ?_ ?_ _ _ ⟨rfl, fun e he => Array.mem_toList_iff.mp he⟩
    · rintro e rest b s' ⟨rfl, hm⟩
      obtain ⟨k, ik, _⟩ := hko e (hm e List.mem_cons_self)
      split
      · rename_i a ea
        rw [ea, noref] at ik
        cases ik
      · exact wpAny_pure ⟨rfl, fun e' he' => hm e' (List.mem_cons_of_mem _ he')⟩
    · rintro b s' ⟨rfl, _⟩
      exact loop
  · exact loop
theorem gather {D : Addr} (f : (Option (Sem Value) × Sem Value) → (Option Addr × List (Sem Value × Sem Value)) → Sem (ForInStep (Option Addr × List (Sem Value × Sem Value))))
    (hf : ∀ (p : Sem Value × Sem Value) (run : List (Sem Value × Sem Value)), run.length + 1 < 17 → f (some p.1, p.2) (some D, run) = pure (.yield (some D, run ++ [p]))) :
    ∀ (items run : List (Sem Value × Sem Value)), run.length + items.length < 17 → forIn (items.map fun p => (some p.1, p.2)) (some D, run) f = pure (some D, run ++ items)
  | [], run, _ => by simp
  | p :: r, run, h => by
    rw [List.length_cons] at h
    rw [List.map_cons, List.forIn_cons, hf p run (by omega), pure_bind]
    have z := gather f hf r (run ++ [p]) (by rw [List.length_append, List.length_singleton]; omega)
    simpa using z
theorem display_splat {t0 : Sem Value} {pairs : List (Sem Value × Sem Value)} {Q : Value → Shared → Prop} (h0 : pairs ≠ []) (hl : pairs.length ≤ 15)
    (h : wpAny (model prog w) A t0 (fun m s1 => wpAny (model prog w) A (mergeMapping s.heap.objs.size m false) (fun _ s2 => wpAny (model prog w) A (subDict pairs) (fun b s3 => wpAny (model prog w) A (mergeMapping s.heap.objs.size (.ref b) false) (fun _ s4 => Q (.ref s.heap.objs.size) s4) (fun _ _ => False) s3) E s2) (fun _ _ => False) s1) E { s with heap := s.heap.push { cls := .type "dict", data := .dict #[] } }) :
    wpAny (model prog w) A (dictDisplay ((none, t0) :: pairs.map fun p => (some p.1, p.2))) Q E s := by
  unfold dictDisplay
  dsimp only
  rw [List.forIn_cons]
  simp only [List.isEmpty_nil, if_true, pure_bind]
  refine wpAny_bind (wpAny_bind (wpAny_bind (wpAny_alloc (wpAny_bind (wpAny_holding (wpAny_mono h (fun m s1 h1 => ?_) fun _ _ e => e))))))
  refine wpAny_bind (wpAny_onRaise (wpAny_tryCatch (wpAny_onRaise (wpAny_holding (wpAny_mono h1 (fun _ s2 h2 => ?_) fun _ _ z => z.elim)))))
  refine wpAny_pure ?_
  dsimp only
  rw [gather _ (fun p run hr => by
    have z : ((run ++ [(p.1, p.2)]).length == 17) = false := by
      rw [List.length_append, List.length_singleton]
      exact beq_false_of_ne (by omega)
    simp only [z, Bool.false_eq_true, if_false]) pairs [] (by rw [List.length_nil]; omega)]
  refine wpAny_pure ?_
  have hne : ([] ++ pairs).isEmpty = false := by
    rw [List.nil_append]
    cases pairs with
    | nil => exact absurd rfl h0
    | cons _ _ => rfl
  simp only [hne, Bool.false_eq_true, if_false]
  refine wpAny_bind (wpAny_bind (wpAny_holding (wpAny_mono h2 (fun b s3 h3 => ?_) fun _ _ e => e)))
  refine wpAny_bind (wpAny_onRaise (wpAny_holding (wpAny_mono h3 (fun _ s4 h4 => ?_) fun _ _ z => z.elim)))
  exact wpAny_pure (wpAny_pure h4)
end
theorem zip_splat (e0 : Expr) (ks : List (Option Expr)) (vs : List Expr) (env : Env) (pos : Pos) (h : ks.all (·.isSome) = true) (hl : ks.length = vs.length) :
    (evalEachOpt (none :: ks) env).zip ((evalEach (e0 :: vs) env).map fun v => do let x ← v; standAt pos; pure x) = (none, do let x ← eval e0 env; standAt pos; pure x) :: (pairTrees ks vs env pos).map fun p => (some p.1, p.2) := by
  rw [← zip_pairTrees ks vs env pos h hl]
  rfl
theorem mix_noref (P : Program) (w : World) (k : Key) (a : Addr) : (mixKind P w).is k (.ref a) = false := by
  cases k <;> rfl
/-- {**d, k: v, ..} -/
def tSplat (te : TE) (trs : List (TE × TE)) : TE := fun σ H Q => ∀ p, H p = none → te σ (upd H p (.dK [])) fun x H1 => H1 p = some (.dK []) ∧ ∃ (o : Addr) (more : List (Key × V)), x = .ref o ∧ o ≠ p ∧ H1 o = some (.dK more) ∧ more.length ≤ 900 ∧
  ∀ q, (upd H1 p (.dK (mergeK [] more))) q = none → tPairs trs σ (upd (upd H1 p (.dK (mergeK [] more))) q (.dK [])) fun ps H2 => H2 q = some (.dK []) ∧ H2 p = some (.dK (mergeK [] more)) ∧ ∃ kvs : List (Key × V), ps = kvs.map (fun kv => (kV kv.1, kv.2)) ∧ kvs.length ≤ 15 ∧
    Q (.ref p) (upd (upd H2 q (.dK (mergeK [] kvs))) p (.dK (mergeK (mergeK [] more) (mergeK [] kvs))))
theorem pe_dsplat {X : Cx} {pos : Pos} {e0 : Expr} {te : TE} {keys : List (Option Expr)} {values : List Expr} {trs : List (TE × TE)} (he : PE X e0 te) (h : PPs X pos keys values trs) (hall : keys.all (·.isSome) = true) (hl : keys.length = values.length) (h0 : keys ≠ [])
    (h15 : keys.length ≤ 15) : PE X (.Dict (none :: keys) (e0 :: values) pos) (tSplat te trs) := by
  refine ⟨fun pins s σ H Q I q => ?_⟩
  have hn := I.hok.fresh (Nat.le_refl s.heap.objs.size)
  have I1 := I.laid (a := s.heap.objs.size) (o := .dK []) (h' := s.heap.push { cls := .type "dict", data := .dict #[] }) (t' := s.toks) (fun _ _ q => Heap.get?_push_of_some _ q) (Nat.le_refl _) (dk_empty s.heap I.big)
  have hn' := pairTrees_length keys values X.env pos hall hl
  rw [arm_eval_Dict, zip_splat _ _ _ _ _ hall hl]
  refine wpAny_bind (wpAny_standAt (display_splat (fun z => h0 (List.length_eq_zero_iff.mp (by rw [← hn', z]; rfl))) (by rw [hn']; exact h15) ?_))
  refine wpAny_bind (wpAny_mono (he.run pins _ σ _ _ I1 (q _ hn)) (fun m s1 z => wpAny_bind (wpAny_standAt (wpAny_pure ?_))) fun _ _ e => e)
  obtain ⟨x, H1, I2, rx, e1, o, more, ex, hop, e2, hm, q2⟩ := z
  subst ex
  obtain rfl : m = Value.ref o := rx
  obtain ⟨z1, n1, vs1, r1, dd1⟩ := dk_of I2.hok e1
  cases r1
  obtain ⟨z2, n2, vs2, r2, dd2⟩ := dk_of I2.hok e2
  have lr2 := Paired.length r2
  have big : sizeLine = 16777216 := rfl
  refine merge_map hop.symm n2 (mix_noref _ _) dd1 dd2 (by rw [List.length_nil]; omega) fun h1 hd1 ho1 hs1 => ?_
  have hex1 : ∃ b, h1.get? s.heap.objs.size = some b := let ⟨b, _, _, hq, _⟩ := hd1; ⟨b, hq⟩
  have lm : (mergeK [] more).length ≤ 900 := by
    have z := Kc.mergeK_le more []
    rw [List.length_nil] at z
    omega
  have I3 : Inv X pins σ (upd H1 s.heap.objs.size (.dK (mergeK [] more))) { s1 with heap := h1 } :=
    d_write (t' := s1.toks) I2 (by rw [e1]; exact True.intro) hs1 hex1 ⟨by omega, n1, _, KV.merge r2 .nil, hd1⟩
  have hnq := I3.hok.fresh (Nat.le_refl h1.objs.size)
  have pq : s.heap.objs.size ≠ h1.objs.size := ne_of_none upd_same hnq
  have I4 := I3.laid (a := h1.objs.size) (o := .dK []) (h' := h1.push { cls := .type "dict", data := .dict #[] }) (t' := s1.toks) (fun _ _ q => Heap.get?_push_of_some _ q) (Nat.le_refl _) (dk_empty h1 I3.big)
  refine wpAny_subDict (knd := mixKind X.prog X.w) (by rw [hn']; exact h15) (thn (h.run pins _ σ _ _ I4 (q2 _ hnq)) fun ws s2 ⟨ps, H2, I5, rel, e3, e4, kvs, ep, lk, q3⟩ => ?_)
  subst ep
  obtain ⟨rs, c, rk⟩ := carries_of (P := X.prog) (w := X.w) rel
  obtain ⟨z3, n3, vs3, r3, dd3⟩ := dk_of I5.hok e3
  cases r3
  refine ⟨rs, c, dd3, fun h2 hd2 hs2 => ?_⟩
  have lk2 : (mergeK [] kvs).length ≤ 15 := by
    have z := Kc.mergeK_le kvs []
    rw [List.length_nil] at z
    omega
  have hex2 : ∃ b, h2.get? h1.objs.size = some b := let ⟨b, _, _, hq, _⟩ := hd2; ⟨b, hq⟩
  have I6 : Inv X pins σ (upd H2 h1.objs.size (.dK (mergeK [] kvs))) { s2 with heap := h2, toks := s2.toks + ws.length } :=
    d_write (t' := s2.toks + ws.length) I5 (by rw [e3]; exact True.intro) hs2 hex2 ⟨by omega, n3, _, KV.merge rk .nil, hd2⟩
  have e5 : (upd H2 h1.objs.size (.dK (mergeK [] kvs))) s.heap.objs.size = some (.dK (mergeK [] more)) := by
    rw [upd_ne pq]
    exact e4
  obtain ⟨z5, n5, vs5, r5, dd5⟩ := dk_of I6.hok e5
  obtain ⟨z6, n6, vs6, r6, dd6⟩ := dk_of I6.hok (a := h1.objs.size) upd_same
  have lr5 := Paired.length r5
  have lr6 := Paired.length r6
  refine merge_map pq n6 (mix_noref _ _) dd5 dd6 (by omega) fun h3 hd3 ho3 hs3 => ?_
  have hex3 : ∃ b, h3.get? s.heap.objs.size = some b := let ⟨b, _, _, hq, _⟩ := hd3; ⟨b, hq⟩
  have lm2 : (mergeK (mergeK [] more) (mergeK [] kvs)).length ≤ 915 := by
    have z := Kc.mergeK_le (mergeK [] kvs) (mergeK [] more)
    omega
  refine ⟨.ref s.heap.objs.size, upd (upd H2 h1.objs.size (.dK (mergeK [] kvs))) s.heap.objs.size (.dK (mergeK (mergeK [] more) (mergeK [] kvs))), ?_, rfl, q3⟩
  exact d_write (s := { s2 with heap := h2, toks := s2.toks + ws.length }) (t' := s2.toks + ws.length) I6 (by rw [e5]; exact True.intro) hs3 hex3 ⟨by omega, n5, _, KV.merge r6 r5, hd3⟩
end Ku

/-! d.get(k) of a dict of the module; statements and expressions that are never reached -/
namespace Kk
open PySem PySem.Spec PyProof.Rows L2
theorem ps_no {X : Cx} {st : Stmt} : PS X st (fun _ _ _ => False) := ⟨fun _ _ _ _ _ _ h => h.elim⟩
theorem pss_no {X : Cx} {b : List Stmt} : PSs X b (fun _ _ _ => False) := ⟨fun _ _ _ _ _ _ h => h.elim⟩
theorem pe_no {X : Cx} {e : Expr} : PE X e (fun _ _ _ => False) := ⟨fun _ _ _ _ _ _ h => h.elim⟩
section
variable {X : Cx} {d : Addr} {es : Array DictEntry} {n : Nat}
def tKGet (K : PySem.W.Frag) (d : Addr) (to ty : TE) : TE := fun σ H Q => to σ H fun x H1 => x = .ref d ∧ ty σ H1 fun y H2 => ∃ (z : Str) (r : Option Value) (v : V), y = .str z ∧ PySem.W.nsIn K d z = some r ∧ RelV v (r.getD .none) ∧ Q v H2
theorem pe_kget {o e : Expr} {apos cpos : Pos} {to ty : TE} (D : KDict X.K X.w d es n) (ho : PE X o to) (he : PE X e ty) (m : M1 X o "get" apos e cpos) : PE X (.Call (.Attribute o "get" apos) [e] [] cpos) (tKGet X.K d to ty) := by
  refine ⟨fun pins s σ H Q I h => ?_⟩
  refine wpAny_Call_method m.base m.few m.line PySem.F.plainAttrs_dict PySem.F.slot_dict_get PySem.F.type_dict_get (thn (ho.run pins s σ H _ I h) fun u s1 ⟨x, H1, I1, rx, ex, q1⟩ => ?_)
  subst ex
  obtain rfl : u = Value.ref d := rx
  have M := PySem.W.mapOf_K (prog := X.prog) (w := X.w) I1.kIn D.at_ D.lit
  refine ⟨M.typeIs, M.noDict, ?_⟩
  rw [m.trees]
  refine Calls.callWith_builtin rfl (Calls.evalArgs_plain (Calls.spliced_cons (thn (he.run pins s1 σ H1 _ I1 q1) fun iv s2 ⟨y, H2, I2, ry, z, r, v, ey, e, rv, q2⟩ => Calls.spliced_nil ?_)))
  subst ey
  obtain ⟨t, rfl⟩ := (show ∃ t, iv = Value.str z t from ry)
  have M2 := PySem.W.mapOf_K (prog := X.prog) (w := X.w) I2.kIn D.at_ D.lit
  refine call_meetsIn PySem.F.slot_dict_get M2.typeIs PySem.F.entry_dict_get (PySem.F.args_dict_get_2 _ _) (meets_dict_get _ d (PySem.strKind_is X.prog X.w z t) D.low) ⟨_, M2, ?_⟩
  rw [PySem.W.find_K D.at_ e]
  exact ⟨v, H2, I2.tok _, rv, q2⟩
end
end Kk

/-! True > n, False > n; what is told of a number or a truth alike -/
namespace Kc
open PySem PySem.Spec PyProof.Rows L2
theorem sub_int_bool : isSubtype (.type "int") (.type "bool") = pure false := by kernel_rfl
theorem gives_gt_bi (p : Bool) (n : Int) (u : Tok) : Gives (Builtin.«int.__gt__» ⟨[.bool p, .int n u], []⟩) (.val (Value.bool (decide (b2i p > n)))) :=
  .of_wp fun M A E s Q h => by obtain ⟨hp, g, d, tk, os⟩ := s; wp_walk; exact ⟨_, rfl, h⟩
def rGtU : V → V → Hp → VK → Prop := fun x y H Q => (∃ i j : Int, x = .int i ∧ y = .int j ∧ Q (.bl (decide (i > j))) H) ∨ ∃ (a : Bool) (j : Int), x = .bl a ∧ y = .int j ∧ Q (.bl (decide (b2i a > j))) H
theorem op_gtBI {X : Cx} : OpR X (compareOp .Gt) rGtU := by
  intro pins s σ H x y v u Q I rx ry h
  rcases h with ⟨i, j, rfl, rfl, q⟩ | ⟨a, j, rfl, rfl, q⟩
  · exact op_gt pins s σ H _ _ v u Q I rx ry ⟨i, j, rfl, rfl, q⟩
  · cases rx
    obtain ⟨t, rfl⟩ := ry
    show wpAny _ _ (richCompare .Gt _ _) _ _ _
    refine wpAny_richCompare_left (typeIs_bool' s a) (typeIs_int s j t) (by decide) sub_int_bool F.slot_bool_gt (call_gives F.slot_bool_gt (typeIs_bool' s a) F.entry_int_gt (F.args_int_gt_2 _ _) (gives_gt_bi a j t) (Made.post_and (by intro hq; cases hq) (fin_bl I q rfl)))
end Kc

/-! helpers -/
namespace Kq
open PySem PySem.Spec PyProof.Rows L2 Kf Kg Kv Kk Ku
abbrev Non : Addr → Prop := fun _ => False
structure NmD (NS : List Str) (kvs : List (Key × V)) : Prop where
  nd : (kvs.map (·.1)).Nodup
  ns : ∀ k ∈ kvs.map (·.1), ∃ x ∈ NS, k = Sum.inr x
theorem nodup_le {α : Type} [DecidableEq α] : ∀ {xs ys : List α}, xs.Nodup → (∀ x ∈ xs, x ∈ ys) → xs.length ≤ ys.length
  | [], _, _, _ => Nat.zero_le _
  | x :: xs, ys, nd, h => by
    rw [List.nodup_cons] at nd
    have hx := h x List.mem_cons_self
    have z := nodup_le (xs := xs) (ys := ys.erase x) nd.2 fun y hy => (List.mem_erase_of_ne (fun e => nd.1 (by rw [← e]; exact hy))).mpr (h y (List.mem_cons_of_mem _ hy))
    rw [List.length_erase_of_mem hx] at z
    have := List.length_pos_of_mem hx
    rw [List.length_cons]
    omega
theorem NmD.len {NS : List Str} {kvs : List (Key × V)} (h : NmD NS kvs) : kvs.length ≤ NS.length := by
  have z := nodup_le (xs := kvs.map (·.1)) (ys := NS.map (Sum.inr : Str → Key)) h.nd fun k hk => by
    obtain ⟨x, hx, rfl⟩ := h.ns k hk
    exact List.mem_map.mpr ⟨x, hx, rfl⟩
  rw [List.length_map, List.length_map] at z
  exact z
theorem szBig {n : Nat} (h : n ≤ 200000) : n ≤ sizeLine := by
  show n ≤ 16777216
  omega
theorem keys_in {kvs : List (Key × V)} {k : Key} (v : V) (h : k ∈ kvs.map (·.1)) : (putK kvs k v).map (·.1) = kvs.map (·.1) := by
  have ha : (kvs.any fun kv => decide (kv.1 = k)) = true := by
    obtain ⟨p, hp, e⟩ := List.mem_map.mp h
    exact List.any_eq_true.mpr ⟨p, hp, decide_eq_true e⟩
  unfold putK
  rw [if_pos ha, List.map_map]
  refine List.map_congr_left fun p _ => ?_
  show (if p.1 = k then (p.1, v) else p).1 = p.1
  by_cases e : p.1 = k
  · rw [if_pos e]
  · rw [if_neg e]
theorem keys_out {kvs : List (Key × V)} {k : Key} (v : V) (h : ¬ k ∈ kvs.map (·.1)) : (putK kvs k v).map (·.1) = kvs.map (·.1) ++ [k] := by
  have ha : ¬ (kvs.any fun kv => decide (kv.1 = k)) = true := fun z => by
    obtain ⟨p, hp, e⟩ := List.any_eq_true.mp z
    exact h (List.mem_map.mpr ⟨p, hp, of_decide_eq_true e⟩)
  unfold putK
  rw [if_neg ha, List.map_append]
  rfl
theorem NmD.put {NS : List Str} {kvs : List (Key × V)} (h : NmD NS kvs) {x : Str} (hx : x ∈ NS) (v : V) : NmD NS (putK kvs (.inr x) v) := by
  by_cases c : (Sum.inr x : Key) ∈ kvs.map (·.1)
  · refine ⟨?_, fun k hk => ?_⟩
    · rw [keys_in v c]
      exact h.nd
    · rw [keys_in v c] at hk
      exact h.ns k hk
  · refine ⟨?_, fun k hk => ?_⟩
    · rw [keys_out v c]
      refine List.nodup_append.mpr ⟨h.nd, by simp, fun a ha b hb e => ?_⟩
      rw [List.mem_singleton] at hb
      exact c (by rw [← hb, ← e]; exact ha)
    · rw [keys_out v c] at hk
      rcases List.mem_append.mp hk with hk | hk
      · exact h.ns k hk
      · exact ⟨x, hx, List.mem_singleton.mp hk⟩
theorem NmD.nil {NS : List Str} : NmD NS [] := ⟨List.nodup_nil, fun k h => by cases h⟩
theorem NmD.merge {NS : List Str} : ∀ {more kvs : List (Key × V)}, NmD NS kvs → (∀ kv ∈ more, ∃ x ∈ NS, kv.1 = Sum.inr x) → NmD NS (mergeK kvs more)
  | [], kvs, h, _ => h
  | kv :: r, kvs, h, m => by
    obtain ⟨x, hx, e⟩ := m kv List.mem_cons_self
    show NmD NS (mergeK (putK kvs kv.1 kv.2) r)
    rw [e]
    exact NmD.merge (h.put hx _) fun k hk => m k (List.mem_cons_of_mem _ hk)
theorem merge_app : ∀ {more kvs : List (Key × V)}, ((kvs ++ more).map (·.1)).Nodup → mergeK kvs more = kvs ++ more
  | [], kvs, _ => by rw [List.append_nil]; rfl
  | kv :: r, kvs, h => by
    show mergeK (putK kvs kv.1 kv.2) r = _
    have hn : valV kvs kv.1 = none := by
      cases e : valV kvs kv.1 with
      | none => rfl
      | some v =>
        exfalso
        have z : (kvs.any fun p => decide (p.1 = kv.1)) = true := by rw [valV_any, e]; rfl
        obtain ⟨p, hp, e⟩ := List.any_eq_true.mp z
        rw [List.map_append] at h
        exact (List.nodup_append.mp h).2.2 p.1 (List.mem_map.mpr ⟨p, hp, rfl⟩) kv.1 (by simp) (of_decide_eq_true e)
    rw [putK_new _ hn, merge_app (by rw [List.append_assoc]; exact h), List.append_assoc]
    rfl
theorem NmD.same {NS : List Str} {kvs : List (Key × V)} (h : NmD NS kvs) : mergeK [] kvs = kvs := merge_app (more := kvs) (kvs := []) h.nd
theorem valV_merge (j : Key) : ∀ {more : List (Key × V)} {kvs : List (Key × V)}, (more.map (·.1)).Nodup → valV (mergeK kvs more) j = (valV more j).or (valV kvs j)
  | [], kvs, _ => rfl
  | kv :: r, kvs, h => by
    rw [List.map_cons, List.nodup_cons] at h
    show valV (mergeK (putK kvs kv.1 kv.2) r) j = _
    rw [valV_merge j h.2, valV_put]
    by_cases e : kv.1 = j
    · rw [valV_pos e, if_pos e.symm]
      have hn : valV r j = none := by
        cases e1 : valV r j with
        | none => rfl
        | some v =>
          exfalso
          have z : (r.any fun p => decide (p.1 = j)) = true := by rw [valV_any, e1]; rfl
          obtain ⟨p, hp, e2⟩ := List.any_eq_true.mp z
          exact h.1 (List.mem_map.mpr ⟨p, hp, (of_decide_eq_true e2).trans e.symm⟩)
      rw [hn]
      rfl
    · rw [valV_neg e, if_neg (fun z => e z.symm)]
section
variable {P : Program} {w : World} {K : PySem.W.Frag} {mg : Str → Option Value} {base : Heap}
theorem passV {X : Cx} {E : XK} (tk : Takes X (fun cls d _ H => E cls d H)) : Passes (L2.CX X.prog X.w) X E := fun pins σ H s e s' I c => passAt tk σ pins H s e s' I c
theorem noFnX {CX : CXT} {f : Addr} {fd : FuncData} {ps : List Str} {sp : Sp} {k : Nat} (no : ∀ vs H Q E, ¬ sp vs H Q E) : FnOk P w K mg base CX k f fd ps sp :=
  ⟨fun vs H Q E h => absurd h (no vs H Q E), fun A outer s H args us vs Q E _ _ _ _ h => absurd h (no vs H Q E)⟩
theorem upOk {CX : CXT} {j k : Nat} {f : Addr} {fd : FuncData} {ps : List Str} {sp : Sp} (F : FnOk P w K mg base CX j f fd ps sp) (h : j ≤ k) : FnOk P w K mg base CX k f fd ps sp :=
  ⟨F.len, fun A outer s H args us vs Q E hr => F.run A outer s H args us vs Q E (hr.mono h)⟩
theorem Dd.of2 {N : Addr → Prop} {H : Hp} {x : Str} {a : Dt} {v : V} (h : Dd N H (.tup [.str x, a]) v) : ∃ p u, v = .ref p ∧ TupA H p [.str x, u] ∧ Dd N H a u := by
  cases h with
  | tup e t =>
  cases t with
  | cons t1 t =>
  cases t with
  | cons t2 t =>
  cases t
  cases t1
  exact ⟨_, _, rfl, e, t2⟩
theorem Dd.of3 {N : Addr → Prop} {H : Hp} {x : Str} {a b : Dt} {v : V} (h : Dd N H (.tup [.str x, a, b]) v) : ∃ p u u', v = .ref p ∧ TupA H p [.str x, u, u'] ∧ Dd N H a u ∧ Dd N H b u' := by
  cases h with
  | tup e t =>
  cases t with
  | cons t1 t =>
  cases t with
  | cons t2 t =>
  cases t with
  | cons t3 t =>
  cases t
  cases t1
  exact ⟨_, _, _, rfl, e, t2, t3⟩
theorem Dd.of4 {N : Addr → Prop} {H : Hp} {x : Str} {a b c : Dt} {v : V} (h : Dd N H (.tup [.str x, a, b, c]) v) : ∃ p u u' u'', v = .ref p ∧ TupA H p [.str x, u, u', u''] ∧ Dd N H a u ∧ Dd N H b u' ∧ Dd N H c u'' := by
  cases h with
  | tup e t =>
  cases t with
  | cons t1 t =>
  cases t with
  | cons t2 t =>
  cases t with
  | cons t3 t =>
  cases t with
  | cons t4 t =>
  cases t
  cases t1
  exact ⟨_, _, _, _, rfl, e, t2, t3, t4⟩
theorem Dd.of6 {N : Addr → Prop} {H : Hp} {x y z : Str} {a b c : Dt} {v : V} (h : Dd N H (.tup [.str x, a, b, .str y, .str z, c]) v) : ∃ p u u' u'', v = .ref p ∧ TupA H p [.str x, u, u', .str y, .str z, u''] ∧ Dd N H a u ∧ Dd N H b u' ∧ Dd N H c u'' := by
  cases h with
  | tup e t =>
  cases t with
  | cons t1 t =>
  cases t with
  | cons t2 t =>
  cases t with
  | cons t3 t =>
  cases t with
  | cons t4 t =>
  cases t with
  | cons t5 t =>
  cases t with
  | cons t6 t =>
  cases t
  cases t1
  cases t4
  cases t5
  exact ⟨_, _, _, _, rfl, e, t2, t3, t6⟩
end
def Okd (P : Program) (w : World) (K : PySem.W.Frag) (mg : Str → Option Value) (base : Heap) (CX : CXT) (k : Nat) (nm : Str) (ps : List Str) (sp : Sp) : Prop := ∃ f fd, FnOk P w K mg base CX k f fd ps sp ∧ Binds K fd ps [] ∧ mg nm = some (.ref f) ∧ PySem.W.keepIn K (.ref f) = true
def Dfn (K : PySem.W.Frag) (mg : Str → Option Value) (nm : Str) (st : Stmt) (ps : List Str) : Prop := ∃ f fd, Fun K nm nm st f fd ∧ Binds K fd ps [] ∧ mg nm = some (.ref f)
def Rdn (K : PySem.W.Frag) (dA : Addr) (x nm : Str) (st : Stmt) (ps : List Str) : Prop := ∃ f fd, Fun K nm nm st f fd ∧ Binds K fd ps [] ∧ PySem.W.nsIn K dA x = some (some (.ref f))
def Rok (P : Program) (w : World) (K : PySem.W.Frag) (mg : Str → Option Value) (base : Heap) (CX : CXT) (k : Nat) (dA : Addr) (x : Str) (ps : List Str) (sp : Sp) : Prop := ∃ f fd, FnOk P w K mg base CX k f fd ps sp ∧ Binds K fd ps [] ∧ PySem.W.nsIn K dA x = some (some (.ref f)) ∧ PySem.W.keepIn K (.ref f) = true
section
variable {P : Program} {w : World} {K : PySem.W.Frag} {mg : Str → Option Value} {base : Heap}
theorem Okd.up {CX : CXT} {j k : Nat} {nm : Str} {ps : List Str} {sp : Sp} (h : Okd P w K mg base CX j nm ps sp) (l : j ≤ k) : Okd P w K mg base CX k nm ps sp := by
  obtain ⟨f, fd, F, b, g, kp⟩ := h
  exact ⟨f, fd, upOk F l, b, g, kp⟩
theorem Rok.up {CX : CXT} {j k : Nat} {dA : Addr} {x : Str} {ps : List Str} {sp : Sp} (h : Rok P w K mg base CX j dA x ps sp) (l : j ≤ k) : Rok P w K mg base CX k dA x ps sp := by
  obtain ⟨f, fd, F, b, g, kp⟩ := h
  exact ⟨f, fd, upOk F l, b, g, kp⟩
theorem Dfn.ok {CX : CXT} {k : Nat} {nm : Str} {st : Stmt} {ps : List Str} {sp : Sp} (d : Dfn K mg nm st ps) (h : ∀ f fd, Fun K nm nm st f fd → FnOk P w K mg base CX k f fd ps sp) : Okd P w K mg base CX k nm ps sp := by
  obtain ⟨f, fd, F, b, g⟩ := d
  exact ⟨f, fd, h f fd F, b, g, F.kp⟩
theorem Rdn.ok {CX : CXT} {k : Nat} {dA : Addr} {x nm : Str} {st : Stmt} {ps : List Str} {sp : Sp} (d : Rdn K dA x nm st ps) (h : ∀ f fd, Fun K nm nm st f fd → FnOk P w K mg base CX k f fd ps sp) : Rok P w K mg base CX k dA x ps sp := by
  obtain ⟨f, fd, F, b, g⟩ := d
  exact ⟨f, fd, h f fd F, b, g, F.kp⟩
end
end Kq

/-! names of one letter unlike; pick -/
namespace Kq
open PySem PySem.Spec PyProof.Rows L2 Kf Kg Kv Kk Ku
abbrev tNames : Stmt := tp 84
abbrev tPick : Stmt := tp 83
abbrev nNames : List Str := ["_law_deck_here", "_law_many", "_law_letters", "_law_k", "_law_word", "_law_at", "_law_found", "_law_sign"]
def nmAt (ks : List Nat) (a j : Nat) : Str := Txt.join (Str.ofString "") ((ks.set a ((ks.getD a 0 + j + 1) % 26)).map sg)
theorem nmAt_inj {ks : List Nat} {a i j : Nat} (ha : a < ks.length) (hi : i < 26) (hj : j < 26) (h : nmAt ks a i = nmAt ks a j) : i = j := by
  have e : (ks.set a ((ks.getD a 0 + i + 1) % 26)).map (97 + ·) = (ks.set a ((ks.getD a 0 + j + 1) % 26)).map (97 + ·) := by
    rw [← join_cps, ← join_cps]
    exact congrArg (fun s : Str => s.cps.toList) h
  have e2 := congrArg (fun l => l[a]?) e
  simp only [List.getElem?_map, List.getElem?_set_self ha, Option.map_some] at e2
  have e3 := Option.some.inj e2
  omega
section
variable {P : Program} {w : World} {K : PySem.W.Frag} {mg : Str → Option Value} {base : Heap}
theorem scNames : FnScope nNames ["_law_deck_here", "_law_many"] (defScope tNames) := ⟨rfl, rfl, rfl, by decide +kernel, rfl, by decide +kernel, by decide +kernel⟩
def spNames : Sp := fun vs H Q _ => ∃ (d c : Addr) (m : Int), vs = [.ref d, .int m] ∧ Dk H d c ∧ 0 ≤ m ∧ m ≤ 26 ∧
  ∀ (l : Addr) (xs : List Str) (G : Hp), Kp d c H G → Dk G d c → H l = none → G l = some (.lst (xs.map V.str)) → xs.length = m.toNat → (∀ x ∈ xs, Nm x) → xs.Nodup → (∃ n, ∀ x ∈ xs, x.cps.toList.length = n) → Q (.ref l) G
theorem okNames {f fD : Addr} {fd fdD : FuncData} {k : Nat} (F : Fun K "_law_names" "_law_names" tNames f fd) (GD : FnOk P w K mg base CX0 (k + 1) fD fdD ["_law_deck_here", "_law_most"] spDraw) (bD : Binds K fdD ["_law_deck_here", "_law_most"] []) (gD : mg "_law_draw" = some (.ref fD)) (kD : PySem.W.keepIn K (.ref fD) = true)
    (mn : mg "len" = none) (mr : mg "range" = none) : FnOk P w K mg base CX0 (k + 2) f fd ["_law_deck_here", "_law_many"] spNames := by
  refine F.ok scNames (fun vs H Q E h => ?_) (fun cdv A outer s H vs Q E hr h => ?_)
  · obtain ⟨d, c, m, rfl, _⟩ := h
    rfl
  obtain ⟨d, c, m, rfl, dk, m0, m1, q⟩ := h
  refine ⟨_, pss_cons (ps_set (i := 2) scNames.nd rfl (.inr rfl) pe_str)
    (pss_cons (ps_setLc (i := 4) (own := [("_law_k", 3)]) (g := gName 3) (by rfl) scNames.nd rfl rfl (sw_true rfl rfl rfl (by decide +kernel)) (pi_range1 (by rfl) mr (pa_cons (pe_op op_add pe_int (pe_call GD hr (by rfl) gD kD bD .nil pass0 (pa_cons (pv 0) (pa_cons pe_int pa_nil)))) pa_nil)) (blkOk_by (own := [("_law_k", 3)]) (N := nNames) (sc := defScope tNames) (by decide +kernel))
        (fun _ _ _ _ _ => pg_name (i := 3) scNames.nd rfl (.inl rfl)) (fun _ _ _ _ _ => pts_nil)
        (fun _ _ _ _ _ => pe_call GD hr (by rfl) gD kD bD .nil pass0 (pa_cons (pv 0) (pa_cons pe_int pa_nil))))
    (pss_cons (ps_set (i := 5) scNames.nd rfl (.inl rfl) (pe_call GD hr (by rfl) gD kD bD .nil pass0 (pa_cons (pv 0) (pa_cons (pe_callB call_len_seq (by rfl) mn PySem.boot_len (pa_cons (pv 4) pa_nil)) pa_nil))))
    (pss_cons (ps_set (i := 6) scNames.nd rfl (.inl rfl) (pe_lst pa_nil))
    (pss_cons (ps_for PassesOwn.never rfl (pi_range1 (by rfl) mr (pa_cons (pv 1) pa_nil)) (pg_name (i := 3) scNames.nd rfl (.inl rfl))
      (pss_cons (ps_asg (pe_op op_mod (pe_op op_add (pe_ix ix_list (pv 4) (pv 5) (fun _ _ => rfl)) pe_int) pe_int) (pg_sub (pv 4) (pv 5) set_list))
      (pss_one (ps_expr (pe_bm PySem.F.plainAttrs_list PySem.F.slot_list_append PySem.F.type_list_append mt_append (pv 6) (pa_cons (pe_joinK K rfl pe_str
        (pe_lc (own := [("_law_sign", 7)]) (g := gName 7) (by rfl) scNames.nd (pi_list (pv 4)) (blkOk_by (own := [("_law_sign", 7)]) (N := nNames) (sc := defScope tNames) (by decide +kernel))
          (fun _ _ _ _ _ => pg_name (i := 7) scNames.nd rfl (.inl rfl)) (fun _ _ _ _ _ => pts_nil) (fun _ _ _ _ _ => pe_ix ix_str (pv 2) (pv 7) (fun _ _ => rfl)))) pa_nil))))))
    (pss_one (ps_ret (pv 6))))))), ?_⟩
  refine ⟨_, rfl, d, c, 8, rfl, dk, by decide, by decide, fun mm G1 mm0 mm1 kp1 dk1 => ⟨_, _, rfl, rfl, ?_⟩⟩
  refine ⟨1 + mm, rfl, by omega, by omega, fun D nD => ?_⟩
  have offD := dk1.off nD
  have hD : H D = none := kp1.free dk1 nD
  refine lc_range (lo := 0) (n := (1 + mm).toNat) (fun i G => Kp d c H G ∧ Dk G d c ∧ ∃ ks : List Nat, ks.length = i ∧ (∀ k ∈ ks, k < 26) ∧ G D = some (.lst (ks.map fun k : Nat => V.int (k : Int)))) ?_ (fun i G hi z => ?_) (fun G z => ?_)
  · exact ⟨kp1.mk hD, dk1.put offD.1 offD.2, [], rfl, fun k z => (nomatch z), upd_same⟩
  · obtain ⟨kpi, dki, ks, lk, hk, gD'⟩ := z
    refine ⟨rfl, _, rfl, d, c, 26, rfl, dki, by decide, by decide, fun r G2 r0 r1 kp2 dk2 => ?_⟩
    have er : r = ((r.toNat : Nat) : Int) := by omega
    refine ⟨_, kp2 D _ offD.1 offD.2 gD', ?_, (kpi.trans kp2).mk hD, dk2.put offD.1 offD.2, ks ++ [r.toNat], ?_, fun k hk' => ?_, ?_⟩
    · rw [List.length_map, lk]
      exact small1000 (by omega)
    · rw [List.length_append, lk]
      rfl
    · rcases List.mem_append.mp hk' with z | z
      · exact hk k z
      · rw [List.mem_singleton.mp z]
        omega
    · rw [upd_same, List.map_append]
      show _ = some (HO.lst (_ ++ [V.int ((r.toNat : Nat) : Int)]))
      rw [← er]
  obtain ⟨kpi, dki, ks, lk, hk, gD'⟩ := z
  refine ⟨_, rfl, _, rfl, D, _, rfl, .inl (SqL.of gD'), d, c, _, rfl, dki, by rw [List.length_map]; omega, by rw [List.length_map]; omega, fun r G2 r0 r1 kp2 dk2 => ?_⟩
  rw [List.length_map] at r1
  have gD2 := kp2 D _ offD.1 offD.2 gD'
  refine ⟨Nat.zero_le _, fun L nL => ?_⟩
  have offL := dk2.off nL
  have LD : L ≠ D := (ne_of_none gD2 nL).symm
  have kpa := kpi.trans kp2
  have hL : H L = none := kpa.free dk2 nL
  have er : r = ((r.toNat : Nat) : Int) := by omega
  have lr : r.toNat < ks.length := by omega
  have l8 : ks.length ≤ 8 := by omega
  refine ⟨_, rfl, m, rfl, by omega, by omega, ?_⟩
  refine for_range (lo := 0) (n := m.toNat) (fun i σ G => (∃ y3, σ = [some (.ref d), some (.int m), some (.str lets), y3, some (.ref D), some (.int r), some (.ref L), none]) ∧ Kp d c H G ∧ Dk G d c ∧
      G D = some (.lst ((ks.set r.toNat ((ks.getD r.toNat 0 + i) % 26)).map fun k : Nat => V.int (k : Int))) ∧ G L = some (.lst (((List.range i).map (nmAt ks r.toNat)).map V.str))) ?_ (fun i σ G hi z => ?_) (fun σ G z => ?_)
  · refine ⟨⟨none, rfl⟩, kpa.mk hL, dk2.put offL.1 offL.2, ?_, upd_same⟩
    rw [upd_ne LD.symm, gD2]
    have h26 : (ks.getD r.toNat 0 + 0) % 26 = ks[r.toNat] := by
      have e1 : ks.getD r.toNat 0 = ks[r.toNat] := by simp [List.getD, List.getElem?_eq_getElem lr]
      have := hk _ (List.getElem_mem lr)
      rw [e1]
      omega
    rw [h26, List.set_getElem_self]
  · obtain ⟨⟨y3, rfl⟩, kpG, dkG, gDG, gLG⟩ := z
    generalize hks : ks.set r.toNat ((ks.getD r.toNat 0 + i) % 26) = ki at gDG
    have lki : ki.length = ks.length := by rw [← hks, List.length_set]
    have kat : ki[r.toNat]? = some ((ks.getD r.toNat 0 + i) % 26) := by rw [← hks, List.getElem?_set_self lr]
    have gat : atI (ki.map fun k : Nat => V.int (k : Int)) r = some (V.int (((ks.getD r.toNat 0 + i) % 26 : Nat) : Int)) := by
      have z := atI_nat (xs := ki.map fun k : Nat => V.int (k : Int)) (j := r.toNat) (v := V.int (((ks.getD r.toNat 0 + i) % 26 : Nat) : Int)) (by rw [List.getElem?_map, kat]; rfl)
      rw [← er] at z
      exact z
    have ix : ixN (ki.map fun k : Nat => V.int (k : Int)).length r = some r.toNat := by
      have z := ixNat (n := (ki.map fun k : Nat => V.int (k : Int)).length) (j := r.toNat) (by rw [List.length_map, lki]; exact lr)
      rw [← er] at z
      exact z
    refine ⟨_, rfl, _, rfl, D, _, _, _, rfl, rfl, SqL.of gDG, gat, _, _, rfl, rfl, _, _, rfl, rfl, (by show (0 : Int) < 26; decide), _, rfl, _, rfl, D, _, _, r.toNat, rfl, rfl, gDG, ix, ?_⟩
    have ev : (V.int ((((ks.getD r.toNat 0 + i) % 26 : Nat) : Int) + 1) = V.int ((((ks.getD r.toNat 0 + i) % 26 : Nat) : Int) + 1)) := rfl
    have en : ((((ks.getD r.toNat 0 + i) % 26 : Nat) : Int) + 1) % 26 = (((ks.getD r.toNat 0 + i + 1) % 26 : Nat) : Int) := by omega
    have eset : (ki.map fun k : Nat => V.int (k : Int)).set r.toNat (V.int (((((ks.getD r.toNat 0 + i) % 26 : Nat) : Int) + 1) % 26)) = (ks.set r.toNat ((ks.getD r.toNat 0 + i + 1) % 26)).map fun k : Nat => V.int (k : Int) := by
      rw [en, ← hks, ← List.map_set (f := fun k : Nat => V.int (k : Int)), List.set_set]
    rw [eset]
    generalize hk2 : ks.set r.toNat ((ks.getD r.toNat 0 + i + 1) % 26) = k2
    have lk2 : k2.length = ks.length := by rw [← hk2, List.length_set]
    have hk26 : ∀ k ∈ k2, k < 26 := fun k hk' => by
      rw [← hk2] at hk'
      rcases List.mem_or_eq_of_mem_set hk' with z | z
      · exact hk k z
      · rw [z]
        exact Nat.mod_lt _ (by decide)
    have gL2 : (upd G D (.lst (k2.map fun k : Nat => V.int (k : Int)))) L = some (.lst (((List.range i).map (nmAt ks r.toNat)).map V.str)) := by rw [upd_ne LD]; exact gLG
    have gDn : (upd G D (.lst (k2.map fun k : Nat => V.int (k : Int)))) D = some (.lst (k2.map fun k : Nat => V.int (k : Int))) := upd_same
    have kp3 : Kp d c H (upd G D (.lst (k2.map fun k : Nat => V.int (k : Int)))) := kpG.mk hD
    have dk3 := dkG.put (o := .lst (k2.map fun k : Nat => V.int (k : Int))) offD.1 offD.2
    generalize upd G D (.lst (k2.map fun k : Nat => V.int (k : Int))) = G3 at gL2 gDn kp3 dk3
    refine ⟨_, rfl, .inl ⟨rfl, _, SqL.of gL2⟩, ⟨_, rfl⟩, _, rfl, D, rfl, ⟨_, SqL.of gDn⟩, fun J nJ => ?_⟩
    have JD : D ≠ J := ne_of_none gDn nJ
    have JL : L ≠ J := ne_of_none gL2 nJ
    have offJ := dk3.off nJ
    have hJ : H J = none := kp3.free dk3 nJ
    refine lc_list (xs := k2.map fun k : Nat => V.int (k : Int)) (fun i G => Same G3 G ∧ G J = some (.lst (((k2.take i).map sg).map V.str))) ⟨newS nJ, upd_same⟩ (fun i G _ z => SqL.of (z.1 _ _ gDn)) (fun i' x G hx z => ?_) (fun G z => ?_)
    · obtain ⟨sG, gJ⟩ := z
      rw [List.getElem?_map] at hx
      cases hu : k2[i']? with
      | none => rw [hu] at hx; cases hx
      | some kk =>
        rw [hu] at hx
        have ex : V.int (kk : Int) = x := Option.some.inj hx
        subst ex
        have hkk := hk26 kk (List.mem_of_getElem? hu)
        have li : i' < k2.length := (List.getElem?_eq_some_iff.mp hu).1
        have tk : k2.take (i' + 1) = k2.take i' ++ [kk] := by rw [List.take_add_one, hu]; rfl
        have lg := lets_get (r := ((kk : Nat) : Int)) (by omega) (by omega)
        rw [Int.toNat_natCast] at lg
        refine ⟨rfl, _, rfl, _, rfl, lets, _, _, rfl, rfl, lets_len, lg, _, gJ, ?_, smk sG nJ, ?_⟩
        · rw [List.length_map, List.length_map, List.length_take]
          exact small1000 (by omega)
        · rw [upd_same, tk, List.map_append, List.map_append]
          rfl
    · obtain ⟨sG, gJ⟩ := z
      rw [List.length_map, List.take_length] at gJ
      refine ⟨_, J, k2.map sg, rfl, rfl, .inl (SqL.of gJ), ?_, L, _, _, rfl, rfl, sG _ _ gL2, ?_, ?_⟩
      · rw [sg_len, List.length_map]
        show k2.length + k2.length * 0 ≤ _
        omega
      · rw [List.length_map, List.length_map, List.length_range]
        exact small1000 (by omega)
      · refine ⟨⟨_, rfl⟩, (kp3.trans (Kp.of sG)).mk hL, (dk3.same sG).put offL.1 offL.2, ?_, ?_⟩
        · rw [upd_ne LD.symm]
          exact sG _ _ gDn
        · rw [upd_same, List.range_succ, List.map_append, List.map_append]
          show _ = some (HO.lst (_ ++ [V.str (Txt.join (Str.ofString "") ((ks.set r.toNat ((ks.getD r.toNat 0 + i + 1) % 26)).map sg))]))
          rw [hk2]
  · obtain ⟨⟨y3, rfl⟩, kpG, dkG, gDG, gLG⟩ := z
    refine ⟨_, rfl, q L _ G kpG dkG hL gLG (by rw [List.length_map, List.length_range]) (fun x hx => ?_) (nodupR _ fun i j hi hj e => nmAt_inj lr (by omega) (by omega) e) ⟨ks.length, fun x hx => ?_⟩⟩
    rotate_left
    · obtain ⟨j, _, rfl⟩ := List.mem_map.mp hx
      unfold nmAt
      rw [join_cps, List.length_map, List.length_set]
    obtain ⟨j, _, rfl⟩ := List.mem_map.mp hx
    refine join_nm (fun k hk' => ?_) (by rw [List.length_set]; omega) (by rw [List.length_set]; omega)
    rcases List.mem_or_eq_of_mem_set hk' with z | z
    · exact hk k z
    · rw [z]
      exact Nat.mod_lt _ (by decide)
/-! _law_pick -/
theorem scPick : FnScope ["_law_deck_here", "_law_some"] ["_law_deck_here", "_law_some"] (defScope tPick) := ⟨rfl, rfl, rfl, by decide +kernel, rfl, by decide +kernel, by decide +kernel⟩
abbrev psPick : List Str := ["_law_deck_here", "_law_some"]
def spPick : Sp := fun vs H Q _ => ∃ (d c a : Addr) (us : List V), vs = [.ref d, .ref a] ∧ Dk H d c ∧ H a = some (.lst us) ∧ a ≠ d ∧ a ≠ c ∧ 1 ≤ us.length ∧ us.length ≤ 100 ∧ ∀ (v : V) (G : Hp), Kp d c H G → Dk G d c → v ∈ us → Q v G
theorem okPick {f fD : Addr} {fd fdD : FuncData} {k : Nat} (F : Fun K "_law_pick" "_law_pick" tPick f fd) (GD : FnOk P w K mg base CX0 (k + 1) fD fdD ["_law_deck_here", "_law_most"] spDraw) (bD : Binds K fdD ["_law_deck_here", "_law_most"] []) (gD : mg "_law_draw" = some (.ref fD)) (kD : PySem.W.keepIn K (.ref fD) = true)
    (mn : mg "len" = none) : FnOk P w K mg base CX0 (k + 2) f fd psPick spPick := by
  refine F.ok scPick (fun vs H Q E h => ?_) (fun cdv A outer s H vs Q E hr h => ?_)
  · obtain ⟨d, c, a, us, rfl, _⟩ := h
    rfl
  obtain ⟨d, c, a, us, rfl, dk, ha, ad, ac, l1, l2, q⟩ := h
  refine ⟨_, pss_one (ps_ret (pe_ix ix_list (pv 1) (pe_call GD hr (by rfl) gD kD bD .nil pass0 (pa_cons (pv 0) (pa_cons (pe_callB call_len_seq (by rfl) mn PySem.boot_len (pa_cons (pv 1) pa_nil)) pa_nil))) (fun _ _ => rfl))), ?_⟩
  refine ⟨_, rfl, _, rfl, _, rfl, a, _, rfl, .inl (SqL.of ha), d, c, _, rfl, dk, by omega, by omega, fun r G r0 r1 kp dk2 => ?_⟩
  have lr : r.toNat < us.length := by omega
  have er : r = ((r.toNat : Nat) : Int) := by omega
  have gat : atI us r = some us[r.toNat] := by
    have z := atI_nat (xs := us) (j := r.toNat) (List.getElem?_eq_getElem lr)
    rw [← er] at z
    exact z
  exact ⟨a, _, _, _, rfl, rfl, SqL.of (kp a _ ad ac ha), gat, q _ G kp dk2 (List.getElem_mem lr)⟩
end
end Kq

/-! kinds drawn -/
namespace Kq
open PySem PySem.Spec PyProof.Rows L2 Kf Kg Kv Kk
def Rp0 (H : Hp) : Kd → V → Prop
  | .opn x, v => ∃ a, v = .ref a ∧ H a = some (.tup [.str "open", .str x])
  | .num, v => ∃ a, v = .ref a ∧ H a = some (.tup [.str "num"])
  | .tru, v => ∃ a, v = .ref a ∧ H a = some (.tup [.str "truth"])
  | .pair s t, v => ∃ a x y, v = .ref a ∧ H a = some (.tup [.str "pair", x, y]) ∧ Rp0 H s x ∧ Rp0 H t y
  | .eith s t, v => ∃ a x y, v = .ref a ∧ H a = some (.tup [.str "either", x, y]) ∧ Rp0 H s x ∧ Rp0 H t y
  | .lst s, v => ∃ a x, v = .ref a ∧ H a = some (.tup [.str "list", x]) ∧ Rp0 H s x
  | .fn s t, v => ∃ a x y, v = .ref a ∧ H a = some (.tup [.str "fun", x, y]) ∧ Rp0 H s x ∧ Rp0 H t y
def RpL0 (H : Hp) : List Kd → List V → Prop
  | [], [] => True
  | t :: ts, v :: vs => Rp0 H t v ∧ RpL0 H ts vs
  | _, _ => False
theorem Rp0.tk {H G : Hp} (k : Tk H G) : ∀ {t : Kd} {v : V}, Rp0 H t v → Rp0 G t v := by
  intro t
  induction t with
  | opn x => exact fun ⟨a, e, h⟩ => ⟨a, e, k _ _ h⟩
  | num => exact fun ⟨a, e, h⟩ => ⟨a, e, k _ _ h⟩
  | tru => exact fun ⟨a, e, h⟩ => ⟨a, e, k _ _ h⟩
  | pair s t i j => exact fun ⟨a, x, y, e, h, p, q⟩ => ⟨a, x, y, e, k _ _ h, i p, j q⟩
  | eith s t i j => exact fun ⟨a, x, y, e, h, p, q⟩ => ⟨a, x, y, e, k _ _ h, i p, j q⟩
  | lst s i => exact fun ⟨a, x, e, h, p⟩ => ⟨a, x, e, k _ _ h, i p⟩
  | fn s t i j => exact fun ⟨a, x, y, e, h, p, q⟩ => ⟨a, x, y, e, k _ _ h, i p, j q⟩
theorem rp0_rp {K : PySem.W.Frag} {H : Hp} : ∀ {t : Kd} {v : V}, Rp0 H t v → Rp K H t v := by
  intro t
  induction t with
  | opn x => exact fun ⟨a, e, h⟩ => ⟨a, e, .inl h⟩
  | num => exact fun ⟨a, e, h⟩ => ⟨a, e, .inl h⟩
  | tru => exact fun ⟨a, e, h⟩ => ⟨a, e, .inl h⟩
  | pair s t i j => exact fun ⟨a, x, y, e, h, p, q⟩ => ⟨a, x, y, e, .inl h, i p, j q⟩
  | eith s t i j => exact fun ⟨a, x, y, e, h, p, q⟩ => ⟨a, x, y, e, .inl h, i p, j q⟩
  | lst s i => exact fun ⟨a, x, e, h, p⟩ => ⟨a, x, e, .inl h, i p⟩
  | fn s t i j => exact fun ⟨a, x, y, e, h, p, q⟩ => ⟨a, x, y, e, .inl h, i p, j q⟩
theorem RpL0.tk {H G : Hp} (k : Tk H G) : ∀ {ts : List Kd} {vs : List V}, RpL0 H ts vs → RpL0 G ts vs
  | [], [], _ => trivial
  | _ :: _, _ :: _, h => ⟨h.1.tk k, RpL0.tk k h.2⟩
  | [], _ :: _, h => h.elim
  | _ :: _, [], h => h.elim
theorem RpL0.len {H : Hp} : ∀ {ts : List Kd} {vs : List V}, RpL0 H ts vs → ts.length = vs.length
  | [], [], _ => rfl
  | _ :: _, _ :: _, h => congrArg (· + 1) (RpL0.len h.2)
  | [], _ :: _, h => h.elim
  | _ :: _, [], h => h.elim
theorem RpL0.app {H : Hp} : ∀ {ts us : List Kd} {vs ws : List V}, RpL0 H ts vs → RpL0 H us ws → RpL0 H (ts ++ us) (vs ++ ws)
  | [], _, [], _, _, h => h
  | _ :: _, _, _ :: _, _, h, k => ⟨h.1, RpL0.app h.2 k⟩
  | [], _, _ :: _, _, h, _ => h.elim
  | _ :: _, _, [], _, h, _ => h.elim
theorem RpL0.get {H : Hp} : ∀ {ts : List Kd} {vs : List V} {i : Nat} {v : V}, RpL0 H ts vs → vs[i]? = some v → ∃ t, ts[i]? = some t ∧ Rp0 H t v
  | [], [], i, v, _, e => by simp at e
  | t :: _, w :: _, 0, v, h, e => ⟨t, rfl, by rw [← show w = v from Option.some.inj e]; exact h.1⟩
  | _ :: ts, _ :: vs, i + 1, v, h, e => RpL0.get (ts := ts) (vs := vs) (i := i) h.2 e
  | [], _ :: _, _, _, h, _ => h.elim
  | _ :: _, [], _, _, h, _ => h.elim
theorem RpL0.last {H : Hp} : ∀ {ts : List Kd} {vs : List V}, RpL0 H ts vs → vs ≠ [] → ∃ us u ws w, ts = us ++ [u] ∧ vs = ws ++ [w] ∧ RpL0 H us ws ∧ Rp0 H u w
  | [t], [v], h, _ => ⟨[], t, [], v, rfl, rfl, trivial, h.1⟩
  | t :: t' :: ts, v :: v' :: vs, h, _ => by
    obtain ⟨us, u, ws, w, e1, e2, k, r⟩ := RpL0.last (ts := t' :: ts) (vs := v' :: vs) h.2 (by simp)
    exact ⟨t :: us, u, v :: ws, w, by rw [e1]; rfl, by rw [e2]; rfl, ⟨h.1, k⟩, r⟩
  | [], [], _, n => absurd rfl n
  | [], _ :: _, h, _ => h.elim
  | _ :: _, [], h, _ => h.elim
  | [_], _ :: _ :: _, h, _ => h.2.elim
  | _ :: _ :: _, [_], h, _ => h.2.elim
/-- the tuple at v: the word, and the rest -/
theorem Rp0.see {H : Hp} {t : Kd} {v : V} (h : Rp0 H t v) : ∃ a vs, v = .ref a ∧ H a = some (.tup (.str t.word :: vs)) ∧ ((t.isOp = false ∧ RpL0 H t.kids vs) ∨ ∃ x, t = .opn x ∧ vs = [.str x]) := by
  cases t with
  | opn x =>
    obtain ⟨a, e, g⟩ := h
    exact ⟨a, _, e, g, .inr ⟨x, rfl, rfl⟩⟩
  | num =>
    obtain ⟨a, e, g⟩ := h
    exact ⟨a, [], e, g, .inl ⟨rfl, trivial⟩⟩
  | tru =>
    obtain ⟨a, e, g⟩ := h
    exact ⟨a, [], e, g, .inl ⟨rfl, trivial⟩⟩
  | pair s t =>
    obtain ⟨a, x, y, e, g, p, q⟩ := h
    exact ⟨a, _, e, g, .inl ⟨rfl, p, q, trivial⟩⟩
  | eith s t =>
    obtain ⟨a, x, y, e, g, p, q⟩ := h
    exact ⟨a, _, e, g, .inl ⟨rfl, p, q, trivial⟩⟩
  | lst s =>
    obtain ⟨a, x, e, g, p⟩ := h
    exact ⟨a, _, e, g, .inl ⟨rfl, p, trivial⟩⟩
  | fn s t =>
    obtain ⟨a, x, y, e, g, p, q⟩ := h
    exact ⟨a, _, e, g, .inl ⟨rfl, p, q, trivial⟩⟩
def sb : Nat → Nat
  | 0 => 1
  | n + 1 => 2 * sb n + 1
theorem sb_pos (n : Nat) : 1 ≤ sb n := by
  cases n with
  | zero => exact Nat.le_refl _
  | succ n =>
    show 1 ≤ 2 * sb n + 1
    omega
def Kd.isDat : Kd → Bool
  | fn _ _ => false
  | pair a b => a.isDat && b.isDat
  | eith a b => a.isDat && b.isDat
  | lst a => a.isDat
  | _ => true
structure Dta (g : Nat) (xs : List Str) (t : Kd) : Prop where
  da : t.isDat = true
  dp : t.dp ≤ g
  sz : t.size ≤ sb g
  op : ∀ x ∈ t.opens, x ∈ xs
abbrev tLData : Stmt := tp 85
abbrev psLData : List Str := ["_law_deck_here", "_law_opens_here", "_law_deep", "_law_small"]
abbrev nLData : List Str := ["_law_deck_here", "_law_opens_here", "_law_deep", "_law_small", "_law_way", "_law_first"]
namespace Kd
theorem size2 (a b : Kd) : (pair a b).size = a.size + b.size + 1 ∧ (eith a b).size = a.size + b.size + 1 ∧ (lst a).size = a.size + 1 := by
  refine ⟨?_, ?_, rfl⟩
  · show (a.nodes ++ b.nodes).length + 1 = _
    rw [List.length_append]
    rfl
  · show (a.nodes ++ b.nodes).length + 1 = _
    rw [List.length_append]
    rfl
end Kd
section
variable {P : Program} {w : World} {K : PySem.W.Frag} {mg : Str → Option Value} {base : Heap}
theorem scLData : FnScope nLData psLData (defScope tLData) := ⟨rfl, rfl, rfl, by decide +kernel, rfl, by decide +kernel, by decide +kernel⟩
def spLData (n : Nat) : Sp := fun vs H Q _ => ∃ (d c o : Addr) (xs : List Str) (g : Nat) (b : Bool), vs = [.ref d, .ref o, .int (g : Int), .bl b] ∧ g + 1 ≤ n ∧ Dk H d c ∧ H o = some (.lst (xs.map V.str)) ∧ o ≠ d ∧ o ≠ c ∧ xs.length ≤ 26 ∧ (∀ x ∈ xs, Nm x) ∧
  ∀ (v : V) (t : Kd) (G : Hp), Kp d c H G → Dk G d c → Rp0 G t v → Dta g xs t → Q v G
theorem okLData1 {f fD fP : Addr} {fd fdD fdP : FuncData} {n : Nat} (F : Fun K "_law_data" "_law_data" tLData f fd) (bF : Binds K fd psLData []) (gF : mg "_law_data" = some (.ref f))
    (GD : FnOk P w K mg base CX0 (n + 2) fD fdD ["_law_deck_here", "_law_most"] spDraw) (bD : Binds K fdD ["_law_deck_here", "_law_most"] []) (gD : mg "_law_draw" = some (.ref fD)) (kD : PySem.W.keepIn K (.ref fD) = true)
    (GP : FnOk P w K mg base CX0 (n + 2) fP fdP psPick spPick) (bP : Binds K fdP psPick []) (gP : mg "_law_pick" = some (.ref fP)) (kP : PySem.W.keepIn K (.ref fP) = true) (mi : mg "int" = none)
    (GI : FnOk P w K mg base CX0 (n + 2) f fd psLData (spLData n)) : FnOk P w K mg base CX0 (n + 3) f fd psLData (spLData (n + 1)) := by
  refine F.ok scLData (fun vs H Q E h => ?_) (fun cdv A outer s H vs Q E hr h => ?_)
  · obtain ⟨d, c, o, xs, g, b, rfl, _⟩ := h
    rfl
  obtain ⟨d, c, o, xs, g, b, rfl, hg, dk, ho, od, oc, lx, hx, q⟩ := h
  refine ⟨_, pss_cons (ps_set (i := 4) scLData.nd rfl (.inl rfl) (pe_call GD hr (by rfl) gD kD bD .nil pass0 (pa_cons (pv 0) (pa_cons (pe_ix ix_list (pe_lst (pa_cons pe_int (pa_cons pe_int pa_nil))) (pe_callTy call_int1 (by rfl) mi (by decide +kernel) (pa_cons (pv 3) pa_nil)) (fun _ _ => rfl)) pa_nil))))
    (C8.pss_cut (ps_if (PW.pt (pw_and (pt_cmpR op_lt (pv 4) pe_int (nomark _)) (pw_and1 (pt_cmpR (op_neD hr.units) (pv 1) (pe_lst pa_nil) (nomark _)))))
      (pss_one (ps_ret (pe_tup (pa_cons pe_str (pa_cons (pe_call GP hr (by rfl) gP kP bP .nil pass0 (pa_cons (pv 0) (pa_cons (pv 1) pa_nil))) pa_nil))))) pss_nil)
    (pss_cons (ps_if (PW.pt (pw_or (pt_cmpR op_eq (pv 2) pe_int (nomark _)) (pw_or1 (pt_cmpR op_lt (pv 4) pe_int (nomark _)))))
      (pss_one (ps_ret (pe_call GP hr (by rfl) gP kP bP .nil pass0 (pa_cons (pv 0) (pa_cons (pe_lst (pa_cons (pe_tup (pa_cons pe_str pa_nil)) (pa_cons (pe_ix ix_list (pe_lst (pa_cons (pe_tup (pa_cons pe_str pa_nil)) (pa_cons (pe_tup (pa_cons pe_str pa_nil)) pa_nil))) (pe_callTy call_int1 (by rfl) mi (by decide +kernel) (pa_cons (pv 3) pa_nil)) (fun _ _ => rfl)) pa_nil))) pa_nil))))) pss_nil)
    (pss_cons (ps_if (pt_cmpR op_gt (pv 4) pe_int (nomark _))
      (pss_one (ps_ret (pe_tup (pa_cons pe_str (pa_cons (pe_call GI hr (by rfl) gF F.kp bF .nil pass0 (pa_cons (pv 0) (pa_cons (pv 1) (pa_cons (pe_op op_sub (pv 2) pe_int) (pa_cons (pv 3) pa_nil))))) pa_nil))))) pss_nil)
    (pss_cons (ps_set (i := 5) scLData.nd rfl (.inl rfl) (pe_call GI hr (by rfl) gF F.kp bF .nil pass0 (pa_cons (pv 0) (pa_cons (pv 1) (pa_cons (pe_op op_sub (pv 2) pe_int) (pa_cons (pv 3) pa_nil))))))
    (pss_one (ps_ret (pe_tup (pa_cons (pe_ix ix_list (pe_lst (pa_cons pe_str (pa_cons pe_str pa_nil))) (pe_op op_sub (pv 4) pe_int) (fun _ _ => rfl)) (pa_cons (pv 5) (pa_cons (pe_call GI hr (by rfl) gF F.kp bF .nil pass0 (pa_cons (pv 0) (pa_cons (pv 1) (pa_cons (pe_op op_sub (pv 2) pe_int) (pa_cons (pv 3) pa_nil))))) pa_nil)))))))))), ?_⟩
  obtain ⟨mm, em, mm0, mm1⟩ : ∃ mm : Int, atI [V.int 10, V.int 8] (if b then (1 : Int) else 0) = some (.int mm) ∧ 0 < mm ∧ mm < 1000 := by
    cases b
    · exact ⟨10, rfl, by decide, by decide⟩
    · exact ⟨8, rfl, by decide, by decide⟩
  refine ⟨_, rfl, (by show 2 ≤ sizeLine; decide), fun l0 nl0 => ⟨_, rfl, .inr ⟨b, rfl, l0, _, _, _, rfl, rfl, SqL.of upd_same, em, d, c, mm, rfl, dk.same (newS nl0), mm0, Int.lt_trans mm1 (by decide), fun way G1 w0 w1 kp1' dk1 => ?_⟩⟩⟩
  have kp1 : Kp d c H G1 := (Kp.of (newS nl0)).trans kp1'
  have ho1 := kp1 o _ od oc ho
  refine ⟨fun σ G => σ = [some (.ref d), some (.ref o), some (.int g), some (.bl b), some (.int way), none] ∧ Kp d c H G ∧ Dk G d c ∧ G o = some (.lst (xs.map V.str)), ?_, ?b2⟩
  refine ⟨_, rfl, _, _, rfl, rfl, _, rfl, ?_⟩
  refine ite2 (fun _ => ⟨_, rfl, Nat.zero_le _, fun e ne => ⟨.list (xs.map PyData.str), .list [], .lst (SqL.of (newS ne _ _ ho1)) (dpStrs K _ xs), .lst (SqL.of upd_same) .nil, shStrs hx, rfl, _, rfl, ite2 (fun c1 => ?b1) (fun _ => ⟨rfl, kp1.trans (Kp.of (newS ne)), dk1.same (newS ne), newS ne _ _ ho1⟩)⟩⟩) (fun _ => iteF ⟨rfl, kp1, dk1, ho1⟩)
  case b1 =>
    have ho2 := newS (o := .lst []) ne _ _ ho1
    have dk2 := dk1.same (newS (o := .lst []) ne)
    have kp2 : Kp d c H (upd G1 e (.lst [])) := kp1.trans (Kp.of (newS ne))
    rw [eqvNil] at c1
    have l0 : 0 < xs.length := by
      cases xs with
      | nil => cases c1
      | cons x r => exact Nat.succ_pos _
    refine ⟨_, rfl, _, rfl, d, c, o, _, rfl, dk2, ho2, od, oc, by rw [List.length_map]; omega, by rw [List.length_map]; omega, fun v G3 kp3 dk3 hv => ?_⟩
    obtain ⟨x, hxm, rfl⟩ := List.mem_map.mp hv
    refine ⟨(by show 2 ≤ sizeLine; decide), fun p np => ?_⟩
    refine q (.ref p) (.opn x) _ ((kp2.trans kp3).trans (Kp.of (newS np))) (dk3.same (newS np)) ⟨p, rfl, upd_same⟩ ⟨rfl, Nat.zero_le _, sb_pos g, fun y hy => ?_⟩
    rw [List.mem_singleton.mp hy]
    exact hxm
  case b2 =>
    rintro σ G ⟨rfl, kp, dkG, hoG⟩
    refine ⟨_, rfl, rfl, _, rfl, (fun h3 => ite2 (fun _ => iteT h3) (fun hdeep => ⟨_, rfl, _, _, rfl, rfl, _, rfl, ite2 (fun _ => h3) (fun hw6 => ?deep)⟩)) ?leaf⟩
    case leaf =>
      refine ⟨_, rfl, (by show 1 ≤ sizeLine; decide), fun p1 n1 => ⟨(by show 1 ≤ sizeLine; decide), fun p2 n2 => ⟨(by show 1 ≤ sizeLine; decide), fun p3 n3 => ⟨(by show 2 ≤ sizeLine; decide), fun l1 nl1 => ?_⟩⟩⟩⟩
      have s1 := newS (o := .tup [.str "truth"]) n1
      have s2 := newS (o := .tup [.str "num"]) n2
      have s3 := newS (o := .tup [.str "truth"]) n3
      have s4 := newS (o := .lst [V.ref p2, .ref p3]) nl1
      have s14 := s1.trans (s2.trans (s3.trans s4))
      have g1 := s4 _ _ (s3 _ _ (s2 p1 _ upd_same))
      have g2 := s4 _ _ (s3 p2 _ upd_same)
      have g3 := s4 p3 _ upd_same
      obtain ⟨v, ev, tv, rvv, dtv⟩ : ∃ v, atI [V.ref p2, V.ref p3] (if b then (1 : Int) else 0) = some v ∧ ∃ t, Rp0 (upd (upd (upd (upd G p1 (.tup [.str "truth"])) p2 (.tup [.str "num"])) p3 (.tup [.str "truth"])) l1 (.lst [V.ref p2, .ref p3])) t v ∧ (t = .num ∨ t = .tru) := by
        cases b
        · exact ⟨.ref p2, rfl, .num, ⟨p2, rfl, g2⟩, .inl rfl⟩
        · exact ⟨.ref p3, rfl, .tru, ⟨p3, rfl, g3⟩, .inr rfl⟩
      refine ⟨_, rfl, .inr ⟨b, rfl, l1, _, _, v, rfl, rfl, SqL.of upd_same, ev, (by show 2 ≤ sizeLine; decide), fun l2 nl2 => ?_⟩⟩
      have s5 := newS (o := .lst [V.ref p1, v]) nl2
      have off := (dkG.same s14).off nl2
      refine ⟨d, c, l2, _, rfl, dkG.same (s14.trans s5), upd_same, off.1, off.2, by show 1 ≤ 2; decide, by show 2 ≤ 100; decide, fun u G3 kp3 dk3 hu => ?_⟩
      have kpf := (kp.trans (Kp.of (s14.trans s5))).trans kp3
      have tk := (Tk.of s5).trans (Tk.kp kp3 (dkG.same (s14.trans s5)))
      rcases List.mem_cons.mp hu with e | hu
      · rw [e]
        exact q _ .tru _ kpf dk3 ⟨p1, rfl, tk _ _ g1⟩ ⟨rfl, Nat.zero_le _, sb_pos g, fun x z => (nomatch z)⟩
      · rw [List.mem_singleton.mp hu]
        rcases dtv with e | e
        · rw [e] at rvv
          exact q _ .num _ kpf dk3 (rvv.tk tk) ⟨rfl, Nat.zero_le _, sb_pos g, fun x z => (nomatch z)⟩
        · rw [e] at rvv
          exact q _ .tru _ kpf dk3 (rvv.tk tk) ⟨rfl, Nat.zero_le _, sb_pos g, fun x z => (nomatch z)⟩
    case deep =>
      obtain ⟨j, rfl⟩ : ∃ j, g = j + 1 := by
        cases g with
        | zero => exact absurd (decide_eq_true rfl) hdeep
        | succ j => exact ⟨j, rfl⟩
      have ej : ((j + 1 : Nat) : Int) - 1 = ((j : Nat) : Int) := by omega
      have eL : [V.ref d, V.ref o, V.int (((j + 1 : Nat) : Int) - 1), V.bl b] = [V.ref d, V.ref o, V.int ((j : Nat) : Int), V.bl b] := by rw [ej]
      have w6 : ¬ way < 6 := fun z => hw6 (decide_eq_true z)
      refine ⟨_, rfl, _, _, rfl, rfl, _, rfl, ite2 (fun _ => ?_) (fun hw7 => ?_)⟩
      · refine ⟨_, rfl, _, rfl, _, rfl, _, _, rfl, rfl, _, rfl, d, c, o, xs, j, b, eL, by omega, dkG, hoG, od, oc, lx, hx, fun va a G3 kp3 dk3 ra da => ?_⟩
        refine ⟨(by show 2 ≤ sizeLine; decide), fun p np => ?_⟩
        have s := newS (o := .tup [.str "list", va]) np
        refine q _ (.lst a) _ ((kp.trans kp3).trans (Kp.of s)) (dk3.same s) ⟨p, va, rfl, upd_same, ra.tk (Tk.of s)⟩ ⟨da.da, ?_, ?_, da.op⟩
        · have := da.dp
          show a.dp + 1 ≤ j + 1
          omega
        · have := da.sz
          rw [(Kd.size2 a a).2.2]
          show _ ≤ 2 * sb j + 1
          omega
      · have w7 : ¬ 7 < way := fun z => hw7 (decide_eq_true z)
        obtain ⟨wd, mk, ew, m0, m1, m2, m3, m4⟩ : ∃ (wd : Str) (mk : Kd → Kd → Kd), atI [V.str "pair", V.str "either"] (way - 6) = some (.str wd) ∧ (∀ a b F x y pp, F pp = some (.tup [.str wd, x, y]) → Rp0 F a x → Rp0 F b y → Rp0 F (mk a b) (.ref pp)) ∧
            (∀ a b, a.isDat = true → b.isDat = true → (mk a b).isDat = true) ∧ (∀ a b, (mk a b).dp = max a.dp b.dp + 1) ∧ (∀ a b, (mk a b).size = a.size + b.size + 1) ∧ (∀ a b, (mk a b).opens = a.opens ++ b.opens) := by
          have er : way = 6 ∨ way = 7 := by omega
          rcases er with rfl | rfl
          · exact ⟨"pair", .pair, rfl, fun a b F x y pp h1 h2 h3 => ⟨pp, x, y, rfl, h1, h2, h3⟩, fun _ _ h g => Bool.and_eq_true_iff.mpr ⟨h, g⟩, fun _ _ => rfl, fun a b => (Kd.size2 a b).1, fun _ _ => rfl⟩
          · exact ⟨"either", .eith, rfl, fun a b F x y pp h1 h2 h3 => ⟨pp, x, y, rfl, h1, h2, h3⟩, fun _ _ h g => Bool.and_eq_true_iff.mpr ⟨h, g⟩, fun _ _ => rfl, fun a b => (Kd.size2 a b).2.1, fun _ _ => rfl⟩
        refine ⟨_, rfl, _, rfl, _, rfl, _, _, rfl, rfl, _, rfl, d, c, o, xs, j, b, eL, by omega, dkG, hoG, od, oc, lx, hx, fun va a G3 kp3 dk3 ra da => ?_⟩
        refine ⟨(by show 2 ≤ sizeLine; decide), fun l nl => ⟨_, rfl, _, _, rfl, rfl, l, _, _, _, rfl, rfl, SqL.of upd_same, ew, ?_⟩⟩
        have sl := newS (o := .lst [V.str "pair", V.str "either"]) nl
        have ho3 := kp3 o _ od oc hoG
        refine ⟨_, rfl, _, rfl, _, rfl, _, rfl, _, _, rfl, rfl, _, rfl, d, c, o, xs, j, b, eL, by omega, dk3.same sl, sl _ _ ho3, od, oc, lx, hx, fun vb b' G4 kp4 dk4 rb db => ?_⟩
        refine ⟨(by show 3 ≤ sizeLine; decide), fun p np => ?_⟩
        have s := newS (o := .tup [.str wd, va, vb]) np
        refine q _ (mk a b') _ ((((kp.trans kp3).trans (Kp.of sl)).trans kp4).trans (Kp.of s)) (dk4.same s) (m0 a b' _ _ _ p upd_same (((ra.tk (Tk.of sl)).tk (Tk.kp kp4 (dk3.same sl))).tk (Tk.of s)) (rb.tk (Tk.of s))) ⟨m1 a b' da.da db.da, ?_, ?_, fun x hx' => ?_⟩
        · have := da.dp
          have := db.dp
          rw [m2]
          omega
        · have := da.sz
          have := db.sz
          rw [m3]
          show _ ≤ 2 * sb j + 1
          omega
        · rw [m4] at hx'
          rcases List.mem_append.mp hx' with z | z
          · exact da.op x z
          · exact db.op x z
theorem okLData {f fD fP : Addr} {fd fdD fdP : FuncData} (F : Fun K "_law_data" "_law_data" tLData f fd) (bF : Binds K fd psLData []) (gF : mg "_law_data" = some (.ref f))
    (FD : Fun K "_law_draw" "_law_draw" tDraw fD fdD) (bD : Binds K fdD ["_law_deck_here", "_law_most"] []) (gD : mg "_law_draw" = some (.ref fD)) (FP : Fun K "_law_pick" "_law_pick" tPick fP fdP) (bP : Binds K fdP psPick []) (gP : mg "_law_pick" = some (.ref fP)) (mi : mg "int" = none) (mn : mg "len" = none) :
    ∀ n, FnOk P w K mg base CX0 (n + 2) f fd psLData (spLData n)
  | 0 => noFn fun vs H Q E h => by
    obtain ⟨d, c, o, xs, g, b, _, hg, _⟩ := h
    omega
  | n + 1 => okLData1 F bF gF (okDraw FD) bD gD FD.kp (okPick FP (okDraw FD) bD gD FD.kp mn) bP gP FP.kp mi (okLData F bF gF FD bD gD FP bP gP mi mn n)
end
def Kd.dt : Kd → Dt
  | .opn x => .tup [.str "open", .str x]
  | .num => .tup [.str "num"]
  | .tru => .tup [.str "truth"]
  | .pair a b => .tup [.str "pair", a.dt, b.dt]
  | .eith a b => .tup [.str "either", a.dt, b.dt]
  | .lst a => .tup [.str "list", a.dt]
  | .fn a b => .tup [.str "fun", a.dt, b.dt]
theorem rp0_dd {H : Hp} : ∀ {k : Kd} {v : V}, Rp0 H k v → Dd Non H k.dt v := by
  intro k
  induction k with
  | opn x => intro v h; obtain ⟨a, rfl, e⟩ := h; exact .tup (.inl e) (.cons (.str _) (.cons (.str _) .nil))
  | num => intro v h; obtain ⟨a, rfl, e⟩ := h; exact .tup (.inl e) (.cons (.str _) .nil)
  | tru => intro v h; obtain ⟨a, rfl, e⟩ := h; exact .tup (.inl e) (.cons (.str _) .nil)
  | pair a b i j => intro v h; obtain ⟨p, x, y, rfl, e, h1, h2⟩ := h; exact .tup (.inl e) (.cons (.str _) (.cons (i h1) (.cons (j h2) .nil)))
  | eith a b i j => intro v h; obtain ⟨p, x, y, rfl, e, h1, h2⟩ := h; exact .tup (.inl e) (.cons (.str _) (.cons (i h1) (.cons (j h2) .nil)))
  | lst a i => intro v h; obtain ⟨p, x, rfl, e, h1⟩ := h; exact .tup (.inl e) (.cons (.str _) (.cons (i h1) .nil))
  | fn a b i j => intro v h; obtain ⟨p, x, y, rfl, e, h1, h2⟩ := h; exact .tup (.inl e) (.cons (.str _) (.cons (i h1) (.cons (j h2) .nil)))
mutual
theorem dd_dp (K : PySem.W.Frag) {H : Hp} : ∀ {x : Dt} {v : V}, Dd Non H x v → Dp K H v x.toP
  | _, _, .non => .non
  | _, _, .bl b => .bl b
  | _, _, .int i => .int i
  | _, _, .str x => .str x
  | _, _, .tup h t => .tup h.sq (ddl_dp K t)
  | _, _, .lst n _ _ => (False.elim n)
  | _, _, .dct n _ => (False.elim n)
theorem ddl_dp (K : PySem.W.Frag) {H : Hp} : ∀ {xs : List Dt} {vs : List V}, DdL Non H xs vs → DpAll K H vs (Dt.toPs xs)
  | _, _, .nil => .nil
  | _, _, .cons a b => .cons (dd_dp K a) (ddl_dp K b)
end

end Kq

/-! walked kinds; arguments, opens -/
namespace Kq
open PySem PySem.Spec PyProof.Rows L2 Kf Kg Kv Kk
namespace Kd
theorem kids_opens {t : Kd} (h : t.isOp = false) : t.opens = t.kids.flatMap opens := by
  cases t <;> simp_all [opens, kids, isOp]
theorem kids_dp {t u : Kd} (h : u ∈ t.kids) : u.dp + 1 ≤ t.dp := by
  cases t with
  | opn x => cases h
  | num => cases h
  | tru => cases h
  | pair a b =>
    have : u = a ∨ u = b := by simpa [kids] using h
    rcases this with rfl | rfl <;> simp only [dp] <;> omega
  | eith a b =>
    have : u = a ∨ u = b := by simpa [kids] using h
    rcases this with rfl | rfl <;> simp only [dp] <;> omega
  | lst a =>
    have : u = a := by simpa [kids] using h
    subst this
    simp only [dp]
    omega
  | fn a b =>
    have : u = a ∨ u = b := by simpa [kids] using h
    rcases this with rfl | rfl <;> simp only [dp] <;> omega
theorem kids_le (t : Kd) : t.kids.length ≤ 2 := by
  cases t <;> simp [kids]
end Kd
theorem RpL0.mem {H : Hp} {ts : List Kd} {vs : List V} {i : Nat} {t : Kd} (h : ts[i]? = some t) : t ∈ ts := List.mem_of_getElem? h
def Kd.isFst : Kd → Bool
  | .fn a b => a.isDat && b.isFst
  | k => k.isDat
def Kd.wk : Kd → Bool
  | .fn a b => a.isFst && b.wk
  | k => k.isDat
theorem Kd.fst_of {k : Kd} (h : k.isDat = true) : k.isFst = true := by cases k <;> first | exact h | (cases h; done)
theorem Kd.wk_of {k : Kd} (h : k.isDat = true) : k.wk = true := by cases k <;> first | exact h | (cases h; done)
theorem Kd.args_dat {k : Kd} (h : k.isDat = true) : k.args = [] := by cases k <;> first | rfl | (cases h; done)
structure Bd (d z : Nat) (xs : List Str) (t : Kd) : Prop where
  dp : t.dp ≤ d
  sz : t.size ≤ z
  op : ∀ x ∈ t.opens, x ∈ xs
  fs : t.isFst = true
structure Bw (d z : Nat) (xs : List Str) (t : Kd) : Prop where
  dp : t.dp ≤ d
  sz : t.size ≤ z
  op : ∀ x ∈ t.opens, x ∈ xs
  wk : t.wk = true
  ar : t.args.length + 3 ≤ d
theorem Dta.bd {g d z : Nat} {xs : List Str} {t : Kd} (h : Dta g xs t) (hd : g ≤ d) (hz : sb g ≤ z) : Bd d z xs t := ⟨by have := h.dp; omega, by have := h.sz; omega, h.op, Kd.fst_of h.da⟩
theorem Dta.bw {g d z : Nat} {xs : List Str} {t : Kd} (h : Dta g xs t) (hd : g ≤ d) (hz : sb g ≤ z) (h3 : 3 ≤ d) : Bw d z xs t := ⟨by have := h.dp; omega, by have := h.sz; omega, h.op, Kd.wk_of h.da, by rw [Kd.args_dat h.da]; show 0 + 3 ≤ d; omega⟩
theorem Bd.fn {d z d' z' : Nat} {xs : List Str} {a b : Kd} (ha : Bd d' z' xs a) (hb : Bd d z xs b) (hd : d' ≤ d) (da : a.isDat = true) : Bd (d + 1) (z + (z' + 1)) xs (.fn a b) := by
  refine ⟨?_, ?_, fun x hx => ?_, ?_⟩
  · have := ha.dp
    have := hb.dp
    show max a.dp b.dp + 1 ≤ _
    omega
  · have := ha.sz
    have := hb.sz
    rw [Kd.size_fn]
    omega
  · rcases List.mem_append.mp (show x ∈ a.opens ++ b.opens from hx) with z | z
    · exact ha.op x z
    · exact hb.op x z
  · show (a.isDat && b.isFst) = true
    rw [da, hb.fs]
    rfl
theorem Bw.fn {d z d' z' : Nat} {xs : List Str} {a b : Kd} (ha : Bd d' z' xs a) (hb : Bw d z xs b) (hd : d' ≤ d) : Bw (d + 1) (z + (z' + 1)) xs (.fn a b) := by
  refine ⟨?_, ?_, fun x hx => ?_, ?_, ?_⟩
  · have := ha.dp
    have := hb.dp
    show max a.dp b.dp + 1 ≤ _
    omega
  · have := ha.sz
    have := hb.sz
    rw [Kd.size_fn]
    omega
  · rcases List.mem_append.mp (show x ∈ a.opens ++ b.opens from hx) with z | z
    · exact ha.op x z
    · exact hb.op x z
  · show (a.isFst && b.wk) = true
    rw [ha.fs, hb.wk]
    rfl
  · have := hb.ar
    show (a :: b.args).length + 3 ≤ d + 1
    rw [List.length_cons]
    omega
theorem Bd.mono {d z d' z' : Nat} {xs : List Str} {t : Kd} (h : Bd d z xs t) (hd : d ≤ d') (hz : z ≤ z') : Bd d' z' xs t := ⟨by have := h.dp; omega, by have := h.sz; omega, h.op, h.fs⟩
theorem Bw.mono {d z d' z' : Nat} {xs : List Str} {t : Kd} (h : Bw d z xs t) (hd : d ≤ d') (hz : z ≤ z') : Bw d' z' xs t := ⟨by have := h.dp; omega, by have := h.sz; omega, h.op, h.wk, by have := h.ar; omega⟩
abbrev tHanded : Stmt := tp 86
abbrev tWalked : Stmt := tp 87
abbrev tLArgs : Stmt := tp 88
abbrev psTwo : List Str := ["_law_deck_here", "_law_opens_here"]
section
variable {P : Program} {w : World} {K : PySem.W.Frag} {mg : Str → Option Value} {base : Heap}
theorem scHanded : FnScope ["_law_deck_here", "_law_opens_here", "_law_way", "_law_kind", "_law_k"] psTwo (defScope tHanded) := ⟨rfl, rfl, rfl, by decide +kernel, rfl, by decide +kernel, by decide +kernel⟩
def spHanded : Sp := fun vs H Q _ => ∃ (d c o : Addr) (xs : List Str), vs = [.ref d, .ref o] ∧ Dk H d c ∧ H o = some (.lst (xs.map V.str)) ∧ o ≠ d ∧ o ≠ c ∧ xs.length ≤ 26 ∧ (∀ x ∈ xs, Nm x) ∧
  ∀ (v : V) (t : Kd) (G : Hp), Kp d c H G → Dk G d c → Rp0 G t v → Bd 3 11 xs t → Q v G
theorem okHanded {f fD fP fT : Addr} {fd fdD fdP fdT : FuncData} (F : Fun K "_law_handed" "_law_handed" tHanded f fd)
    (GD : FnOk P w K mg base CX0 6 fD fdD ["_law_deck_here", "_law_most"] spDraw) (bD : Binds K fdD ["_law_deck_here", "_law_most"] []) (gD : mg "_law_draw" = some (.ref fD)) (kD : PySem.W.keepIn K (.ref fD) = true)
    (GP : FnOk P w K mg base CX0 6 fP fdP psPick spPick) (bP : Binds K fdP psPick []) (gP : mg "_law_pick" = some (.ref fP)) (kP : PySem.W.keepIn K (.ref fP) = true)
    (GT : FnOk P w K mg base CX0 6 fT fdT psLData (spLData 4)) (bT : Binds K fdT psLData []) (gT : mg "_law_data" = some (.ref fT)) (kT : PySem.W.keepIn K (.ref fT) = true) (mi : mg "int" = none) (mr : mg "range" = none) : FnOk P w K mg base CX0 7 f fd psTwo spHanded := by
  refine F.ok scHanded (fun vs H Q E h => ?_) (fun cdv A outer s H vs Q E hr h => ?_)
  · obtain ⟨d, c, o, xs, rfl, _⟩ := h
    rfl
  obtain ⟨d, c, o, xs, rfl, dk, ho, od, oc, lx, hx, q⟩ := h
  refine ⟨_, pss_cons (ps_set (i := 2) scHanded.nd rfl (.inl rfl) (pe_call GD hr (by rfl) gD kD bD .nil pass0 (pa_cons (pv 0) (pa_cons pe_int pa_nil))))
    (pss_cons (ps_set (i := 3) scHanded.nd rfl (.inl rfl) (pe_ix ix_list (pe_lst (pa_cons (pe_tup (pa_cons pe_str pa_nil)) (pa_cons (pe_call GT hr (by rfl) gT kT bT .nil pass0 (pa_cons (pv 0) (pa_cons (pv 1) (pa_cons pe_int (pa_cons pe_bl pa_nil))))) pa_nil))) (pe_callTy call_int1 (by rfl) mi (by decide +kernel) (pa_cons (pe_cmpR op_eq (pv 2) pe_int (nomark _)) pa_nil)) (fun _ _ => rfl)))
    (C8.pss_cut (ps_if (PW.pt (pw_and (pt_cmpR op_lt (pv 2) pe_int (nomark _)) (pw_and1 (pt_cmpR (op_neD hr.units) (pv 1) (pe_lst pa_nil) (nomark _)))))
      (pss_one (ps_set (i := 3) scHanded.nd rfl (.inl rfl) (pe_tup (pa_cons pe_str (pa_cons (pe_call GP hr (by rfl) gP kP bP .nil pass0 (pa_cons (pv 0) (pa_cons (pv 1) pa_nil))) pa_nil))))) pss_nil)
    (pss_cons (ps_for PassesOwn.never rfl (pi_range1 (by rfl) mr (pa_cons (pe_op op_add pe_int (pe_call GD hr (by rfl) gD kD bD .nil pass0 (pa_cons (pv 0) (pa_cons pe_int pa_nil)))) pa_nil)) (pg_name (i := 4) scHanded.nd rfl (.inl rfl))
      (pss_one (ps_set (i := 3) scHanded.nd rfl (.inl rfl) (pe_tup (pa_cons pe_str (pa_cons (pe_call GT hr (by rfl) gT kT bT .nil pass0 (pa_cons (pv 0) (pa_cons (pv 1) (pa_cons (pe_call GD hr (by rfl) gD kD bD .nil pass0 (pa_cons (pv 0) (pa_cons pe_int pa_nil))) (pa_cons pe_bl pa_nil))))) (pa_cons (pv 3) pa_nil)))))))
    (pss_one (ps_ret (pv 3)))))), ?_⟩
  refine ⟨_, rfl, d, c, 8, rfl, dk, by decide, by decide, fun way G1 w0 w1 kp1 dk1 => ?_⟩
  have ho1 := kp1 o _ od oc ho
  refine ⟨(by show 1 ≤ sizeLine; decide), fun p1 n1 => ?_⟩
  have s1 := newS (o := .tup [.str "truth"]) n1
  refine ⟨_, rfl, _, rfl, d, c, o, xs, 1, false, rfl, by decide, dk1.same s1, s1 _ _ ho1, od, oc, lx, hx, fun va a G2 kp2 dk2 ra da => ?_⟩
  refine ⟨(by show 2 ≤ sizeLine; decide), fun l nl => ?_⟩
  have sl := newS (o := .lst [V.ref p1, va]) nl
  have h1 : G2 p1 = some (.tup [.str "truth"]) := Tk.kp kp2 (dk1.same s1) p1 _ upd_same
  have kpa : Kp d c H (upd G2 l (.lst [V.ref p1, va])) := ((kp1.trans (Kp.of s1)).trans kp2).trans (Kp.of sl)
  have dka := dk2.same sl
  have hoa := sl _ _ (kp2 o _ od oc (s1 _ _ ho1))
  obtain ⟨v, t, ev, rv, bv⟩ : ∃ (v : V) (t : Kd), atI [V.ref p1, va] (if decide (V.int way = V.int 7) then (1 : Int) else 0) = some v ∧ Rp0 (upd G2 l (.lst [V.ref p1, va])) t v ∧ Bd 1 3 xs t := by
    cases decide (V.int way = V.int 7)
    · exact ⟨.ref p1, .tru, rfl, ⟨p1, rfl, sl _ _ h1⟩, by decide, by decide, fun x z => (nomatch z), rfl⟩
    · exact ⟨va, a, rfl, ra.tk (Tk.of sl), da.bd (by decide) (by decide)⟩
  refine ⟨_, rfl, rfl, .inr ⟨_, rfl, l, _, _, v, rfl, rfl, SqL.of upd_same, ev, ?_⟩⟩
  generalize upd G2 l (.lst [V.ref p1, va]) = G3 at kpa dka hoa rv
  refine ⟨fun σ G => ∃ v t, σ = [some (.ref d), some (.ref o), some (.int way), some v, none] ∧ Kp d c H G ∧ Dk G d c ∧ G o = some (.lst (xs.map V.str)) ∧ Rp0 G t v ∧ Bd 1 3 xs t, ?_, ?b2⟩
  · refine ⟨_, rfl, _, _, rfl, rfl, _, rfl, ?_⟩
    refine ite2 (fun _ => ⟨_, rfl, Nat.zero_le _, fun e ne => ⟨.list (xs.map PyData.str), .list [], .lst (SqL.of (newS ne _ _ hoa)) (dpStrs K _ xs), .lst (SqL.of upd_same) .nil, shStrs hx, rfl, _, rfl, ite2 (fun c1 => ?_) (fun _ => ⟨v, t, rfl, kpa.trans (Kp.of (newS ne)), dka.same (newS ne), newS ne _ _ hoa, rv.tk (Tk.of (newS ne)), bv⟩)⟩⟩) (fun _ => iteF ⟨v, t, rfl, kpa, dka, hoa, rv, bv⟩)
    have ho2 := newS (o := .lst []) ne _ _ hoa
    have dk2' := dka.same (newS (o := .lst []) ne)
    rw [eqvNil] at c1
    have l0 : 0 < xs.length := by
      cases xs with
      | nil => cases c1
      | cons x r => exact Nat.succ_pos _
    refine ⟨_, rfl, _, rfl, d, c, o, _, rfl, dk2', ho2, od, oc, by rw [List.length_map]; omega, by rw [List.length_map]; omega, fun u G4 kp4 dk4 hu => ?_⟩
    obtain ⟨x, hxm, rfl⟩ := List.mem_map.mp hu
    refine ⟨(by show 2 ≤ sizeLine; decide), fun p np => ⟨.ref p, .opn x, rfl, ((kpa.trans (Kp.of (newS ne))).trans kp4).trans (Kp.of (newS np)), dk4.same (newS np), newS np _ _ (kp4 o _ od oc ho2), ⟨p, rfl, upd_same⟩, ?_⟩⟩
    refine ⟨Nat.zero_le _, by show 1 ≤ 3; decide, fun y hy => ?_, rfl⟩
    rw [List.mem_singleton.mp hy]
    exact hxm
  case b2 =>
    rintro σ G ⟨v, t, rfl, kpG, dkG, hoG, rG, bG⟩
    refine ⟨_, rfl, d, c, 2, rfl, dkG, by decide, by decide, fun mm G4 mm0 mm1 kp4 dk4 => ⟨_, _, rfl, rfl, 1 + mm, rfl, by omega, by omega, ?_⟩⟩
    refine for_range (lo := 0) (n := (1 + mm).toNat) (fun i σ G => ∃ v t y, σ = [some (.ref d), some (.ref o), some (.int way), some v, y] ∧ Kp d c H G ∧ Dk G d c ∧ G o = some (.lst (xs.map V.str)) ∧ Rp0 G t v ∧ Bd (1 + i) (3 + 4 * i) xs t) ?_ (fun i σ G hi z => ?_) (fun σ G z => ?_)
    · exact ⟨v, t, none, rfl, kpG.trans kp4, dk4, kp4 o _ od oc hoG, rG.tk (Tk.kp kp4 dkG), bG⟩
    · obtain ⟨v, t, y, rfl, kpi, dki, hoi, ri, bi⟩ := z
      refine ⟨_, rfl, _, rfl, _, rfl, d, c, 2, rfl, dki, by decide, by decide, fun r G5 r0 r1 kp5 dk5 => ?_⟩
      have er : r = ((r.toNat : Nat) : Int) := by omega
      have eL : [V.ref d, V.ref o, V.int r, V.bl true] = [V.ref d, V.ref o, V.int ((r.toNat : Nat) : Int), V.bl true] := by rw [← er]
      refine ⟨d, c, o, xs, r.toNat, true, eL, by omega, dk5, kp5 o _ od oc hoi, od, oc, lx, hx, fun va a G6 kp6 dk6 ra da => ?_⟩
      refine ⟨_, rfl, (by show 3 ≤ sizeLine; decide), fun p np => ?_⟩
      have s := newS (o := .tup [.str "fun", va, v]) np
      refine ⟨.ref p, .fn a t, _, rfl, (((kpi.trans kp5).trans kp6).trans (Kp.of s)), dk6.same s, s _ _ (kp6 o _ od oc (kp5 o _ od oc hoi)), ⟨p, va, v, rfl, upd_same, ra.tk (Tk.of s), ((ri.tk (Tk.kp kp5 dki)).tk (Tk.kp kp6 dk5)).tk (Tk.of s)⟩, ?_⟩
      have hb : Bd 1 3 xs a := da.bd (by omega) (by
        have : r.toNat = 0 ∨ r.toNat = 1 := by omega
        rcases this with e | e <;> rw [e] <;> decide)
      exact (Bd.fn hb bi (by omega) da.da).mono (by omega) (by omega)
    · obtain ⟨v, t, y, rfl, kpi, dki, hoi, ri, bi⟩ := z
      exact ⟨_, rfl, q v t G kpi dki ri (bi.mono (by omega) (by omega))⟩
/-! _law_walked -/
theorem scWalked : FnScope ["_law_deck_here", "_law_opens_here", "_law_many", "_law_kind", "_law_k", "_law_handed_here", "_law_one"] psTwo (defScope tWalked) := ⟨rfl, rfl, rfl, by decide +kernel, rfl, by decide +kernel, by decide +kernel⟩
def spWalked : Sp := fun vs H Q _ => ∃ (d c o : Addr) (xs : List Str), vs = [.ref d, .ref o] ∧ Dk H d c ∧ H o = some (.lst (xs.map V.str)) ∧ o ≠ d ∧ o ≠ c ∧ xs.length ≤ 26 ∧ (∀ x ∈ xs, Nm x) ∧
  ∀ (v : V) (t : Kd) (G : Hp), Kp d c H G → Dk G d c → Rp0 G t v → Bw 7 55 xs t → Q v G
theorem okWalked {f fD fP fT fH : Addr} {fd fdD fdP fdT fdH : FuncData} (F : Fun K "_law_walked" "_law_walked" tWalked f fd)
    (GD : FnOk P w K mg base CX0 7 fD fdD ["_law_deck_here", "_law_most"] spDraw) (bD : Binds K fdD ["_law_deck_here", "_law_most"] []) (gD : mg "_law_draw" = some (.ref fD)) (kD : PySem.W.keepIn K (.ref fD) = true)
    (GP : FnOk P w K mg base CX0 7 fP fdP psPick spPick) (bP : Binds K fdP psPick []) (gP : mg "_law_pick" = some (.ref fP)) (kP : PySem.W.keepIn K (.ref fP) = true)
    (GT : FnOk P w K mg base CX0 6 fT fdT psLData (spLData 4)) (bT : Binds K fdT psLData []) (gT : mg "_law_data" = some (.ref fT)) (kT : PySem.W.keepIn K (.ref fT) = true)
    (GH : FnOk P w K mg base CX0 7 fH fdH psTwo spHanded) (bH : Binds K fdH psTwo []) (gH : mg "_law_handed" = some (.ref fH)) (kH : PySem.W.keepIn K (.ref fH) = true) (mr : mg "range" = none) : FnOk P w K mg base CX0 8 f fd psTwo spWalked := by
  refine F.ok scWalked (fun vs H Q E h => ?_) (fun cdv A outer s H vs Q E hr h => ?_)
  · obtain ⟨d, c, o, xs, rfl, _⟩ := h
    rfl
  obtain ⟨d, c, o, xs, rfl, dk, ho, od, oc, lx, hx, q⟩ := h
  refine ⟨_, pss_cons (ps_set (i := 2) scWalked.nd rfl (.inl rfl) (pe_call GP hr (by rfl) gP kP bP .nil pass0 (pa_cons (pv 0) (pa_cons (pe_lst (pa_cons pe_int (pa_cons pe_int (pa_cons pe_int (pa_cons pe_int (pa_cons pe_int (pa_cons pe_int (pa_cons pe_int (pa_cons pe_int pa_nil))))))))) pa_nil))))
    (pss_cons (ps_set (i := 3) scWalked.nd rfl (.inl rfl) (pe_call GT (hr.mono (by decide)) (by rfl) gT kT bT .nil pass0 (pa_cons (pv 0) (pa_cons (pv 1) (pa_cons (pe_op op_add pe_int (pe_call GD hr (by rfl) gD kD bD .nil pass0 (pa_cons (pv 0) (pa_cons pe_int pa_nil)))) (pa_cons pe_bl pa_nil))))))
    (pss_cons (ps_for PassesOwn.never rfl (pi_range1 (by rfl) mr (pa_cons (pv 2) pa_nil)) (pg_name (i := 4) scWalked.nd rfl (.inl rfl))
      (pss_cons (ps_set (i := 5) scWalked.nd rfl (.inl rfl) (pe_cmpR op_eq (pe_call GD hr (by rfl) gD kD bD .nil pass0 (pa_cons (pv 0) (pa_cons pe_int pa_nil))) pe_int (nomark _)))
      (pss_cons (ps_set (i := 6) scWalked.nd rfl (.inl rfl) (pe_call GH hr (by rfl) gH kH bH .nil pass0 (pa_cons (pv 0) (pa_cons (pv 1) pa_nil))))
      (C8.pss_cut (ps_if (pt_not (pt_val (pv 5))) (pss_one (ps_set (i := 6) scWalked.nd rfl (.inl rfl) (pe_call GT (hr.mono (by decide)) (by rfl) gT kT bT .nil pass0 (pa_cons (pv 0) (pa_cons (pv 1) (pa_cons (pe_op op_add pe_int (pe_call GD hr (by rfl) gD kD bD .nil pass0 (pa_cons (pv 0) (pa_cons pe_int pa_nil)))) (pa_cons pe_bl pa_nil))))))) pss_nil)
      (pss_one (ps_set (i := 3) scWalked.nd rfl (.inl rfl) (pe_tup (pa_cons pe_str (pa_cons (pv 6) (pa_cons (pv 3) pa_nil))))))))))
    (pss_one (ps_ret (pv 3))))), ?_⟩
  have two : ∀ (r : Int), 0 ≤ r → r < 2 → [V.ref d, V.ref o, V.int (1 + r), V.bl false] = [V.ref d, V.ref o, V.int (((1 + r).toNat : Nat) : Int), V.bl false] ∧ (1 + r).toNat + 1 ≤ 4 ∧ (1 + r).toNat ≤ 2 ∧ sb (1 + r).toNat ≤ 7 := fun r r0 r1 => by
    have e : (1 + r) = (((1 + r).toNat : Nat) : Int) := by omega
    refine ⟨by rw [← e], by omega, by omega, ?_⟩
    have : r = 0 ∨ r = 1 := by omega
    rcases this with rfl | rfl <;> decide
  refine ⟨_, rfl, (by show 8 ≤ sizeLine; decide), fun l nl => ?_⟩
  have off := dk.off nl
  refine ⟨d, c, l, _, rfl, dk.same (newS nl), upd_same, off.1, off.2, by show 1 ≤ 8; decide, by show 8 ≤ 100; decide, fun mv G1 kp1' dk1 hmv => ?_⟩
  obtain ⟨m, rfl, m0, m4⟩ : ∃ m : Int, mv = .int m ∧ 0 ≤ m ∧ m ≤ 4 := by
    simp only [List.mem_cons, List.not_mem_nil, or_false] at hmv
    rcases hmv with e | e | e | e | e | e | e | e <;> exact ⟨_, e, by decide, by decide⟩
  have kp1 : Kp d c H G1 := (Kp.of (newS nl)).trans kp1'
  have ho1 := kp1 o _ od oc ho
  refine ⟨_, rfl, _, rfl, _, rfl, d, c, 2, rfl, dk1, by decide, by decide, fun r G2 r0 r1 kp2 dk2 => ⟨_, _, rfl, rfl, ?_⟩⟩
  obtain ⟨eL, e1, e2, e3⟩ := two r r0 r1
  have ho2 := kp2 o _ od oc ho1
  refine ⟨d, c, o, xs, _, false, eL, e1, dk2, ho2, od, oc, lx, hx, fun va a G3 kp3 dk3 ra da => ?_⟩
  refine ⟨_, rfl, m, rfl, by omega, by omega, ?_⟩
  refine for_range (lo := 0) (n := m.toNat) (fun i σ G => ∃ v t y4 y5 y6, σ = [some (.ref d), some (.ref o), some (.int m), some v, y4, y5, y6] ∧ Kp d c H G ∧ Dk G d c ∧ G o = some (.lst (xs.map V.str)) ∧ Rp0 G t v ∧ Bw (3 + i) (7 + 12 * i) xs t) ?_ (fun i σ G hi z => ?_) (fun σ G z => ?_)
  · exact ⟨va, a, _, _, _, rfl, (kp1.trans kp2).trans kp3, dk3, kp3 o _ od oc ho2, ra, da.bw (by omega) e3 (by omega)⟩
  · obtain ⟨v, t, y4, y5, y6, rfl, kpi, dki, hoi, ri, bi⟩ := z
    refine ⟨_, rfl, d, c, 3, rfl, dki, by decide, by decide, fun r2 G4 r20 r21 kp4 dk4 => ⟨rfl, ?_⟩⟩
    have ho4 := kp4 o _ od oc hoi
    refine ⟨_, rfl, _, rfl, d, c, o, xs, rfl, dk4, ho4, od, oc, lx, hx, fun vh th G5 kp5 dk5 rh bh => ?_⟩
    have ho5 := kp5 o _ od oc ho4
    have ri5 := (ri.tk (Tk.kp kp4 dki)).tk (Tk.kp kp5 dk4)
    have kpa := (kpi.trans kp4).trans kp5
    refine ⟨fun σ G => ∃ u tu, σ = [some (.ref d), some (.ref o), some (.int m), some v, some (.int (0 + (i : Int))), some (.bl (decide (V.int r2 = V.int 1))), some u] ∧ Kp d c H G ∧ Dk G d c ∧ G o = some (.lst (xs.map V.str)) ∧ Rp0 G t v ∧ Rp0 G tu u ∧ Bd 3 11 xs tu, ?_, ?_⟩
    · refine ⟨_, rfl, _, rfl, ite2 (fun _ => ?_) (fun _ => ⟨vh, th, rfl, kpa, dk5, ho5, ri5, rh, bh⟩)⟩
      refine ⟨_, rfl, _, rfl, _, rfl, d, c, 2, rfl, dk5, by decide, by decide, fun r3 G6 r30 r31 kp6 dk6 => ⟨_, _, rfl, rfl, ?_⟩⟩
      obtain ⟨eL3, e31, e32, e33⟩ := two r3 r30 r31
      have ho6 := kp6 o _ od oc ho5
      refine ⟨d, c, o, xs, _, false, eL3, e31, dk6, ho6, od, oc, lx, hx, fun vb b G7 kp7 dk7 rb db => ?_⟩
      exact ⟨vb, b, rfl, (kpa.trans kp6).trans kp7, dk7, kp7 o _ od oc ho6, (ri5.tk (Tk.kp kp6 dk5)).tk (Tk.kp kp7 dk6), rb, db.bd (by omega) (by omega)⟩
    · rintro σ G ⟨u, tu, rfl, kpu, dku, hou, rv, ru, bu⟩
      refine ⟨_, rfl, _, rfl, (by show 3 ≤ sizeLine; decide), fun p np => ?_⟩
      have s := newS (o := .tup [.str "fun", u, v]) np
      refine ⟨.ref p, .fn tu t, _, _, _, rfl, kpu.trans (Kp.of s), dku.same s, s _ _ hou, ⟨p, u, v, rfl, upd_same, ru.tk (Tk.of s), rv.tk (Tk.of s)⟩, ?_⟩
      exact (Bw.fn bu bi (by omega)).mono (by omega) (by omega)
  · obtain ⟨v, t, y4, y5, y6, rfl, kpi, dki, hoi, ri, bi⟩ := z
    exact ⟨_, rfl, q v t G kpi dki ri (bi.mono (by omega) (by omega))⟩
end
theorem nd_le : ∀ {l ns : List Str}, l.Nodup → (∀ x ∈ l, x ∈ ns) → l.length ≤ ns.length
  | [], _, _, _ => Nat.zero_le _
  | a :: l, ns, nd, h => by
    obtain ⟨na, nl⟩ := List.nodup_cons.mp nd
    have ha := h a List.mem_cons_self
    have ih := nd_le (l := l) (ns := ns.erase a) nl fun x hx => (List.mem_erase_of_ne (fun z => na (by rw [← z]; exact hx))).mpr (h x (List.mem_cons_of_mem _ hx))
    rw [List.length_erase_of_mem ha] at ih
    have := List.length_pos_of_mem ha
    rw [List.length_cons]
    omega
abbrev tLOpens : Stmt := tp 90
section
variable {P : Program} {w : World} {K : PySem.W.Frag} {mg : Str → Option Value} {base : Heap}
/-! _law_arguments -/
theorem scLArgs : FnScope ["_law_kind", "_law_found"] ["_law_kind"] (defScope tLArgs) := ⟨rfl, rfl, rfl, by decide +kernel, rfl, by decide +kernel, by decide +kernel⟩
def spLArgs : Sp := fun vs H Q _ => ∃ (v : V) (t : Kd), vs = [v] ∧ Rp0 H t v ∧ t.size ≤ 900 ∧ ∀ (p l : Addr) (us : List V) (u : V) (G : Hp), Same H G → G p = some (.tup [.ref l, u]) → G l = some (.lst us) → RpL0 G t.args us → Rp0 G t.res u → Q (.ref p) G
theorem okLArgs {f : Addr} {fd : FuncData} {k : Nat} (F : Fun K "_law_arguments" "_law_arguments" tLArgs f fd) : FnOk P w K mg base CX0 (k + 1) f fd ["_law_kind"] spLArgs := by
  refine F.ok scLArgs (fun vs H Q E h => ?_) (fun cdv A outer s H vs Q E hr h => ?_)
  · obtain ⟨v, t, rfl, _⟩ := h
    rfl
  obtain ⟨v, t, rfl, r, hz, q⟩ := h
  refine ⟨_, pss_cons (ps_set (i := 1) scLArgs.nd rfl (.inl rfl) (pe_lst pa_nil))
    (pss_cons (ps_while PassesOwn.never (pt_cmpR op_eq (pe_ix ix_tup (pv 0) pe_int (fun _ _ => rfl)) pe_str (nomark _))
      (pss_cons (ps_expr (pe_bm PySem.F.plainAttrs_list PySem.F.slot_list_append PySem.F.type_list_append mt_append (pv 1) (pa_cons (pe_ix ix_tup (pv 0) pe_int (fun _ _ => rfl)) pa_nil)))
      (pss_one (ps_set (i := 0) scLArgs.nd rfl (.inl rfl) (pe_ix ix_tup (pv 0) pe_int (fun _ _ => rfl))))))
    (pss_one (ps_ret (pe_tup (pa_cons (pv 1) (pa_cons (pv 0) pa_nil)))))), ?_⟩
  refine ⟨Nat.zero_le _, fun pa npa => ?_⟩
  refine ⟨fun m σ G => ∃ ts c us cv, m = c.size ∧ σ = [some cv, some (.ref pa)] ∧ Same H G ∧ G pa = some (.lst us) ∧ RpL0 G ts us ∧ Rp0 G c cv ∧ ts ++ c.args = t.args ∧ c.res = t.res,
    ⟨_, [], t, [], v, rfl, rfl, newS npa, upd_same, trivial, r.tk (Tk.of (newS npa)), rfl, rfl⟩, fun m σ G z => ?_⟩
  obtain ⟨ts, c, us, cv, rfl, rfl, sG, gp, rt, rc, ea, er⟩ := z
  obtain ⟨a0, us0, rfl, ha0, _⟩ := rc.see
  refine ⟨_, rfl, a0, _, _, _, rfl, rfl, SqT.of ha0, atI_nat (j := 0) rfl, rfl, _, rfl, ?_⟩
  rw [Kd.isFn_word]
  refine ite2 (fun e => ?_) (fun e => ?_)
  · cases c with
    | fn a b =>
      obtain ⟨ca, x, y, eca, hc, ra, rb⟩ := rc
      cases eca
      refine ⟨fun σ' G' => ∃ m', m' < (Kd.fn a b).size ∧ ∃ ts c us cv, m' = c.size ∧ σ' = [some cv, some (.ref pa)] ∧ Same H G' ∧ G' pa = some (.lst us) ∧ RpL0 G' ts us ∧ Rp0 G' c cv ∧ ts ++ c.args = t.args ∧ c.res = t.res, fun σ' G' z => z, ?_⟩
      have le : ts.length ≤ t.args.length := by
        rw [← ea, List.length_append]
        exact Nat.le_add_right _ _
      have l1 := rt.len
      have l2 := Kd.args_le t
      refine ⟨_, rfl, .inl ⟨rfl, _, SqL.of gp⟩, _, rfl, a0, _, _, x, rfl, rfl, SqT.of hc, atI_nat (j := 1) rfl, pa, _, _, rfl, rfl, gp, small1000 (by omega), ?_⟩
      have t1 : Tk G (upd G pa (.lst (us ++ [x]))) := Tk.rfl.put (fun _ z => by rw [gp] at z; cases z)
      refine ⟨_, rfl, a0, _, _, y, rfl, rfl, SqT.of (t1 _ _ hc), atI_nat (j := 2) rfl, ?_⟩
      refine ⟨_, ?_, ts ++ [a], b, us ++ [x], y, rfl, rfl, smk sG npa, upd_same, RpL0.app (us := [a]) (ws := [x]) (rt.tk t1) ⟨ra.tk t1, trivial⟩, rb.tk t1, ?_, er⟩
      · rw [Kd.size_fn]
        omega
      · rw [← ea, List.append_assoc]
        rfl
    | _ => cases e
  · have e0 : c.args = [] ∧ c.res = c := by
      cases c with
      | fn a b => exact absurd rfl e
      | _ => exact ⟨rfl, rfl⟩
    rw [e0.1, List.append_nil] at ea
    rw [e0.2] at er
    refine ⟨_, rfl, _, rfl, (by show 2 ≤ sizeLine; decide), fun p np => ?_⟩
    have s := newS (o := .tup [.ref pa, .ref a0]) np
    exact q p pa us _ _ (sG.trans s) upd_same (s _ _ gp) (by rw [← ea]; exact rt.tk (Tk.of s)) (by rw [← er]; exact rc.tk (Tk.of s))
/-! _law_opens -/
theorem scLOpens : FnScope ["_law_kind", "_law_found", "_law_part"] ["_law_kind"] (defScope tLOpens) := ⟨rfl, rfl, rfl, by decide +kernel, rfl, by decide +kernel, by decide +kernel⟩
def spLOpens (n : Nat) : Sp := fun vs H Q _ => ∃ (v : V) (t : Kd) (ns : List Str), vs = [v] ∧ t.dp + 1 ≤ n ∧ Rp0 H t v ∧ ns.length ≤ 26 ∧ (∀ x ∈ t.opens, x ∈ ns) ∧ ∀ (l : Addr) (ys : List Str) (G : Hp), Same H G → H l = none → G l = some (.lst (ys.map V.str)) → sortedS ys = true → ys.Nodup → (∀ k, k ∈ ys ↔ k ∈ t.opens) → Q (.ref l) G
theorem okLOpens1 {f : Addr} {fd : FuncData} {n : Nat} (F : Fun K "_law_opens" "_law_opens" tLOpens f fd) (bF : Binds K fd ["_law_kind"] []) (gF : mg "_law_opens" = some (.ref f)) (ms : mg "sorted" = none) (mt : mg "set" = none) (GI : FnOk P w K mg base CX0 (n + 1) f fd ["_law_kind"] (spLOpens n)) :
    FnOk P w K mg base CX0 (n + 2) f fd ["_law_kind"] (spLOpens (n + 1)) := by
  refine F.ok scLOpens (fun vs H Q E h => ?_) (fun cdv A outer s H vs Q E hr h => ?_)
  · obtain ⟨v, t, ns, rfl, _⟩ := h
    rfl
  obtain ⟨v, t, ns, rfl, hn, r, ln, hns, q⟩ := h
  obtain ⟨a, us, rfl, ha, hu⟩ := r.see
  refine ⟨_, pss_cons (ps_if (pt_cmpR op_eq (pe_ix ix_tup (pv 0) pe_int (fun _ _ => rfl)) pe_str (nomark _)) (pss_one (ps_ret (pe_lst (pa_cons (pe_ix ix_tup (pv 0) pe_int (fun _ _ => rfl)) pa_nil)))) pss_nil)
    (pss_cons (ps_set (i := 1) scLOpens.nd rfl (.inl rfl) (pe_lst pa_nil))
    (pss_cons (ps_for PassesOwn.never rfl (pi_tup (pe_slice sl_tup (pv 0) (po_some pe_int) po_none)) (pg_name (i := 2) scLOpens.nd rfl (.inl rfl))
      (pss_one (ps_set (i := 1) scLOpens.nd rfl (.inl rfl) (pe_op op_cat (pv 1) (pe_call GI hr (by rfl) gF F.kp bF .nil pass0 (pa_cons (pv 2) pa_nil))))))
    (pss_one (ps_ret (pe_callB (Ks.cr_sortT rfl) (by rfl) ms PyProof.Rows.boot_sorted (pa_cons (pe_callTy (Ks.cr_setT rfl) (by rfl) mt PyProof.Rows.boot_set (pa_cons (pv 1) pa_nil)) pa_nil)))))), ?_⟩
  refine ⟨_, rfl, a, _, _, _, rfl, rfl, SqT.of ha, atI_nat (j := 0) rfl, rfl, _, rfl, ?_⟩
  rw [Kd.isOp_word]
  refine ite2 (fun e => ?_) (fun e => ?_)
  · rcases hu with hu | ⟨x, rfl, rfl⟩
    · rw [hu.1] at e
      cases e
    · exact ⟨_, rfl, a, _, _, _, rfl, rfl, SqT.of ha, atI_nat (j := 1) rfl, (by show 1 ≤ sizeLine; decide), fun l nl => q l [x] _ (newS nl) nl upd_same rfl (by simp) fun k => Iff.rfl⟩
  · rcases hu with hu | ⟨x, rfl, rfl⟩
    · have ho : t.isOp = false := hu.1
      have hk := hu.2
      refine ⟨Nat.zero_le _, fun fa nfa => ⟨_, rfl, 1, rfl, a, _, rfl, SqT.of (newS nfa _ _ ha), notWhole _ _, fun p np => ?_⟩⟩
      rw [cutFrom1]
      have s2 : Same H (upd (upd H fa (.lst [])) p (.tup us)) := (newS nfa).trans (newS np)
      refine ⟨p, rfl, ⟨_, SqT.of upd_same⟩, for_tup (xs := us) (fun i σ G => ∃ (l : Addr) (y : Option V) (ys : List Str), σ = [some (.ref a), some (.ref l), y] ∧ Same H G ∧ G p = some (.tup us) ∧ G l = some (.lst (ys.map V.str)) ∧ ys.length ≤ 26 * i ∧ ∀ k, k ∈ ys ↔ k ∈ (t.kids.take i).flatMap Kd.opens) ?_ (fun i σ G _ z => ?_) (fun i x σ G hx z => ?_) (fun σ G z => ?_)⟩
      · exact ⟨fa, none, [], rfl, s2, upd_same, by rw [upd_ne (fun z => by rw [← z, upd_same] at np; cases np), upd_same]; rfl, Nat.zero_le _, fun k => by simp⟩
      · obtain ⟨l, y, ys, _, _, gp, _⟩ := z
        exact SqT.of gp
      · obtain ⟨l, y, ys, rfl, sG, gp, gl, ly, hy⟩ := z
        obtain ⟨c, hc, rc⟩ := (hk.tk (Tk.of sG)).get hx
        have hcm := RpL0.mem (H := H) (vs := us) hc
        have hd := Kd.kids_dp hcm
        have hi2 : i < 2 := by
          have := (List.getElem?_eq_some_iff.mp hc).1
          have := Kd.kids_le t
          omega
        have tk : t.kids.take (i + 1) = t.kids.take i ++ [c] := by rw [List.take_add_one, hc]; rfl
        have hco : ∀ x ∈ c.opens, x ∈ ns := fun x hx' => hns x (by rw [Kd.kids_opens ho]; exact List.mem_flatMap.mpr ⟨c, hcm, hx'⟩)
        refine ⟨_, rfl, _, rfl, x, c, ns, rfl, by omega, rc, ln, hco, fun l2 zs G2 s3 _ g2 _ zn hz => ?_⟩
        have lz : zs.length ≤ 26 := Nat.le_trans (nd_le zn fun x hx' => hco x ((hz x).mp hx')) ln
        refine ⟨l, l2, _, _, rfl, rfl, s3 _ _ gl, g2, ?_, fun l3 n3 => ⟨l3, _, ys ++ zs, rfl, (sG.trans s3).trans (newS n3), newS n3 _ _ (s3 _ _ gp), ?_, ?_, fun k => ?_⟩⟩
        · rw [List.length_map, List.length_map]
          exact sz (by omega)
        · rw [upd_same, List.map_append]
        · rw [List.length_append]
          omega
        · rw [tk, List.flatMap_append, List.mem_append, List.mem_append, hy k, hz k]
          simp only [List.flatMap_cons, List.flatMap_nil, List.append_nil]
      · obtain ⟨l, y, ys, rfl, sG, gp, gl, ly, hy⟩ := z
        rw [← hk.len, List.take_length, ← Kd.kids_opens ho] at hy
        have lk := Kd.kids_le t
        have ly' : ys.length ≤ 52 := by
          rw [← hk.len] at ly
          omega
        refine ⟨_, rfl, l, ys, rfl, SqL.of gl, ?_, fun D m hm nD => ?_⟩
        · have : scanBound = 4096 := rfl
          omega
        · refine ⟨D, _, m, rfl, upd_same, by omega, fun zs l2 hs hd hmm _ nl2 => q l2 zs _ (sG.trans ((newS nD).trans (newS nl2))) ((sG.trans (newS nD)).free nl2) upd_same hs hd fun k => ?_⟩
          rw [hmm k, ← hy k]
          show decide (k ∈ ys) = true ↔ _
          exact decide_eq_true_iff
    · exact absurd rfl e
theorem okLOpens {f : Addr} {fd : FuncData} (F : Fun K "_law_opens" "_law_opens" tLOpens f fd) (bF : Binds K fd ["_law_kind"] []) (gF : mg "_law_opens" = some (.ref f)) (ms : mg "sorted" = none) (mt : mg "set" = none) : ∀ n, FnOk P w K mg base CX0 (n + 1) f fd ["_law_kind"] (spLOpens n)
  | 0 => noFn fun vs H Q E h => by
    obtain ⟨v, t, ns, _, hn, _⟩ := h
    omega
  | n + 1 => okLOpens1 F bF gF ms mt (okLOpens F bF gF ms mt n)
end
end Kq

/-! kinds filled -/
namespace Kq
open PySem PySem.Spec PyProof.Rows L2 Kf Kg Kv Kk
namespace Kd
def fill (f : Str → Option Kd) : Kd → Kd
  | opn x => (f x).getD (opn x)
  | num => num
  | tru => tru
  | pair a b => pair (fill f a) (fill f b)
  | eith a b => eith (fill f a) (fill f b)
  | lst a => lst (fill f a)
  | fn a b => fn (fill f a) (fill f b)
end Kd
theorem Rp0.build {H : Hp} {t : Kd} {f : Str → Option Kd} {p : Addr} {ws : List V} (h : t.isOp = false) (hp : H p = some (.tup (.str t.word :: ws))) (r : RpL0 H (t.kids.map (Kd.fill f)) ws) : Rp0 H (t.fill f) (.ref p) := by
  cases t with
  | opn x => cases h
  | num =>
    cases ws with
    | nil => exact ⟨p, rfl, hp⟩
    | cons a b => exact r.elim
  | tru =>
    cases ws with
    | nil => exact ⟨p, rfl, hp⟩
    | cons a b => exact r.elim
  | pair a b =>
    cases ws with
    | nil => exact r.elim
    | cons x ws =>
      cases ws with
      | nil => exact r.2.elim
      | cons y ws =>
        cases ws with
        | nil => exact ⟨p, x, y, rfl, hp, r.1, r.2.1⟩
        | cons _ _ => exact r.2.2.elim
  | eith a b =>
    cases ws with
    | nil => exact r.elim
    | cons x ws =>
      cases ws with
      | nil => exact r.2.elim
      | cons y ws =>
        cases ws with
        | nil => exact ⟨p, x, y, rfl, hp, r.1, r.2.1⟩
        | cons _ _ => exact r.2.2.elim
  | lst a =>
    cases ws with
    | nil => exact r.elim
    | cons x ws =>
      cases ws with
      | nil => exact ⟨p, x, rfl, hp, r.1⟩
      | cons _ _ => exact r.2.elim
  | fn a b =>
    cases ws with
    | nil => exact r.elim
    | cons x ws =>
      cases ws with
      | nil => exact r.2.elim
      | cons y ws =>
        cases ws with
        | nil => exact ⟨p, x, y, rfl, hp, r.1, r.2.1⟩
        | cons _ _ => exact r.2.2.elim
/-- what is told of a name -/
def RV (H : Hp) : Option Kd → Option V → Prop
  | some t, some v => Rp0 H t v
  | none, none => True
  | _, _ => False
theorem RV.tk {H G : Hp} (k : Tk H G) : ∀ {o : Option Kd} {v : Option V}, RV H o v → RV G o v
  | some _, some _, h => Rp0.tk k h
  | none, none, _ => trivial
  | some _, none, h => h.elim
  | none, some _, h => h.elim
/-- a dict of kinds by names -/
def DR (H : Hp) (a : Addr) (f : Str → Option Kd) : Prop := ∃ kvs : List (Key × V), H a = some (.dK kvs) ∧ ∀ x : Str, RV H (f x) (valV kvs (.inr x))
theorem DR.same {H G : Hp} {a : Addr} {f : Str → Option Kd} (h : DR H a f) (s : Same H G) : DR G a f := by
  obtain ⟨kvs, e, r⟩ := h
  exact ⟨kvs, s _ _ e, fun x => (r x).tk (Tk.of s)⟩
theorem DR.get {H : Hp} {a : Addr} {f : Str → Option Kd} (h : DR H a f) (x : Str) : ∃ o : Option V, DGet H a (.str x) o ∧ IsD H a ∧ ∀ (v : V), Rp0 H (.opn x) v → Rp0 H ((f x).getD (.opn x)) (o.getD v) := by
  obtain ⟨kvs, e, r⟩ := h
  refine ⟨valV kvs (.inr x), .inl ⟨kvs, .inr x, .inl e, rfl, rfl⟩, .inl ⟨kvs, .inl e⟩, fun v rv => ?_⟩
  have := r x
  cases hf : f x with
  | none =>
    rw [hf] at this
    cases hv : valV kvs (.inr x) with
    | none => exact rv
    | some u => rw [hv] at this; exact this.elim
  | some t =>
    rw [hf] at this
    cases hv : valV kvs (.inr x) with
    | none => rw [hv] at this; exact this.elim
    | some u => rw [hv] at this; exact this
theorem catAK {X : Cx} (K : PySem.W.Frag) (h : X.K = K) : OpR X (binaryOp .Add) (rCatA K) := by
  subst h
  exact op_catA
abbrev tFilled : Stmt := tp 45
abbrev tPutIn : Stmt := tp 46
abbrev tLPut : Stmt := tp 91
section
variable {P : Program} {w : World} {K : PySem.W.Frag} {mg : Str → Option Value} {base : Heap}
/-! put_in -/
theorem scPutIn : FnScope ["kind", "put", "parts", "part"] ["kind", "put"] (defScope tPutIn) := ⟨rfl, rfl, rfl, by decide +kernel, rfl, by decide +kernel, by decide +kernel⟩
def spPutIn (n : Nat) : Sp := fun vs H Q _ => ∃ (v : V) (a : Addr) (t : Kd) (f : Str → Option Kd), vs = [v, .ref a] ∧ t.dp + 1 ≤ n ∧ Rp0 H t v ∧ DR H a f ∧ ∀ (u : V) (G : Hp), Same H G → Rp0 G (t.fill f) u → Q u G
theorem okPutIn1 {f : Addr} {fd : FuncData} {n : Nat} (F : Fun K "put_in" "put_in" tPutIn f fd) (bF : Binds K fd ["kind", "put"] []) (gF : mg "put_in" = some (.ref f)) (mt : mg "tuple" = none) (GI : FnOk P w K mg base CX0 (n + 1) f fd ["kind", "put"] (spPutIn n)) :
    FnOk P w K mg base CX0 (n + 2) f fd ["kind", "put"] (spPutIn (n + 1)) := by
  refine F.ok scPutIn (fun vs H Q E h => ?_) (fun cdv A outer s H vs Q E hr h => ?_)
  · obtain ⟨v, a, t, g, rfl, _⟩ := h
    rfl
  obtain ⟨v, da, t, g, rfl, hn, r, hd, q⟩ := h
  obtain ⟨a, us, rfl, ha, hu⟩ := r.see
  refine ⟨_, pss_cons (ps_if (pt_cmpR op_eq (pe_ix ix_tup (pv 0) pe_int (fun _ _ => rfl)) pe_str (nomark _)) (pss_one (ps_ret (pe_dget2 (hu_of hr) (pv 1) (pe_ix ix_tup (pv 0) pe_int (fun _ _ => rfl)) (pv 0) ⟨rfl, rfl, rfl, rfl⟩))) pss_nil)
    (pss_cons (ps_set (i := 2) scPutIn.nd rfl (.inl rfl) (pe_lst (pa_cons (pe_ix ix_tup (pv 0) pe_int (fun _ _ => rfl)) pa_nil)))
    (pss_cons (ps_for PassesOwn.never rfl (pi_tup (pe_slice sl_tup (pv 0) (po_some pe_int) po_none)) (pg_name (i := 3) scPutIn.nd rfl (.inl rfl))
      (pss_one (ps_expr (pe_bm PySem.F.plainAttrs_list PySem.F.slot_list_append PySem.F.type_list_append mt_append (pv 2) (pa_cons (pe_call GI hr (by rfl) gF F.kp bF .nil pass0 (pa_cons (pv 3) (pa_cons (pv 1) pa_nil))) pa_nil)))))
    (pss_one (ps_ret (pe_callTy call_tuple_of (by rfl) mt PyProof.Rows.boot_tuple (pa_cons (pv 2) pa_nil)))))), ?_⟩
  refine ⟨_, rfl, a, _, _, _, rfl, rfl, SqT.of ha, atI_nat (j := 0) rfl, rfl, _, rfl, ?_⟩
  rw [Kd.isOp_word]
  refine ite2 (fun e => ?_) (fun e => ?_)
  · rcases hu with hu | ⟨x, rfl, rfl⟩
    · rw [hu.1] at e
      cases e
    · obtain ⟨o, h1, h2, h3⟩ := hd.get x
      exact ⟨_, rfl, da, rfl, h2, _, rfl, a, _, _, _, rfl, rfl, SqT.of ha, atI_nat (j := 1) rfl, _, rfl, o, h1, q _ H (Same.refl H) (h3 _ r)⟩
  · rcases hu with hu | ⟨x, rfl, rfl⟩
    · have ho : t.isOp = false := hu.1
      have hk := hu.2
      refine ⟨_, rfl, a, _, _, _, rfl, rfl, SqT.of ha, atI_nat (j := 0) rfl, (by show 1 ≤ sizeLine; decide), fun l nl => ⟨_, rfl, 1, rfl, a, _, rfl, SqT.of (newS nl _ _ ha), notWhole _ _, fun p np => ?_⟩⟩
      rw [cutFrom1]
      have lp : l ≠ p := fun z => by
        rw [← z, upd_same] at np
        cases np
      have s2 : Same H (upd (upd H l (.lst [V.str t.word])) p (.tup us)) := (newS nl).trans (newS np)
      refine ⟨p, rfl, ⟨_, SqT.of upd_same⟩, for_tup (xs := us) (fun i σ G => ∃ (y : Option V) (ws : List V), σ = [some (.ref a), some (.ref da), some (.ref l), y] ∧ Same H G ∧ G p = some (.tup us) ∧ G l = some (.lst (.str t.word :: ws)) ∧ RpL0 G ((t.kids.take i).map (Kd.fill g)) ws) ?_ (fun i σ G _ z => ?_) (fun i x σ G hx z => ?_) (fun σ G z => ?_)⟩
      · exact ⟨none, [], rfl, s2, upd_same, by rw [upd_ne lp, upd_same], trivial⟩
      · obtain ⟨y, ws, _, _, gp, _⟩ := z
        exact SqT.of gp
      · obtain ⟨y, ws, rfl, sG, gp, gl, rw'⟩ := z
        obtain ⟨c, hc, rc⟩ := (hk.tk (Tk.of sG)).get hx
        have hcm := RpL0.mem (H := H) (vs := us) hc
        have hdp := Kd.kids_dp hcm
        have li := (List.getElem?_eq_some_iff.mp hc).1
        have lk := Kd.kids_le t
        have lw := rw'.len
        rw [List.length_map, List.length_take] at lw
        have tk : t.kids.take (i + 1) = t.kids.take i ++ [c] := by rw [List.take_add_one, hc]; rfl
        refine ⟨_, rfl, .inl ⟨rfl, _, SqL.of gl⟩, _, rfl, _, rfl, x, da, c, g, rfl, by omega, rc, hd.same sG, fun u G2 s3 ru => ?_⟩
        have gl2 := s3 _ _ gl
        have t1 : Tk G (upd G2 l (.lst (V.str t.word :: ws ++ [u]))) := (Tk.of s3).put (fun _ z => by rw [gl] at z; cases z)
        have t2 : Tk G2 (upd G2 l (.lst (V.str t.word :: ws ++ [u]))) := Tk.rfl.put (fun _ z => by rw [gl2] at z; cases z)
        refine ⟨l, _, u, rfl, rfl, gl2, ?_, _, ws ++ [u], rfl, smk (sG.trans s3) nl, ?_, upd_same, ?_⟩
        · rw [List.length_cons]
          exact small1000 (by omega)
        · rw [upd_ne lp.symm]
          exact s3 _ _ gp
        · rw [tk, List.map_append]
          exact RpL0.app (us := [c.fill g]) (ws := [u]) (rw'.tk t1) ⟨ru.tk t2, trivial⟩
      · obtain ⟨y, ws, rfl, sG, gp, gl, rw'⟩ := z
        rw [← hk.len, List.take_length] at rw'
        refine ⟨_, rfl, l, _, rfl, .inl ⟨SqL.of gl, fun m nm => ?_⟩⟩
        have s := newS (o := .tup (V.str t.word :: ws)) nm
        exact q _ _ (sG.trans s) (Rp0.build ho upd_same (rw'.tk (Tk.of s)))
    · exact absurd rfl e
theorem okPutIn {f : Addr} {fd : FuncData} (F : Fun K "put_in" "put_in" tPutIn f fd) (bF : Binds K fd ["kind", "put"] []) (gF : mg "put_in" = some (.ref f)) (mt : mg "tuple" = none) : ∀ n, FnOk P w K mg base CX0 (n + 1) f fd ["kind", "put"] (spPutIn n)
  | 0 => noFn fun vs H Q E h => by
    obtain ⟨v, a, t, g, _, hn, _⟩ := h
    omega
  | n + 1 => okPutIn1 F bF gF mt (okPutIn F bF gF mt n)
/-! _law_put_in -/
theorem scLPut : FnScope ["_law_kind", "_law_table", "_law_part"] ["_law_kind", "_law_table"] (defScope tLPut) := ⟨rfl, rfl, rfl, by decide +kernel, rfl, by decide +kernel, by decide +kernel⟩
theorem okLPut1 {f : Addr} {fd : FuncData} {n : Nat} (F : Fun K "_law_put_in" "_law_put_in" tLPut f fd) (bF : Binds K fd ["_law_kind", "_law_table"] []) (gF : mg "_law_put_in" = some (.ref f)) (mt : mg "tuple" = none) (GI : FnOk P w K mg base CX0 (n + 1) f fd ["_law_kind", "_law_table"] (spPutIn n)) :
    FnOk P w K mg base CX0 (n + 2) f fd ["_law_kind", "_law_table"] (spPutIn (n + 1)) := by
  refine F.ok scLPut (fun vs H Q E h => ?_) (fun cdv A outer s H vs Q E hr h => ?_)
  · obtain ⟨v, a, t, g, rfl, _⟩ := h
    rfl
  obtain ⟨v, da, t, g, rfl, hn, r, hd, q⟩ := h
  obtain ⟨a, us, rfl, ha, hu⟩ := r.see
  refine ⟨_, pss_cons (ps_if (pt_cmpR op_eq (pe_ix ix_tup (pv 0) pe_int (fun _ _ => rfl)) pe_str (nomark _)) (pss_one (ps_ret (pe_dget2 (hu_of hr) (pv 1) (pe_ix ix_tup (pv 0) pe_int (fun _ _ => rfl)) (pv 0) ⟨rfl, rfl, rfl, rfl⟩))) pss_nil)
    (pss_one (ps_ret (pe_op op_catA (pe_slice sl_tupA (pv 0) po_none (po_some pe_int)) (pe_callTy call_tuple_of (by rfl) mt PyProof.Rows.boot_tuple (pa_cons
      (pe_lc (own := [("_law_part", 2)]) (g := gName 2) (by rfl) scLPut.nd (pi_tup (pe_slice sl_tup (pv 0) (po_some pe_int) po_none)) (blkOk_by (own := [("_law_part", 2)]) (N := ["_law_kind", "_law_table", "_law_part"]) (sc := defScope tLPut) (by decide +kernel))
        (fun _ _ _ _ _ => pg_name (i := 2) scLPut.nd rfl (.inl rfl)) (fun _ _ _ _ _ => pts_nil)
        (fun _ _ _ _ _ => pe_call GI hr (by rfl) gF F.kp bF .nil pass0 (pa_cons (pv 2) (pa_cons (pv 1) pa_nil)))) pa_nil))))), ?_⟩
  refine ⟨_, rfl, a, _, _, _, rfl, rfl, SqT.of ha, atI_nat (j := 0) rfl, rfl, _, rfl, ?_⟩
  rw [Kd.isOp_word]
  refine ite2 (fun e => ?_) (fun e => ?_)
  · rcases hu with hu | ⟨x, rfl, rfl⟩
    · rw [hu.1] at e
      cases e
    · obtain ⟨o, h1, h2, h3⟩ := hd.get x
      exact ⟨_, rfl, da, rfl, h2, _, rfl, a, _, _, _, rfl, rfl, SqT.of ha, atI_nat (j := 1) rfl, _, rfl, o, h1, q _ H (Same.refl H) (h3 _ r)⟩
  · rcases hu with hu | ⟨x, rfl, rfl⟩
    · have ho : t.isOp = false := hu.1
      have hk := hu.2
      refine ⟨_, rfl, 1, rfl, a, _, rfl, SqT.of ha, (fun hw => ?_), (fun hw p0 np0 => ?_)⟩
      · have us0 : us = [] := by
          have h2 := hw.2
          rw [show HT.sIx (V.str t.word :: us).length (V.str t.word :: us).length (some 1) = min 1 (V.str t.word :: us).length from HT.sIx_nat _ _ 1, List.length_cons] at h2
          exact List.length_eq_zero_iff.mp (by omega)
        have gb : H a = some (.tup [V.str t.word]) := by
          rw [← us0]
          exact ha
        have sG0 : Same H H := Same.refl H
        refine ⟨_, rfl, 1, rfl, a, _, rfl, SqT.of (sG0 _ _ ha), notWhole _ _, fun p np => ?_⟩
        rw [cutFrom1]
        refine ⟨p, rfl, ⟨_, SqT.of upd_same⟩, fun D nD => ?_⟩
        have sp := newS (o := .tup us) np
        have pD : p ≠ D := fun z => by
          rw [← z, upd_same] at nD
          cases nD
        have bD : a ≠ D := ne_of_none (sp _ _ gb) nD
        have s1 := sG0.trans sp
        have hD : H D = none := s1.free nD
        refine lc_tup (xs := us) (fun i G => Same H G ∧ G p = some (.tup us) ∧ G a = some (.tup [V.str t.word]) ∧ ∃ ws, G D = some (.lst ws) ∧ RpL0 G ((t.kids.take i).map (Kd.fill g)) ws) ?_ (fun i G _ z => SqT.of z.2.1) (fun i x G hx z => ?_) (fun G z => ?_)
        · exact ⟨smk s1 hD, by rw [upd_ne pD, upd_same], by rw [upd_ne bD]; exact sp _ _ gb, [], upd_same, trivial⟩
        · obtain ⟨sG, gp, gB, ws, gD, rw'⟩ := z
          obtain ⟨c, hc, rc⟩ := (hk.tk (Tk.of sG)).get hx
          have hcm := RpL0.mem (H := H) (vs := us) hc
          have hdp := Kd.kids_dp hcm
          have li := (List.getElem?_eq_some_iff.mp hc).1
          have lk := Kd.kids_le t
          have lw := rw'.len
          rw [List.length_map, List.length_take] at lw
          have tk : t.kids.take (i + 1) = t.kids.take i ++ [c] := by rw [List.take_add_one, hc]; rfl
          refine ⟨rfl, _, rfl, _, rfl, x, da, c, g, rfl, by omega, rc, hd.same sG, fun u G2 s3 ru => ?_⟩
          have gD2 := s3 _ _ gD
          have t1 : Tk G (upd G2 D (.lst (ws ++ [u]))) := (Tk.of s3).put (fun _ z => by rw [gD] at z; cases z)
          have t2 : Tk G2 (upd G2 D (.lst (ws ++ [u]))) := Tk.rfl.put (fun _ z => by rw [gD2] at z; cases z)
          refine ⟨_, gD2, small1000 (by omega), smk (sG.trans s3) hD, by rw [upd_ne pD]; exact s3 _ _ gp, by rw [upd_ne bD]; exact s3 _ _ gB, ws ++ [u], upd_same, ?_⟩
          rw [tk, List.map_append]
          exact RpL0.app (us := [c.fill g]) (ws := [u]) (rw'.tk t1) ⟨ru.tk t2, trivial⟩
        · obtain ⟨sG, gp, gB, ws, gD, rw'⟩ := z
          rw [← hk.len, List.take_length] at rw'
          have lk := Kd.kids_le t
          have lw := rw'.len
          rw [List.length_map] at lw
          refine ⟨D, _, rfl, .inl ⟨SqL.of gD, fun m nm => ?_⟩⟩
          have sm := newS (o := .tup ws) nm
          refine ⟨a, m, _, _, rfl, rfl, SqT.of (sm _ _ gB), SqT.of upd_same, sz (by simp only [List.length_cons, List.length_nil]; omega), (fun z => nomatch z), (fun _ z => ?_), fun _ _ p2 np2 => ?_⟩
          · subst z
            exact q _ _ (sG.trans sm) (Rp0.build ho (sm _ _ gB) (rw'.tk (Tk.of sm)))
          · have s4 := newS (o := .tup ([V.str t.word] ++ ws)) np2
            exact q _ _ ((sG.trans sm).trans s4) (Rp0.build ho upd_same ((rw'.tk (Tk.of sm)).tk (Tk.of s4)))
      · have e1 : cutV (V.str t.word :: us) none (some 1) = [V.str t.word] := by
          rw [show (some (1 : Int)) = some ((1 : Nat) : Int) from rfl, cutTo (by simp)]
          rfl
        rw [e1]
        have sG0 := newS (o := .tup [V.str t.word]) np0
        have gb : (upd H p0 (.tup [V.str t.word])) p0 = some (.tup [V.str t.word]) := upd_same
        generalize upd H p0 (.tup [V.str t.word]) = G0 at sG0 gb
        refine ⟨_, rfl, 1, rfl, a, _, rfl, SqT.of (sG0 _ _ ha), notWhole _ _, fun p np => ?_⟩
        rw [cutFrom1]
        refine ⟨p, rfl, ⟨_, SqT.of upd_same⟩, fun D nD => ?_⟩
        have sp := newS (o := .tup us) np
        have pD : p ≠ D := fun z => by
          rw [← z, upd_same] at nD
          cases nD
        have bD : p0 ≠ D := ne_of_none (sp _ _ gb) nD
        have s1 := sG0.trans sp
        have hD : H D = none := s1.free nD
        refine lc_tup (xs := us) (fun i G => Same H G ∧ G p = some (.tup us) ∧ G p0 = some (.tup [V.str t.word]) ∧ ∃ ws, G D = some (.lst ws) ∧ RpL0 G ((t.kids.take i).map (Kd.fill g)) ws) ?_ (fun i G _ z => SqT.of z.2.1) (fun i x G hx z => ?_) (fun G z => ?_)
        · exact ⟨smk s1 hD, by rw [upd_ne pD, upd_same], by rw [upd_ne bD]; exact sp _ _ gb, [], upd_same, trivial⟩
        · obtain ⟨sG, gp, gB, ws, gD, rw'⟩ := z
          obtain ⟨c, hc, rc⟩ := (hk.tk (Tk.of sG)).get hx
          have hcm := RpL0.mem (H := H) (vs := us) hc
          have hdp := Kd.kids_dp hcm
          have li := (List.getElem?_eq_some_iff.mp hc).1
          have lk := Kd.kids_le t
          have lw := rw'.len
          rw [List.length_map, List.length_take] at lw
          have tk : t.kids.take (i + 1) = t.kids.take i ++ [c] := by rw [List.take_add_one, hc]; rfl
          refine ⟨rfl, _, rfl, _, rfl, x, da, c, g, rfl, by omega, rc, hd.same sG, fun u G2 s3 ru => ?_⟩
          have gD2 := s3 _ _ gD
          have t1 : Tk G (upd G2 D (.lst (ws ++ [u]))) := (Tk.of s3).put (fun _ z => by rw [gD] at z; cases z)
          have t2 : Tk G2 (upd G2 D (.lst (ws ++ [u]))) := Tk.rfl.put (fun _ z => by rw [gD2] at z; cases z)
          refine ⟨_, gD2, small1000 (by omega), smk (sG.trans s3) hD, by rw [upd_ne pD]; exact s3 _ _ gp, by rw [upd_ne bD]; exact s3 _ _ gB, ws ++ [u], upd_same, ?_⟩
          rw [tk, List.map_append]
          exact RpL0.app (us := [c.fill g]) (ws := [u]) (rw'.tk t1) ⟨ru.tk t2, trivial⟩
        · obtain ⟨sG, gp, gB, ws, gD, rw'⟩ := z
          rw [← hk.len, List.take_length] at rw'
          have lk := Kd.kids_le t
          have lw := rw'.len
          rw [List.length_map] at lw
          refine ⟨D, _, rfl, .inl ⟨SqL.of gD, fun m nm => ?_⟩⟩
          have sm := newS (o := .tup ws) nm
          refine ⟨p0, m, _, _, rfl, rfl, SqT.of (sm _ _ gB), SqT.of upd_same, sz (by simp only [List.length_cons, List.length_nil]; omega), (fun z => nomatch z), (fun _ z => ?_), fun _ _ p2 np2 => ?_⟩
          · subst z
            exact q _ _ (sG.trans sm) (Rp0.build ho (sm _ _ gB) (rw'.tk (Tk.of sm)))
          · have s4 := newS (o := .tup ([V.str t.word] ++ ws)) np2
            exact q _ _ ((sG.trans sm).trans s4) (Rp0.build ho upd_same ((rw'.tk (Tk.of sm)).tk (Tk.of s4)))
    · exact absurd rfl e
theorem okLPut {f : Addr} {fd : FuncData} (F : Fun K "_law_put_in" "_law_put_in" tLPut f fd) (bF : Binds K fd ["_law_kind", "_law_table"] []) (gF : mg "_law_put_in" = some (.ref f)) (mt : mg "tuple" = none) : ∀ n, FnOk P w K mg base CX0 (n + 1) f fd ["_law_kind", "_law_table"] (spPutIn n)
  | 0 => noFn fun vs H Q E h => by
    obtain ⟨v, a, t, g, _, hn, _⟩ := h
    omega
  | n + 1 => okLPut1 F bF gF mt (okLPut F bF gF mt n)
/-! filled_kind -/
/-- a tuple of fills: names and kinds -/
def RF (H : Hp) (p : Addr) (fs : List (Str × Kd)) : Prop := ∃ (o : Obj) (ps : List Addr) (kvs : List (Key × V)), H p = some (.frz o (.tup (ps.map V.ref))) ∧ o.dict = none ∧ o.cls = .type "tuple" ∧ Paired (fun p kv => H p = some (.tup [kV kv.1, kv.2])) ps kvs ∧ Paired (fun (kv : Key × V) (f : Str × Kd) => kv.1 = .inr f.1 ∧ Rp0 H f.2 kv.2) kvs fs
/-- what the fills tell of a name: the last word -/
def told : List (Str × Kd) → Str → Option Kd
  | [], _ => none
  | f :: fs, x => (told fs x).or (if f.1 = x then some f.2 else none)
theorem merge_rv {H : Hp} {x : Str} : ∀ {kvs : List (Key × V)} {fs : List (Str × Kd)}, Paired (fun (kv : Key × V) (f : Str × Kd) => kv.1 = .inr f.1 ∧ Rp0 H f.2 kv.2) kvs fs → ∀ (acc : List (Key × V)) (o : Option Kd), RV H o (valV acc (.inr x)) → RV H ((told fs x).or o) (valV (mergeK acc kvs) (.inr x))
  | _, _, .nil, acc, o, h => h
  | _, _, .cons (a := kv) (b := f) (l₁ := kvs) (l₂ := fs) h t, acc, o, r => by
    show RV H (((told fs x).or (if f.1 = x then some f.2 else none)).or o) (valV (mergeK (putK acc kv.1 kv.2) kvs) (.inr x))
    rw [Option.or_assoc]
    refine merge_rv (x := x) t (putK acc kv.1 kv.2) ((if f.1 = x then some f.2 else none).or o) ?_
    · rw [valV_put, h.1]
      by_cases e : f.1 = x
      · rw [if_pos e, if_pos (by rw [e])]
        exact h.2
      · rw [if_neg e, if_neg (fun z => e (Sum.inr.inj z).symm)]
        exact r
theorem RF.same {H G : Hp} {p : Addr} {fs : List (Str × Kd)} (h : RF H p fs) (s : Same H G) : RF G p fs := by
  obtain ⟨o, ps, kvs, h1, h2, h3, h4, h5⟩ := h
  refine ⟨o, ps, kvs, s _ _ h1, h2, h3, ?_, ?_⟩
  · exact Paired.mapP h4 fun _ _ e => s _ _ e
  · exact Paired.mapP h5 fun _ _ e => ⟨e.1, e.2.tk (Tk.of s)⟩
theorem scFilled : FnScope ["kind", "fills"] ["kind", "fills"] (defScope tFilled) := ⟨rfl, rfl, rfl, by decide +kernel, rfl, by decide +kernel, by decide +kernel⟩
def spFilled (n : Nat) : Sp := fun vs H Q _ => ∃ (v : V) (p : Addr) (t : Kd) (fs : List (Str × Kd)), vs = [v, .ref p] ∧ t.dp + 1 ≤ n ∧ Rp0 H t v ∧ RF H p fs ∧ ∀ (u : V) (G : Hp), Same H G → Rp0 G (t.fill (told fs)) u → Q u G
theorem okFilled {f fP : Addr} {fd fdP : FuncData} {n : Nat} (F : Fun K "filled_kind" "filled_kind" tFilled f fd) (GP : FnOk P w K mg base CX0 (n + 1) fP fdP ["kind", "put"] (spPutIn n)) (bP : Binds K fdP ["kind", "put"] []) (gP : mg "put_in" = some (.ref fP)) (kP : PySem.W.keepIn K (.ref fP) = true) (md : mg "dict" = none) :
    FnOk P w K mg base CX0 (n + 2) f fd ["kind", "fills"] (spFilled n) := by
  refine F.ok scFilled (fun vs H Q E h => ?_) (fun cdv A outer s H vs Q E hr h => ?_)
  · obtain ⟨v, p, t, fs, rfl, _⟩ := h
    rfl
  obtain ⟨v, p, t, fs, rfl, hn, r, ⟨o, ps, kvs, h1, h2, h3, h4, h5⟩, q⟩ := h
  refine ⟨_, pss_one (ps_ret (pe_call GP hr (by rfl) gP kP bP .nil pass0 (pa_cons (pv 0) (pa_cons (pe_callTy (Kt.call_dictF rfl) (by rfl) md PyProof.Rows.boot_dict (pa_cons (pv 1) pa_nil)) pa_nil)))), ?_⟩
  refine ⟨_, rfl, _, rfl, p, o, ps, kvs, rfl, h1, h2, h3, Paired.mapP h4 fun _ _ e => SqT.of e, fun a na => ?_⟩
  have s' := newS (o := .dK (mergeK [] kvs)) na
  refine ⟨v, a, t, told fs, rfl, hn, r.tk (Tk.of s'), ⟨_, upd_same, fun x => ?_⟩, fun u G sG ru => q u G (s'.trans sG) ru⟩
  have z := merge_rv (H := H) (x := x) h5 [] none trivial
  rw [Option.or_none] at z
  exact z.tk (Tk.of s')
end
end Kq

/-! terms of four words, and their kinds -/
namespace Kq
open PySem PySem.Spec PyProof.Rows L2 Kf Kg Kv Kk Ku
inductive Tm where
  | name (x : Str)
  | fn (x : Str) (k : Kd) (t : Tm)
  | call (a b : Tm)
  | told (f : Str) (fs : List (Str × Kd))
def fsd (fs : List (Str × Kd)) : List Dt := fs.map fun p => .tup [.str p.1, p.2.dt]
def Tm.dt : Tm → Dt
  | .name x => .tup [.str "name", .str x]
  | .fn x k t => .tup [.str "fun", .str x, k.dt, t.dt]
  | .call a b => .tup [.str "call", a.dt, b.dt]
  | .told f fs => .tup [.str "told", .str f, .tup (fsd fs)]
def Tm.dp : Tm → Nat
  | .fn _ _ t => t.dp + 1
  | .call a b => max a.dp b.dp + 1
  | _ => 0
/-- a term as the law lays it -/
def Fz (H : Hp) : Tm → V → Prop
  | .name x, v => ∃ p, v = .ref p ∧ H p = some (.tup [.str "name", .str x])
  | .fn x k t, v => ∃ p u u', v = .ref p ∧ H p = some (.tup [.str "fun", .str x, u, u']) ∧ Rp0 H k u ∧ Fz H t u'
  | .call a b, v => ∃ p u u', v = .ref p ∧ H p = some (.tup [.str "call", u, u']) ∧ Fz H a u ∧ Fz H b u'
  | .told f fs, v => ∃ p q, v = .ref p ∧ H p = some (.tup [.str "told", .str f, .ref q]) ∧ RF H q fs
theorem Fz.same {H G : Hp} (s : Same H G) : ∀ {t : Tm} {v : V}, Fz H t v → Fz G t v := by
  intro t
  induction t with
  | name x => exact fun ⟨p, e, h⟩ => ⟨p, e, s _ _ h⟩
  | fn x k t i => exact fun ⟨p, u, u', e, h, r, f⟩ => ⟨p, u, u', e, s _ _ h, r.tk (.of s), i f⟩
  | call a b i j => exact fun ⟨p, u, u', e, h, r, f⟩ => ⟨p, u, u', e, s _ _ h, i r, j f⟩
  | told f fs => exact fun ⟨p, q, e, h, r⟩ => ⟨p, q, e, s _ _ h, r.same s⟩
theorem rf_ddl {H : Hp} {ps : List Addr} {kvs : List (Key × V)} (h : Paired (fun p kv => H p = some (.tup [kV kv.1, kv.2])) ps kvs) : ∀ {fs : List (Str × Kd)}, Paired (fun (kv : Key × V) (f : Str × Kd) => kv.1 = .inr f.1 ∧ Rp0 H f.2 kv.2) kvs fs → DdL Non H (fsd fs) (ps.map V.ref) := by
  induction h with
  | nil => intro fs h; cases h; exact .nil
  | cons h t i =>
    intro fs h2
    cases h2 with
    | cons a b =>
      obtain ⟨e, r⟩ := a
      refine .cons (.tup (.inl h) (.cons ?_ (.cons (rp0_dd r) .nil))) (i b)
      rw [e]
      exact .str _
theorem Fz.dd {H : Hp} : ∀ {t : Tm} {v : V}, Fz H t v → Dd Non H t.dt v := by
  intro t
  induction t with
  | name x => rintro v ⟨p, rfl, h⟩; exact .tup (.inl h) (.cons (.str _) (.cons (.str _) .nil))
  | fn x k t i => rintro v ⟨p, u, u', rfl, h, r, f⟩; exact .tup (.inl h) (.cons (.str _) (.cons (.str _) (.cons (rp0_dd r) (.cons (i f) .nil))))
  | call a b i j => rintro v ⟨p, u, u', rfl, h, r, f⟩; exact .tup (.inl h) (.cons (.str _) (.cons (i r) (.cons (j f) .nil)))
  | told f fs =>
    rintro v ⟨p, q, rfl, h, ⟨o, ps, kvs, h1, h2, h3, h4, h5⟩⟩
    exact .tup (.inl h) (.cons (.str _) (.cons (.str _) (.cons (.tup (.inr ⟨o, ⟨h2, h3⟩, h1⟩) (rf_ddl h4 h5)) .nil)))
/-- kinds of names -/
abbrev Ek := Str → Option Kd
def Ek.put (e : Ek) (x : Str) (k : Kd) : Ek := fun y => if y = x then some k else e y
def Ek.none : Ek := fun _ => Option.none
namespace Kd
def fnOf : Kd → Option (Kd × Kd)
  | .fn a b => some (a, b)
  | _ => Option.none
end Kd
/-- a known function: its name, what it looks at, its kind -/
structure Kw where
  nm : Str
  lo : List Str
  k : Kd
/-- what is settled: the names that are looked at, the known functions -/
structure Sl where
  lk : List Str
  kn : List Kw
def kwOf : List Kw → Str → Option Kw
  | [], _ => Option.none
  | w :: r, f => if w.nm = f then some w else kwOf r f
/-- the fills are right ones -/
structure FOk (lk : List Str) (w : Kw) (fs : List (Str × Kd)) : Prop where
  eq : ∀ x, x ∈ fs.map (·.1) ↔ x ∈ w.k.opens
  lo : ∀ p ∈ fs, p.1 ∈ w.lo → ∃ x ∈ lk, p.2 = .opn x
open Classical in
noncomputable def chk (lk : Sl) : Tm → Ek → Option Kd
  | .name x, e => e x
  | .fn x k t, e => (chk lk t (e.put x k)).map (Kd.fn k)
  | .call a b, e => ((chk lk a e).bind Kd.fnOf).bind fun p => (chk lk b e).bind fun y => if p.1 = y then some p.2 else Option.none
  | .told f fs, _ => (kwOf lk.kn f).bind fun w => if FOk lk.lk w fs then some (w.k.fill (told fs)) else Option.none
/-- fills in the order of their names, not great -/
structure FsOk (NO : List Str) (fs : List (Str × Kd)) : Prop where
  st : sortedS (fs.map (·.1)) = true
  nd : (fs.map (·.1)).Nodup
  len : fs.length ≤ 40
  nm : ∀ p ∈ fs, Nm p.1
  gk : ∀ p ∈ fs, p.2.isDat = true
/-- no great kind -/
structure Gk (NO : List Str) (k : Kd) : Prop where
  dp : k.dp ≤ 50
  sz : k.size ≤ 900
  op : ∀ x ∈ k.opens, x ∈ NO
theorem Kd.size_pr (a b : Kd) : (Kd.pair a b).size = a.size + b.size + 1 := by
  show (a.nodes ++ b.nodes).length + 1 = _
  rw [List.length_append]
  rfl
theorem Kd.size_ei (a b : Kd) : (Kd.eith a b).size = a.size + b.size + 1 := by
  show (a.nodes ++ b.nodes).length + 1 = _
  rw [List.length_append]
  rfl
theorem Kd.size_ls (a : Kd) : (Kd.lst a).size = a.size + 1 := rfl
theorem Gk.fn1 {NO : List Str} {a b : Kd} (h : Gk NO (.fn a b)) : Gk NO a := ⟨by have := h.dp; rw [Kd.dp] at this; omega, by have := h.sz; rw [Kd.size_fn] at this; omega, fun x hx => h.op x (List.mem_append_left _ hx)⟩
theorem Gk.fn2 {NO : List Str} {a b : Kd} (h : Gk NO (.fn a b)) : Gk NO b := ⟨by have := h.dp; rw [Kd.dp] at this; omega, by have := h.sz; rw [Kd.size_fn] at this; omega, fun x hx => h.op x (List.mem_append_right _ hx)⟩
theorem Gk.pr1 {NO : List Str} {a b : Kd} (h : Gk NO (.pair a b)) : Gk NO a := ⟨by have := h.dp; rw [Kd.dp] at this; omega, by have := h.sz; rw [Kd.size_pr] at this; omega, fun x hx => h.op x (List.mem_append_left _ hx)⟩
theorem Gk.pr2 {NO : List Str} {a b : Kd} (h : Gk NO (.pair a b)) : Gk NO b := ⟨by have := h.dp; rw [Kd.dp] at this; omega, by have := h.sz; rw [Kd.size_pr] at this; omega, fun x hx => h.op x (List.mem_append_right _ hx)⟩
theorem Gk.ei1 {NO : List Str} {a b : Kd} (h : Gk NO (.eith a b)) : Gk NO a := ⟨by have := h.dp; rw [Kd.dp] at this; omega, by have := h.sz; rw [Kd.size_ei] at this; omega, fun x hx => h.op x (List.mem_append_left _ hx)⟩
theorem Gk.ei2 {NO : List Str} {a b : Kd} (h : Gk NO (.eith a b)) : Gk NO b := ⟨by have := h.dp; rw [Kd.dp] at this; omega, by have := h.sz; rw [Kd.size_ei] at this; omega, fun x hx => h.op x (List.mem_append_right _ hx)⟩
theorem Gk.ls {NO : List Str} {a : Kd} (h : Gk NO (.lst a)) : Gk NO a := ⟨by have := h.dp; rw [Kd.dp] at this; omega, by have := h.sz; rw [Kd.size_ls] at this; omega, h.op⟩
theorem Gk.num {NO : List Str} : Gk NO .num := ⟨by decide, by decide, fun x hx => by cases hx⟩
theorem Gk.tru {NO : List Str} : Gk NO .tru := ⟨by decide, by decide, fun x hx => by cases hx⟩
/-- names that kinds are made of -/
structure NoK (NO : List Str) : Prop where
  nd : NO.Nodup
  len : NO.length ≤ 40
  nm : ∀ x ∈ NO, Nm x
/-- no great kinds, names known, where a term is gone through -/
def Sml (lk : Sl) (NS NO : List Str) : Tm → Ek → Prop
  | .fn x k t, e => x ∈ NS ∧ Gk NO k ∧ Sml lk NS NO t (e.put x k) ∧ ∀ r, chk lk t (e.put x k) = some r → Gk NO (.fn k r)
  | .call a b, e => Sml lk NS NO a e ∧ ((chk lk a e).bind Kd.fnOf ≠ Option.none → Sml lk NS NO b e)
  | .name x, _ => x.length ≤ 100
  | .told f fs, _ => f.length ≤ 100 ∧ FsOk NO fs ∧ lk.lk.length ≤ 26 ∧ ∀ w, kwOf lk.kn f = some w → w.k.dp ≤ 7 ∧ Gk NO w.k ∧ w.lo.length ≤ 26 ∧ (FOk lk.lk w fs → Gk NO (w.k.fill (told fs)))
theorem sqT_same {K : PySem.W.Frag} {H G : Hp} {a : Addr} {xs : List V} (h : SqT K H a xs) (s : Same H G) : SqT K G a xs := by
  rcases h with h | h
  · rcases h with h | ⟨o, h⟩
    · exact .inl (.inl (s _ _ h))
    · exact .inl (.inr ⟨o, s _ _ h⟩)
  · exact .inr h
theorem put_gk {NO : List Str} {e : Ek} (h : ∀ y q, e y = some q → Gk NO q) {x : Str} {k : Kd} (hk : Gk NO k) : ∀ y q, (e.put x k) y = some q → Gk NO q := fun y q hy => by
  unfold Ek.put at hy
  split at hy
  · cases hy
    exact hk
  · exact h y q hy
theorem fnOf_eq {o : Option Kd} {p : Kd × Kd} (h : o.bind Kd.fnOf = some p) : o = some (.fn p.1 p.2) := by
  cases o with
  | none => cases h
  | some k => cases k <;> cases h; rfl
theorem if_eq {α : Type} {c : Prop} [Decidable c] {a b : α} (h : (if c then some a else Option.none) = some b) : c ∧ a = b := by
  by_cases z : c
  · rw [if_pos z] at h
    exact ⟨z, Option.some.inj h⟩
  · rw [if_neg z] at h
    cases h
/-- what is told is not great -/
theorem Sml.gk {lk : Sl} {NS NO : List Str} : ∀ {t : Tm} {e : Ek} {k : Kd}, Sml lk NS NO t e → (∀ y q, e y = some q → Gk NO q) → chk lk t e = some k → Gk NO k := by
  intro t
  induction t with
  | name x => exact fun s g h => g _ _ h
  | fn x k t i =>
    intro e r s g h
    obtain ⟨_, gk, st, hr⟩ := s
    rw [chk] at h
    obtain ⟨q, hq, rfl⟩ := Option.map_eq_some_iff.mp h
    exact hr q hq
  | call a b i j =>
    intro e r s g h
    rw [chk] at h
    obtain ⟨p, hp, h⟩ := Option.bind_eq_some_iff.mp h
    obtain ⟨y, hy, h⟩ := Option.bind_eq_some_iff.mp h
    rw [← (if_eq h).2]
    exact (i s.1 g (fnOf_eq hp)).fn2
  | told f fs =>
    intro e r s g h
    rw [chk] at h
    obtain ⟨w, hw, h⟩ := Option.bind_eq_some_iff.mp h
    split at h
    · rename_i c
      rw [← Option.some.inj h]
      exact (s.2.2.2 w hw).2.2.2 c
    · cases h
/-- the known ones stand at b -/
def Kns (H : Hp) (b : Addr) (kn : List Kw) : Prop := ∃ rs : List Addr, H b = some (.tup (rs.map V.ref)) ∧ Paired (fun r (w : Kw) => ∃ lo kv, H r = some (.tup [.str w.nm, .ref lo, kv]) ∧ H lo = some (.tup (w.lo.map V.str)) ∧ Rp0 H w.k kv) rs kn
theorem Kns.same {H G : Hp} {b : Addr} {kn : List Kw} (h : Kns H b kn) (s : Same H G) : Kns G b kn := by
  obtain ⟨rs, h1, h2⟩ := h
  exact ⟨rs, s _ _ h1, Paired.mapP h2 fun _ _ ⟨lo, kv, a, b, c⟩ => ⟨lo, kv, s _ _ a, s _ _ b, c.tk (.of s)⟩⟩
/-- kinds of names stand at d -/
def Ec (K : PySem.W.Frag) (NS NO : List Str) (H : Hp) (e : Ek) (d : Addr) : Prop := ∃ kvs, H d = some (.dK kvs) ∧ NmD NS kvs ∧ (∀ y, e y = Option.none → valV kvs (Sum.inr y) = Option.none) ∧ ∀ y k, e y = some k → Gk NO k ∧ ∃ v, valV kvs (Sum.inr y) = some v ∧ Rp K H k v
/-- what is settled stands at s -/
def Se (K : PySem.W.Frag) (H : Hp) (lk : Sl) (s : Addr) : Prop := ∃ a b, H s = some (.tup [.ref a, .ref b]) ∧ H a = some (.tup (lk.lk.map V.str)) ∧ Kns H b lk.kn
/-- all but the names' dict stays -/
def Ss (st : Addr) (H G : Hp) : Prop := ∀ b o, b ≠ st → H b = some o → G b = some o
theorem Ss.rfl {st : Addr} {H : Hp} : Ss st H H := fun _ _ _ e => e
theorem Ss.trans {st : Addr} {H G F : Hp} (a : Ss st H G) (b : Ss st G F) : Ss st H F := fun x o n e => b x o n (a x o n e)
theorem Ss.of {st : Addr} {H G : Hp} (s : Same H G) : Ss st H G := fun b o _ e => s b o e
/-- a new dict's -/
theorem Ss.new {st : Addr} {H G F : Hp} (h : H st = Option.none) (s : Same H G) (a : Ss st G F) : Same H F := fun b o e => a b o (ne_of_none e h) (s b o e)
def Ko (K : PySem.W.Frag) (cN d : Addr) : Option Kd → Hp → VK → XK → Prop
  | some k, H, Q, _ => ∀ (u : V) (G : Hp), Same H G → Rp K G k u → Q u G
  | Option.none, H, _, E => ∀ G : Hp, Ss d H G → E (.ref cN) none G
def spAt (K : PySem.W.Frag) (NS NO : List Str) (cN : Addr) (lk : Sl) (n : Nat) : Sp := fun vs H Q E => ∃ (vt : V) (d s : Addr) (t : Tm) (e : Ek), vs = [vt, .ref d, .ref s] ∧ Fz H t vt ∧ Ec K NS NO H e d ∧ Se K H lk s ∧ t.dp < n ∧ Sml lk NS NO t e ∧ Ko K cN d (chk lk t e) H Q E
section
variable {K : PySem.W.Frag} {NS NO : List Str} {lk : Sl} {H G : Hp} {e : Ek} {d s cN : Addr}
theorem Ec.same (h : Ec K NS NO H e d) (sm : Same H G) : Ec K NS NO G e d := by
  obtain ⟨kvs, h1, h2, h3, h4⟩ := h
  refine ⟨kvs, sm _ _ h1, h2, h3, fun y k hy => ?_⟩
  obtain ⟨g, v, e1, e2⟩ := h4 y k hy
  exact ⟨g, v, e1, e2.tk (.of sm)⟩
theorem Se.same (h : Se K H lk s) (sm : Same H G) : Se K G lk s := by
  obtain ⟨a, b, h1, h2, h3⟩ := h
  exact ⟨a, b, sm _ _ h1, sm _ _ h2, h3.same sm⟩
theorem Ko.same {o : Option Kd} {Q : VK} {E : XK} (q : Ko K cN d o H Q E) (sm : Same H G) : Ko K cN d o G Q E := by
  cases o with
  | none => exact fun F s1 => q F (Ss.trans (.of sm) s1)
  | some k => exact fun u F s1 r => q u F (sm.trans s1) r
theorem Ko.mk {o : Option Kd} {Q : VK} {E : XK} (h1 : ∀ k, o = some k → ∀ (u : V) (G : Hp), Same H G → Rp K G k u → Q u G) (h2 : o = Option.none → ∀ G : Hp, Ss d H G → E (.ref cN) none G) : Ko K cN d o H Q E := by
  cases o with
  | none => exact h2 rfl
  | some k => exact h1 k rfl
theorem Ko.ok {o : Option Kd} {k : Kd} {Q : VK} {E : XK} (q : Ko K cN d o H Q E) (e : o = some k) {u : V} {G : Hp} (s : Same H G) (r : Rp K G k u) : Q u G := by
  subst e
  exact q u G s r
theorem Ko.no {o : Option Kd} {Q : VK} {E : XK} (q : Ko K cN d o H Q E) (e : o = Option.none) {G : Hp} (s : Ss d H G) : E (.ref cN) none G := by
  subst e
  exact q G s
theorem Ec.gk (h : Ec K NS NO H e d) {y : Str} {k : Kd} (hy : e y = some k) : Gk NO k := by
  obtain ⟨kvs, h1, h2, h3, h4⟩ := h
  exact (h4 y k hy).1
end
end Kq

/-! names put to kinds; need, need_same -/
namespace Kq
open PySem PySem.Spec PyProof.Rows L2 Kf Kg Kv Kk Ku
def puts (e : Ek) (xs : List (Str × Kd × V)) : Ek := xs.foldl (fun e x => e.put x.1 x.2.1) e
def RE (P : Kd → V → Prop) (kvs : List (Key × V)) (e : Ek) : Prop := (∀ y, e y = none → valV kvs (Sum.inr y) = none) ∧ ∀ y k, e y = some k → ∃ v, valV kvs (Sum.inr y) = some v ∧ P k v
theorem RE.mg {P : Kd → V → Prop} : ∀ {xs : List (Str × Kd × V)} {acc : List (Key × V)} {e : Ek}, (∀ x ∈ xs, P x.2.1 x.2.2) → RE P acc e → RE P (mergeK acc (xs.map fun x => (Sum.inr x.1, x.2.2))) (puts e xs)
  | [], _, _, _, h => h
  | x :: xs, acc, e, hx, h => by
    refine RE.mg (xs := xs) (fun y hy => hx y (List.mem_cons_of_mem _ hy)) ⟨fun y hy => ?_, fun y k hy => ?_⟩
    · have hy : (if y = x.1 then some x.2.1 else e y) = none := hy
      rw [valV_put]
      show (if Sum.inr y = Sum.inr x.1 then some x.2.2 else valV acc (Sum.inr y)) = none
      by_cases c : y = x.1
      · rw [if_pos c] at hy
        cases hy
      · rw [if_neg c] at hy
        rw [if_neg (fun z => c (Sum.inr.inj z))]
        exact h.1 y hy
    · have hy : (if y = x.1 then some x.2.1 else e y) = some k := hy
      rw [valV_put]
      show ∃ v, (if Sum.inr y = Sum.inr x.1 then some x.2.2 else valV acc (Sum.inr y)) = some v ∧ P k v
      by_cases c : y = x.1
      · rw [if_pos c] at hy
        cases hy
        rw [if_pos (by rw [c])]
        exact ⟨_, rfl, hx x List.mem_cons_self⟩
      · rw [if_neg c] at hy
        rw [if_neg (fun z => c (Sum.inr.inj z))]
        exact h.2 y k hy
theorem puts_or : ∀ (xs : List (Str × Kd × V)) (e : Ek) (y : Str), puts e xs y = (puts Ek.none xs y).or (e y)
  | [], e, y => by show e y = (none).or (e y); rfl
  | x :: xs, e, y => by
    show puts (e.put x.1 x.2.1) xs y = (puts (Ek.none.put x.1 x.2.1) xs y).or (e y)
    rw [puts_or xs (e.put x.1 x.2.1) y, puts_or xs (Ek.none.put x.1 x.2.1) y]
    cases puts Ek.none xs y with
    | some k => rfl
    | none =>
      show (e.put x.1 x.2.1) y = ((Ek.none.put x.1 x.2.1) y).or (e y)
      unfold Ek.put
      by_cases c : y = x.1
      · rw [if_pos c, if_pos c]
        rfl
      · rw [if_neg c, if_neg c]
        rfl
section
variable {P : Program} {w : World} {K : PySem.W.Frag} {mg : Str → Option Value} {base : Heap} {NS NO : List Str} {lk : Sl} {cN : Addr}
theorem splatC {H : Hp} {σ : L2.St} {Q : VK} {i : Nat} {d : Addr} {e : Ek} {trs : List (TE × TE)} (he : Ec K NS NO H e d) (hn : NS.length ≤ 400) (si : σ[i]? = some (some (.ref d)))
    (h : ∀ (G : Hp) (T : List (V × V) → Hp → Prop), Same H G → (∀ (xs : List (Str × Kd × V)) (F : Hp), Same G F → xs.length ≤ 2 → (∀ x ∈ xs, x.1 ∈ NS ∧ Gk NO x.2.1 ∧ Rp K F x.2.1 x.2.2) → (∀ p F2, H p = none → Same H F2 → Ec K NS NO F2 (puts e xs) p → Q (.ref p) F2) → T (xs.map fun x => (.str x.1, x.2.2)) F) → tPairs trs σ G T) : tSplat (tVar i) trs σ H Q := by
  obtain ⟨more, hd, nm, l1, l2⟩ := he
  intro p np
  have s1 := newS (o := .dK []) np
  have ln := nm.len
  refine ⟨_, si, upd_same, d, more, rfl, (ne_of_none hd np), s1 _ _ hd, by omega, fun q nq => ?_⟩
  have qp : p ≠ q := fun z => by rw [← z, upd_same] at nq; cases nq
  have nq0 : H q = Option.none := by rw [upd_ne qp.symm, upd_ne qp.symm] at nq; exact nq
  refine h _ _ (smk (smk (smk (Same.refl H) np) np) nq0) fun xs F sF hl hx qq => ?_
  have gq : F q = some (.dK []) := sF _ _ upd_same
  have gp : F p = some (.dK (mergeK [] more)) := sF _ _ (by rw [upd_ne qp, upd_same])
  have sHF : Same H F := (smk (smk (smk (Same.refl H) np) np) nq0).trans sF
  have tF : Tk F (upd (upd F q (.dK (mergeK [] (xs.map fun x => ((Sum.inr x.1 : Key), x.2.2))))) p (.dK (mergeK (mergeK [] more) (mergeK [] (xs.map fun x => ((Sum.inr x.1 : Key), x.2.2)))))) := (Tk.rfl.put (fun _ z => by rw [gq] at z; cases z)).put (fun _ z => by rw [gp] at z; cases z)
  have sE : Same H (upd (upd F q (.dK (mergeK [] (xs.map fun x => ((Sum.inr x.1 : Key), x.2.2))))) p (.dK (mergeK (mergeK [] more) (mergeK [] (xs.map fun x => ((Sum.inr x.1 : Key), x.2.2)))))) := smk (smk sHF nq0) np
  refine ⟨gq, gp, xs.map fun x => (Sum.inr x.1, x.2.2), by rw [List.map_map]; rfl, by rw [List.length_map]; omega, qq p _ np sE ?_⟩
  have nk : NmD NS (mergeK [] (xs.map fun x => ((Sum.inr x.1 : Key), x.2.2))) := NmD.nil.merge fun kv hk => by
    obtain ⟨x, hx2, rfl⟩ := List.mem_map.mp hk
    exact ⟨x.1, (hx x hx2).1, rfl⟩
  have r0 : RE (fun k v => Gk NO k ∧ Rp K F k v) (mergeK [] (xs.map fun x => ((Sum.inr x.1 : Key), x.2.2))) (puts Ek.none xs) := RE.mg (fun x hx2 => (hx x hx2).2) ⟨fun y _ => rfl, fun y k z => by cases z⟩
  refine ⟨_, upd_same, ?_, fun y hy => ?_, fun y k hy => ?_⟩
  · rw [nm.same]
    exact nm.merge fun kv hk => nk.ns _ (List.mem_map.mpr ⟨kv, hk, rfl⟩)
  · rw [nm.same, valV_merge _ nk.nd]
    rw [puts_or] at hy
    cases c : puts Ek.none xs y with
    | some k0 => rw [c] at hy; cases hy
    | none =>
      rw [c] at hy
      rw [r0.1 y c, l1 y hy]
      rfl
  · rw [nm.same] at tF
    rw [nm.same, valV_merge _ nk.nd]
    rw [puts_or] at hy
    cases c : puts Ek.none xs y with
    | some k0 =>
      rw [c] at hy
      obtain rfl : k0 = k := Option.some.inj hy
      obtain ⟨v, e1, g1, e2⟩ := r0.2 y k0 c
      exact ⟨g1, v, by rw [e1]; rfl, e2.tk tF⟩
    | none =>
      rw [c] at hy
      obtain ⟨g1, v, e1, e2⟩ := l2 y k hy
      exact ⟨g1, v, by rw [r0.1 y c, e1]; rfl, (e2.tk (.of sHF)).tk tF⟩
end
end Kq

/-! need, need_same, data_at, formed_at -/
namespace Kq
open PySem PySem.Spec PyProof.Rows L2 Kf Kg Kv Kk Ku
/-- the class NoKind, as the written part has it -/
structure XN (K : PySem.W.Frag) (mg : Str → Option Value) (cM : Addr) : Prop where
  gP : mg "NoKind" = some (.ref cM)
  xP : PySem.W.excIn K cM [.type "ValueError", .type "Exception", .type "BaseException", .type "object"] "ValueError.__new__" = true
  kP : PySem.W.keepIn K (.ref cM) = true
  bP : PySem.W.subIn K (.ref cM) (.type "BaseException") = some true
  tP : PySem.W.typeIn K (.ref cM) = some (.type "type")
def spNeed (cN : Addr) : Sp := fun vs H Q E => ∃ (b : Bool) (u : V), vs = [.bl b, u] ∧ (b = true → Q .non H) ∧ (b = false → E (.ref cN) none H)
def spSame (K : PySem.W.Frag) (cN : Addr) (NO : List Str) : Sp := fun vs H Q E => ∃ (v1 v2 u : V) (a b : Kd), vs = [v1, v2, u] ∧ Rp K H a v1 ∧ Rp K H b v2 ∧ Gk NO a ∧ Gk NO b ∧ (a = b → Q v1 H) ∧ (a ≠ b → E (.ref cN) none H)
def wrd (w : Str) (k : Kd) : Option Kd := if k.word = w then some k else none
def spFormed (K : PySem.W.Frag) (NS NO : List Str) (cN : Addr) (lk : Sl) (n : Nat) : Sp := fun vs H Q E => ∃ (w : Str) (vt : V) (d s : Addr) (t : Tm) (e : Ek), vs = [.str w, vt, .ref d, .ref s] ∧ w.length ≤ 100 ∧ Fz H t vt ∧ Ec K NS NO H e d ∧ Se K H lk s ∧ t.dp < n ∧ Sml lk NS NO t e ∧ Ko K cN d ((chk lk t e).bind (wrd w)) H Q E
theorem Rp.wd {K : PySem.W.Frag} {H : Hp} {k : Kd} {v : V} (h : Rp K H k v) : ∃ a vs, v = .ref a ∧ SqT K H a (.str k.word :: vs) := by
  obtain ⟨a, vs, e, g, _⟩ := h.see
  exact ⟨a, vs, e, g.t⟩
theorem no3 {x : Str} (h : x.length ≤ 100) : (Str.empty ++ Str.ofString "no " ++ x).length ≤ sizeLine := by
  have e : ((Str.empty ++ Str.ofString "no " : Str)).length = 3 := by decide +kernel
  rw [strLen_append, e]
  exact sz (by omega)
section
variable {P : Program} {w : World} {K : PySem.W.Frag} {mg : Str → Option Value} {base : Heap} {NS NO : List Str} {lk : Sl} {cN : Addr}
abbrev tNeed : Stmt := tp 52
abbrev nNeed : List Str := ["held", "why"]
abbrev psNeed : List Str := ["held", "why"]
theorem scNeed : FnScope nNeed psNeed (defScope tNeed) := ⟨rfl, rfl, rfl, by decide +kernel, rfl, by decide +kernel, by decide +kernel⟩
theorem okNeed {f : Addr} {fd : FuncData} {k n : Nat} (F : Fun K "need" "need" tNeed f fd) (xm : XN K mg cN) : FnOk P w K mg base (L2.CX P w) (k + 1) f fd psNeed (spNeed cN) := by
  refine F.okX scNeed (fun vs H Q E h => ?_) (fun cdv A outer s H vs Q E hr h => ?_)
  · obtain ⟨b, u, rfl, _⟩ := h
    rfl
  obtain ⟨b, u, rfl, q1, q2⟩ := h
  refine ⟨_, pss_one (ps_if (pt_not (pt_val (pv 0))) (pss_one (ps_raise rfl (takes_of rfl rfl rfl rfl) (SkE.pmk_own1 PySem.F.excBase_ValueError xm.xP xm.gP xm.kP (raises_own xm.bP xm.tP) rfl (pv 1)))) pss_nil), ?_⟩
  refine ⟨_, rfl, _, rfl, ite2 (fun c => ?_) (fun c => ?_)⟩
  · exact ⟨_, rfl, q2 (by simpa using c)⟩
  · exact q1 (by simpa using c)
abbrev tNeedSame : Stmt := tp 53
abbrev nNeedSame : List Str := ["one", "other", "why"]
abbrev psNeedSame : List Str := ["one", "other", "why"]
theorem scNeedSame : FnScope nNeedSame psNeedSame (defScope tNeedSame) := ⟨rfl, rfl, rfl, by decide +kernel, rfl, by decide +kernel, by decide +kernel⟩
theorem okNeedSame {f : Addr} {fd : FuncData} {k n : Nat} (F : Fun K "need_same" "need_same" tNeedSame f fd) (NK : NoK NO)
    (DN : Okd P w K mg base (L2.CX P w) (k) "need" ["held", "why"] (spNeed cN)) : FnOk P w K mg base (L2.CX P w) (k + 1) f fd psNeedSame (spSame K cN NO) := by
  obtain ⟨fN, fdN, GN, bN, gN, kN⟩ := DN
  refine F.okX scNeedSame (fun vs H Q E h => ?_) (fun cdv A outer s H vs Q E hr h => ?_)
  · obtain ⟨v1, v2, u, a, b, rfl, _⟩ := h
    rfl
  obtain ⟨v1, v2, u, a, b, rfl, h1, h2, g1, g2, q1, q2⟩ := h
  refine ⟨_, pss_cons (ps_expr (pe_callS GN hr (by rfl) gN kN bN (fun σ => passAt (takes_of rfl rfl rfl rfl) σ) (pa_cons (pe_cmpR (op_eqD hr.units) (pv 0) (pv 1) (nomark _)) (pa_cons (pv 2) pa_nil))))
    (pss_one (ps_ret (pv 0))), ?_⟩
  have s1 := shT (fun x hx => NK.nm x (g1.op x hx)) g1.dp
  have s2 := shT (fun x hx => NK.nm x (g2.op x hx)) g2.dp
  refine ⟨_, rfl, _, rfl, _, _, dpT K h1, dpT K h2, s1.1, s2.1, _, rfl, _, _, rfl, fun c => ?_, fun c => ?_⟩
  · exact ⟨_, rfl, q1 ((eqv_iff s1.2).mp c)⟩
  · exact q2 fun e => by
      rw [(eqv_iff s1.2).mpr e] at c
      cases c
abbrev tFormedAt : Stmt := tp 55
abbrev nFormedAt : List Str := ["word", "term", "names", "settled", "kind"]
abbrev psFormedAt : List Str := ["word", "term", "names", "settled"]
theorem scFormedAt : FnScope nFormedAt psFormedAt (defScope tFormedAt) := ⟨rfl, rfl, rfl, by decide +kernel, rfl, by decide +kernel, by decide +kernel⟩
theorem okFormedAt {f : Addr} {fd : FuncData} {k n : Nat} (F : Fun K "formed_at" "formed_at" tFormedAt f fd)
    (DN : Okd P w K mg base (L2.CX P w) (k) "need" ["held", "why"] (spNeed cN))
    (DK : Okd P w K mg base (L2.CX P w) (k) "kind_at" ["term", "names", "settled"] (spAt K NS NO cN lk n)) : FnOk P w K mg base (L2.CX P w) (k + 1) f fd psFormedAt (spFormed K NS NO cN lk n) := by
  obtain ⟨fN, fdN, GN, bN, gN, kN⟩ := DN
  obtain ⟨fK, fdK, GK, bK, gK, kK⟩ := DK
  refine F.okX scFormedAt (fun vs H Q E h => ?_) (fun cdv A outer s H vs Q E hr h => ?_)
  · obtain ⟨x, vt, d, s, t, e, rfl, _⟩ := h
    rfl
  obtain ⟨x, vt, d, s, t, e, rfl, hx, dd, ec, se, hp, sm, q⟩ := h
  refine ⟨_, pss_cons (ps_set (i := 4) scFormedAt.nd rfl (.inl rfl) (pe_callS GK hr (by rfl) gK kK bK (fun σ => passAt (takes_of rfl rfl rfl rfl) σ) (pa_cons (pv 1) (pa_cons (pv 2) (pa_cons (pv 3) pa_nil)))))
    (pss_cons (ps_expr (pe_callS GN hr (by rfl) gN kN bN (fun σ => passAt (takes_of rfl rfl rfl rfl) σ) (pa_cons (pe_cmpR op_eq (pe_ix ix_tup (pv 4) pe_int (fun _ _ => rfl)) (pv 0) (nomark _)) (pa_cons (pe_joined (.cons pe_str (.cons (pe_fmt (pv 0)) .nil))) pa_nil))))
    (pss_one (ps_ret (pv 4)))), ?_⟩
  refine ⟨_, rfl, _, rfl, _, rfl, vt, d, s, t, e, rfl, dd, ec, se, hp, sm, .mk (fun k hk u G sG r => ?_) (fun hk G sG => q.no (by rw [hk]; rfl) sG)⟩
  obtain ⟨a, us, rfl, ga⟩ := r.wd (K := K)
  refine ⟨_, rfl, a, _, _, _, rfl, rfl, ga, atI_nat (j := 0) rfl, _, rfl, rfl, _, rfl, by decide +kernel, _, rfl, .inl ⟨x, rfl, sz (by omega), _, rfl, no3 hx, ?_⟩⟩
  refine ⟨_, _, rfl, fun c => ⟨_, rfl, ?_⟩, fun c => ?_⟩
  · exact q.ok (by rw [hk]; show wrd x k = _; unfold wrd; rw [if_pos (V.str.inj (of_decide_eq_true c))]) sG r
  · exact q.no (by rw [hk]; show wrd x k = _; unfold wrd; rw [if_neg (fun z => of_decide_eq_false c (by rw [z]))]) (.of sG)
end
end Kq

/-! the rules -/
namespace Kq
open PySem PySem.Spec PyProof.Rows L2 Kf Kg Kv Kk Ku
theorem jn1 {x : Str} (h : x.length ≤ 100) : (Str.empty ++ x).length ≤ sizeLine := by
  have e : (Str.empty : Str).length = 0 := by decide +kernel
  rw [strLen_append, e]
  exact sz (by omega)
theorem jn2 {x : Str} (h : x.length ≤ 100) : (Str.empty ++ x ++ Str.ofString " is not bound").length ≤ sizeLine := by
  have e : (Str.empty : Str).length = 0 := by decide +kernel
  have e2 : (Str.ofString " is not bound" : Str).length = 13 := by decide +kernel
  rw [strLen_append, strLen_append, e, e2]
  exact sz (by omega)
theorem jn4 {x : Str} (h : x.length ≤ 100) : (Str.empty ++ x ++ Str.ofString " is not known").length ≤ sizeLine := by
  have e : (Str.empty : Str).length = 0 := by decide +kernel
  have e2 : (Str.ofString " is not known" : Str).length = 13 := by decide +kernel
  rw [strLen_append, strLen_append, e, e2]
  exact sz (by omega)
def spRl (K : PySem.W.Frag) (NS NO : List Str) (cN : Addr) (lk : Sl) (n : Nat) (p : Tm → Prop) : Sp := fun vs H Q E => ∃ (vt : V) (d s : Addr) (t : Tm) (e : Ek), vs = [vt, .ref d, .ref s] ∧ Fz H t vt ∧ Ec K NS NO H e d ∧ Se K H lk s ∧ t.dp < n + 1 ∧ Sml lk NS NO t e ∧ p t ∧ Ko K cN d (chk lk t e) H Q E
theorem wrd_fn : ∀ o : Option Kd, o.bind (wrd "fun") = (o.bind Kd.fnOf).map fun p => .fn p.1 p.2
  | none => rfl
  | some k => by cases k <;> rfl
theorem Ko.mkF {K : PySem.W.Frag} {cN d : Addr} {o : Option Kd} {H : Hp} {Q : VK} {E : XK} (h1 : ∀ p, o.bind Kd.fnOf = some p → ∀ (u : V) (G : Hp), Same H G → Rp K G (.fn p.1 p.2) u → Q u G) (h2 : o.bind Kd.fnOf = none → ∀ G : Hp, Ss d H G → E (.ref cN) none G) : Ko K cN d (o.bind (wrd "fun")) H Q E := by
  rw [wrd_fn]
  cases c : o.bind Kd.fnOf with
  | none => exact h2 c
  | some p => exact h1 p c
section
variable {P : Program} {w : World} {K : PySem.W.Frag} {mg : Str → Option Value} {base : Heap} {NS NO : List Str} {lk : Sl} {cN : Addr}
abbrev tOfName : Stmt := tp 56
abbrev nOfName : List Str := ["term", "names", "settled"]
abbrev psOfName : List Str := ["term", "names", "settled"]
theorem scOfName : FnScope nOfName psOfName (defScope tOfName) := ⟨rfl, rfl, rfl, by decide +kernel, rfl, by decide +kernel, by decide +kernel⟩
theorem okOfName {f : Addr} {fd : FuncData} {k n : Nat} (F : Fun K "of_name" "of_name" tOfName f fd)
    (DN : Okd P w K mg base (L2.CX P w) (k) "need" ["held", "why"] (spNeed cN)) : FnOk P w K mg base (L2.CX P w) (k + 1) f fd psOfName (spRl K NS NO cN lk n fun t => ∃ (x : Str), t = .name x) := by
  obtain ⟨fN, fdN, GN, bN, gN, kN⟩ := DN
  refine F.okX scOfName (fun vs H Q E h => ?_) (fun cdv A outer s H vs Q E hr h => ?_)
  · obtain ⟨vt, d, s, t, e, rfl, _⟩ := h
    rfl
  obtain ⟨vt, d, s, t, e, rfl, dd, ec, se, hp, sm, ⟨x, rfl⟩, q⟩ := h
  refine ⟨_, pss_cons (ps_expr (pe_callS GN hr (by rfl) gN kN bN (fun σ => passAt (takes_of rfl rfl rfl rfl) σ) (pa_cons (pe_cmp (pc_din (hu_of hr) (pe_ix ix_tup (pv 0) pe_int (fun _ _ => rfl)) (pv 1))) (pa_cons (pe_joined (.cons (pe_fmt (pe_ix ix_tup (pv 0) pe_int (fun _ _ => rfl))) (.cons pe_str .nil))) pa_nil))))
    (pss_one (ps_ret (pe_dget (hu_of hr) (pv 1) (pe_ix ix_tup (pv 0) pe_int (fun _ _ => rfl)) (fun _ _ => rfl)))), ?_⟩
  obtain ⟨p, rfl, gp⟩ := dd
  obtain ⟨kvs, gd, nd, l1, l2⟩ := ec
  have hx : x.length ≤ 100 := sm
  refine ⟨_, rfl, p, _, _, _, rfl, rfl, SqT.of gp, atI_nat (j := 1) rfl, _, rfl, d, _, rfl, DGet.k (k := Sum.inr x) gd, _, rfl, p, _, _, _, rfl, rfl, SqT.of gp, atI_nat (j := 1) rfl, .inl ⟨x, rfl, sz (by omega), _, rfl, jn1 hx, _, rfl, jn2 hx, ?_⟩⟩
  cases ex : e x with
  | none =>
    refine ⟨_, _, rfl, fun c1 => ?_, fun c1 => q.no (by rw [chk]; exact ex) Ss.rfl⟩
    rw [l1 x ex] at c1
    cases c1
  | some k =>
    obtain ⟨gk, v, ev, rv⟩ := l2 x k ex
    refine ⟨_, _, rfl, fun c1 => ?_, fun c1 => ?_⟩
    · exact ⟨_, rfl, _, rfl, p, _, _, _, rfl, rfl, SqT.of gp, atI_nat (j := 1) rfl, _, _, rfl, ev ▸ DGet.k (k := Sum.inr x) gd, q.ok (by rw [chk]; exact ex) (Same.refl _) rv⟩
    · rw [ev] at c1
      cases c1
abbrev tOfFun : Stmt := tp 57
abbrev nOfFun : List Str := ["term", "names", "settled", "word", "x", "argument", "inner"]
abbrev psOfFun : List Str := ["term", "names", "settled"]
theorem scOfFun : FnScope nOfFun psOfFun (defScope tOfFun) := ⟨rfl, rfl, rfl, by decide +kernel, rfl, by decide +kernel, by decide +kernel⟩
theorem okOfFun {f : Addr} {fd : FuncData} {k n : Nat} (F : Fun K "of_fun" "of_fun" tOfFun f fd) (hn : NS.length ≤ 400)
    (DK : Okd P w K mg base (L2.CX P w) (k) "kind_at" ["term", "names", "settled"] (spAt K NS NO cN lk n)) : FnOk P w K mg base (L2.CX P w) (k + 1) f fd psOfFun (spRl K NS NO cN lk n fun t => ∃ (x : Str) (k : Kd) (b : Tm), t = .fn x k b) := by
  obtain ⟨fK, fdK, GK, bK, gK, kK⟩ := DK
  refine F.okX scOfFun (fun vs H Q E h => ?_) (fun cdv A outer s H vs Q E hr h => ?_)
  · obtain ⟨vt, d, s, t, e, rfl, _⟩ := h
    rfl
  obtain ⟨vt, d, s, t, e, rfl, dd, ec, se, hp, sm, ⟨x, k, b, rfl⟩, q⟩ := h
  refine ⟨_, pss_cons (ps_asg (pv 0) (pg_tup rfl (pgs_cons (pg_name (i := 3) scOfFun.nd rfl (.inl rfl)) (pgs_cons (pg_name (i := 4) scOfFun.nd rfl (.inl rfl)) (pgs_cons (pg_name (i := 5) scOfFun.nd rfl (.inl rfl)) (pgs_cons (pg_name (i := 6) scOfFun.nd rfl (.inl rfl)) pgs_nil))))))
    (pss_one (ps_ret (pe_tup (pa_cons pe_str (pa_cons (pv 5) (pa_cons (pe_callS GK hr (by rfl) gK kK bK (fun σ => passAt (takes_of rfl rfl rfl rfl) σ) (pa_cons (pv 6) (pa_cons (pe_dsplat (pv 1) (pps_cons (pv 4) (pv 5) pps_nil) (by rfl) (by rfl) (fun z => by cases z) (by decide)) (pa_cons (pv 2) pa_nil)))) pa_nil)))))), ?_⟩
  have hb : b.dp < n := by simp only [Tm.dp] at hp; omega

  obtain ⟨p, u', u'', rfl, gp, d2, d3⟩ := dd
  obtain ⟨hx, gk, sb, hr2⟩ := sm
  refine ⟨_, rfl, p, _, rfl, SqT.of gp, rfl, _, _, rfl, _, _, rfl, _, _, rfl, _, _, rfl, rfl, ?_⟩
  refine ⟨_, rfl, _, rfl, splatC ec hn rfl fun G T sG fin => ?_⟩
  refine ⟨_, rfl, _, rfl, fin [(x, k, u')] G (Same.refl G) (by show 1 ≤ 2; decide) (fun y hy => ?_) (fun p2 F np2 sF ecF => ?_)⟩
  · rw [List.mem_singleton.mp hy]
    exact ⟨hx, gk, (rp0_rp d2).tk (.of sG)⟩
  refine ⟨_, rfl, u'', p2, s, b, e.put x k, rfl, d3.same sF, ecF, se.same sF, hb, sb, .mk (fun r hk v G2 s2 r2 => ?_) (fun hk G2 s2 => ?_)⟩
  · refine ⟨(by show 3 ≤ sizeLine; decide), fun l nl => q.ok (k := .fn k r) (by rw [chk, hk]; rfl) ((sF.trans s2).trans (newS nl)) ⟨l, u', v, rfl, .inl upd_same, ((rp0_rp d2).tk (.of (sF.trans s2))).tk (.of (newS nl)), r2.tk (.of (newS nl))⟩⟩
  · exact q.no (by rw [chk, hk]; rfl) (.of (Ss.new np2 sF s2))
abbrev tOfCall : Stmt := tp 58
abbrev nOfCall : List Str := ["term", "names", "settled", "called"]
abbrev psOfCall : List Str := ["term", "names", "settled"]
theorem scOfCall : FnScope nOfCall psOfCall (defScope tOfCall) := ⟨rfl, rfl, rfl, by decide +kernel, rfl, by decide +kernel, by decide +kernel⟩
theorem okOfCall {f : Addr} {fd : FuncData} {k n : Nat} (F : Fun K "of_call" "of_call" tOfCall f fd)
    (DS : Okd P w K mg base (L2.CX P w) (k) "need_same" ["one", "other", "why"] (spSame K cN NO))
    (DK : Okd P w K mg base (L2.CX P w) (k) "kind_at" ["term", "names", "settled"] (spAt K NS NO cN lk n))
    (DO : Okd P w K mg base (L2.CX P w) (k) "formed_at" ["word", "term", "names", "settled"] (spFormed K NS NO cN lk n)) : FnOk P w K mg base (L2.CX P w) (k + 1) f fd psOfCall (spRl K NS NO cN lk n fun t => ∃ (a b : Tm), t = .call a b) := by
  obtain ⟨fS, fdS, GS, bS, gS, kS⟩ := DS
  obtain ⟨fK, fdK, GK, bK, gK, kK⟩ := DK
  obtain ⟨fO, fdO, GO, bO, gO, kO⟩ := DO
  refine F.okX scOfCall (fun vs H Q E h => ?_) (fun cdv A outer s H vs Q E hr h => ?_)
  · obtain ⟨vt, d, s, t, e, rfl, _⟩ := h
    rfl
  obtain ⟨vt, d, s, t, e, rfl, dd, ec, se, hp, sm, ⟨a, b, rfl⟩, q⟩ := h
  refine ⟨_, pss_cons (ps_set (i := 3) scOfCall.nd rfl (.inl rfl) (pe_callS GO hr (by rfl) gO kO bO (fun σ => passAt (takes_of rfl rfl rfl rfl) σ) (pa_cons pe_str (pa_cons (pe_ix ix_tup (pv 0) pe_int (fun _ _ => rfl)) (pa_cons (pv 1) (pa_cons (pv 2) pa_nil))))))
    (pss_cons (ps_expr (pe_callS GS hr (by rfl) gS kS bS (fun σ => passAt (takes_of rfl rfl rfl rfl) σ) (pa_cons (pe_ix ix_tup (pv 3) pe_int (fun _ _ => rfl)) (pa_cons (pe_callS GK hr (by rfl) gK kK bK (fun σ => passAt (takes_of rfl rfl rfl rfl) σ) (pa_cons (pe_ix ix_tup (pv 0) pe_int (fun _ _ => rfl)) (pa_cons (pv 1) (pa_cons (pv 2) pa_nil)))) (pa_cons pe_str pa_nil)))))
    (pss_one (ps_ret (pe_ix ix_tup (pv 3) pe_int (fun _ _ => rfl))))), ?_⟩
  have ha : a.dp < n := by simp only [Tm.dp] at hp; omega
  have hb : b.dp < n := by simp only [Tm.dp] at hp; omega

  obtain ⟨p, u, u', rfl, gp, d1, d2⟩ := dd
  obtain ⟨sa, sb⟩ := sm
  refine ⟨_, rfl, p, _, _, _, rfl, rfl, SqT.of gp, atI_nat (j := 1) rfl, _, rfl, _, rfl, "fun", u, d, s, a, e, rfl, by decide +kernel, d1, ec, se, ha, sa, .mkF (fun f hf v G1 s1 r1 => ?_) (fun hf G1 s1 => q.no (by rw [chk, hf]; rfl) s1)⟩
  obtain ⟨c, x, y, rfl, gc, rx, ry⟩ := r1
  have sb := sb (by rw [hf]; exact fun z => nomatch z)
  refine ⟨_, rfl, c, _, _, _, rfl, rfl, gc.t, atI_nat (j := 1) rfl, _, rfl, p, _, _, _, rfl, rfl, SqT.of (s1 _ _ gp), atI_nat (j := 2) rfl, _, rfl, _, rfl, u', d, s, b, e, rfl, d2.same s1, ec.same s1, se.same s1, hb, sb, .mk (fun k2 hk2 v2 G2 s2 r2 => ?_) (fun hk2 G2 s2 => q.no (by rw [chk, hf, hk2]; rfl) (Ss.trans (.of s1) s2))⟩
  have gf := sa.gk (fun y q hy => ec.gk hy) (fnOf_eq hf)
  have g2 := sb.gk (fun y q hy => ec.gk hy) hk2
  refine ⟨x, v2, _, f.1, k2, rfl, rx.tk (.of s2), r2, gf.fn1, g2, fun c1 => ?_, fun c1 => ?_⟩
  · exact ⟨_, rfl, c, _, _, _, rfl, rfl, (gc.tk (.of s2)).t, atI_nat (j := 2) rfl, q.ok (by rw [chk, hf, hk2]; exact if_pos c1) (s1.trans s2) (ry.tk (.of s2))⟩
  · exact q.no (by rw [chk, hf, hk2]; exact if_neg c1) (.of (s1.trans s2))
end
end Kq

/-! need_fills, of_told, kind_at -/
namespace Kq
open PySem PySem.Spec PyProof.Rows L2 Kf Kg Kv Kk Ku
/-! sorted texts -/
theorem rise : ∀ (p : Str) (l : List Str), risingS p l = true → (p :: l).Pairwise fun a b => a.cps.toList ≤ b.cps.toList
  | p, [], _ => List.pairwise_singleton _ _
  | p, x :: r, h => by
    have h' : (!ltCps x.cps.toList p.cps.toList) = true ∧ risingS x r = true := by
      simpa [risingS] using h
    have ih := rise x r h'.2
    have px : p.cps.toList ≤ x.cps.toList := by
      have z := h'.1
      rw [ltCps_eq] at z
      exact List.not_lt.mp (by simpa using z)
    refine List.pairwise_cons.mpr ⟨fun y hy => ?_, ih⟩
    rcases List.mem_cons.mp hy with rfl | hm
    · exact px
    · exact List.le_trans px ((List.pairwise_cons.mp ih).1 y hm)
theorem rise' {l : List Str} (h : sortedS l = true) : l.Pairwise fun a b => a.cps.toList ≤ b.cps.toList := by
  cases l with
  | nil => exact List.Pairwise.nil
  | cons p l => exact rise p l h
theorem sortEq : ∀ {ys zs : List Str}, ys.Pairwise (fun a b => a.cps.toList ≤ b.cps.toList) → zs.Pairwise (fun a b => a.cps.toList ≤ b.cps.toList) → ys.Nodup → zs.Nodup → (∀ k, k ∈ ys ↔ k ∈ zs) → ys = zs
  | [], [], _, _, _, _, _ => rfl
  | [], z :: zs, _, _, _, _, h => absurd ((h z).2 List.mem_cons_self) List.not_mem_nil
  | y :: ys, [], _, _, _, _, h => absurd ((h y).1 List.mem_cons_self) List.not_mem_nil
  | y :: ys, z :: zs, p1, p2, n1, n2, h => by
    obtain ⟨a1, a2⟩ := List.pairwise_cons.mp p1
    obtain ⟨b1, b2⟩ := List.pairwise_cons.mp p2
    obtain ⟨c1, c2⟩ := List.nodup_cons.mp n1
    obtain ⟨d1, d2⟩ := List.nodup_cons.mp n2
    have e : y = z := by
      rcases List.mem_cons.mp ((h y).1 List.mem_cons_self) with q | q
      · exact q
      rcases List.mem_cons.mp ((h z).2 List.mem_cons_self) with r | r
      · exact r.symm
      have le := List.le_antisymm (a1 z r) (b1 y q)
      obtain ⟨yc⟩ := y
      obtain ⟨zc⟩ := z
      have : yc.toList = zc.toList := le
      rw [Array.toList_inj.mp this]
    subst e
    rw [sortEq a2 b2 c2 d2 fun k => ?_]
    constructor
    · intro hk
      rcases List.mem_cons.mp ((h k).1 (List.mem_cons_of_mem _ hk)) with q | q
      · rw [q] at hk
        exact absurd hk c1
      · exact q
    · intro hk
      rcases List.mem_cons.mp ((h k).2 (List.mem_cons_of_mem _ hk)) with q | q
      · rw [q] at hk
        exact absurd hk d1
      · exact q
theorem tupGK {X : Cx} (K : PySem.W.Frag) (h : X.K = K) {es : List Expr} {k : Nat} {t : TGs} {n : Nat} {pos : Pos} (hc : X.calm = true) (hp : PGs X es t)
    (hn : (assignEach es X.env).length = n := by rfl) (hst : (assignEach es X.env).findIdx? (·.1) = none := by rfl) : PG X (.Tuple es k pos) (gTup K n t) := by
  subst h
  exact pg_tup hc hp hn hst
theorem eqvStrs : ∀ xs ys : List Str, PyData.eqvAll (xs.map PyData.str) (ys.map PyData.str) = decide (xs = ys)
  | [], [] => by simp [PyData.eqvAll]
  | [], y :: ys => by simp [PyData.eqvAll]
  | x :: xs, [] => by simp [PyData.eqvAll]
  | x :: xs, y :: ys => by
    rw [List.map_cons, List.map_cons, PyData.eqvAll, PyData.eqv, eqvStrs xs ys]
    by_cases c : x = y
    · subst c
      simp
    · have : (x == y) = false := beq_eq_false_iff_ne.mpr c
      rw [this, Bool.false_and, decide_eq_false (fun z => c (List.cons.inj z).1)]
theorem eqvStrL (xs ys : List Str) : PyData.eqv (.list (xs.map PyData.str)) (.list (ys.map PyData.str)) = decide (xs = ys) := by
  rw [PyData.eqv]
  exact eqvStrs xs ys
section
variable {X : Cx} {e : Expr} {t : TE}
def eCut (t : TE) : TE := fun σ H Q => ∃ Mid : V → Hp → Prop, t σ H Mid ∧ ∀ v H', Mid v H' → Q v H'
theorem pe_cut (h : PE X e t) : PE X e (eCut t) := by
  refine ⟨fun pins s σ H Q I z => ?_⟩
  obtain ⟨Mid, h1, h2⟩ := z
  exact thn (h.run pins s σ H Mid I h1) fun v s1 ⟨x, H1, I1, r, q⟩ => ⟨x, H1, I1, r, h2 _ _ q⟩
end
theorem allFlat (xs : List Str) : (xs.map V.str).all flatV = true := by
  refine List.all_eq_true.mpr fun v hv => ?_
  obtain ⟨x, _, rfl⟩ := List.mem_map.mp hv
  rfl
theorem inV_strs (x : Str) (xs : List Str) : inV (.str x) (xs.map V.str) = decide (x ∈ xs) := by
  unfold inV
  rw [List.any_map]
  apply Bool.eq_iff_iff.mpr
  rw [List.any_eq_true, decide_eq_true_eq]
  constructor
  · rintro ⟨y, hy, e⟩
    have e : eqV (.str y) (.str x) = true := e
    have : y = x := by simpa [eqV] using e
    rw [← this]
    exact hy
  · exact fun h => ⟨x, h, by simp [eqV]⟩
theorem shL {xs : List Str} (h : ∀ x ∈ xs, Nm x) : SeqAt.shaped (.list (xs.map PyData.str)) = true := shStrs h
theorem rf_names {H : Hp} {ps : List Addr} {kvs : List (Key × V)} (h : Paired (fun p kv => H p = some (.tup [kV kv.1, kv.2])) ps kvs) : ∀ {fs : List (Str × Kd)}, Paired (fun (kv : Key × V) (f : Str × Kd) => kv.1 = .inr f.1 ∧ Rp0 H f.2 kv.2) kvs fs → ∀ {i : Nat} {v : V}, (ps.map V.ref)[i]? = some v → ∃ p u f, v = .ref p ∧ fs[i]? = some f ∧ H p = some (.tup [.str f.1, u]) ∧ Rp0 H f.2 u := by
  induction h with
  | nil => intro fs h i v e; simp at e
  | cons h t ih =>
    intro fs h2 i v e
    cases h2 with
    | cons a b =>
      obtain ⟨ea, r⟩ := a
      cases i with
      | zero =>
        refine ⟨_, _, _, (Option.some.inj (show some _ = some v from e)).symm, rfl, ?_, r⟩
        rw [ea] at h
        exact h
      | succ i => exact ih b (i := i) e
theorem rf_len {H : Hp} {p : Addr} {fs : List (Str × Kd)} {o : Obj} {ps : List Addr} {kvs : List (Key × V)} (h4 : Paired (fun p kv => H p = some (.tup [kV kv.1, kv.2])) ps kvs) (h5 : Paired (fun (kv : Key × V) (f : Str × Kd) => kv.1 = .inr f.1 ∧ Rp0 H f.2 kv.2) kvs fs) : ps.length = fs.length := h4.length.trans h5.length
theorem jnA {x : Str} (h : x.length ≤ 100) : (Str.empty ++ x ++ Str.ofString " is looked at, what it is filled by is not").length ≤ sizeLine := by
  have e : (Str.empty : Str).length = 0 := by decide +kernel
  have e2 : (Str.ofString " is looked at, what it is filled by is not" : Str).length = 42 := by decide +kernel
  rw [strLen_append, strLen_append, e, e2]
  exact sz (by omega)
@[elab_as_elim] theorem objG {H : Hp} {p : Addr} {u : HO} {motive : Hp → Prop} (np : H p = none) (q : ∀ G, Same H G → G p = some u → motive G) : motive (upd H p u) := q _ (newS np) upd_same
theorem sPutS {H G : Hp} {p : Addr} {o : HO} (s : Same H G) (h : H p = none) : Same H (upd G p o) := fun b u e => by
  rw [upd_ne (ne_of_none e h)]
  exact s b u e
theorem Nm.len {x : Str} (h : Nm x) : x.length ≤ 100 := by
  have := h.few
  show x.cps.size ≤ 100
  rw [← Array.length_toList]
  omega
section
variable {P : Program} {w : World} {K : PySem.W.Frag} {mg : Str → Option Value} {base : Heap} {NS NO : List Str} {lk : Sl} {cN : Addr}
abbrev tNeedFills : Stmt := tp 78
abbrev nNeedFills : List Str := ["fills", "opens", "looks", "looked", "name", "kind", "seen"]
abbrev psNeedFills : List Str := ["fills", "opens", "looks", "looked"]
theorem scNeedFills : FnScope nNeedFills psNeedFills (defScope tNeedFills) := ⟨rfl, rfl, rfl, by decide +kernel, rfl, by decide +kernel, by decide +kernel⟩
def spNF (cN : Addr) : Sp := fun vs H Q E => ∃ (pf po pl la : Addr) (fs : List (Str × Kd)) (ys lo lk : List Str), vs = [.ref pf, .ref po, .ref pl, .ref la] ∧ RF H pf fs ∧ H po = some (.tup (ys.map V.str)) ∧ H pl = some (.tup (lo.map V.str)) ∧ H la = some (.tup (lk.map V.str)) ∧ (∀ p ∈ fs, Nm p.1) ∧ (∀ y ∈ ys, Nm y) ∧ fs.length ≤ 40 ∧
  (fs.map (·.1) = ys → (∀ p ∈ fs, p.1 ∈ lo → ∃ x ∈ lk, p.2 = .opn x) → ∀ G, Same H G → Q .non G) ∧ (¬ (fs.map (·.1) = ys ∧ ∀ p ∈ fs, p.1 ∈ lo → ∃ x ∈ lk, p.2 = .opn x) → ∀ G, Same H G → E (.ref cN) none G)
theorem okNeedFills {f : Addr} {fd : FuncData} {k : Nat} (F : Fun K "need_fills" "need_fills" tNeedFills f fd)
    (DN : Okd P w K mg base (L2.CX P w) (k) "need" ["held", "why"] (spNeed cN))
    (m_list : mg "list" = none) : FnOk P w K mg base (L2.CX P w) (k + 1) f fd psNeedFills (spNF cN) := by
  obtain ⟨fN, fdN, GN, bN, gN, kN⟩ := DN
  refine F.okX scNeedFills (fun vs H Q E h => ?_) (fun cdv A outer s H vs Q E hr h => ?_)
  · obtain ⟨pf, po, pl, la, fs, ys, lo, lk, rfl, _⟩ := h
    rfl
  obtain ⟨pf, po, pl, la, fs, ys, lo, lk, rfl, rf, ho, hl, hk, nf, ny, lf, q1, q2⟩ := h
  refine ⟨_, pss_cons (ps_expr (pe_callS GN hr (by rfl) gN kN bN (fun σ => passAt (takes_of rfl rfl rfl rfl) σ) (pa_cons (pe_cmpR (op_eqD hr.units) (pe_lc (own := [("name", 4), ("kind", 5)]) (g := gTup K 2 (gCons (gName 4) (gCons (gName 5) gNil))) (by rfl) scNeedFills.nd (pi_tup (pv 0)) (blkOk_by (own := [("name", 4), ("kind", 5)]) (N := nNeedFills) (sc := defScope tNeedFills) (by decide +kernel)) (fun _ _ _ _ _ => (tupGK K rfl rfl (pgs_cons (pg_name (i := 4) scNeedFills.nd rfl (.inl rfl)) (pgs_cons (pg_name (i := 5) scNeedFills.nd rfl (.inl rfl)) pgs_nil)))) (fun _ _ _ _ _ => pts_nil) (fun _ _ _ _ _ => (pv 4))) (pe_callTy call_list_of (by rfl) m_list PyProof.Rows.boot_list (pa_cons (pv 1) pa_nil)) (nomark _)) (pa_cons pe_str pa_nil))))
    (pss_one (ps_for (passes_of rfl) rfl (pi_tup (pv 0)) (pg_tup rfl (pgs_cons (pg_name (i := 4) scNeedFills.nd rfl (.inl rfl)) (pgs_cons (pg_name (i := 5) scNeedFills.nd rfl (.inl rfl)) pgs_nil)))
      (pss_cons (ps_set (i := 6) scNeedFills.nd rfl (.inl rfl) (pe_cut (pe_and (pe_cmpR op_eq (pe_ix ix_tup (pv 5) pe_int (fun _ _ => rfl)) pe_str (nomark _)) (pe_one (pe_cmpR op_in_seq (pe_ix ix_tup (pv 5) pe_int (fun _ _ => rfl)) (pv 3) rfl)))))
    (pss_one (ps_expr (pe_callS GN hr (by rfl) gN kN bN (fun σ => passAt (takes_of rfl rfl rfl rfl) σ) (pa_cons (pe_or (pe_cmpR op_notIn_seq (pv 4) (pv 2) rfl) (pe_one (pv 6))) (pa_cons (pe_joined (.cons (pe_fmt (pv 4)) (.cons pe_str .nil))) pa_nil)))))))), ?_⟩
  obtain ⟨ob, ps, kvs, h1, h2, h3, h4, h5⟩ := rf
  have lp : ps.length = fs.length := h4.length.trans h5.length
  have hsq : ∀ {G : Hp}, Same H G → SqT K G pf (ps.map V.ref) := fun s => .inl (.inr ⟨ob, s _ _ h1⟩)
  have see := @rf_names H ps kvs h4 fs h5
  refine ⟨_, rfl, _, rfl, ⟨_, hsq (Same.refl H)⟩, fun D nD => ?_⟩
  refine lc_tup (K := K) (a := pf) (xs := ps.map V.ref) (fun i G => Same H G ∧ G D = some (.lst ((((fs.take i).map (·.1)).map V.str)))) ⟨newS nD, upd_same⟩ (fun i G _ z => hsq z.1) (fun i u G hu z => ?_) (fun G z => ?_)
  · obtain ⟨sG, gD⟩ := z
    obtain ⟨p, u0, g, rfl, hg, hp, rg⟩ := see hu
    have li := (List.getElem?_eq_some_iff.mp hg).1
    refine ⟨p, _, rfl, SqT.of (sG _ _ hp), rfl, _, _, rfl, _, _, rfl, rfl, rfl, _, rfl, _, gD, ?_, ?_, ?_⟩
    · rw [List.length_map, List.length_map, List.length_take]
      exact small1000 (by omega)
    · exact sPutS sG nD
    · rw [upd_same, List.take_add_one, hg]
      simp
  · obtain ⟨sG, gD⟩ := z
    rw [List.length_map, lp, List.take_length] at gD
    refine ⟨_, rfl, po, _, rfl, .inr (SqT.of (sG _ _ ho)), fun l nl => objG nl fun G2 s2 gl => ?_⟩
    refine ⟨_, _, .lst (SqL.of (s2 _ _ gD)) (dpStrs K G2 _), .lst (SqL.of gl) (dpStrs K G2 _), shL ?_, shL ny, ?_⟩
    · intro x hx
      obtain ⟨y, hy, rfl⟩ := List.mem_map.mp hx
      exact nf y hy
    rw [eqvStrL]
    have sA := sG.trans s2
    refine ⟨_, _, rfl, fun c => ?_, fun c => ?_⟩
    rotate_left
    · exact q2 (fun z => of_decide_eq_false c z.1) G2 sA
    have c := of_decide_eq_true c
    refine ⟨_, rfl, pf, rfl, ⟨_, hsq sA⟩, for_tup (K := K) (a := pf) (xs := ps.map V.ref) (fun i σ G => Same H G ∧ (∃ y4 y5 y6, σ = [some (.ref pf), some (.ref po), some (.ref pl), some (.ref la), y4, y5, y6]) ∧ ∀ p ∈ fs.take i, p.1 ∈ lo → ∃ x ∈ lk, p.2 = .opn x) ⟨sA, ⟨_, _, _, rfl⟩, fun p hp => by cases hp⟩ (fun i σ G _ z => hsq z.1) (fun i u σ G hu z => ?_) (fun σ G z => ?_)⟩
    rotate_left
    · obtain ⟨sG, ⟨y4, y5, y6, rfl⟩, al⟩ := z
      rw [List.length_map, lp, List.take_length] at al
      exact q1 c al G sG
    obtain ⟨sG, ⟨y4, y5, y6, rfl⟩, al⟩ := z
    obtain ⟨p, u0, g, rfl, hg, hp, rg⟩ := see hu
    have hm := List.mem_of_getElem? hg
    have ng := (nf g hm).len
    obtain ⟨ka, us, rfl, hka, hus⟩ := rg.see
    have hka := sG _ _ hka
    refine ⟨p, _, rfl, SqT.of (sG _ _ hp), rfl, _, _, rfl, _, _, rfl, rfl, ?_⟩
    have more : ((g.1 ∈ lo → ∃ x ∈ lk, g.2 = .opn x)) → ∀ p ∈ fs.take (i + 1), p.1 ∈ lo → ∃ x ∈ lk, p.2 = .opn x := fun h p hp => by
      rw [List.take_add_one, hg] at hp
      rcases List.mem_append.mp hp with hp | hp
      · exact al p hp
      · rw [List.mem_singleton.mp hp]
        exact h
    refine ⟨fun v G' => G' = G ∧ ∃ sn : Bool, v = .bl sn ∧ (sn = true ↔ ∃ x ∈ lk, g.2 = .opn x), ?_, ?_⟩
    · refine ⟨_, rfl, ka, _, _, _, rfl, rfl, SqT.of hka, atI_nat (j := 0) rfl, rfl, _, rfl, ?_⟩
      rw [Kd.isOp_word]
      refine ite2 (fun e => ?_) (fun e => ⟨rfl, false, rfl, ?_⟩)
      · rcases hus with hus | ⟨x, ex, rfl⟩
        · rw [hus.1] at e
          cases e
        · refine ⟨_, rfl, ka, _, _, _, rfl, rfl, SqT.of hka, atI_nat (j := 1) rfl, _, rfl, la, _, rfl, .inr (SqT.of (sG _ _ hk)), rfl, allFlat lk, rfl, _, rfl, ?_⟩
          rw [inV_strs]
          constructor
          · exact fun h => ⟨x, of_decide_eq_true h, ex⟩
          · rintro ⟨y, hy, ey⟩
            rw [ex] at ey
            cases ey
            exact decide_eq_true hy
      · constructor
        · exact fun h => nomatch h
        · rintro ⟨y, hy, ey⟩
          rw [ey] at e
          exact absurd rfl e
    · rintro v G' ⟨rfl, sn, rfl, hsn⟩
      have fin : ∀ b : Bool, (b = true ↔ (g.1 ∈ lo → ∃ x ∈ lk, g.2 = .opn x)) → (spNeed cN) [.bl b, .str (Str.empty ++ g.1 ++ Str.ofString " is looked at, what it is filled by is not")] G' (fun _ H1 => Same H H1 ∧ (∃ z4 z5 z6, [some (V.ref pf), some (.ref po), some (.ref pl), some (.ref la), some (.str g.1), some (.ref ka), some (.bl sn)] = [some (V.ref pf), some (.ref po), some (.ref pl), some (.ref la), z4, z5, z6]) ∧ ∀ p ∈ fs.take (i + 1), p.1 ∈ lo → ∃ x ∈ lk, p.2 = .opn x) E := by
        intro b hb
        refine ⟨b, _, rfl, fun h => ⟨sG, ⟨_, _, _, rfl⟩, more (hb.mp h)⟩, fun h => q2 (fun z => ?_) G' sG⟩
        rw [hb.mpr (z.2 g hm)] at h
        cases h
      refine ⟨_, rfl, _, rfl, pl, _, rfl, .inr (SqT.of (sG _ _ hl)), rfl, allFlat lo, _, rfl, ?_⟩
      rw [inV_strs]
      refine ite2 (fun e => ?_) (fun e => ?_)
      · refine ⟨_, rfl, .inl ⟨g.1, rfl, sz (by omega), _, rfl, jn1 ng, _, rfl, jnA ng, fin true ?_⟩⟩
        exact ⟨fun _ h => absurd h (by simpa using e), fun _ => rfl⟩
      · refine ⟨_, rfl, _, rfl, .inl ⟨g.1, rfl, sz (by omega), _, rfl, jn1 ng, _, rfl, jnA ng, fin sn ?_⟩⟩
        have e : g.1 ∈ lo := by simpa using e
        rw [hsn]
        exact ⟨fun h _ => h, fun h => h e⟩
abbrev tOfTold : Stmt := tp 77
abbrev nOfTold : List Str := ["term", "names", "settled", "looked", "known", "name", "looks", "kind"]
abbrev psOfTold : List Str := ["term", "names", "settled"]
theorem scOfTold : FnScope nOfTold psOfTold (defScope tOfTold) := ⟨rfl, rfl, rfl, by decide +kernel, rfl, by decide +kernel, by decide +kernel⟩
abbrev Fls : Type := List (Str × Kd)
theorem kw_step {kn : List Kw} {f : Str} {i : Nat} {w : Kw} (hi : kn[i]? = some w) (hb : ∀ u ∈ kn.take i, u.nm ≠ f) (e : w.nm = f) : kwOf kn f = some w := by
  induction kn generalizing i with
  | nil => simp at hi
  | cons u r ih =>
    cases i with
    | zero =>
      obtain rfl : u = w := Option.some.inj (show some u = some w from hi)
      show (if u.nm = f then some u else kwOf r f) = some u
      rw [if_pos e]
    | succ i =>
      show (if u.nm = f then some u else kwOf r f) = some w
      rw [if_neg (hb u (by rw [List.take_succ_cons]; exact List.mem_cons_self))]
      exact ih (i := i) hi fun v hv => hb v (by rw [List.take_succ_cons]; exact List.mem_cons_of_mem _ hv)
theorem paired_get {α β : Type} {R : α → β → Prop} : ∀ {xs : List α} {ys : List β}, Paired R xs ys → ∀ {i : Nat} {x : α}, xs[i]? = some x → ∃ y, ys[i]? = some y ∧ R x y
  | _, _, .nil, i, x, e => by simp at e
  | _, _, .cons (b := b) h t, 0, x, e => ⟨b, rfl, by rw [← Option.some.inj (show some _ = some x from e)]; exact h⟩
  | _, _, .cons h t, i + 1, x, e => paired_get t (i := i) e
theorem kw_none {f : Str} : ∀ {kn : List Kw}, (∀ u ∈ kn, u.nm ≠ f) → kwOf kn f = none
  | [], _ => rfl
  | u :: r, h => by
    show (if u.nm = f then some u else kwOf r f) = none
    rw [if_neg (h u List.mem_cons_self)]
    exact kw_none fun v hv => h v (List.mem_cons_of_mem _ hv)
theorem okOfTold {f : Addr} {fd : FuncData} {k n : Nat} (F : Fun K "of_told" "of_told" tOfTold f fd) (xm : XN K mg cN) (NK : NoK NO)
    (DF : Okd P w K mg base CX0 (k) "filled_kind" ["kind", "fills"] (spFilled 8))
    (DN : Okd P w K mg base (L2.CX P w) (k) "need_fills" ["fills", "opens", "looks", "looked"] (spNF cN))
    (DP : Okd P w K mg base CX0 (k) "opens_in" ["kind"] (spOpens K)) : FnOk P w K mg base (L2.CX P w) (k + 1) f fd psOfTold (spRl K NS NO cN lk n fun t => ∃ (x : Str) (fs : Fls), t = .told x fs) := by
  obtain ⟨fF, fdF, GF, bF, gF, kF⟩ := DF
  obtain ⟨fN, fdN, GN, bN, gN, kN⟩ := DN
  obtain ⟨fP, fdP, GP, bP, gP, kP⟩ := DP
  refine F.okX scOfTold (fun vs H Q E h => ?_) (fun cdv A outer s H vs Q E hr h => ?_)
  · obtain ⟨vt, d, s, t, e, rfl, _⟩ := h
    rfl
  obtain ⟨vt, d, s, t, e, rfl, dd, ec, se, hp, sm, ⟨x, fs, rfl⟩, q⟩ := h
  refine ⟨_, pss_cons (ps_asg (pv 2) (pg_tup rfl (pgs_cons (pg_name (i := 3) scOfTold.nd rfl (.inl rfl)) (pgs_cons (pg_name (i := 4) scOfTold.nd rfl (.inl rfl)) pgs_nil))))
    (pss_cons (ps_for (passes_of rfl) rfl (pi_tup (pv 4)) (pg_tup rfl (pgs_cons (pg_name (i := 5) scOfTold.nd rfl (.inl rfl)) (pgs_cons (pg_name (i := 6) scOfTold.nd rfl (.inl rfl)) (pgs_cons (pg_name (i := 7) scOfTold.nd rfl (.inl rfl)) pgs_nil))))
      (pss_one (ps_if (pt_cmpR op_eq (pv 5) (pe_ix ix_tup (pv 0) pe_int (fun _ _ => rfl)) (nomark _)) (pss_cons (ps_expr (pe_callS GN hr (by rfl) gN kN bN (fun σ => passAt (takes_of rfl rfl rfl rfl) σ) (pa_cons (pe_ix ix_tup (pv 0) pe_int (fun _ _ => rfl)) (pa_cons (pe_call GP hr (by rfl) gP kP bP .nil pass0 (pa_cons (pv 7) pa_nil)) (pa_cons (pv 6) (pa_cons (pv 3) pa_nil))))))
    (pss_one (ps_ret (pe_call GF hr (by rfl) gF kF bF .nil pass0 (pa_cons (pv 7) (pa_cons (pe_ix ix_tup (pv 0) pe_int (fun _ _ => rfl)) pa_nil)))))) pss_nil)))
    (pss_one (ps_raise rfl (takes_of rfl rfl rfl rfl) (SkE.pmk_own1 PySem.F.excBase_ValueError xm.xP xm.gP xm.kP (raises_own xm.bP xm.tP) rfl (pe_joined (.cons (pe_fmt (pe_ix ix_tup (pv 0) pe_int (fun _ _ => rfl))) (.cons pe_str .nil))))))), ?_⟩
  obtain ⟨p, qf, rfl, gp, rf⟩ := dd
  obtain ⟨la, lb, gs, gl, rs, gb, kns⟩ := se
  obtain ⟨hx, fo, l26, hw⟩ := sm
  refine ⟨_, rfl, s, _, rfl, SqT.of gs, rfl, _, _, rfl, _, _, rfl, rfl, ?_⟩
  refine ⟨_, rfl, lb, rfl, ⟨_, SqT.of gb⟩, for_tup (K := K) (a := lb) (xs := rs.map V.ref) (fun i σ G => G = H ∧ (∃ y5 y6 y7, σ = [some (.ref p), some (.ref d), some (.ref s), some (.ref la), some (.ref lb), y5, y6, y7]) ∧ ∀ u ∈ lk.kn.take i, u.nm ≠ x) ⟨rfl, ⟨_, _, _, rfl⟩, fun u hu => by cases hu⟩ (fun i σ G _ z => by rw [z.1]; exact SqT.of gb) (fun i v σ G hv z => ?_) (fun σ G z => ?_)⟩
  rotate_left
  · obtain ⟨rfl, ⟨y5, y6, y7, rfl⟩, al⟩ := z
    rw [List.length_map, kns.length, List.take_length] at al
    exact ⟨_, rfl, p, _, _, _, rfl, rfl, SqT.of gp, atI_nat (j := 1) rfl, .inl ⟨x, rfl, sz (by omega), _, rfl, jn1 hx, _, rfl, jn4 hx, q.no (by rw [chk, kw_none al]; rfl) Ss.rfl⟩⟩
  obtain ⟨rfl, ⟨y5, y6, y7, rfl⟩, al⟩ := z
  obtain ⟨r, hr', rfl⟩ : ∃ r, rs[i]? = some r ∧ v = .ref r := by
    rw [List.getElem?_map] at hv
    obtain ⟨r, e1, e2⟩ := Option.map_eq_some_iff.mp hv
    exact ⟨r, e1, e2.symm⟩
  obtain ⟨wk, hwk, lo, kv, hr, hlo, rk⟩ := paired_get kns hr'
  refine ⟨r, _, rfl, SqT.of hr, rfl, _, _, rfl, _, _, rfl, _, _, rfl, rfl, ?_⟩
  refine ⟨_, rfl, _, rfl, p, _, _, _, rfl, rfl, SqT.of gp, atI_nat (j := 1) rfl, rfl, _, rfl, ite2 (fun e => ?_) (fun e => ?_)⟩
  rotate_left
  · refine ⟨rfl, ⟨_, _, _, rfl⟩, fun u hu => ?_⟩
    rw [List.take_add_one, hwk] at hu
    rcases List.mem_append.mp hu with hu | hu
    · exact al u hu
    · rw [List.mem_singleton.mp hu]
      exact fun z => e (by rw [z]; exact decide_eq_true rfl)
  have e : wk.nm = x := V.str.inj (of_decide_eq_true e)
  have kw := kw_step hwk al e
  obtain ⟨w7, wg, wl, wf⟩ := hw wk kw
  refine ⟨_, rfl, p, _, _, _, rfl, rfl, SqT.of gp, atI_nat (j := 2) rfl, _, rfl, kv, wk.k, rfl, rp0_rp rk, by have := wg.sz; omega, ⟨NO, NK.nd, NK.len, wg.op⟩, fun po ys G sG hpo st nd my => ?_⟩
  have fin : (fs.map (·.1) = ys ∧ ∀ p ∈ fs, p.1 ∈ wk.lo → ∃ x ∈ lk.lk, p.2 = .opn x) ↔ FOk lk.lk wk fs := by
    constructor
    · rintro ⟨a, b⟩
      exact ⟨fun y => by rw [a]; exact my y, b⟩
    · rintro ⟨a, b⟩
      exact ⟨sortEq (rise' fo.st) (rise' st) fo.nd nd fun y => (a y).trans (my y).symm, b⟩
  refine ⟨_, rfl, _, rfl, qf, po, lo, la, fs, ys, wk.lo, lk.lk, rfl, rf.same sG, hpo, sG _ _ hlo, sG _ _ gl, fo.nm, fun y hy => NK.nm y (wg.op y ((my y).mp hy)), fo.len, fun c1 c2 G2 s2 => ?_, fun c1 G2 s2 => ?_⟩
  · have s3 := sG.trans s2
    refine ⟨_, rfl, _, rfl, p, _, _, _, rfl, rfl, SqT.of (s3 _ _ gp), atI_nat (j := 2) rfl, kv, qf, wk.k, fs, rfl, by omega, rk.tk (.of s3), rf.same s3, fun u G4 s4 ru => q.ok ?_ (s3.trans s4) (rp0_rp ru)⟩
    rw [chk, kw]
    exact if_pos (fin.mp ⟨c1, c2⟩)
  · refine q.no ?_ (.of (sG.trans s2))
    rw [chk, kw]
    exact if_neg (fun z => c1 (fin.mpr z))
end
end Kq

/-! all of the rules; kind_at, kind_of -/
namespace Kq
open PySem PySem.Spec PyProof.Rows L2 Kf Kg Kv Kk Ku
section
variable {P : Program} {w : World} {K : PySem.W.Frag} {mg : Str → Option Value} {base : Heap} {NS NO : List Str} {lk : Sl} {cN : Addr}
/-- the rules, each by its word -/
structure Rls (P : Program) (w : World) (K : PySem.W.Frag) (mg : Str → Option Value) (base : Heap) (NS NO : List Str) (lk : Sl) (cN dA : Addr) (k n : Nat) : Prop where
  rName : Rok P w K mg base (L2.CX P w) k dA "name" ["term", "names", "settled"] (spRl K NS NO cN lk n fun t => ∃ (x : Str), t = .name x)
  rFun : Rok P w K mg base (L2.CX P w) k dA "fun" ["term", "names", "settled"] (spRl K NS NO cN lk n fun t => ∃ (x : Str) (k : Kd) (b : Tm), t = .fn x k b)
  rCall : Rok P w K mg base (L2.CX P w) k dA "call" ["term", "names", "settled"] (spRl K NS NO cN lk n fun t => ∃ (a b : Tm), t = .call a b)
  rTold : Rok P w K mg base (L2.CX P w) k dA "told" ["term", "names", "settled"] (spRl K NS NO cN lk n fun t => ∃ (x : Str) (fs : Fls), t = .told x fs)
abbrev tKindAt : Stmt := tp 51
abbrev nKindAt : List Str := ["term", "names", "settled", "rule"]
abbrev psKindAt : List Str := ["term", "names", "settled"]
theorem scKindAt : FnScope nKindAt psKindAt (defScope tKindAt) := ⟨rfl, rfl, rfl, by decide +kernel, rfl, by decide +kernel, by decide +kernel⟩
def Tm.wd : Tm → Str
  | .name _ => "name"
  | .fn _ _ _ => "fun"
  | .call _ _ => "call"
  | .told _ _ => "told"
theorem Fz.tmWd {H : Hp} {t : Tm} {v : V} (h : Fz H t v) : ∃ pt rest, v = .ref pt ∧ H pt = some (.tup (.str t.wd :: rest)) := by
  cases t with
  | name x => obtain ⟨p, rfl, h⟩ := h; exact ⟨p, _, rfl, h⟩
  | fn x k t => obtain ⟨p, u, u', rfl, h, _⟩ := h; exact ⟨p, _, rfl, h⟩
  | call a b => obtain ⟨p, u, u', rfl, h, _⟩ := h; exact ⟨p, _, rfl, h⟩
  | told f fs => obtain ⟨p, q, rfl, h, _⟩ := h; exact ⟨p, _, rfl, h⟩
theorem okKindAt {f dA : Addr} {fd : FuncData} {k n m : Nat} {es : Array DictEntry} (F : Fun K "kind_at" "kind_at" tKindAt f fd) (gD : mg "RULES" = some (.ref dA)) (hD : KDict K w dA es m)
    (r : Rls P w K mg base NS NO lk cN dA k n) : FnOk P w K mg base (L2.CX P w) (k + 1) f fd psKindAt (spAt K NS NO cN lk (n + 1)) := by
  refine F.okX scKindAt (fun vs H Q E h => ?_) (fun cdv A outer sh H vs Q E hr h => ?_)
  · obtain ⟨vt, d, s, t, e, rfl, _⟩ := h
    rfl
  obtain ⟨vt, d, s, t, e, rfl, dd, ec, se, hp, sm, q⟩ := h
  have go : ∀ {p : Tm → Prop} {x : Str} {rest : List V} {pt : Addr}, Rok P w K mg base (L2.CX P w) k dA x ["term", "names", "settled"] (spRl K NS NO cN lk n p) → p t → vt = .ref pt → H pt = some (.tup (.str x :: rest)) →
      ∃ u, PSs (cxOf (L2.CX P w) P w K mg base nKindAt "kind_at" (defScope tKindAt) f cdv A outer sh H E) (defBody tKindAt) u ∧ u { nx := fun _ H' => Q .non H', rt := Q } (start nKindAt [vt, .ref d, .ref s]) H := by
    intro p x rest pt G hR e1 hk
    obtain ⟨g, gd, G, b, hw, kg⟩ := G
    subst e1
    refine ⟨_, pss_cons (ps_set (i := 3) scKindAt.nd rfl (.inl rfl) (pe_ix ix_kdict (pe_glob (v := .ref dA) (by rfl) gD rfl) (pe_ix ix_tup (pv 0) pe_int (fun _ _ => rfl)) (fun _ _ => rfl)))
    (pss_one (ps_ret (ItX.pe_callV (i := 3) (G.raw b .nil) hr kg (passV (takes_of rfl rfl rfl rfl)) rfl (Or.inl rfl) (pa_cons (pv 0) (pa_cons (pv 1) (pa_cons (pv 2) pa_nil)))))), ?_⟩
    refine ⟨_, rfl, pt, _, _, _, rfl, rfl, SqT.of hk, atI_nat (j := 0) rfl, dA, x, .ref g, rfl, rfl, ⟨es, m, _, hD.at_, hD.lit, hw, rfl⟩, rfl, _, rfl, _, rfl, _, rfl, ?_⟩
    exact ⟨_, d, s, t, e, rfl, dd, ec, se, hp, sm, hR, q⟩
  have hw : ∃ pt rest, vt = .ref pt ∧ H pt = some (.tup (.str t.wd :: rest)) := Fz.tmWd dd
  obtain ⟨pt, rest, e1, hk⟩ := hw
  cases t with
  | name x => exact go r.rName ⟨x, rfl⟩ e1 hk
  | fn x k b => exact go r.rFun ⟨x, k, b, rfl⟩ e1 hk
  | call a b => exact go r.rCall ⟨a, b, rfl⟩ e1 hk
  | told x fs => exact go r.rTold ⟨x, fs, rfl⟩ e1 hk
end
/-- a def with what is left out -/
def Dfn2 (K : PySem.W.Frag) (mg : Str → Option Value) (nm : Str) (st : Stmt) (ps : List Str) (dvs : List V) : Prop := ∃ f fd ds, FunD K nm nm (defArgs st) (defBody st) (defScope st) dvs [] f fd ∧ Vals dvs ds ∧ Binds K fd ps ds ∧ mg nm = some (.ref f)
def Okd2 (P : Program) (w : World) (K : PySem.W.Frag) (mg : Str → Option Value) (base : Heap) (CX : CXT) (k : Nat) (nm : Str) (ps : List Str) (dvs : List V) (sp : Sp) : Prop := ∃ f fd ds, FnOk P w K mg base CX k f fd ps sp ∧ Vals dvs ds ∧ Binds K fd ps ds ∧ mg nm = some (.ref f) ∧ PySem.W.keepIn K (.ref f) = true
abbrev tKindOf : Stmt := tp 50
/-- what the written part has of checking -/
structure CF (K : PySem.W.Frag) (w : World) (mg : Str → Option Value) (cN dR : Addr) : Prop where
  xm : XN K mg cN
  hR : ∃ es m, KDict K w dR es m
  gR : mg "RULES" = some (.ref dR)
  need : Dfn K mg "need" tNeed ["held", "why"]
  nsame : Dfn K mg "need_same" tNeedSame ["one", "other", "why"]
  formed : Dfn K mg "formed_at" tFormedAt ["word", "term", "names", "settled"]
  kat : Dfn K mg "kind_at" tKindAt ["term", "names", "settled"]
  kof : Dfn2 K mg "kind_of" tKindOf ["term", "looked", "known"] [V.non]
  filled : Dfn K mg "filled_kind" tFilled ["kind", "fills"]
  putin : Dfn K mg "put_in" tPutIn ["kind", "put"]
  nfills : Dfn K mg "need_fills" tNeedFills ["fills", "opens", "looks", "looked"]
  md : mg "dict" = none
  ml : mg "list" = none
  within : Dfn K mg "kinds_within" tWithinT ["kind"]
  parts : Dfn K mg "parts_of" tParts ["kind"]
  opens : Dfn K mg "opens_in" tOpens ["kind"]
  rName : Rdn K dR "name" "of_name" tOfName ["term", "names", "settled"]
  rFun : Rdn K dR "fun" "of_fun" tOfFun ["term", "names", "settled"]
  rCall : Rdn K dR "call" "of_call" tOfCall ["term", "names", "settled"]
  rTold : Rdn K dR "told" "of_told" tOfTold ["term", "names", "settled"]
  mt : mg "tuple" = none
  ms : mg "sorted" = none
section
variable {P : Program} {w : World} {K : PySem.W.Frag} {mg : Str → Option Value} {base : Heap} {NS NO : List Str} {lk : Sl} {cN : Addr}
theorem CF.opens1 {dR : Addr} (R : CF K w mg cN dR) : Okd P w K mg base CX0 3 "opens_in" ["kind"] (spOpens K) := by
  obtain ⟨fW, fdW, FW, bW, gW⟩ := R.within
  obtain ⟨fP, fdP, FP, bP, gP⟩ := R.parts
  exact R.opens.ok fun f fd F => okOpens (k := 0) F (okParts (k := 0) FP FW bW gW) bP gP FP.kp R.mt R.ms
theorem CF.filled1 {dR : Addr} (R : CF K w mg cN dR) : Okd P w K mg base CX0 10 "filled_kind" ["kind", "fills"] (spFilled 8) := by
  obtain ⟨fP, fdP, FP, bP, gP⟩ := R.putin
  exact R.filled.ok fun f fd F => okFilled (n := 8) F (okPutIn FP bP gP R.mt 8) bP gP FP.kp R.md
theorem CF.rls {dR : Addr} (R : CF K w mg cN dR) (hn : NS.length ≤ 400) (NK : NoK NO) {n k : Nat} (hk : 10 ≤ k) (I : Okd P w K mg base (L2.CX P w) k "kind_at" ["term", "names", "settled"] (spAt K NS NO cN lk n)) : Rls P w K mg base NS NO lk cN dR (k + 2) n := by
  have N1 : Okd P w K mg base (L2.CX P w) 1 "need" ["held", "why"] (spNeed cN) := R.need.ok fun f fd F => okNeed (k := 0) (n := 0) F R.xm
  have S1 : Okd P w K mg base (L2.CX P w) 2 "need_same" ["one", "other", "why"] (spSame K cN NO) := R.nsame.ok fun f fd F => okNeedSame (k := 1) (n := 0) F NK N1
  have B1 : Okd P w K mg base (L2.CX P w) 2 "need_fills" ["fills", "opens", "looks", "looked"] (spNF cN) := R.nfills.ok fun f fd F => okNeedFills (k := 1) F N1 R.ml
  have FA : Okd P w K mg base (L2.CX P w) (k + 1) "formed_at" ["word", "term", "names", "settled"] (spFormed K NS NO cN lk n) := R.formed.ok fun f fd F => okFormedAt (k := k) F (N1.up (by omega)) I
  have I1 := I.up (show k ≤ k + 1 by omega)
  constructor
  · exact R.rName.ok fun f fd F => okOfName (k := k + 1) F (DN := N1.up (by omega))
  · exact R.rFun.ok fun f fd F => okOfFun (k := k + 1) F hn (DK := I1)
  · exact R.rCall.ok fun f fd F => okOfCall (k := k + 1) F (DS := S1.up (by omega)) (DK := I1) (DO := FA)
  · exact R.rTold.ok fun f fd F => okOfTold (k := k + 1) F R.xm NK (DN := B1.up (by omega)) (DP := R.opens1.up (by omega)) (DF := R.filled1.up (by omega))
theorem CF.at1 {dR : Addr} (R : CF K w mg cN dR) (hn : NS.length ≤ 400) (NK : NoK NO) : ∀ n, Okd P w K mg base (L2.CX P w) (3 * n + 10) "kind_at" ["term", "names", "settled"] (spAt K NS NO cN lk n)
  | 0 => R.kat.ok fun f fd F => noFnX fun vs H Q E h => by
    obtain ⟨vt, d, s, t, e, rfl, dd, ec, se, hp, _⟩ := h
    omega
  | n + 1 => by
    have I := CF.at1 R hn NK n
    obtain ⟨es, m, hD⟩ := R.hR
    have e : 3 * (n + 1) + 10 = (3 * n + 10 + 2) + 1 := by omega
    rw [e]
    exact R.kat.ok fun f fd F => okKindAt F R.gR hD (R.rls hn NK (by omega) I)
/-! kind_of -/
theorem Kns.tk {H G : Hp} {b : Addr} {kn : List Kw} (h : Kns H b kn) (s : Tk H G) : Kns G b kn := by
  obtain ⟨rs, h1, h2⟩ := h
  exact ⟨rs, s _ _ h1, Paired.mapP h2 fun _ _ ⟨lo, kv, a, b, c⟩ => ⟨lo, kv, s _ _ a, s _ _ b, c.tk s⟩⟩
theorem Fz.sm1 {H G : Hp} (s : Tk H G) (f : ∀ (b : Addr) (o : Obj) (xs : List V), H b = some (.frz o (.tup xs)) → G b = some (.frz o (.tup xs))) : ∀ {t : Tm} {v : V}, Fz H t v → Fz G t v := by
  intro t
  induction t with
  | name x => exact fun ⟨p, e, h⟩ => ⟨p, e, s _ _ h⟩
  | fn x k t i => exact fun ⟨p, u, u', e, h, r, g⟩ => ⟨p, u, u', e, s _ _ h, r.tk s, i g⟩
  | call a b i j => exact fun ⟨p, u, u', e, h, r, g⟩ => ⟨p, u, u', e, s _ _ h, i r, j g⟩
  | told x fs => exact fun ⟨p, q, e, h, ⟨o, ps, kvs, h1, h2, h3, h4, h5⟩⟩ => ⟨p, q, e, s _ _ h, ⟨o, ps, kvs, f _ _ _ h1, h2, h3, Paired.mapP h4 fun _ _ e => s _ _ e, Paired.mapP h5 fun _ _ e => ⟨e.1, e.2.tk s⟩⟩⟩

def KoT (K : PySem.W.Frag) (T : List Addr) (cN : Addr) : Option Kd → Hp → VK → XK → Prop
  | some k, H, Q, _ => ∀ (u : V) (G : Hp), Sm T H G → Rp K G k u → Q u G
  | none, H, _, E => ∀ G : Hp, Sm T H G → E (.ref cN) none G
def spKof (K : PySem.W.Frag) (T : List Addr) (cN : Addr) (n : Nat) (NS NO : List Str) (lk : Sl) : Sp := fun vs H Q E => ∃ (vt : V) (la lb : Addr) (t : Tm), vs = [vt, .ref la, .ref lb] ∧ Fz H t vt ∧ t.dt.wt + 2 ≤ sizeLine ∧ H la = some (.tup (lk.lk.map V.str)) ∧ Kns H lb lk.kn ∧ TbS T H ∧
  trm t.dt = true ∧ t.dp < n ∧ Sml lk NS NO t Ek.none ∧ KoT K T cN (chk lk t Ek.none) H Q E
abbrev nKindOf : List Str := ["term", "looked", "known"]
abbrev psKindOf : List Str := ["term", "looked", "known"]
theorem scKindOf : FnScope nKindOf psKindOf (defScope tKindOf) := ⟨rfl, rfl, rfl, by decide +kernel, rfl, by decide +kernel, by decide +kernel⟩
theorem okKindOf {f : Addr} {fd : FuncData} {k n : Nat} {T : List Addr} (F : FunD K "kind_of" "kind_of" (defArgs tKindOf) (defBody tKindOf) (defScope tKindOf) [V.non] [] f fd) (xm : XN K mg cN)
    (DK : Okd P w K mg base (L2.CX P w) (k) "kind_at" ["term", "names", "settled"] (spAt K NS NO cN lk n))
    (DT : Okd P w K mg base CX0 (k) "is_term" ["thing"] (spYes T trm)) : FnOk P w K mg base (L2.CX P w) (k + 1) f fd psKindOf (spKof K T cN n NS NO lk) := by
  obtain ⟨fK, fdK, GK, bK, gK, kK⟩ := DK
  obtain ⟨fT, fdT, GT, bT, gT, kT⟩ := DT
  refine F.ok scKindOf (fun vs H Q E h => ?_) (fun cdv A outer s H vs Q E hr h => ?_)
  · obtain ⟨vt, la, lb, t, rfl, _⟩ := h
    rfl
  obtain ⟨vt, la, lb, t, rfl, dd, hw, gl, kn, tb, e0, hp, sm, q⟩ := h
  refine ⟨_, pss_cons (ps_if (pt_not (pt_val (pe_call GT hr (by rfl) gT kT bT .nil pass0 (pa_cons (pv 0) pa_nil)))) (pss_one (ps_raise rfl (takes_of rfl rfl rfl rfl) (SkE.pmk_own1 PySem.F.excBase_ValueError xm.xP xm.gP xm.kP (raises_own xm.bP xm.tP) rfl pe_str))) pss_nil)
    (pss_one (ps_ret (pe_callS GK hr (by rfl) gK kK bK (fun σ => passAt (takes_of rfl rfl rfl rfl) σ) (pa_cons (pv 0) (pa_cons pe_dnewK (pa_cons (pe_tup (pa_cons (pv 1) (pa_cons (pe_ifExp (pt_cmpR op_isN (pv 2) pe_non (nomark _)) (pe_tup pa_nil) (pv 2)) pa_nil))) pa_nil)))))), ?_⟩
  refine ⟨_, rfl, vt, t.dt, rfl, dd.dd.any, hw, tb, fun G1 m1 => ⟨_, rfl, ?_⟩⟩
  rw [e0]
  have sm1 : ∀ {b : Addr} {xs : List V}, H b = some (.tup xs) → G1 b = some (.tup xs) := fun e => m1.at tb e (fun ps z => by cases z)
  have smF : ∀ {b : Addr} {o : Obj} {xs : List V}, H b = some (.frz o (.tup xs)) → G1 b = some (.frz o (.tup xs)) := fun e => m1.at tb e (fun ps z => by cases z)
  have tk1 : Tk H G1 := fun b xs e => sm1 e
  have dd1 := dd.sm1 tk1 (fun b o xs e => smF e)
  have gl1 := sm1 gl
  have kn1 := kn.tk tk1
  refine iteF ⟨_, rfl, fun d nd => ⟨_, rfl, _, rfl, rfl, _, rfl, iteF ⟨_, rfl, (by show 2 ≤ sizeLine; decide), fun s1 ns => ?_⟩⟩⟩
  have sd := newS (o := .dK []) nd
  have ss := newS (o := .tup [.ref la, .ref lb]) ns
  have sA := sd.trans ss
  refine ⟨vt, d, s1, t, Ek.none, rfl, dd1.same sA, ⟨[], ss _ _ upd_same, .nil, fun y hy => rfl, fun y k hy => (by cases hy)⟩, ⟨la, lb, upd_same, sA _ _ gl1, kn1.same sA⟩, hp, sm, .mk (fun k hk u G2 s2 r2 => ?_) (fun hk G2 s2 => ?_)⟩
  · rw [hk] at q
    exact q u G2 (m1.trans (Sm.of (sA.trans s2) m1.2)) r2
  · rw [hk] at q
    exact q G2 (m1.trans (Sm.of (Ss.new nd sA s2) m1.2))
/-- .. by any names -/
def spKofU (K : PySem.W.Frag) (T : List Addr) (cN : Addr) (n : Nat) : Sp := fun vs H Q E => ∃ (NS NO : List Str) (lk : Sl), NS.length ≤ 400 ∧ NoK NO ∧ spKof K T cN n NS NO lk vs H Q E
theorem CF.kof3 {dR : Addr} (R : CF K w mg cN dR) {T : List Addr} {j : Nat} (DT : Okd P w K mg base CX0 j "is_term" ["thing"] (spYes T trm)) (n : Nat) (hj : j ≤ 3 * n + 10) : Okd P w K mg base (L2.CX P w) (3 * n + 11) "kind_of" ["term", "looked", "known"] (spKofU K T cN n) := by
  obtain ⟨f, fd, ds, F, vD, b, g⟩ := R.kof
  have one : ∀ (NS NO : List Str) (lk : Sl), NS.length ≤ 400 → NoK NO → FnOk P w K mg base (L2.CX P w) (3 * n + 11) f fd ["term", "looked", "known"] (spKof K T cN n NS NO lk) := fun NS NO lk hn NK => okKindOf (k := 3 * n + 10) F R.xm (DT := DT.up hj) (DK := R.at1 hn NK n)
  obtain ⟨ds3, vd3, b3⟩ := F.binds1 (ps := ["term", "looked", "known"]) 3 1 (by simp) rfl fun T kV doc pm an cdv ct us its h1 h2 => match us, its, h1, h2 with | [_, _, _], [_], _, _ => ⟨_, rfl, rfl⟩
  cases vd3
  refine ⟨f, fd, ⟨fun vs H Q E h => ?_, fun A outer s H args us vs Q E r e b v h => ?_⟩, b3, g, F.kp⟩
  · obtain ⟨NS, NO, lk, hn, NK, h⟩ := h
    exact (one NS NO lk hn NK).len vs H Q E h
  · obtain ⟨NS, NO, lk, hn, NK, h⟩ := h
    exact (one NS NO lk hn NK).run A outer s H args us vs Q E r e b v h
end
end Kq

/-! isinstance(e, T) and isinstance(e, (A, B, ..)) of an exception that is pinned -/
namespace Ke
open PySem PySem.Spec PyProof.Rows L2
theorem clsV_eq {c : V} {u v : Value} (h : ClsV c u) (r : RelV c v) : v = u := by
  cases h <;> exact r
theorem paired_eq : ∀ {cs : List V} {us its : List Value}, PySem.Paired ClsV cs us → Vals cs its → its = us
  | [], _, _, .nil, h => by cases h; rfl
  | _ :: _, _, _, .cons p ps, h => by
    cases h with
    | cons q qs => rw [clsV_eq p q, paired_eq ps qs]
def rIsET (K : PySem.W.Frag) (D a : Addr) : List V → Hp → VK → Prop := fun xs H Q => ∃ (tp : Addr) (cs : List V) (us : List Value) (b : Bool), xs = [.ref a, .ref tp] ∧ H tp = some (.tup cs) ∧ PySem.Paired ClsV cs us ∧ PySem.W.kitAny K (.ref D) us = some b ∧ Q (.bl b) H
theorem call_isET {X : Cx} {a D : Addr} {oe : Obj} (C : ExcC X.K D) (hm : (a, oe) ∈ X.pn) (hz : Zc (.ref D) none oe) (hf : ∃ vs, oe.data = .fields vs) : CallR X (.builtin "isinstance") (rIsET X.K D a) := by
  intro pins s σ H xs us Q hI hv hr
  obtain ⟨tp, cs, cu, b, rfl, ht, hp, hk, hQ⟩ := hr
  obtain ⟨vs, hf⟩ := hf
  have hg : s.heap.get? a = some oe := (hI.pin _ (List.mem_append_left _ hm)).1
  cases hv with
  | cons h1 h2 =>
    cases h2 with
    | cons h3 h4 =>
      cases h4
      cases h1
      cases h3
      obtain ⟨its, hvs, ⟨⟨cc, dd, dt, sl⟩, hT, rfl, n, rfl⟩, -⟩ := hI.tuple (show SqT X.K H tp cs from .inl (.inl ht))
      have := paired_eq hp hvs
      subst this
      refine PySem.W.kia_tup (PySem.W.handS_kitx_exc (ox := oe) C.hg C.hk C.hs C.hd C.ha C.hn C.ht C.hm) hI.kIn ?_ hT hk (fun h => by cases h) fun tk => ⟨.bl b, _, hI.tok tk, rfl, hQ⟩
      exact ⟨hg, hz.1, by unfold PySem.W.notCls; rw [hf], by rw [hz.2]; trivial⟩
def rIsE1 (K : PySem.W.Frag) (D a : Addr) : List V → Hp → VK → Prop := fun xs H Q => ∃ (c : V) (cv : Value) (b : Bool), xs = [.ref a, c] ∧ (∀ u, RelV c u → u = cv) ∧ PySem.W.kitOne K (.ref D) cv = some b ∧ Q (.bl b) H
theorem call_isE1 {X : Cx} {a D : Addr} {oe : Obj} (C : ExcC X.K D) (hm : (a, oe) ∈ X.pn) (hz : Zc (.ref D) none oe) (hf : ∃ vs, oe.data = .fields vs) : CallR X (.builtin "isinstance") (rIsE1 X.K D a) := by
  intro pins s σ H xs us Q hI hv hr
  obtain ⟨c, cv, b, rfl, ht, hk, hQ⟩ := hr
  obtain ⟨vs, hf⟩ := hf
  have hg : s.heap.get? a = some oe := (hI.pin _ (List.mem_append_left _ hm)).1
  cases hv with
  | cons h1 h2 =>
    cases h2 with
    | cons h3 h4 =>
      cases h4
      cases h1
      have := ht _ h3
      subst this
      refine PySem.W.kia_one (PySem.W.handS_kitx_exc (ox := oe) C.hg C.hk C.hs C.hd C.ha C.hn C.ht C.hm) hI.kIn ?_ hk (fun h => by cases h) fun tk => ⟨.bl b, _, hI.tok tk, rfl, hQ⟩
      exact ⟨hg, hz.1, by unfold PySem.W.notCls; rw [hf], by rw [hz.2]; trivial⟩
end Ke

/-! the same, the class told by the reading, the written part named -/
namespace Ke
open PySem PySem.Spec PyProof.Rows L2
theorem call_isETK {X : Cx} {a D : Addr} {oe : Obj} {cls : Value} {d : Option Addr} (K : PySem.W.Frag) (h : X.K = K) (C : ExcC K D) (hm : (a, oe) ∈ X.pn) (hz : Zc cls d oe) (hf : ∃ vs, oe.data = .fields vs) :
    CallR X (.builtin "isinstance") (fun xs H Q => cls = .ref D ∧ d = none ∧ rIsET K D a xs H Q) := by
  subst h
  intro pins s σ H xs us Q hI hv hr
  obtain ⟨rfl, rfl, hr⟩ := hr
  exact call_isET C hm hz hf pins s σ H xs us Q hI hv hr
theorem call_isE1K {X : Cx} {a D : Addr} {oe : Obj} {cls : Value} {d : Option Addr} (K : PySem.W.Frag) (h : X.K = K) (C : ExcC K D) (hm : (a, oe) ∈ X.pn) (hz : Zc cls d oe) (hf : ∃ vs, oe.data = .fields vs) :
    CallR X (.builtin "isinstance") (fun xs H Q => cls = .ref D ∧ d = none ∧ rIsE1 K D a xs H Q) := by
  subst h
  intro pins s σ H xs us Q hI hv hr
  obtain ⟨rfl, rfl, hr⟩ := hr
  exact call_isE1 C hm hz hf pins s σ H xs us Q hI hv hr
end Ke

/-! what kind_of tells -/
namespace Kq
open PySem PySem.Spec PyProof.Rows L2 Kf Kg Kv Kk Ku
/-- the classes that a refusal is held against -/
structure TMI (K : PySem.W.Frag) (mg : Str → Option Value) (cN cK : Addr) : Prop where
  ec : ExcC K cN
  gK : mg "KindError" = some (.ref cK)
  eP : PySem.W.exmOne K (.ref cN) (.ref cK) = some true
  nn : PySem.W.kitOne K (.ref cN) (.ref cN) = some true
  nv : PySem.W.kitOne K (.ref cN) (.type "ValueError") = some true
  g1 : ∃ c1 c2 c3 c4 c5 c6 c7 c8 c9 : Addr, mg "TooMany" = some (.ref c1) ∧ mg "TooMuch" = some (.ref c2) ∧ mg "NoText" = some (.ref c3) ∧ mg "NoLead" = some (.ref c4) ∧ mg "NoName" = some (.ref c5) ∧ mg "Taken" = some (.ref c6) ∧ mg "Ring" = some (.ref c7) ∧ mg "NoBack" = some (.ref c8) ∧ mg "NoRow" = some (.ref c9) ∧
    PySem.W.kitAny K (.ref cN) [.ref c1, .ref c2, .ref c3, .ref c4, .ref c5, .ref c6, .ref c7, .ref c8, .ref c9] = some false
  g2 : ∃ c1 c2 c3 : Addr, mg "Unbounded" = some (.ref c1) ∧ mg "Broken" = some (.ref c2) ∧ mg "Used" = some (.ref c3) ∧ PySem.W.kitAny K (.ref cN) [.ref c1, .ref c2, .ref c3] = some false
section
variable {P : Program} {w : World} {K : PySem.W.Frag} {mg : Str → Option Value} {base : Heap} {NS NO : List Str} {lk : Sl} {cN cK : Addr} {T : List Addr}
abbrev tLTold : Stmt := tp 89
abbrev nLTold : List Str := ["_law_term", "_law_looked", "_law_known_here", "_law_found", "e", "_law_good", "_law_odd"]
abbrev psLTold : List Str := ["_law_term", "_law_looked", "_law_known_here"]
theorem scLTold : FnScope nLTold psLTold (defScope tLTold) := ⟨rfl, rfl, rfl, by decide +kernel, rfl, by decide +kernel, by decide +kernel⟩
def KoL (K : PySem.W.Frag) (T : List Addr) : Option Kd → Hp → VK → Prop
  | some k, H, Q => ∀ (p : Addr) (u : V) (G : Hp), Sm T H G → G p = some (.tup [.str "told", u]) → Rp K G k u → Q (.ref p) G
  | none, H, Q => ∀ (p : Addr) (G : Hp), Sm T H G → G p = some (.tup [.str "refused"]) → Q (.ref p) G
def spLTold (K : PySem.W.Frag) (T : List Addr) (n : Nat) : Sp := fun vs H Q _ => ∃ (vt : V) (la lb : Addr) (t : Tm) (NS NO : List Str) (lk : Sl), vs = [vt, .ref la, .ref lb] ∧ NS.length ≤ 400 ∧ NoK NO ∧ Fz H t vt ∧ t.dt.wt + 2 ≤ sizeLine ∧ H la = some (.tup (lk.lk.map V.str)) ∧ Kns H lb lk.kn ∧ TbS T H ∧ trm t.dt = true ∧ t.dp < n ∧ Sml lk NS NO t Ek.none ∧ KoL K T (chk lk t Ek.none) H Q
theorem okLTold {f : Addr} {fd : FuncData} {k n : Nat} (F : Fun K "_law_told" "_law_told" tLTold f fd) (xm : XN K mg cN) (ni : TMI K mg cN cK)
    (DW : Okd P w K mg base (L2.CX P w) k "kind_of" ["term", "looked", "known"] (spKofU K T cN n))
    (mi : mg "isinstance" = none) (mv : mg "ValueError" = none) : FnOk P w K mg base CX0 (k + 1) f fd psLTold (spLTold K T n) := by
  obtain ⟨fW, fdW, GW, bW, gW, kW⟩ := DW
  refine F.ok scLTold (fun vs H Q E h => ?_) (fun cdv A outer s H vs Q E hr h => ?_)
  · obtain ⟨vt, la, lb, t, NS, NO, lk, rfl, _⟩ := h
    rfl
  obtain ⟨vt, la, lb, t, NS, NO, lk, rfl, hn, NK, dd, hw, gl, kn, tb, htr, hp, sm, q⟩ := h
  obtain ⟨c1, c2, c3, c4, c5, c6, c7, c8, c9, m1, m2, m3, m4, m5, m6, m7, m8, m9, hk9⟩ := ni.g1
  obtain ⟨d1, d2, d3, n1, n2, n3, hk3⟩ := ni.g2
  refine ⟨_, pss_cons (ps_try_as (i := 4) (c := .ref cK) rfl rfl scLTold.nd rfl rfl ⟨rfl, by decide, .inl ni.gK⟩ takes0
      (fun W pn xe tk _ => pss_one (ps_set (i := 3) scLTold.nd rfl (.inl rfl) (pe_tup (pa_cons pe_str (pa_cons (pe_callS GW hr (by rfl) gW kW bW (fun σ => passAt tk σ) (pa_cons (pv 0) (pa_cons (pv 1) (pa_cons (pv 2) pa_nil)))) pa_nil)))))
      (fun a oe cls d pn hz hf => pss_cons (ps_set (i := 5) scLTold.nd rfl (.inl rfl) (pe_and (pe_callB (Ke.call_isE1K K rfl ni.ec List.mem_cons_self hz hf) (by rfl) mi PyProof.Rows.boot_isinstance (pa_cons (pv 4) (pa_cons (pe_glob (v := .ref cN) (by rfl) xm.gP rfl) pa_nil))) (pe_one (pe_callB (Ke.call_isE1K K rfl ni.ec List.mem_cons_self hz hf) (by rfl) mi PyProof.Rows.boot_isinstance (pa_cons (pv 4) (pa_cons (pe_bltn (v := .ty "ValueError") (by rfl) mv (by decide +kernel) rfl) pa_nil))))))
        (pss_cons (ps_set (i := 6) scLTold.nd rfl (.inl rfl) (pe_callB (Ke.call_isETK K rfl ni.ec List.mem_cons_self hz hf) (by rfl) mi PyProof.Rows.boot_isinstance (pa_cons (pv 4) (pa_cons (pe_tup (pa_cons (pe_glob (v := .ref c1) (by rfl) m1 rfl) (pa_cons (pe_glob (v := .ref c2) (by rfl) m2 rfl) (pa_cons (pe_glob (v := .ref c3) (by rfl) m3 rfl) (pa_cons (pe_glob (v := .ref c4) (by rfl) m4 rfl) (pa_cons (pe_glob (v := .ref c5) (by rfl) m5 rfl) (pa_cons (pe_glob (v := .ref c6) (by rfl) m6 rfl) (pa_cons (pe_glob (v := .ref c7) (by rfl) m7 rfl) (pa_cons (pe_glob (v := .ref c8) (by rfl) m8 rfl) (pa_cons (pe_glob (v := .ref c9) (by rfl) m9 rfl) pa_nil)))))))))) pa_nil))))
        (pss_cons (ps_set (i := 6) scLTold.nd rfl (.inl rfl) (pe_or (pv 6) (pe_one (pe_callB (Ke.call_isETK K rfl ni.ec List.mem_cons_self hz hf) (by rfl) mi PyProof.Rows.boot_isinstance (pa_cons (pv 4) (pa_cons (pe_tup (pa_cons (pe_glob (v := .ref d1) (by rfl) n1 rfl) (pa_cons (pe_glob (v := .ref d2) (by rfl) n2 rfl) (pa_cons (pe_glob (v := .ref d3) (by rfl) n3 rfl) pa_nil)))) pa_nil))))))
        (pss_one (ps_set (i := 3) scLTold.nd rfl (.inl rfl) (pe_ifExp (PW.pt (pw_and (pt_val (pv 5)) (pw_and1 (pt_not (pt_val (pv 6)))))) (pe_tup (pa_cons pe_str pa_nil)) (pe_tup (pa_cons pe_str pa_nil)))))))))
    (pss_one (ps_ret (pv 3))), ?_⟩
  refine ⟨_, rfl, _, rfl, _, rfl, NS, NO, lk, hn, NK, vt, la, lb, t, rfl, dd, hw, gl, kn, tb, htr, hp, sm, ?_⟩
  cases c : chk lk t Ek.none with
  | some k1 =>
    rw [c] at q
    intro u G m1 r
    refine ⟨(by show 2 ≤ sizeLine; decide), fun l nl => ⟨_, rfl, q l u _ (m1.trans (Sm.of (newS nl) m1.2)) upd_same (r.tk (.of (newS nl)))⟩⟩
  | none =>
    rw [c] at q
    intro G m1
    refine ⟨true, ni.eP, fun _ a ha => ?_, fun q => nomatch q⟩
    refine ⟨_, rfl, rfl, rfl, _, _, true, rfl, (fun u h => h), ni.nn, _, rfl, iteT ⟨_, rfl, rfl, rfl, _, _, true, rfl, (fun u h => h), ni.nv, ?_⟩⟩
    refine ⟨_, rfl, (by show 9 ≤ sizeLine; decide), fun t1 nt1 => ?_⟩
    have s1 := newS (o := .tup [V.ref c1, .ref c2, .ref c3, .ref c4, .ref c5, .ref c6, .ref c7, .ref c8, .ref c9]) nt1
    refine ⟨rfl, rfl, t1, _, _, false, rfl, upd_same, .cons (.own _) (.cons (.own _) (.cons (.own _) (.cons (.own _) (.cons (.own _) (.cons (.own _) (.cons (.own _) (.cons (.own _) (.cons (.own _) .nil)))))))), hk9, ?_⟩
    refine ⟨_, rfl, _, rfl, iteF ⟨_, rfl, (by show 3 ≤ sizeLine; decide), fun t2 nt2 => ?_⟩⟩
    have s2 := newS (o := .tup [V.ref d1, .ref d2, .ref d3]) nt2
    refine ⟨rfl, rfl, t2, _, _, false, rfl, upd_same, .cons (.own _) (.cons (.own _) (.cons (.own _) .nil)), hk3, ?_⟩
    have sA := s1.trans s2
    refine ⟨_, rfl, _, rfl, iteT ⟨_, rfl, _, rfl, iteT ⟨(by show 1 ≤ sizeLine; decide), fun l nl => ⟨_, rfl, q l _ (m1.trans (Sm.of (sA.trans (newS nl)) m1.2)) upd_same⟩⟩⟩⟩
end
end Kq

/-! pick of a tuple; known functions drawn -/
namespace Kq
open PySem PySem.Spec PyProof.Rows L2 Kf Kg Kv Kk Ku
theorem cutS (xs : List Str) (lo hi : Option Int) : ∃ ys : List Str, cutV (xs.map V.str) lo hi = ys.map V.str ∧ (∀ y ∈ ys, y ∈ xs) ∧ ys.length ≤ xs.length := by
  refine ⟨(xs.drop (HT.sIx (xs.map V.str).length 0 lo)).take (HT.sIx (xs.map V.str).length (xs.map V.str).length hi - HT.sIx (xs.map V.str).length 0 lo), ?_, fun y hy => List.mem_of_mem_drop (List.mem_of_mem_take hy), ?_⟩
  · unfold cutV
    rw [List.map_take, List.map_drop]
  · rw [List.length_take, List.length_drop]
    omega
theorem cutHi (xs : List V) (n : Nat) : cutV xs none (some (n : Int)) = xs.take n := by
  unfold cutV
  rw [HT.sIx_nat, HT.sIx_none]
  show xs.take (min n xs.length) = _
  by_cases h : n ≤ xs.length
  · rw [Nat.min_eq_left h]
  · rw [Nat.min_eq_right (by omega), List.take_length, List.take_of_length_le (by omega)]
theorem sub_bd {d z : Nat} {xs ys : List Str} {t : Kd} (h : Bw d z xs t) (s : ∀ x ∈ xs, x ∈ ys) : Bw d z ys t := ⟨h.dp, h.sz, fun x hx => s x (h.op x hx), h.wk, h.ar⟩
/-- known functions: their kinds, what they look at -/
structure KnOk (xs : List Str) (kn : List Kw) : Prop where
  bd : ∀ w ∈ kn, Bw 7 55 xs w.k
  lo : ∀ w ∈ kn, (∀ x ∈ w.lo, x ∈ w.k.opens) ∧ w.lo.length ≤ 26
  nm : ∀ w ∈ kn, w.nm ∈ xs.take 4
  nd : (kn.map (·.nm)).Nodup
theorem Dk.off' {H G : Hp} {d c p : Addr} (k : Dk H d c) (h : H p = none) : p ≠ d ∧ p ≠ c := k.off h
theorem Dk.putO {H : Hp} {d c p : Addr} {u : HO} (k : Dk H d c) (h1 : p ≠ d) (h2 : p ≠ c) : Dk (upd H p u) d c := by
  obtain ⟨ne, ⟨s, m, hd⟩, ⟨ns, hc, l⟩⟩ := k
  exact ⟨ne, ⟨s, m, by rw [upd_ne h1.symm]; exact hd⟩, ⟨ns, by rw [upd_ne h2.symm]; exact hc, l⟩⟩
theorem Dk.offT {H : Hp} {d c a : Addr} {us : List V} (k : Dk H d c) (h : H a = some (.tup us)) : a ≠ d ∧ a ≠ c := by
  obtain ⟨_, ⟨s, m, hd⟩, ⟨ns, hc, _⟩⟩ := k
  constructor <;> (rintro rfl; first | (rw [hd] at h; cases h) | (rw [hc] at h; cases h))
theorem kpS {d c : Addr} {H G F : Hp} (k : Kp d c H G) (s : Same G F) : Kp d c H F := k.trans (Kp.of s)
section
variable {P : Program} {w : World} {K : PySem.W.Frag} {mg : Str → Option Value} {base : Heap}
abbrev tPickT : Stmt := tp 83
abbrev nPickT : List Str := ["_law_deck_here", "_law_some"]
abbrev psPickT : List Str := ["_law_deck_here", "_law_some"]
theorem scPickT : FnScope nPickT psPickT (defScope tPickT) := ⟨rfl, rfl, rfl, by decide +kernel, rfl, by decide +kernel, by decide +kernel⟩
def spPickT : Sp := fun vs H Q _ => ∃ (d c a : Addr) (us : List V), vs = [.ref d, .ref a] ∧ Dk H d c ∧ H a = some (.tup us) ∧ 1 ≤ us.length ∧ us.length ≤ 100 ∧ ∀ (v : V) (G : Hp), Kp d c H G → Dk G d c → v ∈ us → Q v G
theorem okPickT {f : Addr} {fd : FuncData} {k : Nat} (F : Fun K "_law_pick" "_law_pick" tPickT f fd)
    (DD : Okd P w K mg base CX0 (k) "_law_draw" ["_law_deck_here", "_law_most"] spDraw)
    (m_len : mg "len" = none) : FnOk P w K mg base CX0 (k + 1) f fd psPickT spPickT := by
  obtain ⟨fD, fdD, GD, bD, gD, kD⟩ := DD
  refine F.ok scPickT (fun vs H Q E h => ?_) (fun cdv A outer s H vs Q E hr h => ?_)
  · obtain ⟨d, c, a, us, rfl, _⟩ := h
    rfl
  obtain ⟨d, c, a, us, rfl, dk, ha, l1, l2, q⟩ := h
  refine ⟨_, pss_one (ps_ret (pe_ix ix_tup (pv 1) (pe_call GD hr (by rfl) gD kD bD .nil pass0 (pa_cons (pv 0) (pa_cons (pe_callB call_len_seq (by rfl) m_len PySem.boot_len (pa_cons (pv 1) pa_nil)) pa_nil))) (fun _ _ => rfl))), ?_⟩
  have e0 : a ≠ d ∧ a ≠ c := dk.offT ha
  refine ⟨_, rfl, _, rfl, _, rfl, a, us, rfl, .inr (SqT.of ha), d, c, _, rfl, dk, by omega, by omega, fun r G r0 r1 kp dk1 => ?_⟩
  have ha1 := kp a _ e0.1 e0.2 ha
  obtain ⟨j, rfl⟩ : ∃ j : Nat, r = (j : Int) := ⟨r.toNat, by omega⟩
  have lt : j < us.length := by omega
  exact ⟨a, us, _, _, rfl, rfl, SqT.of ha1, atI_nat (List.getElem?_eq_getElem lt), q _ G kp dk1 (List.getElem_mem lt)⟩
/-! _law_known -/
abbrev tKnown : Stmt := tp 92
abbrev nKnown : List Str := ["_law_deck_here", "_law_names_here", "_law_found", "_law_name", "_law_kind", "_law_one", "_law_looked"]
abbrev psKnown : List Str := ["_law_deck_here", "_law_names_here"]
theorem scKnown : FnScope nKnown psKnown (defScope tKnown) := ⟨rfl, rfl, rfl, by decide +kernel, rfl, by decide +kernel, by decide +kernel⟩
def spKnown : Sp := fun vs H Q _ => ∃ (d c o : Addr) (xs : List Str), vs = [.ref d, .ref o] ∧ Dk H d c ∧ H o = some (.lst (xs.map V.str)) ∧ o ≠ d ∧ o ≠ c ∧ xs.length = 13 ∧ xs.Nodup ∧ (∀ x ∈ xs, Nm x) ∧
  ∀ (b : Addr) (kn : List Kw) (G : Hp), Kp d c H G → Dk G d c → Kns G b kn → KnOk xs kn → 1 ≤ kn.length → kn.length ≤ 4 → Q (.ref b) G
theorem okKnown {f : Addr} {fd : FuncData} {k : Nat} (F : Fun K "_law_known" "_law_known" tKnown f fd)
    (DD : Okd P w K mg base CX0 (k) "_law_draw" ["_law_deck_here", "_law_most"] spDraw)
    (DO : Okd P w K mg base CX0 (k) "_law_opens" ["_law_kind"] (spLOpens 8))
    (DW : Okd P w K mg base CX0 (k) "_law_walked" ["_law_deck_here", "_law_opens_here"] spWalked)
    (m_sorted : mg "sorted" = none)
    (m_tuple : mg "tuple" = none) : FnOk P w K mg base CX0 (k + 1) f fd psKnown spKnown := by
  obtain ⟨fD, fdD, GD, bD, gD, kD⟩ := DD
  obtain ⟨fO, fdO, GO, bO, gO, kO⟩ := DO
  obtain ⟨fW, fdW, GW, bW, gW, kW⟩ := DW
  refine F.ok scKnown (fun vs H Q E h => ?_) (fun cdv A outer s H vs Q E hr h => ?_)
  · obtain ⟨d, c, o, xs, rfl, _⟩ := h
    rfl
  obtain ⟨d, c, o, xs, rfl, dk, ho, od, oc, l13, nd, nx, q⟩ := h
  refine ⟨_, pss_cons (ps_set (i := 2) scKnown.nd rfl (.inl rfl) (pe_lst pa_nil))
    (pss_cons (ps_for PassesOwn.never rfl (pi_list (pe_callB cr_sortedS (by rfl) m_sorted (by decide +kernel) (pa_cons (pe_slice sl_list (pv 1) po_none (po_some (pe_op op_add pe_int (pe_call GD hr (by rfl) gD kD bD .nil pass0 (pa_cons (pv 0) (pa_cons pe_int pa_nil)))))) pa_nil))) (pg_name (i := 3) scKnown.nd rfl (.inl rfl))
      (pss_cons (ps_set (i := 4) scKnown.nd rfl (.inl rfl) (pe_call GW hr (by rfl) gW kW bW .nil pass0 (pa_cons (pv 0) (pa_cons (pe_slice sl_list (pv 1) (po_some pe_int) (po_some (pe_op op_add pe_int (pe_call GD hr (by rfl) gD kD bD .nil pass0 (pa_cons (pv 0) (pa_cons pe_int pa_nil)))))) pa_nil))))
    (pss_cons (ps_setLc (i := 6) (own := [("_law_one", 5)]) (g := gName 5) (tt := _) (by rfl) scKnown.nd rfl rfl (sw_true rfl rfl rfl (by decide +kernel)) (pi_list (pe_call GO hr (by rfl) gO kO bO .nil pass0 (pa_cons (pv 4) pa_nil))) (blkOk_by (own := [("_law_one", 5)]) (N := nKnown) (sc := defScope tKnown) (by decide +kernel)) (fun _ _ _ _ _ => (pg_name (i := 5) scKnown.nd rfl (.inl rfl))) (fun _ _ _ _ _ => pts_one (pt_cmpR op_eq (pe_call GD hr (by rfl) gD kD bD .nil pass0 (pa_cons (pv 0) (pa_cons pe_int pa_nil))) pe_int (nomark _))) (fun _ _ _ _ _ => (pv 5)))
    (pss_one (ps_expr (pe_bm PySem.F.plainAttrs_list PySem.F.slot_list_append PySem.F.type_list_append mt_append (pv 2) (pa_cons (pe_tup (pa_cons (pv 3) (pa_cons (pe_callTy call_tuple_of (by rfl) m_tuple PyProof.Rows.boot_tuple (pa_cons (pv 6) pa_nil)) (pa_cons (pv 4) pa_nil)))) pa_nil)))))))
    (pss_one (ps_ret (pe_callTy call_tuple_of (by rfl) m_tuple PyProof.Rows.boot_tuple (pa_cons (pv 2) pa_nil))))), ?_⟩
  refine ⟨Nat.zero_le _, fun fa nfa => ?_⟩
  have offa := dk.off nfa
  refine objG nfa fun G0 s0 gf0 => ?_
  refine ⟨_, rfl, _, rfl, d, c, 4, rfl, dk.same s0, by decide, by decide, fun r G1 r0 r1 kp1 dk1 => ⟨_, _, rfl, rfl, _, rfl, o, _, rfl, SqL.of (kp1 o _ od oc (s0 _ _ ho)), fun p1 np1 => ?_⟩⟩
  obtain ⟨n, hn⟩ : ∃ n : Nat, (1 + r : Int) = (n : Int) := ⟨(1 + r).toNat, by omega⟩
  rw [hn, cutHi, ← List.map_take]
  refine objG np1 fun G2 s2 g2 => ?_
  refine ⟨p1, xs.take n, rfl, SqL.of g2, by rw [List.length_take]; omega, fun ys q1 pm srt nq1 => objG nq1 fun G3 s3 g3 => ?_⟩
  have sA := s2.trans s3
  have kpA : Kp d c H G3 := kpS ((Kp.of s0).trans kp1) sA
  have lys : ys.length = n := by rw [pm.length_eq, List.length_take]; omega
  have gfA : G3 fa = some (.lst []) := sA _ _ (kp1 fa _ offa.1 offa.2 gf0)
  have mys : ∀ y ∈ ys, y ∈ xs.take 4 := fun y hy => by
    have := pm.mem_iff.mp hy
    exact List.mem_of_mem_take (i := n) (by rw [List.take_take, Nat.min_eq_left (by omega)]; exact this)
  have nys : ys.Nodup := pm.nodup_iff.mpr (nd.sublist (List.take_sublist _ _))
  have offq := (dk1.same s2).off nq1
  have nqf : q1 ≠ fa := (ne_of_none (s2 _ _ (kp1 fa _ offa.1 offa.2 gf0)) nq1).symm
  refine ⟨q1, rfl, ⟨_, SqL.of g3⟩, for_list (K := K) (a := q1) (xs := ys.map V.str) (fun i σ G => ∃ rs kn, (∃ y3 y4 y5 y6, σ = [some (.ref d), some (.ref o), some (.ref fa), y3, y4, y5, y6]) ∧ Kp d c H G ∧ Dk G d c ∧ G q1 = some (.lst (ys.map V.str)) ∧ G fa = some (.lst (rs.map V.ref)) ∧ Paired (fun r (w : Kw) => ∃ lo kv, G r = some (.tup [.str w.nm, .ref lo, kv]) ∧ G lo = some (.tup (w.lo.map V.str)) ∧ Rp0 G w.k kv) rs kn ∧ (∀ w ∈ kn, Bw 7 55 xs w.k) ∧ (∀ w ∈ kn, (∀ x ∈ w.lo, x ∈ w.k.opens) ∧ w.lo.length ≤ 26) ∧ kn.map (·.nm) = ys.take i) ⟨[], [], ⟨_, _, _, _, rfl⟩, kpA, dk1.same sA, g3, gfA, .nil, (fun _ h => by cases h), (fun _ h => by cases h), rfl⟩ (fun i σ G _ z => ?_) (fun i u σ G hu z => ?_) (fun σ G z => ?_)⟩
  · obtain ⟨_, _, _, _, _, gq, _⟩ := z
    exact SqL.of gq
  · obtain ⟨rs, kn, ⟨y3, y4, y5, y6, rfl⟩, kpi, dki, gq, gf, pr, h1, h2, h3⟩ := z
    obtain ⟨x, hx, rfl⟩ : ∃ x, ys[i]? = some x ∧ u = .str x := by
      rw [List.getElem?_map] at hu
      obtain ⟨r, e1, e2⟩ := Option.map_eq_some_iff.mp hu
      exact ⟨r, e1, e2.symm⟩
    have hoi := kpi o _ od oc ho
    refine ⟨_, rfl, _, rfl, 4, rfl, _, rfl, d, c, 4, rfl, dki, by decide, by decide, fun r2 G4 r20 r21 kp4 dk4 => ⟨_, _, rfl, rfl, _, rfl, o, _, rfl, SqL.of (kp4 o _ od oc hoi), fun p2 np2 => ?_⟩⟩
    obtain ⟨zs, ez, mz, lz⟩ := cutS xs (some 4) (some (4 + r2))
    rw [ez]
    have off2 := dk4.off np2
    refine objG np2 fun G5 s5 g5 => ?_
    refine ⟨d, c, p2, zs, rfl, dk4.same s5, g5, off2.1, off2.2, by omega, fun y hy => nx y (mz y hy), fun kv t G6 kp6 dk6 rt bt => ?_⟩
    have bt' := sub_bd bt mz
    have kp' : Kp d c G G6 := (kpS kp4 s5).trans kp6
    refine ⟨_, rfl, kv, t, xs, rfl, by have := bt.dp; omega, rt, by omega, bt'.op, fun l os G7 s7 nl7 g7 sr7 nd7 m7 => ?_⟩
    have dk7 := dk6.same s7
    have off7 : l ≠ d ∧ l ≠ c := dk6.off nl7
    have los : os.length ≤ 13 := by rw [← l13]; exact nodup_le nd7 fun x hx => bt'.op x ((m7 x).mp hx)
    refine ⟨l, rfl, ⟨_, SqL.of g7⟩, fun D nD => ?_⟩
    have offD := dk7.off nD
    refine lc_list (K := K) (a := l) (xs := os.map V.str) (fun i F => Kp d c G7 F ∧ Dk F d c ∧ ∃ js : List Str, F D = some (.lst (js.map V.str)) ∧ (∀ y ∈ js, y ∈ os) ∧ js.length ≤ i) ⟨Kp.of (newS nD), dk7.same (newS nD), [], upd_same, fun y hy => (by cases hy), Nat.le_refl _⟩ (fun i F _ z => SqL.of (z.1 l _ off7.1 off7.2 g7)) (fun i u F hu z => ?_) (fun F z => ?_)
    · obtain ⟨kpF, dkF, js, gD, mj, lj⟩ := z
      obtain ⟨y, hy, rfl⟩ : ∃ y, os[i]? = some y ∧ u = .str y := by
        rw [List.getElem?_map] at hu
        obtain ⟨r, e1, e2⟩ := Option.map_eq_some_iff.mp hu
        exact ⟨r, e1, e2.symm⟩
      have li := (List.getElem?_eq_some_iff.mp hy).1
      refine ⟨rfl, _, rfl, d, c, 2, rfl, dkF, by decide, by decide, fun r3 F2 r30 r31 kpF2 dkF2 => ⟨rfl, _, rfl, ite2 (fun _ => ?_) (fun _ => ⟨kpF.trans kpF2, dkF2, js, kpF2 D _ offD.1 offD.2 gD, mj, by omega⟩)⟩⟩
      have gD2 := kpF2 D _ offD.1 offD.2 gD
      refine ⟨_, rfl, js.map V.str, gD2, small1000 (by rw [List.length_map]; omega), ?_, ?_, js ++ [y], ?_, ?_, ?_⟩
      · exact fun b o b1 b2 e => by
          have e2 := kpF2 b o b1 b2 (kpF b o b1 b2 e)
          rw [upd_ne (fun z => by rw [z, nD] at e; cases e)]
          exact e2
      · exact dkF2.putO offD.1 offD.2
      · rw [upd_same, List.map_append]
        rfl
      · intro v hv
        rcases List.mem_append.mp hv with hv | hv
        · exact mj v hv
        · rw [List.mem_singleton.mp hv]
          exact List.mem_of_getElem? hy
      · rw [List.length_append]
        show js.length + 1 ≤ _
        omega
    · obtain ⟨kpF, dkF, js, gD, mj, lj⟩ := z
      rw [List.length_map] at lj
      have kp9 : Kp d c G F := (kpS kp' s7).trans kpF
      have gf9 := kp9 fa _ offa.1 offa.2 gf
      refine ⟨_, rfl, .inl ⟨rfl, _, SqL.of gf9⟩, _, rfl, _, rfl, D, _, rfl, .inl ⟨SqL.of gD, fun tp ntp => objG ntp fun G8 s8 g8 => ?_⟩⟩
      refine ⟨_, rfl, (by show 3 ≤ sizeLine; decide), fun rp nrp => objG nrp fun G9 s9 g9 => ?_⟩
      have kp10 : Kp d c G G9 := kpS (kpS kp9 s8) s9
      have gf10 := kp10 fa _ offa.1 offa.2 gf
      have tk9 : Tk G G9 := Tk.kp kp10 dki
      have tkO : Tk G9 (upd G9 fa (.lst (rs.map V.ref ++ [V.ref rp]))) := Tk.rfl.put (fun _ z => by rw [gf10] at z; cases z)
      have tkA := tk9.trans tkO
      have lrs : rs.length ≤ 13 := by
        have e1 := pr.length
        have e2 := congrArg List.length h3
        rw [List.length_map, List.length_take] at e2
        omega
      have tk6 : Tk G6 G9 := (Tk.of s7).trans ((Tk.kp kpF dk7).trans ((Tk.of s8).trans (Tk.of s9)))
      refine ⟨fa, _, _, rfl, rfl, gf10, small1000 (by rw [List.length_map]; omega), rs ++ [rp], kn ++ [⟨x, js, t⟩], ⟨_, _, _, _, rfl⟩, ?_, ?_, ?_, ?_, ?_, ?_, ?_, ?_⟩
      · exact fun b o b1 b2 e => by
          have e2 := (kpi.trans kp10) b o b1 b2 e
          rw [upd_ne (fun z => by rw [z, nfa] at e; cases e)]
          exact e2
      · exact ((dkF.same s8).same s9).putO offa.1 offa.2
      · rw [upd_ne nqf]
        exact kp10 q1 _ offq.1 offq.2 gq
      · rw [upd_same, List.map_append]
        rfl
      · exact Paired.snoc (Paired.mapP pr fun _ _ ⟨lo, kv, a, b, c⟩ => ⟨lo, kv, tkA _ _ a, tkA _ _ b, c.tk tkA⟩) ⟨tp, kv, tkO _ _ g9, tkO _ _ (s9 _ _ g8), (rt.tk tk6).tk tkO⟩
      · intro w hw
        rcases List.mem_append.mp hw with hw | hw
        · exact h1 w hw
        · rw [List.mem_singleton.mp hw]
          exact bt'
      · intro w hw
        rcases List.mem_append.mp hw with hw | hw
        · exact h2 w hw
        · rw [List.mem_singleton.mp hw]
          exact ⟨fun y hy => (m7 y).mp (mj y hy), by show js.length ≤ 26; omega⟩
      · rw [List.map_append, h3, List.take_add_one, hx]
        rfl
  · obtain ⟨rs, kn, ⟨y3, y4, y5, y6, rfl⟩, kpi, dki, gq, gf, pr, h1, h2, h3⟩ := z
    rw [List.length_map, List.take_length] at h3
    refine ⟨_, rfl, fa, _, rfl, .inl ⟨SqL.of gf, fun l nl => objG nl fun G7 s7 g7 => ?_⟩⟩
    have lk : kn.length = n := by rw [← lys, ← h3, List.length_map]
    refine q l kn G7 (kpS kpi s7) (dki.same s7) ⟨rs, g7, Paired.mapP pr fun _ _ ⟨lo, kv, a, b, c⟩ => ⟨lo, kv, s7 _ _ a, s7 _ _ b, c.tk (.of s7)⟩⟩ ⟨h1, h2, fun w hw => mys _ (by rw [← h3]; exact List.mem_map.mpr ⟨w, hw, rfl⟩), by rw [h3]; exact nys⟩ (by omega) (by omega)
end
end Kq

/-! fills drawn, put otherwise -/
namespace Kq
open PySem PySem.Spec PyProof.Rows L2 Kf Kg Kv Kk Ku
/-- a kind that a fill may have -/
structure Sk (hs : List Str) (t : Kd) : Prop where
  fn : t.isDat = true
  dp : t.dp ≤ 1
  sz : t.size ≤ 3
  op : ∀ x ∈ t.opens, x ∈ hs
theorem Sk.dta {hs : List Str} {t : Kd} (h : Dta 1 hs t) : Sk hs t := ⟨h.da, h.dp, h.sz, h.op⟩
theorem Sk.opn {hs : List Str} {x : Str} (h : x ∈ hs) : Sk hs (.opn x) := ⟨rfl, Nat.zero_le _, (show 1 ≤ 3 by decide), fun y hy => by rw [List.mem_singleton.mp hy]; exact h⟩
/-- a dict of fills -/
structure DF (H : Hp) (p : Addr) (ns hs : List Str) (kvs : List (Key × V)) : Prop where
  at_ : H p = some (.dK kvs)
  nm : NmD ns kvs
  vs : ∀ kv ∈ kvs, ∃ t, Sk hs t ∧ Rp0 H t kv.2
theorem DF.tk {H G : Hp} {p : Addr} {ns hs : List Str} {kvs : List (Key × V)} (h : DF H p ns hs kvs) (e : G p = some (.dK kvs)) (s : Tk H G) : DF G p ns hs kvs := ⟨e, h.nm, fun kv hk => let ⟨t, a, b⟩ := h.vs kv hk; ⟨t, a, b.tk s⟩⟩
theorem put_mem {kvs : List (Key × V)} {k : Key} {v : V} {kv : Key × V} (h : kv ∈ putK kvs k v) : kv ∈ kvs ∨ kv.2 = v := by
  unfold putK at h
  split at h
  · obtain ⟨q, hq, e⟩ := List.mem_map.mp h
    split at e
    · exact .inr (by rw [← e])
    · exact .inl (by rw [← e]; exact hq)
  · rcases List.mem_append.mp h with h | h
    · exact .inl h
    · rw [List.mem_singleton.mp h]
      exact .inr rfl
theorem tkPutD {H : Hp} {p : Addr} {kvs ks : List (Key × V)} (h : H p = some (.dK kvs)) : Tk H (upd H p (.dK ks)) := Tk.rfl.put (fun _ z => by rw [h] at z; cases z)
theorem DF.put {H : Hp} {p : Addr} {ns hs : List Str} {kvs : List (Key × V)} (h : DF H p ns hs kvs) {x : Str} (hx : x ∈ ns) {t : Kd} {v : V} (st : Sk hs t) (r : Rp0 H t v) : DF (upd H p (.dK (putK kvs (.inr x) v))) p ns hs (putK kvs (.inr x) v) := by
  have tk := tkPutD (ks := putK kvs (.inr x) v) h.at_
  refine ⟨upd_same, h.nm.put hx v, fun kv hk => ?_⟩
  rcases put_mem hk with hk | hk
  · obtain ⟨t, a, b⟩ := h.vs kv hk
    exact ⟨t, a, b.tk tk⟩
  · rw [hk]
    exact ⟨t, st, r.tk tk⟩
theorem DF.drop {H : Hp} {p : Addr} {ns hs : List Str} {kvs : List (Key × V)} (h : DF H p ns hs kvs) (k : Key) : DF (upd H p (.dK (dropK kvs k))) p ns hs (dropK kvs k) := by
  have tk := tkPutD (ks := dropK kvs k) h.at_
  have sub : (dropK kvs k).Sublist kvs := List.filter_sublist
  refine ⟨upd_same, ⟨h.nm.nd.sublist (sub.map _), fun k hk => h.nm.ns k ((sub.map _).subset hk)⟩, fun kv hk => ?_⟩
  obtain ⟨t, a, b⟩ := h.vs kv (sub.subset hk)
  exact ⟨t, a, b.tk tk⟩
theorem shT0 {xs : List Str} (h : ∀ x ∈ xs, Nm x) : SeqAt.shaped (.tuple (xs.map PyData.str)) = true := by
  obtain ⟨a, b⟩ := layStrs xs h
  simp [SeqAt.shaped, PyData.canLay0, PyData.depth, a, b]
theorem NmD.up {ns ms : List Str} {kvs : List (Key × V)} (h : NmD ns kvs) (s : ∀ x ∈ ns, x ∈ ms) : NmD ms kvs := ⟨h.nd, fun k hk => let ⟨x, a, b⟩ := h.ns k hk; ⟨x, s x a, b⟩⟩
theorem kpPut {d c p : Addr} {H G : Hp} {u : HO} (k : Kp d c H G) (h : H p = none) : Kp d c H (upd G p u) := fun b o b1 b2 e => by
  rw [upd_ne (fun z => by rw [z, h] at e; cases e)]
  exact k b o b1 b2 e
section
variable {P : Program} {w : World} {K : PySem.W.Frag} {mg : Str → Option Value} {base : Heap}
abbrev tFil : Stmt := tp 93
abbrev nFil : List Str := ["_law_deck_here", "_law_looks", "_law_kind", "_law_looked", "_law_here", "_law_found", "_law_name"]
abbrev psFil : List Str := ["_law_deck_here", "_law_looks", "_law_kind", "_law_looked", "_law_here"]
theorem scFil : FnScope nFil psFil (defScope tFil) := ⟨rfl, rfl, rfl, by decide +kernel, rfl, by decide +kernel, by decide +kernel⟩
def spFil : Sp := fun vs H Q _ => ∃ (d c la lka o : Addr) (kv : V) (t : Kd) (lo lk hs ns : List Str), vs = [.ref d, .ref la, kv, .ref lka, .ref o] ∧ Dk H d c ∧ H la = some (.tup (lo.map V.str)) ∧ Rp0 H t kv ∧ t.dp ≤ 7 ∧ (∀ x ∈ t.opens, x ∈ ns) ∧ ns.length ≤ 26 ∧ H lka = some (.tup (lk.map V.str)) ∧ (∀ x ∈ lk, x ∈ hs) ∧ lk.length ≤ 26 ∧ H o = some (.lst (hs.map V.str)) ∧ o ≠ d ∧ o ≠ c ∧ hs.length ≤ 26 ∧ (∀ x ∈ hs, Nm x) ∧
  ∀ (p : Addr) (kvs : List (Key × V)) (G : Hp), Kp d c H G → Dk G d c → H p = none → DF G p ns hs kvs → Q (.ref p) G
theorem okFil {f : Addr} {fd : FuncData} {k : Nat} (F : Fun K "_law_fills" "_law_fills" tFil f fd)
    (DA : Okd P w K mg base CX0 (k) "_law_data" ["_law_deck_here", "_law_opens_here", "_law_deep", "_law_small"] (spLData 2))
    (DP : Okd P w K mg base CX0 (k) "_law_pick" ["_law_deck_here", "_law_some"] spPickT)
    (DO : Okd P w K mg base CX0 (k) "_law_opens" ["_law_kind"] (spLOpens 8)) : FnOk P w K mg base CX0 (k + 1) f fd psFil spFil := by
  obtain ⟨fA, fdA, GA, bA, gA, kA⟩ := DA
  obtain ⟨fP, fdP, GP, bP, gP, kP⟩ := DP
  obtain ⟨fO, fdO, GO, bO, gO, kO⟩ := DO
  refine F.ok scFil (fun vs H Q E h => ?_) (fun cdv A outer s H vs Q E hr h => ?_)
  · obtain ⟨d, c, la, lka, o, kv, t, lo, lk, hs, ns, rfl, _⟩ := h
    rfl
  obtain ⟨d, c, la, lka, o, kv, t, lo, lk, hs, ns, rfl, dk, hla, rt, tdp, top, lns, hlk, mlk, llk, ho, od, oc, lhs, nhs, q⟩ := h
  refine ⟨_, pss_cons (ps_set (i := 5) scFil.nd rfl (.inl rfl) pe_dnewK)
    (pss_cons (ps_for PassesOwn.never rfl (pi_list (pe_call GO hr (by rfl) gO kO bO .nil pass0 (pa_cons (pv 2) pa_nil))) (pg_name (i := 6) scFil.nd rfl (.inl rfl))
      (pss_cons (ps_asg (pe_call GA hr (by rfl) gA kA bA .nil pass0 (pa_cons (pv 0) (pa_cons (pv 4) (pa_cons pe_int (pa_cons pe_bl pa_nil))))) (pg_sub (pv 5) (pv 6) (set_dict (hu_of hr))))
    (pss_one (ps_if (PW.pt (pw_and (pt_cmpR op_in_seq (pv 6) (pv 1) rfl) (pw_and1 (pt_cmpR (op_neD hr.units) (pv 3) (pe_tup pa_nil) (nomark _))))) (pss_one (ps_asg (pe_tup (pa_cons pe_str (pa_cons (pe_call GP hr (by rfl) gP kP bP .nil pass0 (pa_cons (pv 0) (pa_cons (pv 3) pa_nil))) pa_nil))) (pg_sub (pv 5) (pv 6) (set_dict (hu_of hr))))) pss_nil))))
    (pss_one (ps_ret (pv 5)))), ?_⟩
  refine fun p np => objG np fun G0 s0 g0 => ?_
  refine ⟨_, rfl, kv, t, ns, rfl, by omega, rt.tk (.of s0), lns, top, fun l os G1 s1 nl g1 sr1 nd1 m1 => ?_⟩
  have offp := dk.off np
  have dk1 := dk.same (s0.trans s1)
  have offl := (dk.same s0).off nl
  have nlp : l ≠ p := (ne_of_none g0 nl).symm
  have s01 := s0.trans s1
  refine ⟨l, rfl, ⟨_, SqL.of g1⟩, for_list (K := K) (a := l) (xs := os.map V.str) (fun i σ G => ∃ kvs, (∃ y6, σ = [some (.ref d), some (.ref la), some kv, some (.ref lka), some (.ref o), some (.ref p), y6]) ∧ Kp d c H G ∧ Dk G d c ∧ G l = some (.lst (os.map V.str)) ∧ DF G p ns hs kvs) ⟨[], ⟨_, rfl⟩, Kp.of s01, dk1, g1, ⟨s1 _ _ g0, .nil, fun _ h => by cases h⟩⟩ (fun i σ G _ z => ?_) (fun i u σ G hu z => ?_) (fun σ G z => ?_)⟩
  · obtain ⟨_, _, _, _, gl, _⟩ := z
    exact SqL.of gl
  rotate_left
  · obtain ⟨kvs, ⟨y6, rfl⟩, kpi, dki, gl, df⟩ := z
    exact ⟨_, rfl, q p kvs G kpi dki np df⟩
  obtain ⟨kvs, ⟨y6, rfl⟩, kpi, dki, gl, df⟩ := z
  obtain ⟨x, hx, rfl⟩ : ∃ x, os[i]? = some x ∧ u = .str x := by
    rw [List.getElem?_map] at hu
    obtain ⟨r, e1, e2⟩ := Option.map_eq_some_iff.mp hu
    exact ⟨r, e1, e2.symm⟩
  have xns : x ∈ ns := top x ((m1 x).mp (List.mem_of_getElem? hx))
  have hoi := kpi o _ od oc ho
  refine ⟨_, rfl, _, rfl, d, c, o, hs, 1, false, rfl, by decide, dki, hoi, od, oc, lhs, nhs, fun v t2 G2 kp2 dk2 r2 d2 => ?_⟩
  have gp2 := kp2 p _ offp.1 offp.2 df.at_
  have df2 : DF G2 p ns hs kvs := df.tk gp2 (Tk.kp kp2 dki)
  have len0 : kvs.length < sizeLine := by have := df.nm.len; show kvs.length < 16777216; omega
  refine ⟨_, rfl, _, rfl, p, _, rfl, .inl ⟨kvs, .inr x, gp2, rfl, len0, rfl⟩, ?_⟩
  have df3 := df2.put xns (Sk.dta d2) r2
  have tk3 := tkPutD (ks := putK kvs (.inr x) v) gp2
  have kp3 : Kp d c H (upd G2 p (.dK (putK kvs (.inr x) v))) := kpPut (kpi.trans kp2) np
  have dk3 : Dk (upd G2 p (.dK (putK kvs (.inr x) v))) d c := dk2.putO offp.1 offp.2
  have gl3 : (upd G2 p (.dK (putK kvs (.inr x) v))) l = some (.lst (os.map V.str)) := by rw [upd_ne nlp]; exact kp2 l _ offl.1 offl.2 gl
  have hla3 := kp3 la _ (dk.offT hla).1 (dk.offT hla).2 hla
  have hlk3 := kp3 lka _ (dk.offT hlk).1 (dk.offT hlk).2 hlk
  generalize upd G2 p (.dK (putK kvs (.inr x) v)) = G3 at df3 tk3 kp3 dk3 gl3 hla3 hlk3 ⊢
  generalize putK kvs (.inr x) v = kvs3 at df3
  refine ⟨_, rfl, _, rfl, la, _, rfl, .inr (SqT.of hla3), rfl, allFlat lo, _, rfl, ite2 (fun _ => ?_) (fun _ => ⟨kvs3, ⟨_, rfl⟩, kp3, dk3, gl3, df3⟩)⟩
  refine ⟨_, rfl, Nat.zero_le _, fun e ne => objG ne fun G4 s4 g4 => ?_⟩
  refine ⟨.tuple (lk.map PyData.str), .tuple [], .tup (SqT.of (s4 _ _ hlk3)) (dpStrs K G4 lk), .tup (SqT.of g4) .nil, shT0 (fun y hy => nhs y (mlk y hy)), by decide +kernel, _, rfl, ?_⟩
  have kp4 := kpS kp3 s4
  have dk4 := dk3.same s4
  have gl4 := s4 _ _ gl3
  have df4 : DF G4 p ns hs kvs3 := df3.tk (s4 _ _ df3.at_) (.of s4)
  refine ite2 (fun c1 => ?_) (fun _ => ⟨kvs3, ⟨_, rfl⟩, kp4, dk4, gl4, df4⟩)
  have ne0 : lk ≠ [] := fun z => by rw [z] at c1; exact absurd c1 (by decide +kernel)
  have l1 := List.length_pos_iff.mpr ne0
  refine ⟨_, rfl, _, rfl, d, c, lka, _, rfl, dk4, s4 _ _ hlk3, by rw [List.length_map]; omega, by rw [List.length_map]; omega, fun v2 G5 kp5 dk5 mv => ?_⟩
  obtain ⟨y, hy, rfl⟩ := List.mem_map.mp mv
  refine ⟨(by show 2 ≤ sizeLine; decide), fun t0 nt0 => objG nt0 fun G6 s6 g6 => ?_⟩
  have gp6 := s6 _ _ (kp5 p _ offp.1 offp.2 df4.at_)
  have df6 : DF G6 p ns hs kvs3 := df4.tk gp6 ((Tk.kp kp5 dk4).trans (Tk.of s6))
  have len1 : kvs3.length < sizeLine := by have := df6.nm.len; show kvs3.length < 16777216; omega
  refine ⟨_, rfl, _, rfl, p, _, rfl, .inl ⟨kvs3, .inr x, gp6, rfl, len1, rfl⟩, ?_⟩
  refine ⟨_, ⟨_, rfl⟩, kpPut (kpS (kp4.trans kp5) s6) np, (dk5.same s6).putO offp.1 offp.2, ?_, df6.put xns (Sk.opn (mlk y hy)) ⟨t0, rfl, g6⟩⟩
  rw [upd_ne nlp]
  exact s6 _ _ (kp5 l _ offl.1 offl.2 gl4)
end
end Kq

/-! fills put otherwise -/
namespace Kq
open PySem PySem.Spec PyProof.Rows L2 Kf Kg Kv Kk Ku
theorem keys_s {ns : List Str} : ∀ {kvs : List (Key × V)}, (∀ k ∈ kvs.map (·.1), ∃ x ∈ ns, k = (Sum.inr x : Key)) → ∃ ks : List Str, kvs.map (·.1) = ks.map Sum.inr ∧ ∀ x ∈ ks, x ∈ ns
  | [], _ => ⟨[], rfl, fun _ h => by cases h⟩
  | kv :: r, h => by
    obtain ⟨x, hx, e⟩ := h kv.1 (by rw [List.map_cons]; exact List.mem_cons_self)
    obtain ⟨ks, e2, h2⟩ := keys_s (kvs := r) fun k hk => h k (by rw [List.map_cons]; exact List.mem_cons_of_mem _ hk)
    refine ⟨x :: ks, by rw [List.map_cons, List.map_cons, e, e2], fun y hy => ?_⟩
    rcases List.mem_cons.mp hy with rfl | hy
    · exact hx
    · exact h2 y hy
theorem inr_nodup {ks : List Str} (h : (ks.map (Sum.inr : Str → Key)).Nodup) : ks.Nodup := by
  induction ks with
  | nil => exact List.nodup_nil
  | cons x r ih =>
    rw [List.map_cons, List.nodup_cons] at h
    exact List.nodup_cons.mpr ⟨fun z => h.1 (List.mem_map.mpr ⟨x, z, rfl⟩), ih h.2⟩
theorem valV_mem {kvs : List (Key × V)} {k : Key} {v : V} (h : valV kvs k = some v) : (k, v) ∈ kvs := by
  unfold valV at h
  obtain ⟨q, hq, rfl⟩ := Option.map_eq_some_iff.mp h
  have e : q.1 = k := by simpa using List.find?_some hq
  have := List.mem_of_find?_eq_some hq
  rw [← e]
  exact this
theorem valV_in {kvs : List (Key × V)} {k : Key} (h : k ∈ kvs.map (·.1)) : ∃ v, valV kvs k = some v := by
  cases e : valV kvs k with
  | some v => exact ⟨v, rfl⟩
  | none =>
    exfalso
    obtain ⟨q, hq, rfl⟩ := List.mem_map.mp h
    unfold valV at e
    rw [Option.map_eq_none_iff, List.find?_eq_none] at e
    exact e q hq (decide_eq_true rfl)
/-- all but three places stays -/
def Kq3 (d c p : Addr) (H G : Hp) : Prop := ∀ b o, b ≠ d → b ≠ c → b ≠ p → H b = some o → G b = some o
theorem Kq3.rfl {d c p : Addr} {H : Hp} : Kq3 d c p H H := fun _ _ _ _ _ e => e
theorem Kq3.kp {d c p : Addr} {H G F : Hp} (a : Kq3 d c p H G) (b : Kp d c G F) : Kq3 d c p H F := fun x o h1 h2 h3 e => b x o h1 h2 (a x o h1 h2 h3 e)
theorem Kq3.put {d c p : Addr} {H G : Hp} {u : HO} (a : Kq3 d c p H G) : Kq3 d c p H (upd G p u) := fun x o h1 h2 h3 e => by
  rw [upd_ne h3]
  exact a x o h1 h2 h3 e
/-- the dict of fills at p, put otherwise or not -/
structure Spo (d c p : Addr) (H G : Hp) (ns hs : List Str) : Prop where
  k3 : Kq3 d c p H G
  dk : Dk G d c
  df : ∃ kvs, DF G p ns hs kvs
section
variable {P : Program} {w : World} {K : PySem.W.Frag} {mg : Str → Option Value} {base : Heap}
abbrev tSpoilt : Stmt := tp 94
abbrev nSpoilt : List Str := ["_law_deck_here", "_law_way", "_law_found", "_law_names_here", "_law_here", "_law_some", "_law_one"]
abbrev psSpoilt : List Str := ["_law_deck_here", "_law_way", "_law_found", "_law_names_here", "_law_here"]
theorem scSpoilt : FnScope nSpoilt psSpoilt (defScope tSpoilt) := ⟨rfl, rfl, rfl, by decide +kernel, rfl, by decide +kernel, by decide +kernel⟩
def spSpoilt : Sp := fun vs H Q _ => ∃ (d c p o oh : Addr) (way : Int) (ns hs : List Str) (kvs : List (Key × V)), vs = [.ref d, .int way, .ref p, .ref o, .ref oh] ∧ Dk H d c ∧ p ≠ d ∧ p ≠ c ∧ DF H p ns hs kvs ∧ H o = some (.lst (ns.map V.str)) ∧ o ≠ d ∧ o ≠ c ∧ ns.length = 13 ∧ (∀ x ∈ ns, Nm x) ∧ H oh = some (.lst (hs.map V.str)) ∧ oh ≠ d ∧ oh ≠ c ∧ hs.length = 3 ∧
  ∀ G, Spo d c p H G ns hs → Q (.ref p) G
theorem okSpoilt {f : Addr} {fd : FuncData} {k : Nat} (F : Fun K "_law_spoilt" "_law_spoilt" tSpoilt f fd)
    (DP : Okd P w K mg base CX0 (k) "_law_pick" ["_law_deck_here", "_law_some"] spPick)
    (m_sorted : mg "sorted" = none) : FnOk P w K mg base CX0 (k + 1) f fd psSpoilt spSpoilt := by
  obtain ⟨fP, fdP, GP, bP, gP, kP⟩ := DP
  refine F.ok scSpoilt (fun vs H Q E h => ?_) (fun cdv A outer s H vs Q E hr h => ?_)
  · obtain ⟨d, c, p, o, oh, way, ns, hs, kvs, rfl, _⟩ := h
    rfl
  obtain ⟨d, c, p, o, oh, way, ns, hs, kvs, rfl, dk, pd, pc, df, ho, od, oc, l13, nn, hh, hd, hc, l3, q⟩ := h
  refine ⟨_, pss_cons (ps_set (i := 5) scSpoilt.nd rfl (.inl rfl) (pe_callB (call_sortedD rfl) (by rfl) m_sorted (by decide +kernel) (pa_cons (pv 2) pa_nil)))
    (pss_cons (ps_if (PW.pt (pw_or (pt_cmpR (op_eqD hr.units) (pv 5) (pe_lst pa_nil) (nomark _)) (pw_or1 (pt_cmpR op_lt (pv 1) pe_int (nomark _))))) (C8.pss_cut (ps_if (pt_cmpR op_eq (pv 1) pe_int (nomark _)) (pss_one (ps_asg (pe_tup (pa_cons pe_str pa_nil)) (pg_sub (pv 2) (pe_ix ix_list (pv 3) pe_int (fun _ _ => rfl)) (set_dict (hu_of hr))))) pss_nil)
    (pss_one (ps_ret (pv 2)))) pss_nil)
    (pss_cons (ps_set (i := 6) scSpoilt.nd rfl (.inl rfl) (pe_call GP hr (by rfl) gP kP bP .nil pass0 (pa_cons (pv 0) (pa_cons (pv 5) pa_nil))))
    (C8.pss_cut (ps_if (pt_cmpR op_eq (pv 1) pe_int (nomark _)) (pss_one (ps_expr (pe_dpop1 (pv 2) (pv 6) ⟨rfl, rfl, rfl, rfl⟩))) pss_nil)
    (C8.pss_cut (ps_if (pt_cmpR op_eq (pv 1) pe_int (nomark _)) (pss_one (ps_asg (pe_dpop1 (pv 2) (pv 6) ⟨rfl, rfl, rfl, rfl⟩) (pg_sub (pv 2) (pe_ix ix_list (pv 3) pe_int (fun _ _ => rfl)) (set_dict (hu_of hr))))) pss_nil)
    (C8.pss_cut (ps_if (pt_cmpR op_gt (pv 1) pe_int (nomark _)) (pss_cons (ps_set (i := 5) scSpoilt.nd rfl (.inl rfl) (pe_lst (pa_cons (pe_tup (pa_cons pe_str pa_nil)) (pa_cons (pe_tup (pa_cons pe_str (pa_cons (pe_ix ix_list (pv 4) pe_int (fun _ _ => rfl)) pa_nil))) (pa_cons (pe_tup (pa_cons pe_str (pa_cons (pe_ix ix_list (pv 4) pe_int (fun _ _ => rfl)) pa_nil))) (pa_cons (pe_tup (pa_cons pe_str (pa_cons (pe_tup (pa_cons pe_str (pa_cons (pe_ix ix_list (pv 4) pe_int (fun _ _ => rfl)) pa_nil))) pa_nil))) (pa_cons (pe_tup (pa_cons pe_str pa_nil)) pa_nil)))))))
    (pss_one (ps_asg (pe_call GP hr (by rfl) gP kP bP .nil pass0 (pa_cons (pv 0) (pa_cons (pv 5) pa_nil))) (pg_sub (pv 2) (pv 6) (set_dict (hu_of hr)))))) pss_nil)
    (pss_one (ps_ret (pv 2)))))))), ?_⟩
  obtain ⟨ks, eks, mks⟩ := keys_s df.nm.ns
  have nks : ks.Nodup := inr_nodup (by rw [← eks]; exact df.nm.nd)
  have lks : ks.length ≤ 13 := by rw [← l13]; exact nodup_le nks mks
  have po : p ≠ o := fun z => by have := df.at_; rw [z, ho] at this; cases this
  have ph : p ≠ oh := fun z => by have := df.at_; rw [z, hh] at this; cases this
  refine ⟨_, rfl, p, _, ks, rfl, .inl df.at_, eks, by omega, fun ys l pm sr nl => objG nl fun G0 s0 g0 => ?_⟩
  have mys : ∀ y ∈ ys, y ∈ ks := fun y hy => pm.mem_iff.mp hy
  refine ⟨_, rfl, Nat.zero_le _, fun e ne => objG ne fun G1 s1 g1 => ?_⟩
  have s01 := s0.trans s1
  refine ⟨.list (ys.map PyData.str), .list [], .lst (SqL.of (s1 _ _ g0)) (dpStrs K G1 ys), .lst (SqL.of g1) .nil, shL (fun y hy => nn y (mks y (mys y hy))), by decide +kernel, _, rfl, ?_⟩
  rw [eqvNil]
  have getN : ∀ j : Nat, j < 13 → ∃ x ∈ ns, (ns.map V.str)[j]? = some (.str x) := fun j hj => by
    have lt : j < ns.length := by omega
    exact ⟨ns[j], List.getElem_mem lt, by rw [List.getElem?_map, List.getElem?_eq_getElem lt]; rfl⟩
  have getH : ∀ j : Nat, j < 3 → ∃ x ∈ hs, (hs.map V.str)[j]? = some (.str x) := fun j hj => by
    have lt : j < hs.length := by omega
    exact ⟨hs[j], List.getElem_mem lt, by rw [List.getElem?_map, List.getElem?_eq_getElem lt]; rfl⟩
  have lenD : ∀ {G : Hp} {ks : List (Key × V)}, DF G p ns hs ks → ks.length < sizeLine := fun h => by
    have := h.nm.len
    show _ < 16777216
    omega
  have st : ∀ {G : Hp} {ks : List (Key × V)} {x : Str} {t : Kd} {v : V}, Kq3 d c p H G → Dk G d c → DF G p ns hs ks → x ∈ ns → Sk hs t → Rp0 G t v → Spo d c p H (upd G p (.dK (putK ks (.inr x) v))) ns hs := fun k3 dk df hx sk r => ⟨k3.put, dk.putO pd pc, _, df.put hx sk r⟩
  have k1 : Kq3 d c p H G1 := Kq3.rfl.kp (Kp.of s01)
  have dk1 := dk.same s01
  have df1 : DF G1 p ns hs kvs := df.tk (s01 _ _ df.at_) (.of s01)
  have ho1 := s01 _ _ ho
  refine (fun h => ite2 (fun _ => h) (fun c1 => ⟨_, rfl, _, _, rfl, rfl, _, rfl, ite2 (fun _ => h) (fun c2 => ?_)⟩)) ?_
  · refine ⟨fun σ G => σ = [some (.ref d), some (.int way), some (.ref p), some (.ref o), some (.ref oh), some (.ref l), none] ∧ Spo d c p H G ns hs, ?_, ?_⟩
    · refine ⟨_, rfl, rfl, _, rfl, ite2 (fun _ => ?_) (fun _ => ⟨rfl, k1, dk1, kvs, df1⟩)⟩
      obtain ⟨x, mx, ex⟩ := getN 8 (by omega)
      refine ⟨(by show 1 ≤ sizeLine; decide), fun t nt => objG nt fun G2 s2 g2 => ?_⟩
      have df2 : DF G2 p ns hs kvs := df1.tk (s2 _ _ df1.at_) (.of s2)
      exact ⟨_, rfl, _, rfl, o, _, _, _, rfl, rfl, SqL.of (s2 _ _ ho1), atI_nat (j := 8) ex, p, _, rfl, .inl ⟨kvs, .inr x, df2.at_, rfl, lenD df2, rfl⟩, rfl, st (t := Kd.num) (k1.kp (Kp.of s2)) (dk1.same s2) df2 mx ⟨rfl, Nat.zero_le _, (show 1 ≤ 3 by decide), fun y hy => by cases hy⟩ ⟨t, rfl, g2⟩⟩
    · rintro σ G ⟨rfl, sp⟩
      exact ⟨_, rfl, q G sp⟩
  have ne0 : ys ≠ [] := fun z => by rw [z] at c1; exact c1 rfl
  have l1 := List.length_pos_iff.mpr ne0
  have ly := pm.length_eq
  have offl := dk.off nl
  refine ⟨_, rfl, _, rfl, d, c, l, _, rfl, dk1, s1 _ _ g0, offl.1, offl.2, by rw [List.length_map]; omega, by rw [List.length_map]; omega, fun v G2 kp2 dk2 mv => ?_⟩
  obtain ⟨y, hy, rfl⟩ := List.mem_map.mp mv
  have k2 := k1.kp kp2
  have df2 : DF G2 p ns hs kvs := df1.tk (kp2 p _ pd pc df1.at_) (Tk.kp kp2 dk1)
  have yk : (Sum.inr y : Key) ∈ kvs.map (·.1) := by rw [eks]; exact List.mem_map.mpr ⟨y, mys y hy, rfl⟩
  have yn : y ∈ ns := mks y (mys y hy)
  obtain ⟨vy, evy⟩ := valV_in yk
  obtain ⟨ty, sky, ry⟩ := df.vs _ (valV_mem evy)
  refine ⟨fun σ G => σ = [some (.ref d), some (.int way), some (.ref p), some (.ref o), some (.ref oh), some (.ref l), some (.str y)] ∧ Spo d c p H G ns hs ∧ (way ≠ 3 → DF G p ns hs kvs), ?_, ?_⟩
  · refine ⟨_, rfl, rfl, _, rfl, ite2 (fun e => ?_) (fun _ => ⟨rfl, ⟨k2, dk2, kvs, df2⟩, fun _ => df2⟩)⟩
    have e3 : way = 3 := V.int.inj (of_decide_eq_true e)
    exact ⟨_, rfl, p, rfl, .inl ⟨kvs, .inl df2.at_⟩, _, rfl, kvs, .inr y, vy, df2.at_, rfl, evy, rfl, ⟨k2.put, dk2.putO pd pc, _, df2.drop _⟩, fun z => absurd e3 z⟩
  rintro σ G3 ⟨rfl, sp3, df3⟩
  refine ⟨fun σ G => σ = [some (.ref d), some (.int way), some (.ref p), some (.ref o), some (.ref oh), some (.ref l), some (.str y)] ∧ Spo d c p H G ns hs, ?_, ?_⟩
  · refine ⟨_, rfl, rfl, _, rfl, ite2 (fun e => ?_) (fun _ => ⟨rfl, sp3⟩)⟩
    have e4 : way = 4 := V.int.inj (of_decide_eq_true e)
    have df3 := df3 (by omega)
    have ho3 := sp3.k3 o _ od oc po.symm ho
    obtain ⟨x, mx, ex⟩ := getN 9 (by omega)
    have dfd := df3.drop (.inr y)
    refine ⟨_, rfl, p, rfl, .inl ⟨kvs, .inl df3.at_⟩, _, rfl, kvs, .inr y, vy, df3.at_, rfl, evy, ?_⟩
    obtain ⟨t3, sk3, r3⟩ := df3.vs _ (valV_mem evy)
    have r4 := r3.tk (tkPutD (ks := dropK kvs (.inr y)) df3.at_)
    exact ⟨_, rfl, _, rfl, o, _, _, _, rfl, rfl, SqL.of (by rw [upd_ne po.symm]; exact ho3), atI_nat (j := 9) ex, p, _, rfl, .inl ⟨_, .inr x, dfd.at_, rfl, lenD dfd, rfl⟩, rfl, st sp3.k3.put (sp3.dk.putO pd pc) dfd mx sk3 r4⟩
  rintro σ G4 ⟨rfl, sp4⟩
  refine ⟨fun σ G => (∃ y5, σ = [some (.ref d), some (.int way), some (.ref p), some (.ref o), some (.ref oh), y5, some (.str y)]) ∧ Spo d c p H G ns hs, ?_, ?_⟩
  rotate_left
  · rintro σ G ⟨⟨y5, rfl⟩, sp⟩
    exact ⟨_, rfl, q G sp⟩
  obtain ⟨k4, dk4, kvs4, df4⟩ := sp4
  refine ⟨_, rfl, _, _, rfl, rfl, _, rfl, ite2 (fun _ => ?_) (fun _ => ⟨⟨_, rfl⟩, k4, dk4, kvs4, df4⟩)⟩
  obtain ⟨x0, m0, e0⟩ := getH 0 (by omega)
  obtain ⟨x1, m1, e1⟩ := getH 1 (by omega)
  obtain ⟨x2, m2, e2⟩ := getH 2 (by omega)
  have hh4 := k4 oh _ hd hc ph.symm hh
  refine ⟨(by show 1 ≤ sizeLine; decide), fun t1 n1 => objG n1 fun A1 a1 b1 => ?_⟩
  refine ⟨_, rfl, oh, _, _, _, rfl, rfl, SqL.of (a1 _ _ hh4), atI_nat (j := 0) e0, (by show 2 ≤ sizeLine; decide), fun t2 n2 => objG n2 fun A2 a2 b2 => ?_⟩
  have s2 := a1.trans a2
  refine ⟨_, rfl, oh, _, _, _, rfl, rfl, SqL.of (s2 _ _ hh4), atI_nat (j := 1) e1, (by show 2 ≤ sizeLine; decide), fun t3 n3 => objG n3 fun A3 a3 b3 => ?_⟩
  have s3 := s2.trans a3
  refine ⟨_, rfl, oh, _, _, _, rfl, rfl, SqL.of (s3 _ _ hh4), atI_nat (j := 2) e2, (by show 2 ≤ sizeLine; decide), fun t4 n4 => objG n4 fun A4 a4 b4 => ?_⟩
  refine ⟨(by show 2 ≤ sizeLine; decide), fun t5 n5 => objG n5 fun A5 a5 b5 => ?_⟩
  refine ⟨(by show 1 ≤ sizeLine; decide), fun t6 n6 => objG n6 fun A6 a6 b6 => ?_⟩
  refine ⟨(by show 5 ≤ sizeLine; decide), fun L nL => objG nL fun A7 a7 b7 => ?_⟩
  have s7 : Same G4 A7 := s3.trans (a4.trans (a5.trans (a6.trans a7)))
  have offL := (dk4.same (s3.trans (a4.trans (a5.trans a6)))).off nL
  have all : ∀ v ∈ [V.ref t1, .ref t2, .ref t3, .ref t5, .ref t6], ∃ t, Sk hs t ∧ Rp0 A7 t v := by
    intro v hv
    simp only [List.mem_cons, List.not_mem_nil, or_false] at hv
    rcases hv with rfl | rfl | rfl | rfl | rfl
    · exact ⟨.num, ⟨rfl, Nat.zero_le _, (show 1 ≤ 3 by decide), fun y hy => by cases hy⟩, t1, rfl, a7 _ _ (a6 _ _ (a5 _ _ (a4 _ _ (a3 _ _ (a2 _ _ b1)))))⟩
    · exact ⟨.opn x0, Sk.opn m0, t2, rfl, a7 _ _ (a6 _ _ (a5 _ _ (a4 _ _ (a3 _ _ b2))))⟩
    · exact ⟨.opn x1, Sk.opn m1, t3, rfl, a7 _ _ (a6 _ _ (a5 _ _ (a4 _ _ b3)))⟩
    · exact ⟨.lst (.opn x2), ⟨rfl, Nat.le_refl _, (show 2 ≤ 3 by decide), fun y hy => by rw [List.mem_singleton.mp hy]; exact m2⟩, t5, _, rfl, a7 _ _ (a6 _ _ b5), t4, rfl, a7 _ _ (a6 _ _ (a5 _ _ b4))⟩
    · exact ⟨.tru, ⟨rfl, Nat.zero_le _, (show 1 ≤ 3 by decide), fun y hy => by cases hy⟩, t6, rfl, a7 _ _ b6⟩
  refine ⟨_, rfl, _, rfl, d, c, L, _, rfl, dk4.same s7, b7, offL.1, offL.2, (show 1 ≤ 5 by decide), (show 5 ≤ 100 by decide), fun v G8 kp8 dk8 mv8 => ?_⟩
  obtain ⟨tv, skv, rv⟩ := all v mv8
  have df8 : DF G8 p ns hs kvs4 := df4.tk (kp8 p _ pd pc (s7 _ _ df4.at_)) ((Tk.of s7).trans (Tk.kp kp8 (dk4.same s7)))
  exact ⟨_, rfl, _, rfl, p, _, rfl, .inl ⟨kvs4, .inr y, df8.at_, rfl, lenD df8, rfl⟩, ⟨_, rfl⟩, st ((k4.kp (Kp.of s7)).kp kp8) dk8 df8 yn skv (rv.tk (Tk.kp kp8 (dk4.same s7)))⟩
end
end Kq

/-! what is due -/
namespace Kq
open PySem PySem.Spec PyProof.Rows L2 Kf Kg Kv Kk Ku
theorem DF.fn {H : Hp} {p : Addr} {ns hs : List Str} {kvs : List (Key × V)} (h : DF H p ns hs kvs) : ∃ g : Str → Option Kd, (∀ x, RV H (g x) (valV kvs (.inr x))) ∧ ∀ x t, g x = some t → Sk hs t := by
  have z : ∀ x : Str, ∃ o : Option Kd, RV H o (valV kvs (.inr x)) ∧ ∀ t, o = some t → Sk hs t := fun x => by
    cases e : valV kvs (.inr x) with
    | none => exact ⟨none, trivial, fun t z => by cases z⟩
    | some v =>
      obtain ⟨t, sk, r⟩ := h.vs _ (valV_mem e)
      exact ⟨some t, r, fun u z => by cases z; exact sk⟩
  exact ⟨fun x => Classical.choose (z x), fun x => (Classical.choose_spec (z x)).1, fun x => (Classical.choose_spec (z x)).2⟩
theorem rv_some {H : Hp} {o : Option Kd} {v : V} (h : RV H o (some v)) : ∃ t, o = some t ∧ Rp0 H t v := by
  cases o with
  | none => exact h.elim
  | some t => exact ⟨t, rfl, h⟩
theorem rv_iff {H : Hp} {o : Option Kd} {kvs : List (Key × V)} {x : Str} (h : RV H o (valV kvs (.inr x))) : (∃ t, o = some t) ↔ (Sum.inr x : Key) ∈ kvs.map (·.1) := by
  constructor
  · rintro ⟨t, rfl⟩
    cases e : valV kvs (.inr x) with
    | none => rw [e] at h; exact h.elim
    | some v => exact List.mem_map.mpr ⟨_, valV_mem e, rfl⟩
  · intro hk
    obtain ⟨v, e⟩ := valV_in hk
    rw [e] at h
    obtain ⟨t, e2, _⟩ := rv_some h
    exact ⟨t, e2⟩
/-- the fills are right ones, by what they tell -/
structure Due (lo lk : List Str) (k : Kd) (g : Str → Option Kd) : Prop where
  eq : ∀ x, (∃ t, g x = some t) ↔ x ∈ k.opens
  lo : ∀ x ∈ lo, ∃ y ∈ lk, g x = some (.opn y)
section
variable {P : Program} {w : World} {K : PySem.W.Frag} {mg : Str → Option Value} {base : Heap}
abbrev tDue : Stmt := tp 95
abbrev nDue : List Str := ["_law_looks", "_law_kind", "_law_fills_here", "_law_looked", "_law_name"]
abbrev psDue : List Str := ["_law_looks", "_law_kind", "_law_fills_here", "_law_looked"]
theorem scDue : FnScope nDue psDue (defScope tDue) := ⟨rfl, rfl, rfl, by decide +kernel, rfl, by decide +kernel, by decide +kernel⟩
def spDue : Sp := fun vs H Q _ => ∃ (la p lka : Addr) (kv : V) (k : Kd) (lo lk ns hs : List Str) (kvs : List (Key × V)) (g : Str → Option Kd), vs = [.ref la, kv, .ref p, .ref lka] ∧ H la = some (.tup (lo.map V.str)) ∧ Rp0 H k kv ∧ k.dp ≤ 7 ∧ (∀ x ∈ k.opens, x ∈ ns) ∧ (∀ x ∈ ns, Nm x) ∧ ns.length ≤ 26 ∧ DF H p ns hs kvs ∧ (∀ x, RV H (g x) (valV kvs (.inr x))) ∧ H lka = some (.tup (lk.map V.str)) ∧ (∀ x ∈ lo, x ∈ k.opens) ∧
  (Due lo lk k g → ∀ (u : V) (G : Hp), Same H G → Rp0 G (k.fill g) u → Q u G) ∧ (¬ Due lo lk k g → ∀ G : Hp, Same H G → Q .non G)
theorem okDue {f : Addr} {fd : FuncData} {k : Nat} (F : Fun K "_law_due" "_law_due" tDue f fd)
    (DP : Okd P w K mg base CX0 (k) "_law_put_in" ["_law_kind", "_law_table"] (spPutIn 8))
    (DO : Okd P w K mg base CX0 (k) "_law_opens" ["_law_kind"] (spLOpens 8))
    (m_sorted : mg "sorted" = none) : FnOk P w K mg base CX0 (k + 1) f fd psDue spDue := by
  obtain ⟨fP, fdP, GP, bP, gP, kP⟩ := DP
  obtain ⟨fO, fdO, GO, bO, gO, kO⟩ := DO
  refine F.ok scDue (fun vs H Q E h => ?_) (fun cdv A outer s H vs Q E hr h => ?_)
  · obtain ⟨la, p, lka, kv, t, lo, lk, ns, hs, kvs, g, rfl, _⟩ := h
    rfl
  obtain ⟨la, p, lka, kv, t, lo, lk, ns, hs, kvs, g, rfl, hla, rt, tdp, top, nn, lns, df, rv, hlk, mlo, q1, q2⟩ := h
  refine ⟨_, pss_cons (ps_if (pt_cmpR (op_neD hr.units) (pe_callB (call_sortedD rfl) (by rfl) m_sorted (by decide +kernel) (pa_cons (pv 2) pa_nil)) (pe_call GO hr (by rfl) gO kO bO .nil pass0 (pa_cons (pv 1) pa_nil)) (nomark _)) (pss_one (ps_ret pe_non)) pss_nil)
    (pss_cons (ps_for PassesOwn.never rfl (pi_tup (pv 0)) (pg_name (i := 4) scDue.nd rfl (.inl rfl))
      (pss_one (ps_if (PW.pt (pw_or (pt_cmpR op_ne (pe_ix ix_tup (pe_dget (hu_of hr) (pv 2) (pv 4) (fun _ _ => rfl)) pe_int (fun _ _ => rfl)) pe_str (nomark _)) (pw_or1 (pt_cmpR op_notIn_seq (pe_ix ix_tup (pe_dget (hu_of hr) (pv 2) (pv 4) (fun _ _ => rfl)) pe_int (fun _ _ => rfl)) (pv 3) rfl)))) (pss_one (ps_ret pe_non)) pss_nil)))
    (pss_one (ps_ret (pe_call GP hr (by rfl) gP kP bP .nil pass0 (pa_cons (pv 1) (pa_cons (pv 2) pa_nil)))))), ?_⟩
  obtain ⟨ks, eks, mks⟩ := keys_s df.nm.ns
  have nks : ks.Nodup := inr_nodup (by rw [← eks]; exact df.nm.nd)
  have lks : ks.length ≤ 26 := Nat.le_trans (nodup_le nks mks) lns
  have inK : ∀ x, (∃ t, g x = some t) ↔ x ∈ ks := fun x => by
    rw [rv_iff (rv x), eks]
    constructor
    · intro h
      obtain ⟨y, hy, e⟩ := List.mem_map.mp h
      cases e
      exact hy
    · exact fun h => List.mem_map.mpr ⟨x, h, rfl⟩
  refine ⟨_, rfl, p, _, ks, rfl, .inl df.at_, eks, by omega, fun ys l pm sr nl => objG nl fun G0 s0 g0 => ?_⟩
  refine ⟨_, rfl, kv, t, ns, rfl, by omega, rt.tk (.of s0), lns, top, fun l2 os G1 s1 nl2 g2 sr2 nd2 m2 => ?_⟩
  have s01 := s0.trans s1
  have nys : ys.Nodup := pm.nodup_iff.mpr nks
  refine ⟨_, _, .lst (SqL.of (s1 _ _ g0)) (dpStrs K G1 ys), .lst (SqL.of g2) (dpStrs K G1 os), shL (fun y hy => nn y (mks y (pm.mem_iff.mp hy))), shL (fun y hy => nn y (top y ((m2 y).mp hy))), _, rfl, ?_⟩
  rw [eqvStrL]
  refine ite2 (fun c => q2 (fun z => ?_) G1 s01) (fun c => ?_)
  · have : ys = os := sortEq (rise' sr) (rise' sr2) nys nd2 fun x => (pm.mem_iff.trans (inK x).symm).trans ((z.eq x).trans (m2 x).symm)
    rw [this] at c
    simp at c
  have c : ys = os := by simpa using c
  have eqG : ∀ x, (∃ t, g x = some t) ↔ x ∈ t.opens := fun x => by rw [inK x, ← pm.mem_iff, c]; exact m2 x
  have hla1 := s01 _ _ hla
  refine ⟨_, rfl, la, rfl, ⟨_, SqT.of hla1⟩, for_tup (K := K) (a := la) (xs := lo.map V.str) (fun i σ G => G = G1 ∧ (∃ y4, σ = [some (.ref la), some kv, some (.ref p), some (.ref lka), y4]) ∧ ∀ x ∈ lo.take i, ∃ y ∈ lk, g x = some (.opn y)) ⟨rfl, ⟨_, rfl⟩, fun x hx => by cases hx⟩ (fun i σ G _ z => by rw [z.1]; exact SqT.of hla1) (fun i u σ G hu z => ?_) (fun σ G z => ?_)⟩
  rotate_left
  · obtain ⟨rfl, ⟨y4, rfl⟩, al⟩ := z
    rw [List.length_map, List.take_length] at al
    exact ⟨_, rfl, _, rfl, kv, p, t, g, rfl, by omega, rt.tk (.of s01), ⟨kvs, s01 _ _ df.at_, fun x => (rv x).tk (.of s01)⟩, fun u G s r => q1 ⟨eqG, al⟩ u G (s01.trans s) r⟩
  obtain ⟨rfl, ⟨y4, rfl⟩, al⟩ := z
  obtain ⟨x, hx, rfl⟩ : ∃ x, lo[i]? = some x ∧ u = .str x := by
    rw [List.getElem?_map] at hu
    obtain ⟨r, e1, e2⟩ := Option.map_eq_some_iff.mp hu
    exact ⟨r, e1, e2.symm⟩
  have hm := List.mem_of_getElem? hx
  obtain ⟨v, ev⟩ := valV_in ((rv_iff (rv x)).mp ((eqG x).mpr (mlo x hm)))
  have rvx := rv x
  rw [ev] at rvx
  obtain ⟨tx, egx, rx⟩ := rv_some rvx
  have rx := rx.tk (.of s01)
  obtain ⟨a, us, rfl, ha, hus⟩ := rx.see
  have gd := s01 _ _ df.at_
  have DG : DGet G p (.str x) (some (.ref a)) := ev ▸ DGet.k (k := Sum.inr x) gd
  refine ⟨_, rfl, _, rfl, p, _, rfl, DG, a, _, _, _, rfl, rfl, SqT.of ha, atI_nat (j := 0) rfl, rfl, _, rfl, ?_⟩
  have no : (¬ ∃ y ∈ lk, g x = some (.opn y)) → Q .non G := fun h => q2 (fun z => h (z.lo x hm)) G s01
  refine ite2 (fun c1 => ?_) (fun c1 => ?_)
  · refine no ?_
    rintro ⟨y, hy, e⟩
    rw [egx] at e
    cases e
    simp [Kd.word] at c1
  · rcases hus with hus | ⟨y, ex, rfl⟩
    · exfalso
      have c1 : tx.word = "open" := by simpa using c1
      have h1 := hus.1
      cases tx <;> first | (cases h1; done) | (simp only [Kd.word] at c1; exact absurd c1 (by decide +kernel))
    · refine ⟨_, rfl, _, rfl, p, _, rfl, DG, a, _, _, _, rfl, rfl, SqT.of ha, atI_nat (j := 1) rfl, _, rfl, lka, _, rfl, .inr (SqT.of (s01 _ _ hlk)), rfl, allFlat lk, _, rfl, ?_⟩
      rw [inV_strs]
      refine ite2 (fun c2 => ?_) (fun c2 => ?_)
      · refine no ?_
        rintro ⟨z, hz, e⟩
        rw [egx, ex] at e
        cases e
        simp [hz] at c2
      · refine ⟨rfl, ⟨_, rfl⟩, fun x2 h2 => ?_⟩
        rw [List.take_add_one, hx] at h2
        rcases List.mem_append.mp h2 with h2 | h2
        · exact al x2 h2
        · rw [List.mem_singleton.mp h2]
          exact ⟨y, by simpa using c2, by rw [egx, ex]⟩
end
end Kq

/-! terms are terms; kinds filled -/
namespace Kq
open PySem PySem.Spec PyProof.Rows L2 Kf Kg Kv Kk Ku
theorem nmS_of {x : Str} (h : Nm x) : nmS x = true := by
  have hl : x.cps.toList.length = x.length := Array.length_toList
  have h1 := h.one
  have h2 := h.few
  unfold nmS
  rw [decide_eq_true (by omega), decide_eq_true (by omega), Bool.true_and, Bool.true_and, List.all_eq_true]
  intro c hc
  obtain ⟨c0, c1⟩ := h.low c hc
  unfold isLo
  refine decide_eq_true ?_
  have e : c = 97 + (c - 97) := by omega
  rw [e]
  exact List.mem_of_getElem? (lets_at ⟨c - 97, by omega⟩)
theorem nmS_len {x : Str} (h : nmS x = true) : x.length ≤ 8 := by
  unfold nmS at h
  exact of_decide_eq_true (Bool.and_eq_true_iff.mp (Bool.and_eq_true_iff.mp h).1).2
theorem frm_ok {wd : Str} {xs : List Dt} (h1 : decide (wd = "fun") = false) (h2 : ar wd = some xs.length) (h3 : (!decide (wd = "open") || nm1 xs) = true) : frm (.tup (.str wd :: xs)) = true := by
  rw [frm_eq, h1, h2, h3]
  simp
theorem dat_two {wd : Str} {a b : Dt} (h : wd = "pair" ∨ wd = "either") (ha : dat a = true) (hb : dat b = true) : dat (.tup [.str wd, a, b]) = true := by
  rw [dat_eq]
  rcases h with rfl | rfl
  · have e : prt (.tup [.str "pair", a, b]) = [a, b] := rfl
    have e2 : frm (.tup [.str "pair", a, b]) = true := frm_ok (by decide +kernel) (show ar "pair" = some 2 by decide +kernel) (by rw [show decide (("pair" : Str) = "open") = false by decide +kernel]; rfl)
    rw [e, e2]
    simp [ha, hb]
  · have e : prt (.tup [.str "either", a, b]) = [a, b] := rfl
    have e2 : frm (.tup [.str "either", a, b]) = true := frm_ok (by decide +kernel) (show ar "either" = some 2 by decide +kernel) (by rw [show decide (("either" : Str) = "open") = false by decide +kernel]; rfl)
    rw [e, e2]
    simp [ha, hb]
theorem dat_lst {a : Dt} (ha : dat a = true) : dat (.tup [.str "list", a]) = true := by
  rw [dat_eq]
  have e : prt (.tup [.str "list", a]) = [a] := rfl
  have e2 : frm (.tup [.str "list", a]) = true := frm_ok (by decide +kernel) (show ar "list" = some 1 by decide +kernel) (by rw [show decide (("list" : Str) = "open") = false by decide +kernel]; rfl)
  rw [e, e2]
  simp [ha]
theorem dat_opn {n : Str} (h : nmS n = true) : dat (.tup [.str "open", .str n]) = true := by
  rw [dat_eq]
  have e : prt (.tup [.str "open", .str n]) = [] := rfl
  have e2 : frm (.tup [.str "open", .str n]) = true := by
    exact frm_ok (by decide +kernel) (show ar "open" = some 1 by decide +kernel) (by show (_ || nmS n) = true; rw [h, Bool.or_true])
  rw [e, e2]
  rfl
theorem dat_num : dat (.tup [.str "num"]) = true := by
  rw [dat_eq]
  have e : prt (.tup [.str "num"]) = [] := rfl
  have e2 : frm (.tup [.str "num"]) = true := by rw [frm_eq]; decide +kernel
  rw [e, e2]
  rfl
theorem dat_tru : dat (.tup [.str "truth"]) = true := by
  rw [dat_eq]
  have e : prt (.tup [.str "truth"]) = [] := rfl
  have e2 : frm (.tup [.str "truth"]) = true := by rw [frm_eq]; decide +kernel
  rw [e, e2]
  rfl
theorem chD_dat {x : Dt} (h : dat x = true) : chD dat x = true := by
  cases c : tagD x "fun" 2 with
  | false => rw [chD_no dat c]; exact h
  | true =>
    obtain ⟨a, b, rfl⟩ := tag_fn c
    rw [dat_fn] at h
    cases h
theorem arg_ch {x : Dt} (h : chD dat x = true) : argD x = true := by
  unfold argD fstD
  cases c : tagD x "fun" 2 with
  | false => rw [chD_no dat c] at h; rw [h]; rfl
  | true => rw [h]; simp
theorem fit_dat (x : Dt) : fitD "data" x = dat x := by
  unfold fitD
  rw [if_neg (by decide +kernel), if_neg (by decide +kernel), if_neg (by decide +kernel), if_neg (by decide +kernel), if_pos rfl]
theorem fit_arg (x : Dt) : fitD "argument" x = argD x := by
  unfold fitD
  rw [if_neg (by decide +kernel), if_neg (by decide +kernel), if_neg (by decide +kernel), if_neg (by decide +kernel), if_neg (by decide +kernel), if_pos rfl]
theorem fit_fil (x : Dt) : fitD "fills" x = filD x := by
  unfold fitD
  rw [if_neg (by decide +kernel), if_neg (by decide +kernel), if_neg (by decide +kernel), if_neg (by decide +kernel), if_neg (by decide +kernel), if_neg (by decide +kernel), show decide (("fills" : Str) = "term") = false by decide +kernel, Bool.false_or]
theorem fit_trm (x : Dt) : fitD "term" x = true := by
  unfold fitD
  rw [if_neg (by decide +kernel), if_neg (by decide +kernel), if_neg (by decide +kernel), if_neg (by decide +kernel), if_neg (by decide +kernel), if_neg (by decide +kernel), show decide (("term" : Str) = "term") = true by decide +kernel, Bool.true_or]
theorem fit_num (x : Dt) : fitD "number" x = numD x := by
  unfold fitD
  rw [if_neg (by decide +kernel), if_pos rfl]
theorem fit_trn (x : Dt) : fitD "turns" x = trnD x := by
  unfold fitD
  rw [if_neg (by decide +kernel), if_neg (by decide +kernel), if_neg (by decide +kernel), if_pos rfl]
theorem trm_mk {w : Str} {rs : List Str} {xs : List Dt} (h : rls w = some rs) (hl : xs.length = rs.length) (hf : ∀ p ∈ rs.zip xs, fitD p.1 p.2 = true) (ht : ∀ p ∈ rs.zip xs, p.1 = "term" → trm p.2 = true) (h34 : two w = true → same34 xs = false) : trm (.tup (.str w :: xs)) = true := by
  rw [trm_eq]
  have e1 : tfrm (.tup (.str w :: xs)) = true := by
    show tfm w xs = true
    unfold tfm
    rw [h]
    show (decide (xs.length = rs.length) && ((rs.zip xs).all fun p => fitD p.1 p.2) && (!two w || !same34 xs)) = true
    rw [decide_eq_true hl, List.all_eq_true.mpr hf]
    cases c : two w with
    | false => rfl
    | true => rw [h34 c]; rfl
  have e2 : (tprt (.tup (.str w :: xs))).all trm = true := by
    show (tpt w xs).all trm = true
    unfold tpt
    rw [h]
    refine List.all_eq_true.mpr fun y hy => ?_
    obtain ⟨p, hp, rfl⟩ := List.mem_map.mp hy
    obtain ⟨h1, h2⟩ := List.mem_filter.mp hp
    exact ht p h1 (of_decide_eq_true h2)
  rw [e1, e2]
  rfl
theorem dat_dt : ∀ {k : Kd}, k.isDat = true → (∀ x ∈ k.opens, Nm x) → dat k.dt = true := by
  intro k
  induction k with
  | opn x => exact fun _ h => dat_opn (nmS_of (h x List.mem_cons_self))
  | num => exact fun _ _ => dat_num
  | tru => exact fun _ _ => dat_tru
  | pair a b i j =>
    intro h n
    obtain ⟨h1, h2⟩ := Bool.and_eq_true_iff.mp h
    exact dat_two (.inl rfl) (i h1 fun x hx => n x (List.mem_append_left _ hx)) (j h2 fun x hx => n x (List.mem_append_right _ hx))
  | eith a b i j =>
    intro h n
    obtain ⟨h1, h2⟩ := Bool.and_eq_true_iff.mp h
    exact dat_two (.inr rfl) (i h1 fun x hx => n x (List.mem_append_left _ hx)) (j h2 fun x hx => n x (List.mem_append_right _ hx))
  | lst a i => exact fun h n => dat_lst (i h n)
  | fn a b => intro h; cases h
theorem ch_dt : ∀ {k : Kd}, k.isFst = true → (∀ x ∈ k.opens, Nm x) → chD dat k.dt = true := by
  intro k
  induction k with
  | fn a b i j =>
    intro h n
    obtain ⟨h1, h2⟩ := Bool.and_eq_true_iff.mp h
    show chD dat (.tup [.str "fun", a.dt, b.dt]) = true
    rw [chD_fn, dat_dt h1 fun x hx => n x (List.mem_append_left _ hx), j h2 fun x hx => n x (List.mem_append_right _ hx)]
    rfl
  | _ => exact fun h n => chD_dat (dat_dt h n)
theorem arg_dt {k : Kd} (h : k.isFst = true) (n : ∀ x ∈ k.opens, Nm x) : argD k.dt = true := arg_ch (ch_dt h n)
/-- a data kind of names -/
def Dk1 (k : Kd) : Prop := k.isDat = true ∧ ∀ x ∈ k.opens, Nm x
def Ak1 (k : Kd) : Prop := k.isFst = true ∧ ∀ x ∈ k.opens, Nm x
/-- terms by their form -/
def Tm.wf : Tm → Prop
  | .name x => Nm x
  | .fn x k b => Nm x ∧ Ak1 k ∧ b.wf
  | .call a b => a.wf ∧ b.wf
  | .told x fs => Nm x ∧ filD (.tup (fsd fs)) = true
theorem fit_nm1 {x : Str} (h : Nm x) : fitD "name" (.str x) = true := by
  unfold fitD
  rw [if_pos rfl]
  exact nmS_of h
theorem zip_all {Q : Str × Dt → Prop} : ∀ (rs : List Str) (xs : List Dt), (∀ i : Nat, ∀ r x, rs[i]? = some r → xs[i]? = some x → Q (r, x)) → ∀ p ∈ rs.zip xs, Q p
  | [], _, _, p, h => by simp at h
  | _ :: _, [], _, p, h => by simp at h
  | r :: rs, x :: xs, h, p, hp => by
    rw [List.zip_cons_cons] at hp
    rcases List.mem_cons.mp hp with rfl | hp
    · exact h 0 r x rfl rfl
    · exact zip_all rs xs (fun i r x h1 h2 => h (i + 1) r x h1 h2) p hp
theorem trm_of : ∀ {t : Tm}, t.wf → trm t.dt = true := by
  intro t
  induction t with
  | name x =>
    intro h
    have hx := h
    refine trm_mk (rs := ["name"]) (by decide +kernel) rfl (fun p hp => ?_) (fun p hp e => ?_) (fun e => absurd e (by decide +kernel))
    · simp only [List.zip_cons_cons, List.zip_nil_right, List.mem_cons, List.not_mem_nil, or_false] at hp
      subst hp
      exact fit_nm1 hx
    · simp only [List.zip_cons_cons, List.zip_nil_right, List.mem_cons, List.not_mem_nil, or_false] at hp
      subst hp
      exact absurd (show ("name" : Str) = "term" from e) (by decide +kernel)
  | fn x k b ihb =>
    intro h
    obtain ⟨hx, hk, hb⟩ := h
    refine trm_mk (rs := ["name", "argument", "term"]) (by decide +kernel) rfl (fun p hp => ?_) (fun p hp e => ?_) (fun e => absurd e (by decide +kernel))
    · simp only [List.zip_cons_cons, List.zip_nil_right, List.mem_cons, List.not_mem_nil, or_false] at hp
      rcases hp with rfl | rfl | rfl
      · exact fit_nm1 hx
      · exact (fit_arg _).trans (arg_dt hk.1 hk.2)
      · exact fit_trm _
    · simp only [List.zip_cons_cons, List.zip_nil_right, List.mem_cons, List.not_mem_nil, or_false] at hp
      rcases hp with rfl | rfl | rfl
      · exact absurd (show ("name" : Str) = "term" from e) (by decide +kernel)
      · exact absurd (show ("argument" : Str) = "term" from e) (by decide +kernel)
      · exact ihb hb
  | call a b iha ihb =>
    intro h
    obtain ⟨ha, hb⟩ := h
    refine trm_mk (rs := ["term", "term"]) (by decide +kernel) rfl (fun p hp => ?_) (fun p hp e => ?_) (fun e => absurd e (by decide +kernel))
    · simp only [List.zip_cons_cons, List.zip_nil_right, List.mem_cons, List.not_mem_nil, or_false] at hp
      rcases hp with rfl | rfl
      · exact fit_trm _
      · exact fit_trm _
    · simp only [List.zip_cons_cons, List.zip_nil_right, List.mem_cons, List.not_mem_nil, or_false] at hp
      rcases hp with rfl | rfl
      · exact iha ha
      · exact ihb hb
  | told x fs =>
    intro h
    obtain ⟨hx, hfs⟩ := h
    refine trm_mk (rs := ["name", "fills"]) (by decide +kernel) rfl (fun p hp => ?_) (fun p hp e => ?_) (fun e => absurd e (by decide +kernel))
    · simp only [List.zip_cons_cons, List.zip_nil_right, List.mem_cons, List.not_mem_nil, or_false] at hp
      rcases hp with rfl | rfl
      · exact fit_nm1 hx
      · exact (fit_fil _).trans hfs
    · simp only [List.zip_cons_cons, List.zip_nil_right, List.mem_cons, List.not_mem_nil, or_false] at hp
      rcases hp with rfl | rfl
      · exact absurd (show ("name" : Str) = "term" from e) (by decide +kernel)
      · exact absurd (show ("fills" : Str) = "term" from e) (by decide +kernel)
theorem nm8 {x : Str} (h : Nm x) : x.length ≤ 8 := by
  have := h.few
  show x.cps.size ≤ 8
  rw [← Array.length_toList]
  exact this
theorem wlen1 : ("open" : Str).length = 4 ∧ ("num" : Str).length = 3 ∧ ("truth" : Str).length = 5 ∧ ("pair" : Str).length = 4 ∧ ("either" : Str).length = 6 ∧ ("list" : Str).length = 4 ∧ ("fun" : Str).length = 3 ∧ ("name" : Str).length = 4 ∧ ("call" : Str).length = 4 ∧ ("plus" : Str).length = 4 ∧ ("less" : Str).length = 4 ∧ ("if" : Str).length = 2 ∧ ("first" : Str).length = 5 ∧ ("second" : Str).length = 6 ∧ ("left" : Str).length = 4 ∧ ("right" : Str).length = 5 ∧ ("case" : Str).length = 4 ∧ ("none" : Str).length = 4 ∧ ("more" : Str).length = 4 ∧ ("fold" : Str).length = 4 ∧ ("built" : Str).length = 5 ∧ ("alike" : Str).length = 5 ∧ ("fault" : Str).length = 5 ∧ ("rounds" : Str).length = 6 := by decide +kernel
theorem wtK : ∀ {k : Kd}, (∀ x ∈ k.opens, Nm x) → k.dt.wt ≤ 200 * k.size := by
  obtain ⟨w1, w2, w3, w4, w5, w6, w7, _⟩ := wlen1
  intro k
  induction k with
  | opn x =>
    intro h
    have := nm8 (h x List.mem_cons_self)
    show (Dt.tup [.str "open", .str x]).wt ≤ 200 * 1
    simp only [Dt.wt, Dt.wts, w1]
    omega
  | num => intro h; show (Dt.tup [.str "num"]).wt ≤ 200 * 1; simp only [Dt.wt, Dt.wts, w2]; omega
  | tru => intro h; show (Dt.tup [.str "truth"]).wt ≤ 200 * 1; simp only [Dt.wt, Dt.wts, w3]; omega
  | pair a b i j =>
    intro h
    have h1 := i fun x hx => h x (List.mem_append_left _ hx)
    have h2 := j fun x hx => h x (List.mem_append_right _ hx)
    rw [Kd.size_pr]
    show (Dt.tup [.str "pair", a.dt, b.dt]).wt ≤ _
    simp only [Dt.wt, Dt.wts, w4]
    omega
  | eith a b i j =>
    intro h
    have h1 := i fun x hx => h x (List.mem_append_left _ hx)
    have h2 := j fun x hx => h x (List.mem_append_right _ hx)
    rw [Kd.size_ei]
    show (Dt.tup [.str "either", a.dt, b.dt]).wt ≤ _
    simp only [Dt.wt, Dt.wts, w5]
    omega
  | lst a i =>
    intro h
    have h1 := i h
    rw [Kd.size_ls]
    show (Dt.tup [.str "list", a.dt]).wt ≤ _
    simp only [Dt.wt, Dt.wts, w6]
    omega
  | fn a b i j =>
    intro h
    have h1 := i fun x hx => h x (List.mem_append_left _ hx)
    have h2 := j fun x hx => h x (List.mem_append_right _ hx)
    rw [Kd.size_fn]
    show (Dt.tup [.str "fun", a.dt, b.dt]).wt ≤ _
    simp only [Dt.wt, Dt.wts, w7]
    omega
theorem shRef : SeqAt.shaped (.tuple [.str "refused"]) = true ∧ PyData.eqv (.tuple [.str "refused"]) (.tuple [.str "refused"]) = true := by
  have e1 : (PyData.tuple [.str "refused"]).canLay0 = true := by
    have w1 : PyData.strOk "refused" = true := by decide +kernel
    simp [PyData.canLay0, PyData.canLayAll0, w1]
  refine ⟨?_, SeqAt.eqv_refl _ e1⟩
  unfold SeqAt.shaped
  rw [e1, Bool.true_and]
  refine decide_eq_true ?_
  simp only [PyData.depth, PyData.depthAll]
  decide
theorem rise2 : ∀ {ys : List Str}, sortedS ys = true → ys.Nodup → rising ys = true
  | [], _, _ => rfl
  | [_], _, _ => rfl
  | p :: x :: r, h, nd => by
    have h' : (!ltCps x.cps.toList p.cps.toList) = true ∧ risingS x r = true := by
      simpa [sortedS, risingS] using h
    have px : p.cps.toList ≤ x.cps.toList := by
      have z := h'.1
      rw [ltCps_eq] at z
      exact List.not_lt.mp (by simpa using z)
    refine Bool.and_eq_true_iff.mpr ⟨decide_eq_true ?_, rise2 (ys := x :: r) h'.2 (List.nodup_cons.mp nd).2⟩
    refine Decidable.byContradiction fun hn => ?_
    have le := List.le_antisymm px (List.not_lt.mp hn)
    obtain ⟨pc⟩ := p
    obtain ⟨xc⟩ := x
    have e : pc = xc := Array.toList_inj.mp le
    exact (List.nodup_cons.mp nd).1 (by rw [e]; exact List.mem_cons_self)
theorem shTold {k : Kd} (h : ∀ x ∈ k.opens, Nm x) (hd : k.dp ≤ 50) : SeqAt.shaped (.tuple [.str "told", toD k]) = true ∧ PyData.eqv (.tuple [.str "told", toD k]) (.tuple [.str "told", toD k]) = true := by
  obtain ⟨a, b⟩ := layT k h
  have e1 : (PyData.tuple [.str "told", toD k]).canLay0 = true := by
    have w1 : PyData.strOk "told" = true := by decide +kernel
    simp [PyData.canLay0, PyData.canLayAll0, w1, a]
  refine ⟨?_, SeqAt.eqv_refl _ e1⟩
  unfold SeqAt.shaped
  rw [e1, Bool.true_and]
  refine decide_eq_true ?_
  simp only [PyData.depth, PyData.depthAll]
  omega
/-! kinds filled -/
section
variable {hs : List Str} {g : Str → Option Kd} (hg : ∀ x t, g x = some t → Sk hs t)
include hg
theorem fill_dat : ∀ {k : Kd}, k.isDat = true → (k.fill g).isDat = true := by
  intro k
  induction k with
  | opn x =>
    intro _
    show ((g x).getD (.opn x)).isDat = true
    cases e : g x with
    | none => rfl
    | some t => exact (hg x t e).fn
  | num => exact fun _ => rfl
  | tru => exact fun _ => rfl
  | pair a b i j =>
    intro h
    obtain ⟨h1, h2⟩ := Bool.and_eq_true_iff.mp h
    exact Bool.and_eq_true_iff.mpr ⟨i h1, j h2⟩
  | eith a b i j =>
    intro h
    obtain ⟨h1, h2⟩ := Bool.and_eq_true_iff.mp h
    exact Bool.and_eq_true_iff.mpr ⟨i h1, j h2⟩
  | lst a i => exact fun h => i h
  | fn a b => intro h; cases h
theorem fill_fst : ∀ {k : Kd}, k.isFst = true → (k.fill g).isFst = true := by
  intro k
  induction k with
  | fn a b i j =>
    intro h
    obtain ⟨h1, h2⟩ := Bool.and_eq_true_iff.mp h
    exact Bool.and_eq_true_iff.mpr ⟨fill_dat hg h1, j h2⟩
  | _ => exact fun h => Kd.fst_of (fill_dat hg h)
theorem fill_wk : ∀ {k : Kd}, k.wk = true → (k.fill g).wk = true := by
  intro k
  induction k with
  | fn a b i j =>
    intro h
    obtain ⟨h1, h2⟩ := Bool.and_eq_true_iff.mp h
    exact Bool.and_eq_true_iff.mpr ⟨fill_fst hg h1, j h2⟩
  | _ => exact fun h => Kd.wk_of (fill_dat hg h)
theorem fill_args : ∀ {k : Kd}, k.wk = true → (k.fill g).args.length = k.args.length := by
  intro k
  induction k with
  | fn a b i j =>
    intro h
    obtain ⟨h1, h2⟩ := Bool.and_eq_true_iff.mp h
    show ((a.fill g) :: (b.fill g).args).length = (a :: b.args).length
    rw [List.length_cons, List.length_cons, j h2]
  | _ => exact fun h => by rw [Kd.args_dat (fill_dat hg h), Kd.args_dat h]
theorem fill_bd : ∀ (k : Kd), (k.fill g).dp ≤ k.dp + 1 ∧ (k.fill g).size ≤ 3 * k.size ∧ ∀ x ∈ (k.fill g).opens, x ∈ k.opens ∨ x ∈ hs := by
  intro k
  induction k with
  | opn x =>
    show ((g x).getD (.opn x)).dp ≤ _ ∧ ((g x).getD (.opn x)).size ≤ 3 * 1 ∧ ∀ y ∈ ((g x).getD (.opn x)).opens, _
    cases e : g x with
    | none => exact ⟨Nat.zero_le _, (show 1 ≤ 3 by decide), fun y hy => .inl hy⟩
    | some t => exact ⟨Nat.le_trans (hg x t e).dp (Nat.le_add_left _ _), (hg x t e).sz, fun y hy => .inr ((hg x t e).op y hy)⟩
  | num => exact ⟨Nat.zero_le _, (show 1 ≤ 3 by decide), fun y hy => by cases hy⟩
  | tru => exact ⟨Nat.zero_le _, (show 1 ≤ 3 by decide), fun y hy => by cases hy⟩
  | pair a b i j =>
    refine ⟨?_, ?_, fun y hy => ?_⟩
    · have := i.1
      have := j.1
      show max (a.fill g).dp (b.fill g).dp + 1 ≤ max a.dp b.dp + 1 + 1
      omega
    · have := i.2.1
      have := j.2.1
      show (Kd.pair (a.fill g) (b.fill g)).size ≤ _
      rw [Kd.size_pr, Kd.size_pr]
      omega
    · rcases List.mem_append.mp (show y ∈ (a.fill g).opens ++ (b.fill g).opens from hy) with hy | hy
      · exact (i.2.2 y hy).imp (List.mem_append_left _) id
      · exact (j.2.2 y hy).imp (List.mem_append_right _) id
  | eith a b i j =>
    refine ⟨?_, ?_, fun y hy => ?_⟩
    · have := i.1
      have := j.1
      show max (a.fill g).dp (b.fill g).dp + 1 ≤ max a.dp b.dp + 1 + 1
      omega
    · have := i.2.1
      have := j.2.1
      show (Kd.eith (a.fill g) (b.fill g)).size ≤ _
      rw [Kd.size_ei, Kd.size_ei]
      omega
    · rcases List.mem_append.mp (show y ∈ (a.fill g).opens ++ (b.fill g).opens from hy) with hy | hy
      · exact (i.2.2 y hy).imp (List.mem_append_left _) id
      · exact (j.2.2 y hy).imp (List.mem_append_right _) id
  | lst a i =>
    refine ⟨?_, ?_, fun y hy => i.2.2 y hy⟩
    · have := i.1
      show (a.fill g).dp + 1 ≤ a.dp + 1 + 1
      omega
    · have := i.2.1
      show (Kd.lst (a.fill g)).size ≤ _
      rw [Kd.size_ls, Kd.size_ls]
      omega
  | fn a b i j =>
    refine ⟨?_, ?_, fun y hy => ?_⟩
    · have := i.1
      have := j.1
      show max (a.fill g).dp (b.fill g).dp + 1 ≤ max a.dp b.dp + 1 + 1
      omega
    · have := i.2.1
      have := j.2.1
      show (Kd.fn (a.fill g) (b.fill g)).size ≤ _
      rw [Kd.size_fn, Kd.size_fn]
      omega
    · rcases List.mem_append.mp (show y ∈ (a.fill g).opens ++ (b.fill g).opens from hy) with hy | hy
      · exact (i.2.2 y hy).imp (List.mem_append_left _) id
      · exact (j.2.2 y hy).imp (List.mem_append_right _) id
end
end Kq

/-! the chain of calls -/
namespace Kq
open PySem PySem.Spec PyProof.Rows L2 Kf Kg Kv Kk Ku
def fsOf (ys : List Str) (g : Str → Option Kd) : List (Str × Kd) := ys.map fun y => (y, (g y).getD .num)
theorem fsOf_fst (ys : List Str) (g : Str → Option Kd) : (fsOf ys g).map (·.1) = ys := by
  unfold fsOf
  rw [List.map_map]
  exact List.map_id _
theorem told_of (g : Str → Option Kd) : ∀ {ys : List Str}, (∀ y ∈ ys, ∃ t, g y = some t) → ∀ x, told (fsOf ys g) x = if x ∈ ys then g x else none
  | [], _, x => rfl
  | y :: ys, h, x => by
    show (told (fsOf ys g) x).or (if y = x then some ((g y).getD .num) else none) = _
    rw [told_of g (ys := ys) (fun z hz => h z (List.mem_cons_of_mem _ hz)) x]
    obtain ⟨t, e⟩ := h y List.mem_cons_self
    by_cases c : y = x
    · subst c
      rw [if_pos rfl, if_pos List.mem_cons_self, e]
      by_cases m : y ∈ ys
      · rw [if_pos m]
        rfl
      · rw [if_neg m]
        rfl
    · rw [if_neg c]
      by_cases m : x ∈ ys
      · rw [if_pos m, if_pos (List.mem_cons_of_mem _ m), Option.or_none]
      · rw [if_neg m, if_neg (fun z => (List.mem_cons.mp z).elim (fun e => c e.symm) m)]
        rfl
theorem told_g {g : Str → Option Kd} {ys : List Str} (h : ∀ x, x ∈ ys ↔ ∃ t, g x = some t) : told (fsOf ys g) = g := by
  funext x
  rw [told_of g (fun y hy => (h y).mp hy)]
  by_cases m : x ∈ ys
  · rw [if_pos m]
  · rw [if_neg m]
    cases e : g x with
    | none => rfl
    | some t => exact absurd ((h x).mpr ⟨t, e⟩) m
theorem fok_due {g : Str → Option Kd} {ys lk : List Str} {w : Kw} (h : ∀ x, x ∈ ys ↔ ∃ t, g x = some t) (hl : ∀ x ∈ w.lo, x ∈ w.k.opens) : FOk lk w (fsOf ys g) ↔ Due w.lo lk w.k g := by
  constructor
  · rintro ⟨a, b⟩
    have eq : ∀ x, (∃ t, g x = some t) ↔ x ∈ w.k.opens := fun x => by
      rw [← h x]
      have := a x
      rw [fsOf_fst] at this
      exact this
    refine ⟨eq, fun x hx => ?_⟩
    have m := (h x).mpr ((eq x).mpr (hl x hx))
    obtain ⟨t, e⟩ := (h x).mp m
    obtain ⟨y, hy, e2⟩ := b (x, (g x).getD .num) (List.mem_map.mpr ⟨x, m, rfl⟩) hx
    rw [e] at e2
    exact ⟨y, hy, by rw [e]; exact congrArg some e2⟩
  · rintro ⟨a, b⟩
    refine ⟨fun x => by rw [fsOf_fst, h x]; exact a x, fun p hp hx => ?_⟩
    obtain ⟨x, m, rfl⟩ := List.mem_map.mp hp
    obtain ⟨y, hy, e⟩ := b x hx
    exact ⟨y, hy, by show (g x).getD .num = _; rw [e]; rfl⟩
theorem fs_ok {NO ys hs : List Str} {g : Str → Option Kd} (st : sortedS ys = true) (nd : ys.Nodup) (ln : ys.length ≤ 40) (nm : ∀ y ∈ ys, Nm y) (h : ∀ x, x ∈ ys ↔ ∃ t, g x = some t) (hg : ∀ x t, g x = some t → Sk hs t) : FsOk NO (fsOf ys g) := by
  refine ⟨by rw [fsOf_fst]; exact st, by rw [fsOf_fst]; exact nd, by unfold fsOf; rw [List.length_map]; exact ln, fun p hp => ?_, fun p hp => ?_⟩
  · obtain ⟨x, m, rfl⟩ := List.mem_map.mp hp
    exact nm x m
  · obtain ⟨x, m, rfl⟩ := List.mem_map.mp hp
    obtain ⟨t, e⟩ := (h x).mp m
    show ((g x).getD .num).isDat = true
    rw [e]
    exact (hg x t e).fn
theorem fil_ok {ys hs : List Str} {g : Str → Option Kd} (st : sortedS ys = true) (nd : ys.Nodup) (nm : ∀ y ∈ ys, Nm y) (h : ∀ x, x ∈ ys ↔ ∃ t, g x = some t) (hg : ∀ x t, g x = some t → Sk hs t) (nh : ∀ x ∈ hs, Nm x) : filD (.tup (fsd (fsOf ys g))) = true := by
  have e : (fsd (fsOf ys g)).map nmOf = ys := by
    unfold fsd fsOf
    rw [List.map_map, List.map_map]
    exact List.map_id _
  show ((fsd (fsOf ys g)).all filD1 && rising ((fsd (fsOf ys g)).map nmOf)) = true
  rw [e, rise2 st nd, Bool.and_true, List.all_eq_true]
  intro d hd
  unfold fsd at hd
  obtain ⟨p, hp, rfl⟩ := List.mem_map.mp hd
  obtain ⟨x, m, rfl⟩ := List.mem_map.mp hp
  obtain ⟨t, et⟩ := (h x).mp m
  show (nmS x && dat ((g x).getD .num).dt) = true
  rw [nmS_of (nm x m), et]
  exact dat_dt (hg x t et).fn fun y hy => nh y ((hg x t et).op y hy)
theorem wts_fs {B : Nat} : ∀ {fs : List (Str × Kd)}, (∀ p ∈ fs, Nm p.1 ∧ p.2.dt.wt ≤ B) → Dt.wts (fsd fs) ≤ fs.length * (B + 200)
  | [], _ => Nat.zero_le _
  | p :: fs, h => by
    have ih := wts_fs (B := B) (fs := fs) fun q hq => h q (List.mem_cons_of_mem _ hq)
    obtain ⟨n, b⟩ := h p List.mem_cons_self
    have := nm8 n
    show (Dt.tup [.str p.1, p.2.dt]).wt + 2 + Dt.wts (fsd fs) ≤ _
    rw [List.length_cons, Nat.add_mul]
    simp only [Dt.wt, Dt.wts]
    omega
/-! calls, funs -/
def lead (as : List Kd) (r : Kd) : Kd := as.foldr Kd.fn r
theorem lead_args : ∀ (k : Kd), lead k.args k.res = k
  | .fn a b => congrArg (Kd.fn a) (lead_args b)
  | .opn _ => rfl
  | .num => rfl
  | .tru => rfl
  | .pair _ _ => rfl
  | .eith _ _ => rfl
  | .lst _ => rfl
def cl (t : Tm) (zs : List Str) : Tm := zs.foldl (fun t z => .call t (.name z)) t
theorem cl_snoc (t : Tm) (zs : List Str) (z : Str) : cl t (zs ++ [z]) = .call (cl t zs) (.name z) := by
  unfold cl
  rw [List.foldl_append]
  rfl
def fl (zs : List (Str × Kd)) (t : Tm) : Tm := zs.foldr (fun z t => .fn z.1 z.2 t) t
def putl (e : Ek) (zs : List (Str × Kd)) : Ek := zs.foldl (fun e z => e.put z.1 z.2) e
section
variable {sl : Sl} {NS NO : List Str}
theorem cl_chk {r : Kd} {e : Ek} : ∀ {zs : List (Str × Kd)} {t : Tm}, (∀ z ∈ zs, e z.1 = some z.2) → chk sl t e = some (lead (zs.map (·.2)) r) → chk sl (cl t (zs.map (·.1))) e = some r
  | [], t, _, h => h
  | z :: zs, t, he, h => by
    refine cl_chk (zs := zs) (t := .call t (.name z.1)) (fun y hy => he y (List.mem_cons_of_mem _ hy)) ?_
    have h : chk sl t e = some (.fn z.2 (lead (zs.map (·.2)) r)) := h
    rw [chk, h, chk, he z List.mem_cons_self]
    exact if_pos rfl
theorem cl_sml {e : Ek} : ∀ {zs : List Str} {t : Tm}, (∀ z ∈ zs, z.length ≤ 100) → Sml sl NS NO t e → Sml sl NS NO (cl t zs) e
  | [], t, _, h => h
  | z :: zs, t, hz, h => cl_sml (zs := zs) (t := .call t (.name z)) (fun y hy => hz y (List.mem_cons_of_mem _ hy)) ⟨h, fun _ => hz z List.mem_cons_self⟩
theorem cl_dp : ∀ {zs : List Str} {t : Tm}, (cl t zs).dp = t.dp + zs.length
  | [], t => rfl
  | z :: zs, t => by
    show (cl (.call t (.name z)) zs).dp = _
    rw [cl_dp (zs := zs)]
    show max t.dp 0 + 1 + zs.length = t.dp + (z :: zs).length
    rw [List.length_cons]
    omega
theorem cl_wf : ∀ {zs : List Str} {t : Tm}, (∀ z ∈ zs, Nm z) → t.wf → (cl t zs).wf
  | [], t, _, h => h
  | z :: zs, t, hz, h => cl_wf (zs := zs) (fun y hy => hz y (List.mem_cons_of_mem _ hy)) ⟨h, hz z List.mem_cons_self⟩
theorem cl_wt : ∀ {zs : List Str} {t : Tm}, (∀ z ∈ zs, Nm z) → (cl t zs).dt.wt ≤ t.dt.wt + 400 * zs.length
  | [], t, _ => Nat.le_refl _
  | z :: zs, t, hz => by
    have ih := cl_wt (zs := zs) (t := .call t (.name z)) fun y hy => hz y (List.mem_cons_of_mem _ hy)
    have := nm8 (hz z List.mem_cons_self)
    have e : (Tm.call t (.name z)).dt.wt ≤ t.dt.wt + 400 := by
      show (Dt.tup [.str "call", t.dt, .tup [.str "name", .str z]]).wt ≤ _
      have w1 : ("call" : Str).length = 4 := by decide +kernel
      have w2 : ("name" : Str).length = 4 := by decide +kernel
      simp only [Dt.wt, Dt.wts, w1, w2]
      omega
    show (cl (.call t (.name z)) zs).dt.wt ≤ _
    rw [List.length_cons]
    omega
theorem fl_chk {t : Tm} : ∀ {zs : List (Str × Kd)} {e : Ek} {r : Kd}, chk sl t (putl e zs) = some r → chk sl (fl zs t) e = some (lead (zs.map (·.2)) r)
  | [], e, r, h => h
  | z :: zs, e, r, h => by
    have ih := fl_chk (zs := zs) (e := e.put z.1 z.2) (r := r) h
    show chk sl (.fn z.1 z.2 (fl zs t)) e = _
    rw [chk, ih]
    rfl
theorem fl_sml {t : Tm} : ∀ {zs : List (Str × Kd)} {e : Ek} {r : Kd}, (∀ z ∈ zs, z.1 ∈ NS) → Gk NO (lead (zs.map (·.2)) r) → chk sl t (putl e zs) = some r → Sml sl NS NO t (putl e zs) → Sml sl NS NO (fl zs t) e
  | [], e, r, _, _, _, h => h
  | z :: zs, e, r, hz, gk, hc, h => by
    have gk : Gk NO (.fn z.2 (lead (zs.map (·.2)) r)) := gk
    refine ⟨hz z List.mem_cons_self, gk.fn1, fl_sml (zs := zs) (e := e.put z.1 z.2) (r := r) (fun y hy => hz y (List.mem_cons_of_mem _ hy)) gk.fn2 hc h, fun r2 e2 => ?_⟩
    have ih := fl_chk (zs := zs) (e := e.put z.1 z.2) (r := r) hc
    rw [show (List.foldr (fun z t => Tm.fn z.1 z.2 t) t zs) = fl zs t from rfl, ih] at e2
    cases e2
    exact gk
theorem fl_dp {t : Tm} : ∀ {zs : List (Str × Kd)}, (fl zs t).dp = t.dp + zs.length
  | [] => rfl
  | z :: zs => by
    show (fl zs t).dp + 1 = _
    rw [fl_dp (zs := zs), List.length_cons]
    omega
theorem fl_wf {t : Tm} : ∀ {zs : List (Str × Kd)}, (∀ z ∈ zs, Nm z.1 ∧ Ak1 z.2) → t.wf → (fl zs t).wf
  | [], _, h => h
  | z :: zs, hz, h => ⟨(hz z List.mem_cons_self).1, (hz z List.mem_cons_self).2, fl_wf (zs := zs) (fun y hy => hz y (List.mem_cons_of_mem _ hy)) h⟩
theorem fl_wt {t : Tm} {B : Nat} : ∀ {zs : List (Str × Kd)}, (∀ z ∈ zs, Nm z.1 ∧ z.2.dt.wt ≤ B) → (fl zs t).dt.wt ≤ t.dt.wt + (B + 400) * zs.length
  | [], _ => Nat.le_refl _
  | z :: zs, hz => by
    have ih := fl_wt (t := t) (zs := zs) fun y hy => hz y (List.mem_cons_of_mem _ hy)
    obtain ⟨n, b⟩ := hz z List.mem_cons_self
    have := nm8 n
    show (Dt.tup [.str "fun", .str z.1, z.2.dt, (fl zs t).dt]).wt ≤ _
    have w1 : ("fun" : Str).length = 3 := by decide +kernel
    simp only [Dt.wt, Dt.wts, w1]
    rw [List.length_cons, Nat.mul_add]
    omega
theorem putl_keep : ∀ {zs : List (Str × Kd)} {e : Ek} {y : Str}, (∀ z ∈ zs, z.1 ≠ y) → putl e zs y = e y
  | [], e, y, _ => rfl
  | z :: zs, e, y, h => by
    show putl (e.put z.1 z.2) zs y = _
    rw [putl_keep (zs := zs) fun q hq => h q (List.mem_cons_of_mem _ hq)]
    exact if_neg (fun c => h z List.mem_cons_self c.symm)
theorem putl_at : ∀ {zs : List (Str × Kd)} {e : Ek}, (zs.map (·.1)).Nodup → ∀ z ∈ zs, putl e zs z.1 = some z.2
  | [], e, _, z, h => by cases h
  | q :: zs, e, nd, z, h => by
    rw [List.map_cons, List.nodup_cons] at nd
    rcases List.mem_cons.mp h with rfl | h
    · show putl (e.put z.1 z.2) zs z.1 = _
      rw [putl_keep fun y hy c => nd.1 (List.mem_map.mpr ⟨y, hy, c⟩)]
      exact if_pos rfl
    · exact putl_at (zs := zs) nd.2 z h
end
end Kq

/-! list(zip(a, b)) -/
namespace Kz
open PySem PySem.Spec PyProof.Rows L2
section
variable {prog : Program} {w : World} {A : Around} {E : Value → Shared → Prop} {s : Shared} {z TI TO i1 i2 T : Addr} {fp1 fp2 : List Addr} {n1 n2 i : Nat} {P1 P2 : Nat → Value → Prop} {St1 St2 : Nat → Heap → Prop} {f : Bool} {oT : Obj}
/-- a turn of the zip while its tuple T is out -/
theorem outItem {Q : Value → Shared → Prop} (S : ZipSep2 z TI TO i1 i2 fp1 fp2) (D1 : Draws prog w A i1 fp1 n1 P1 St1) (D2 : Draws prog w A i2 fp2 n2 P2 St2)
    (hz : IsZipHeld s.heap z TI TO T f) (hT : s.heap.get? T = some oT) (hTI : IsTupOf2 s.heap TI (.ref i1) (.ref i2)) (st1 : St1 i s.heap) (st2 : St2 i s.heap) (l1 : i < n1) (l2 : i < n2)
    (q : ∀ x1 x2 h' tk, P1 i x1 → P2 i x2 → IsZipHeld h' z TI TO T true → St1 (i + 1) h' → St2 (i + 1) h' → IsTupOf2 h' s.heap.objs.size x1 x2 → h'.objs.size = s.heap.objs.size + 1 →
      (∀ c o, c ≠ z → c ≠ i1 → c ≠ i2 → s.heap.get? c = some o → h'.get? c = some o) → Q (.ref s.heap.objs.size) { s with heap := h', toks := tk }) :
    wpAny (model prog w) A (Builtin.«zip.__next__» ⟨[.ref z], []⟩) (fun fin s' => ∃ v, fin = .done (.ret v) ∧ Q v s') E s := by
  obtain ⟨hp, g, d, tk0, os⟩ := s
  show wpAny _ _ (field (.ref z) 2 >>= _) _ _ _
  refine wpAny_bind (wpAny_field hz rfl (x := .bool false) rfl ?_)
  show wpAny _ _ (field (.ref z) 3 >>= _) _ _ _
  refine wpAny_bind (wpAny_field hz rfl (x := .ref TI) rfl ?_)
  refine wpAny_bind (wpAny_seqItems hTI rfl ?_)
  show wpAny _ _ (Builtin.SmallTypes.ownedTupleIsFree (.ref z) >>= _) _ _ _
  refine wpAny_bind (wpAny_tupleHeld_zip hz hT fun ha za sa => ?_)
  replace sa : Heap.SameBut z hp ha := sa
  simp only [Bool.false_eq_true, if_false]
  refine wpAny_bind ?_
  rw [← Array.forIn_toList]
  simp only [List.forIn_cons, List.forIn_nil]
  refine wpAny_bind (wpAny_bind (wpAny_holding ?_))
  show wpAny _ _ (Builtin.SmallTypes.nextOf (.ref i1) >>= _) _ _ ⟨ha, g, d, tk0, os⟩
  refine wpAny_bind (D1.item i ⟨ha, g, d, tk0, os⟩ _ _ l1 (D1.over st1 sa S.zf1) fun x1 hb tkb px1 tb sb => wpAny_pure ?_)
  replace sb : Heap.SameBut i1 ha hb := sb
  refine wpAny_pure ?_
  refine wpAny_bind (wpAny_bind (wpAny_holding ?_))
  show wpAny _ _ (Builtin.SmallTypes.nextOf (.ref i2) >>= _) _ _ ⟨hb, g, d, tkb, os⟩
  refine wpAny_bind (D2.item i ⟨hb, g, d, tkb, os⟩ _ _ l2 (D2.over (D2.over st2 sa S.zf2) sb S.sep1_2) fun x2 hc tkc px2 tc sc => wpAny_pure ?_)
  replace sc : Heap.SameBut i2 hb hc := sc
  refine wpAny_pure (wpAny_pure ?_)
  show wpAny _ _ (newTuple [x1, x2] >>= _) _ _ ⟨hc, g, d, tkc, os⟩
  refine wpAny_bind (wpAny_newTuple ?_)
  have sz : hc.objs.size = hp.objs.size := by rw [sc.1, sb.1, sa.1]
  have zc : IsZipHeld hc z TI TO T true := sc.extBut _ _ S.zi2 (sb.extBut _ _ S.zi1 za)
  have kc : ∀ c o, c ≠ z → c ≠ i1 → c ≠ i2 → hp.get? c = some o → hc.get? c = some o := fun c o c1 c2 c3 e => sc.extBut _ _ c3 (sb.extBut _ _ c2 (sa.extBut _ _ c1 e))
  have ub : ∀ b o, hc.get? b = some o → (hc.push { cls := .type "tuple", data := .seq #[x1, x2] }).get? b = some o := fun b o e => Heap.get?_push_of_some _ e
  refine wpAny_pure ⟨_, rfl, ?_⟩
  show Q (.ref hc.objs.size) _
  have pp : IsTupOf2 (hc.push { cls := .type "tuple", data := .seq #[x1, x2] }) hc.objs.size x1 x2 := Heap.get?_push_size _ rfl
  have ps : (hc.push { cls := .type "tuple", data := .seq #[x1, x2] }).objs.size = hc.objs.size + 1 := Heap.size_push ..
  rw [sz] at pp ps ⊢
  exact q x1 x2 _ tkc px1 px2 (ub _ _ zc) (D1.frame _ _ _ (D1.over tb sc S.sep2_1) fun b _ o e => ub b o e) (D2.frame _ _ _ tc fun b _ o e => ub b o e) pp ps fun c o c1 c2 c3 e => ub _ _ (kc c o c1 c2 c3 e)
theorem outEnd {Q : Fin → Shared → Prop} (S : ZipSep2 z TI TO i1 i2 fp1 fp2) (D1 : Draws prog w A i1 fp1 n1 P1 St1) (D2 : Draws prog w A i2 fp2 n2 P2 St2)
    (hz : IsZipHeld s.heap z TI TO T f) (hT : s.heap.get? T = some oT) (hTI : IsTupOf2 s.heap TI (.ref i1) (.ref i2)) (st1 : St1 i s.heap) (st2 : St2 i s.heap) (l1 : i ≤ n1) (l2 : i ≤ n2) (last : i = n1 ∨ i = n2)
    (q : ∀ h' tk e, (∀ c o, c ≠ z → c ≠ i1 → c ≠ i2 → s.heap.get? c = some o → h'.get? c = some o) → (∃ o, h'.get? e = some o ∧ o.cls = .type "StopIteration") → E (.ref e) { s with heap := h', toks := tk }) :
    wpAny (model prog w) A (Builtin.«zip.__next__» ⟨[.ref z], []⟩) Q E s := by
  obtain ⟨hp, g, d, tk0, os⟩ := s
  show wpAny _ _ (field (.ref z) 2 >>= _) _ _ _
  refine wpAny_bind (wpAny_field hz rfl (x := .bool false) rfl ?_)
  show wpAny _ _ (field (.ref z) 3 >>= _) _ _ _
  refine wpAny_bind (wpAny_field hz rfl (x := .ref TI) rfl ?_)
  refine wpAny_bind (wpAny_seqItems hTI rfl ?_)
  show wpAny _ _ (Builtin.SmallTypes.ownedTupleIsFree (.ref z) >>= _) _ _ _
  refine wpAny_bind (wpAny_tupleHeld_zip hz hT fun ha za sa => ?_)
  replace sa : Heap.SameBut z hp ha := sa
  simp only [Bool.false_eq_true, if_false]
  refine wpAny_bind ?_
  rw [← Array.forIn_toList]
  simp only [List.forIn_cons, List.forIn_nil]
  refine wpAny_bind (wpAny_bind (wpAny_holding ?_))
  show wpAny _ _ (Builtin.SmallTypes.nextOf (.ref i1) >>= _) _ _ ⟨ha, g, d, tk0, os⟩
  by_cases lt : i < n1
  · refine wpAny_bind (D1.item i ⟨ha, g, d, tk0, os⟩ _ _ lt (D1.over st1 sa S.zf1) fun x1 hb tkb px1 tb sb => wpAny_pure ?_)
    replace sb : Heap.SameBut i1 ha hb := sb
    refine wpAny_pure ?_
    refine wpAny_bind (wpAny_bind (wpAny_holding ?_))
    show wpAny _ _ (Builtin.SmallTypes.nextOf (.ref i2) >>= _) _ _ ⟨hb, g, d, tkb, os⟩
    have e2 : i = n2 := by omega
    refine wpAny_bind (D2.done ⟨hb, g, d, tkb, os⟩ _ _ (by rw [← e2]; exact D2.over (D2.over st2 sa S.zf2) sb S.sep1_2) fun hc e sc he => ?_)
    replace sc : Heap.ExtBut i2 hb hc := sc
    exact q hc tkb e (fun c o c1 c2 c3 u => sc _ _ c3 (sb.extBut _ _ c2 (sa.extBut _ _ c1 u))) he
  · have e1 : i = n1 := by omega
    refine wpAny_bind (D1.done ⟨ha, g, d, tk0, os⟩ _ _ (by rw [← e1]; exact D1.over st1 sa S.zf1) fun hb e sb he => ?_)
    replace sb : Heap.ExtBut i1 ha hb := sb
    exact q hb tk0 e (fun c o c1 c2 c3 u => sb _ _ c2 (sa.extBut _ _ c1 u)) he
/-- the zip before its turn i: nothing is out yet, or a tuple is -/
def Zs (z TI TO : Addr) (h : Heap) : Prop := (∃ o, h.get? TO = some o) ∧ ((IsZip h z TI TO .none ∧ ∃ a b, IsTupOf2 h TO a b) ∨ ∃ T f oT, IsZipHeld h z TI TO T f ∧ h.get? T = some oT ∧ T ≠ z ∧ oT.cls = .type "tuple")
theorem zNext {Q : Option Value → Shared → Prop} (S : ZipSep2 z TI TO i1 i2 fp1 fp2) (D1 : Draws prog w A.in1 i1 fp1 n1 P1 St1) (D2 : Draws prog w A.in1 i2 fp2 n2 P2 St2)
    (hz : Zs z TI TO s.heap) (hTI : IsTupOf2 s.heap TI (.ref i1) (.ref i2)) (hi : ∀ T, s.heap.get? T = none → T ≠ i1 ∧ T ≠ i2) (ho : ∀ T f oT, IsZipHeld s.heap z TI TO T f → s.heap.get? T = some oT → T ≠ i1 ∧ T ≠ i2) (st1 : St1 i s.heap) (st2 : St2 i s.heap) (l1 : i < n1) (l2 : i < n2)
    (q : ∀ x1 x2 h' tk, P1 i x1 → P2 i x2 → Zs z TI TO h' → IsTupOf2 h' TI (.ref i1) (.ref i2) → (∀ T f oT, IsZipHeld h' z TI TO T f → h'.get? T = some oT → T ≠ i1 ∧ T ≠ i2) → St1 (i + 1) h' → St2 (i + 1) h' → IsTupOf2 h' s.heap.objs.size x1 x2 → h'.objs.size = s.heap.objs.size + 1 →
      (∀ c o, c ≠ z → c ≠ TO → c ≠ i1 → c ≠ i2 → s.heap.get? c = some o → h'.get? c = some o) → Q (some (.ref s.heap.objs.size)) { s with heap := h', toks := tk }) :
    wpAny (model prog w) A (pyNext (.ref z)) Q E s := by
  obtain ⟨⟨oO, eO⟩, hz⟩ := hz
  rcases hz with ⟨hz, a, b, hTO⟩ | ⟨T, f, oT, hz, hT, hne, hcl⟩
  · refine wpAny_pyNext_zipD2_item S D1 D2 hz hTI hTO st1 st2 l1 l2 fun x1 x2 h' tk p1 p2 z' TO' t1 t2 nw sz kp => ?_
    have lt : z < s.heap.objs.size := Heap.lt_size hz
    have nf : s.heap.get? s.heap.objs.size = none := by
      cases e : s.heap.get? s.heap.objs.size with
      | none => rfl
      | some o => exact absurd (Heap.lt_size e) (Nat.lt_irrefl _)
    refine q x1 x2 h' tk p1 p2 ⟨⟨_, TO'⟩, .inr ⟨s.heap.objs.size, false, _, z', nw, Nat.ne_of_gt lt, rfl⟩⟩ (kp _ _ S.TIz S.TITO S.TIi1 S.TIi2 hTI) (fun T f oT hz2 hT2 => ?_) t1 t2 nw sz kp
    have e := z'.symm.trans hz2
    have e2 : T = s.heap.objs.size := by
      injection e with e
      injection e with _ _ e _
      injection e with e
      have q0 := congrArg (fun (t : Array Value) => t[0]?) e
      have q1 : some (rawInt (s.heap.objs.size : Int)) = some (rawInt (T : Int)) := q0
      injection q1 with q1
      injection q1 with q1
      exact (Int.ofNat.inj q1).symm
    rw [e2]
    exact hi _ nf
  · have ty : s.TypeIs (.ref z) "zip" := ⟨_, hz, rfl⟩
    unfold pyNext
    refine wpAny_bind (wpAny_attempt (wpAny_callSpecial?_slot (name := Str.ofString "__next__") ty F.slot_zip_next (wpAny_call_entry F.slot_zip_next ty F.entry_zip_next
      (outItem S D1 D2 hz hT hTI st1 st2 l1 l2 fun x1 x2 h' tk p1 p2 z' t1 t2 nw sz kp => wpAny_pure ?_) (F.args_zip_next_1 _))))
    obtain ⟨n1, n2⟩ := ho T f oT hz hT
    have hT' := kp _ _ hne n1 n2 hT
    refine q x1 x2 h' tk p1 p2 ⟨⟨_, kp _ _ S.TOz S.Ti1 S.Ti2 eO⟩, .inr ⟨T, true, oT, z', hT', hne, hcl⟩⟩ (kp _ _ S.TIz S.TIi1 S.TIi2 hTI) (fun T2 f2 o2 hz2 hT2 => ?_) t1 t2 nw sz fun c o c1 _ c3 c4 e => kp c o c1 c3 c4 e
    have e := z'.symm.trans hz2
    have e2 : T2 = T := by
      injection e with e
      injection e with _ _ e _
      injection e with e
      have q0 := congrArg (fun (t : Array Value) => t[0]?) e
      have q1 : some (rawInt (T : Int)) = some (rawInt (T2 : Int)) := q0
      injection q1 with q1
      injection q1 with q1
      exact (Int.ofNat.inj q1).symm
    rw [e2]
    exact ⟨n1, n2⟩
theorem zDone {Q : Option Value → Shared → Prop} (S : ZipSep2 z TI TO i1 i2 fp1 fp2) (D1 : Draws prog w A.in1 i1 fp1 n1 P1 St1) (D2 : Draws prog w A.in1 i2 fp2 n2 P2 St2)
    (hz : Zs z TI TO s.heap) (hTI : IsTupOf2 s.heap TI (.ref i1) (.ref i2)) (st1 : St1 i s.heap) (st2 : St2 i s.heap) (l1 : i ≤ n1) (l2 : i ≤ n2) (last : i = n1 ∨ i = n2)
    (q : ∀ h' tk, (∀ c o, c ≠ z → c ≠ TO → c ≠ i1 → c ≠ i2 → s.heap.get? c = some o → h'.get? c = some o) → Q none { s with heap := h', toks := tk }) :
    wpAny (model prog w) A (pyNext (.ref z)) Q E s := by
  obtain ⟨⟨oO, eO⟩, hz⟩ := hz
  rcases hz with ⟨hz, a, b, hTO⟩ | ⟨T, f, oT, hz, hT, hne, hcl⟩
  · exact wpAny_pyNext_zipD2_end S D1 D2 hz hTI hTO st1 st2 l1 l2 last q
  · have ty : s.TypeIs (.ref z) "zip" := ⟨_, hz, rfl⟩
    unfold pyNext
    refine wpAny_bind (wpAny_attempt (wpAny_callSpecial?_slot (name := Str.ofString "__next__") ty F.slot_zip_next (wpAny_call_entry F.slot_zip_next ty F.entry_zip_next
      (outEnd S D1 D2 hz hT hTI st1 st2 l1 l2 last fun h' tk e kp he => ?_) (F.args_zip_next_1 _))))
    obtain ⟨o, ho, hc⟩ := he
    refine wpAny_bind (wpAny_isInstance (T := "StopIteration") (b := true) ⟨o, ho, hc⟩ isSubtype_stop ?_)
    exact wpAny_pure (q _ _ fun c o c1 _ c3 c4 e => kp c o c1 c3 c4 e)
end
theorem nolen_zip : typeLookup (.type "zip") "__len__" = pure none := by rw [typeLookup_type, builtinLookup_eq_fast]; kernel_rfl
theorem nohint_zip : typeLookup (.type "zip") "__length_hint__" = pure none := by rw [typeLookup_type, builtinLookup_eq_fast]; kernel_rfl
/-- the pairs stand -/
def Prs (G : Hp) (ts : List Addr) (xs ys : List V) : Prop := ∀ (j : Nat) (t : Addr) (x y : V), ts[j]? = some t → xs[j]? = some x → ys[j]? = some y → G t = some (.tup [x, y])
section
variable {A : Around} {X : Cx} {pins : List (Addr × Obj)} {σ : L2.St} {z TI TO i1 i2 D : Addr} {fp1 fp2 : List Addr} {n1 n2 n : Nat} {P1 P2 : Nat → Value → Prop} {St1 St2 : Nat → Heap → Prop} {R : Result → Shared → Prop} {res : Value} {xs ys : List V} {H : Hp}
theorem zLoop (S : ZipSep2 z TI TO i1 i2 fp1 fp2) (D1 : Draws X.prog X.w A.in1.in1 i1 fp1 n1 P1 St1) (D2 : Draws X.prog X.w A.in1.in1 i2 fp2 n2 P2 St2) (hn : n = min n1 n2) (hz : n ≤ sizeLine)
    (r1 : ∀ i v, P1 i v → ∃ x, xs[i]? = some x ∧ RelV x v) (r2 : ∀ i v, P2 i v → ∃ y, ys[i]? = some y ∧ RelV y v) (nD1 : D ∉ fp1) (nD2 : D ∉ fp2) (hD : H D = none)
    (q : ∀ (s' : Shared) (G' : Hp) (ts : List Addr), Inv X pins σ G' s' → Same H G' → G' D = some (.lst (ts.map V.ref)) → ts.length = n → Prs G' ts xs ys → (∀ t ∈ ts, H t = none) → R (.ok (.ret res)) s') :
    ∀ (k i : Nat) (s : Shared) (G : Hp) (ts : List Addr), n - i = k → i ≤ n → Inv X pins σ G s → (∀ b ∈ [z, TI, TO, i1, i2], FpOk X pins G b) → Zs z TI TO s.heap → IsTupOf2 s.heap TI (.ref i1) (.ref i2) →
      (∀ T f oT, IsZipHeld s.heap z TI TO T f → s.heap.get? T = some oT → T ≠ i1 ∧ T ≠ i2) → St1 i s.heap → St2 i s.heap → Same H G → G D = some (.lst (ts.map V.ref)) → ts.length = i → Prs G ts xs ys → (∀ t ∈ ts, H t = none) →
      codeAny (model X.prog X.w) A (.builtin "list.extend.loop" ⟨[.ref D, .ref z, res], []⟩) R s := by
  intro k
  induction k with
  | zero =>
    intro i s G ts hk hi I hf hzs hTI ho t1 t2 sm gD lt pr nw
    have ei : i = n := by omega
    refine codeAny_builtin F.entry_extend_loop ?_
    rw [Around.under_plainId F.plain_extend_loop _]
    show wpAny _ A.in1 (pyNext (.ref z) >>= _) _ _ s
    refine wpAny_bind (zDone S D1 D2 hzs hTI t1 t2 (by omega) (by omega) (by omega) fun h' tk kp => ?_)
    refine wpAny_pure (q _ G ts (I.turnedL (ch := [z, TI, TO, i1, i2]) (fun c o hb e => kp c o (fun u => hb (by simp [u])) (fun u => hb (by simp [u])) (fun u => hb (by simp [u])) (fun u => hb (by simp [u])) e) hf) sm gD (by omega) pr nw)
  | succ k ih =>
    intro i s G ts hk hi I hf hzs hTI ho t1 t2 sm gD lt pr nw
    have hlt : i < n := by omega
    have live : ∀ b ∈ [z, TI, TO, i1, i2], b < s.heap.objs.size := fun b hb => by
      have hzl : z < s.heap.objs.size := by
        rcases hzs.2 with ⟨e, _⟩ | ⟨_, _, _, e, _⟩
        · exact Heap.lt_size e
        · exact Heap.lt_size e
      have hb : b = z ∨ b = TI ∨ b = TO ∨ b = i1 ∨ b = i2 := by simpa using hb
      rcases hb with e | e | e | e | e
      · rw [e]; exact hzl
      · rw [e]; exact Heap.lt_size hTI
      · rw [e]; obtain ⟨_, e⟩ := hzs.1; exact Heap.lt_size e
      · rw [e]; obtain ⟨_, e⟩ := D1.live _ _ t1; exact Heap.lt_size e
      · rw [e]; obtain ⟨_, e⟩ := D2.live _ _ t2; exact Heap.lt_size e
    have nDc : ∀ b ∈ [z, TI, TO, i1, i2], D ≠ b := fun b hb e => by
      have h0 := (hf b hb).1
      rw [← e, gD] at h0
      cases h0
    refine codeAny_builtin F.entry_extend_loop ?_
    rw [Around.under_plainId F.plain_extend_loop _]
    show wpAny _ A.in1 (pyNext (.ref z) >>= _) _ _ s
    refine wpAny_bind (zNext S D1 D2 hzs hTI (fun T e => ?_) ho t1 t2 (by omega) (by omega) fun x1 x2 h' tk p1 p2 zs' ti' ho' u1 u2 nt sz kp => ?_)
    · obtain ⟨_, e1⟩ := D1.live _ _ t1
      obtain ⟨_, e2⟩ := D2.live _ _ t2
      exact ⟨fun w => (by rw [w, e1] at e; cases e), fun w => (by rw [w, e2] at e; cases e)⟩
    obtain ⟨x, hx, rx⟩ := r1 i x1 p1
    obtain ⟨y, hy, ry⟩ := r2 i x2 p2
    have gT : G s.heap.objs.size = none := I.hok.fresh (Nat.le_refl _)
    have new : ObjOk X.prog X.w (upd G s.heap.objs.size (.tup [x, y])) h' s.heap.objs.size (.tup [x, y]) := ⟨by show 2 ≤ sizeLine; decide, [x1, x2], .cons rx (.cons ry .nil), ⟨_, nt, rfl, _, rfl⟩⟩
    have I1 : Inv X pins σ (upd G s.heap.objs.size (.tup [x, y])) { s with heap := h', toks := tk } :=
      I.turnedNew (ch := [z, TI, TO, i1, i2]) (fun c o hb e => kp c o (fun u => hb (by simp [u])) (fun u => hb (by simp [u])) (fun u => hb (by simp [u])) (fun u => hb (by simp [u])) e) hf (Nat.le_refl _) new
    have DT : D ≠ s.heap.objs.size := ne_of_none gD gT
    have gD1 : upd G s.heap.objs.size (.tup [x, y]) D = some (.lst (ts.map V.ref)) := by rw [upd_ne DT]; exact gD
    obtain ⟨_, its, c0, rv, _, raw⟩ := I1.lstM gD1
    have ln := rv.length
    rw [List.length_map] at ln
    show wpAny _ A.in1 (updateSeq D (·.push (.ref s.heap.objs.size)) >>= _) _ _ _
    refine wpAny_bind ?_
    refine wpAny_updateSeq raw rfl ?_ (by rw [List.size_toArray]; omega) (by rw [Array.size_push, List.size_toArray]; omega)
    have I2 := I1.lset (ys := (ts ++ [s.heap.objs.size]).map V.ref) (its' := its ++ [Value.ref s.heap.objs.size]) (t' := tk) gD1 raw (f := (·.push (Value.ref s.heap.objs.size))) (by simp) (by rw [List.map_append]; exact rv.append (.cons rfl .nil)) (by rw [List.length_map, List.length_append]; simp only [List.length_cons, List.length_nil]; omega)
    have oth : ∀ b o, b ≠ D → h'.get? b = some o → (h'.update D (Obj.mapSeq (·.push (Value.ref s.heap.objs.size)))).get? b = some o := fun b o hb e => (Heap.get?_update_other _ _ (Ne.symm hb)).trans e
    have smT : ∀ t o, G t = some o → t ≠ D → upd (upd G s.heap.objs.size (.tup [x, y])) D (.lst ((ts ++ [s.heap.objs.size]).map V.ref)) t = some o := fun t o e hd => by
      rw [upd_ne hd, upd_ne (ne_of_none e gT)]
      exact e
    refine wpAny_pure ⟨plainId_quiet F.plain_extend_loop _, ih (i + 1) _ _ (ts ++ [s.heap.objs.size]) (by omega) hlt I2 (fun b hb => ?_) ?_ (oth _ _ (Ne.symm (nDc TI (by simp))) ti') (fun T f oT e1 e2 => ?_) (D1.frame _ _ _ u1 fun b hb o e => oth b o (fun w => nD1 (w ▸ hb)) e) (D2.frame _ _ _ u2 fun b hb o e => oth b o (fun w => nD2 (w ▸ hb)) e)
      ?sm upd_same (by rw [List.length_append]; simp only [List.length_cons, List.length_nil]; omega) ?pr (fun t ht => ?_)⟩
    · refine ⟨?_, (hf b hb).2⟩
      rw [upd_ne (Ne.symm (nDc b hb)), upd_ne (Nat.ne_of_lt (live b hb))]
      exact (hf b hb).1
    · obtain ⟨⟨oO, eO⟩, zz⟩ := zs'
      refine ⟨⟨oO, oth _ _ (Ne.symm (nDc TO (by simp))) eO⟩, ?_⟩
      rcases zz with ⟨hz, a, b, hTO⟩ | ⟨T, f, oT, hz, hT, hne, hcl⟩
      · exact .inl ⟨oth _ _ (Ne.symm (nDc z (by simp))) hz, a, b, oth _ _ (Ne.symm (nDc TO (by simp))) hTO⟩
      · refine .inr ⟨T, f, oT, oth _ _ (Ne.symm (nDc z (by simp))) hz, oth _ _ (fun w => ?_) hT, hne, hcl⟩
        rw [w] at hT
        have q0 := raw.symm.trans hT
        injection q0 with q0
        rw [← q0] at hcl
        injection hcl with hcl
        exact absurd hcl (by decide)
    · have e1 : IsZipHeld h' z TI TO T f := (Heap.get?_update_other _ _ (nDc z (by simp))).symm.trans e1
      by_cases w : D = T
      · exact ⟨fun u => nDc i1 (by simp) (w.trans u), fun u => nDc i2 (by simp) (w.trans u)⟩
      · exact ho' T f oT e1 ((Heap.get?_update_other _ _ w).symm.trans e2)
    case sm => exact fun t o e => smT t o (sm t o e) (fun w => by rw [w, hD] at e; cases e)
    case pr =>
      intro j t a b e1 e2 e3
      by_cases hj : j < ts.length
      · rw [List.getElem?_append_left hj] at e1
        have g := pr j t a b e1 e2 e3
        exact smT t _ g fun w => by rw [w, gD] at g; cases g
      · have hj2 : j < (ts ++ [s.heap.objs.size]).length := (List.getElem?_eq_some_iff.mp e1).1
        rw [List.length_append] at hj2
        simp only [List.length_cons, List.length_nil] at hj2
        have ej : j = i := by omega
        subst ej
        rw [List.getElem?_append_right (by omega), show j - ts.length = 0 by omega] at e1
        cases e1
        rw [hx] at e2
        rw [hy] at e3
        cases e2
        cases e3
        rw [upd_ne (Ne.symm DT)]
        exact upd_same
    · rcases List.mem_append.mp ht with h | h
      · exact nw t h
      · rw [List.mem_singleton.mp h]
        cases e : H s.heap.objs.size with
        | none => rfl
        | some o => rw [sm _ _ e] at gT; cases gT
/-- listExtendWith of a zip -/
theorem zGrow {s : Shared} (T : s.TypeIs (.ref z) "zip") (hz : IsZip s.heap z TI TO .none) (hne : D ≠ z) (eD : s.heap.get? D = some { cls := .type "list", data := .seq #[] })
    (k : ∀ h', (∀ b o, b ≠ D → s.heap.get? b = some o → h'.get? b = some o) → (∃ c0, h'.get? D = some { cls := .type "list", data := .seq #[] c0 }) → codeAny (model X.prog X.w) A (.builtin "list.extend.loop" ⟨[.ref D, .ref z, res], []⟩) R { s with heap := h' }) :
    wpAny (model X.prog X.w) A.in1 (Builtin.List.listExtendWith (.ref D) (.ref z) res)
      (fun fin s' => match fin with
        | .done f => R (.ok f) s'
        | .again c' => c'.quiet = true ∧ codeAny (model X.prog X.w) A c' R s') (fun e s' => R (.error e) s') s := by
  unfold Builtin.List.listExtendWith
  refine wpAny_bind (wpAny_typeOf T ?_)
  have no : Builtin.List.listSameRef (.ref D) (.ref z) = false := by simp [Builtin.List.listSameRef, hne]
  rw [if_neg (by rw [no]; decide)]
  refine wpAny_bind (wpAny_pyIter_zip hz ?_)
  refine wpAny_bind (wpAny_holding ?_)
  unfold Builtin.List.listLengthHint
  refine wpAny_bind (wpAny_specialOf T nolen_zip ?_)
  show wpAny _ A.in1 (specialOf (.ref z) (Str.ofString "__length_hint__") >>= _) _ _ _
  refine wpAny_bind (wpAny_specialOf T nohint_zip ?_)
  refine wpAny_pure ?_
  show wpAny _ A.in1 (rule "list.extend.makes-room" >>= fun _ => Builtin.List.listTouch (.ref D) >>= fun _ => again (.builtin "list.extend.loop" ⟨[.ref D, .ref z, res], []⟩)) _ _ _
  refine wpAny_bind (wpAny_rule (wpAny_bind ?_))
  show wpAny _ A.in1 (updateSeq D (·.push .none) >>= fun _ => updateSeq D (·.pop)) _ _ _
  refine wpAny_bind (wpAny_updateSeq eD rfl ?_)
  have e2 := Heap.get?_update_self (Obj.mapSeq (·.push Value.none)) eD rfl
  refine wpAny_updateSeq e2 rfl ?_
  have e3 := Heap.get?_update_self (Obj.mapSeq (·.pop)) e2 rfl
  exact wpAny_pure ⟨plainId_quiet F.plain_extend_loop _, k _ (fun b o hb e => (Heap.get?_update_other _ _ (Ne.symm hb)).trans ((Heap.get?_update_other _ _ (Ne.symm hb)).trans e)) ⟨_, e3⟩⟩
theorem neN (a b : Nat) (h : a < b ∨ b < a) : a ≠ b := by omega
theorem nin2 (D B l : Nat) (h1 : D < B ∨ B < D) (h2 : D < l ∨ l < D) : D ∉ [B, l] := by
  simp only [List.mem_cons, List.not_mem_nil, or_false]
  omega
theorem sepN (B l1 l2 : Nat) (h1 : l1 < B) (h2 : l2 < B) : ZipSep2 (B + 4) (B + 2) (B + 3) B (B + 1) [B, l1] [B + 1, l2] :=
  ⟨neN _ _ (by omega), neN _ _ (by omega), neN _ _ (by omega), neN _ _ (by omega), List.mem_cons_self, nin2 _ _ _ (by omega) (by omega), nin2 _ _ _ (by omega) (by omega), neN _ _ (by omega), List.mem_cons_self,
    nin2 _ _ _ (by omega) (by omega), nin2 _ _ _ (by omega) (by omega), nin2 _ _ _ (by omega) (by omega), nin2 _ _ _ (by omega) (by omega)⟩
theorem ninN (D B l : Nat) (h : B < D) (hl : l < D) : D ∉ [B, l] := by
  simp only [List.mem_cons, List.not_mem_nil, or_false]
  omega
theorem inN (B b : Nat) (h : b = B + 4 ∨ b = B + 2 ∨ b = B + 3 ∨ b = B ∨ b = B + 1) : B ≤ b ∧ b < B + 5 := by omega
theorem vback {xs : List V} {its : List Value} {i : Nat} {v : Value} (r : Vals xs its) (e : its[i]? = some v) : ∃ x, xs[i]? = some x ∧ RelV x v := by
  have h := (List.getElem?_eq_some_iff.mp e).1
  rw [← r.length] at h
  obtain ⟨u, hu, ru⟩ := r.get (List.getElem?_eq_getElem h)
  rw [e] at hu
  cases hu
  exact ⟨_, List.getElem?_eq_getElem h, ru⟩
/-- what list(zip(a, b)) asks -/
def tZipL (K : PySem.W.Frag) (ta : TA) : TE := fun σ H Q => ta σ H fun vs G => ∃ (a b : Addr) (xs ys : List V), vs = [.ref a, .ref b] ∧ ((SqL K G a xs ∧ SqL K G b ys) ∨ (SqT K G a xs ∧ SqT K G b ys)) ∧
  ∀ (q : Addr) (ts : List Addr) (F : Hp), Same G F → G q = none → F q = some (.lst (ts.map V.ref)) → ts.length = min xs.length ys.length → Prs F ts xs ys → (∀ t ∈ ts, G t = none) → Q (.ref q) F
theorem zList {Q0 Q : Value → Shared → Prop} {E : Value → Shared → Prop} {s1 : Shared} {o1 o2 : Obj} {v1 v2 : Value} {H1 H2 : Heap → Prop} {l1 l2 : Addr} (hh : A.handled = none) (I : Inv X pins σ H s1) (B1 : Begins v1 o1 H1) (B2 : Begins v2 o2 H2) (h1 : H1 s1.heap) (h2 : H2 s1.heap)
    (L1 : l1 < s1.heap.objs.size) (L2 : l2 < s1.heap.objs.size)
    (D1 : ∀ A' : Around, A'.handled = none → Draws X.prog X.w A' s1.heap.objs.size [s1.heap.objs.size, l1] n1 P1 St1) (D2 : ∀ A' : Around, A'.handled = none → Draws X.prog X.w A' (s1.heap.objs.size + 1) [s1.heap.objs.size + 1, l2] n2 P2 St2)
    (hn : n = min n1 n2) (hz : n ≤ sizeLine) (r1 : ∀ i v, P1 i v → ∃ x, xs[i]? = some x ∧ RelV x v) (r2 : ∀ i v, P2 i v → ∃ y, ys[i]? = some y ∧ RelV y v)
    (b1 : ∀ h', h'.get? s1.heap.objs.size = some o1 → (∀ c o, s1.heap.get? c = some o → h'.get? c = some o) → St1 0 h') (b2 : ∀ h', h'.get? (s1.heap.objs.size + 1) = some o2 → (∀ c o, s1.heap.get? c = some o → h'.get? c = some o) → St2 0 h')
    (q : ∀ (s' : Shared) (G' : Hp) (ts : List Addr) (D : Addr), Inv X pins σ G' s' → Same H G' → H D = none → G' D = some (.lst (ts.map V.ref)) → ts.length = n → Prs G' ts xs ys → (∀ t ∈ ts, H t = none) → Q (.ref D) s')
    (q0 : ∀ v s2, wpAny (model X.prog X.w) A (call (.type "list") [v]) Q E s2 → Q0 v s2) : wpAny (model X.prog X.w) A (call (.type "zip") [v1, v2]) Q0 E s1 := by
  refine zip_begins2 B1 B2 h1 h2 fun h' hz0 hTI hTO e1 e2 sz kp => q0 _ _ ?_
  generalize hB : s1.heap.objs.size = B at *
  have dz : h'.objs.size ≠ B + 4 := by omega
  refine callType_codes (Q₁ := fun obj s₁ => obj = .ref h'.objs.size ∧ s₁ = { s1 with heap := h'.push { cls := .type "list", data := .seq #[] } })
    F.called_list (F.typeCall_list_1 _) F.entry_list_init (code_list_new _ ⟨rfl, rfl⟩) (fun obj s₁ h₁ => ?_)
  obtain ⟨rfl, rfl⟩ := h₁
  have eD : (h'.push { cls := .type "list", data := .seq #[] }).get? h'.objs.size = some { cls := .type "list", data := .seq #[] } := Heap.get?_push_size _ rfl
  refine ⟨⟨_, eD, rfl⟩, F.args_list_init_2 _ _, ?_⟩
  show wpAny _ _ (do
    let old ← Builtin.List.listItems (.ref h'.objs.size)
    Builtin.List.listUpdate (.ref h'.objs.size) (fun _ => #[])
    letGo old.toList.reverse
    Builtin.List.listExtendWith (.ref h'.objs.size) (.ref (B + 4)) .none) _ _ _
  refine wpAny_bind ?_
  unfold Builtin.List.listItems
  refine wpAny_bind (wpAny_seqItems eD rfl (wpAny_pure ?_))
  show wpAny _ _ (do
    updateSeq h'.objs.size (fun _ => #[])
    letGo (#[] : Array Value).toList.reverse
    Builtin.List.listExtendWith (.ref h'.objs.size) (.ref (B + 4)) .none) _ _ _
  refine wpAny_bind (wpAny_updateSeq eD rfl ?_)
  have eD2 := Heap.get?_update_self (Obj.mapSeq fun _ => (#[] : Array Value)) eD rfl
  refine wpAny_bind (wpAny_letGo ?_)
  generalize hh2 : (h'.push { cls := .type "list", data := .seq #[] }).update h'.objs.size (Obj.mapSeq fun _ => (#[] : Array Value)) = g2 at eD2 ⊢
  have k2 : ∀ b o, h'.get? b = some o → g2.get? b = some o := fun b o e => by
    rw [← hh2, Heap.get?_update_other _ _ (Nat.ne_of_gt (Heap.lt_size e))]
    exact Heap.get?_push_of_some _ e
  refine zGrow (X := X) (s := { s1 with heap := g2 }) ⟨_, k2 _ _ hz0, rfl⟩ (k2 _ _ hz0) dz eD2 fun g3 k3 e3 => ?_
  obtain ⟨c0, e3⟩ := e3
  have k23 : ∀ b o, h'.get? b = some o → g3.get? b = some o := fun b o e => k3 b o (Nat.ne_of_lt (Heap.lt_size e)) (k2 b o e)
  have kall : ∀ b o, s1.heap.get? b = some o → g3.get? b = some o := fun b o e => k23 b o (kp b o e)
  have hle : s1.heap.objs.size ≤ h'.objs.size := by omega
  have hD : H h'.objs.size = none := I.hok.fresh hle
  have I3 : Inv X pins σ (upd H h'.objs.size (.lst [])) { s1 with heap := g3 } := I.laid (t' := s1.toks) kall hle (show ObjOk X.prog X.w _ _ _ (.lst []) from ⟨Nat.zero_le _, [], c0, .nil, e3⟩)
  have S := sepN B l1 l2 L1 L2
  refine zLoop (A := A.in1) S (D1 _ hh) (D2 _ hh) hn hz r1 r2 (D := h'.objs.size) (xs := xs) (ys := ys) ?_ ?_ hD (fun s' G' ts I' sm gD lt pr nw => ⟨rfl, q s' G' ts _ I' sm hD gD lt pr nw⟩) n 0 _ (upd H h'.objs.size (.lst [])) [] (by omega) (Nat.zero_le _) I3 (fun b hb => ?_) ⟨⟨_, k23 _ _ hTO⟩, .inl ⟨k23 _ _ hz0, _, _, k23 _ _ hTO⟩⟩ (k23 _ _ hTI) (fun T f oT e1 e2 => ?_) (b1 _ (k23 _ _ e1) kall) (b2 _ (k23 _ _ e2) kall)
    (fun t o e => by rw [upd_ne (ne_of_none e hD)]; exact e) upd_same rfl (fun j t x y e => by simp at e) (fun t h => absurd h List.not_mem_nil)
  · exact ninN _ _ _ (by omega) (Nat.lt_of_lt_of_le L1 (by omega))
  · exact ninN _ _ _ (by omega) (Nat.lt_of_lt_of_le L2 (by omega))
  · have hb : b = B + 4 ∨ b = B + 2 ∨ b = B + 3 ∨ b = B ∨ b = B + 1 := by simpa using hb
    have l0 := inN B b hb
    have lb : s1.heap.objs.size ≤ b ∧ b ≠ h'.objs.size := ⟨by rw [hB]; exact l0.1, Nat.ne_of_lt (by omega)⟩
    refine I.fpOk lb.1 ?_
    rw [upd_ne lb.2]
    exact I.hok.fresh lb.1
  · have e := (k23 _ _ hz0).symm.trans e1
    injection e with e
    injection e with _ _ e _
    injection e with e
    have q0 := congrArg (fun (t : Array Value) => t[0]?) e
    have q1 : some Value.none = some (rawInt (T : Int)) := q0
    injection q1 with q1
    cases q1
end
section
variable {X : Cx}
theorem pe_listZip {e e2 : Expr} {ta : TA} {p p2 pos pos2 : Pos} (hc : X.calm = true) (hg : Gl X "list") (hm : X.mg "list" = none) (hg2 : Gl X "zip") (hm2 : X.mg "zip" = none) (ha : PA X [e, e2] ta)
    (hs : starEach [e, e2] X.env = (false, eval e X.env) :: starEach [e2] X.env := by rfl) (hpl : (backTo pos2 (starEach [e2] X.env)).any (·.1) = false := by rfl)
    (hs2 : starEach [.Call (.Name "zip" p2) [e, e2] [] pos2] X.env = (false, eval (.Call (.Name "zip" p2) [e, e2] [] pos2) X.env) :: starEach [] X.env := by rfl) :
    PE X (.Call (.Name "list" p) [.Call (.Name "zip" p2) [e, e2] [] pos2] [] pos) (tZipL X.K ta) := by
  refine ⟨fun pins s σ H Q I h => ?_⟩
  refine Call_ (ld_blt I hg hm boot_list (PyProof.Rows.callWith_type1 (args_cons (Call_ (ld_blt I hg2 hm2 PyProof.Rows.boot_zip (PyProof.Rows.callWith_type1 (thn (ha.run pos2 pins s σ H _ I h) fun us s1 ⟨vs, G, I1, rr, a, b, xs, ys, ev, sq, q⟩ => ?_) hs hpl))) hs2) hs2 rfl))
  subst ev
  cases rr with
  | cons ra rr =>
    cases rr with
    | cons rb rr =>
      cases rr
      cases ra
      cases rb
      have hd : X.A.handled = none := I1.ok.hd hc
      have fin : ∀ (s' : Shared) (G' : Hp) (ts : List Addr) (D : Addr), Inv X pins σ G' s' → Same G G' → G D = none → G' D = some (.lst (ts.map V.ref)) → ts.length = min xs.length ys.length → Prs G' ts xs ys → (∀ t ∈ ts, G t = none) → EP X pins σ Q (.ref D) s' :=
        fun s' G' ts D I' sm hD gD lt pr nw => ⟨.ref D, G', I', rfl, q D ts G' sm hD gD lt pr nw⟩
      rcases sq with ⟨sx, sy⟩ | ⟨sx, sy⟩
      · obtain ⟨its, rv, p1, z1⟩ := I1.list sx
        obtain ⟨jts, rw, p2, z2⟩ := I1.list sy
        have n1 := rv.length
        have n2 := rw.length
        refine zList (n := min its.toArray.size jts.toArray.size) hd I1 (begins_list a its.toArray) (begins_list b jts.toArray) p1.isList p2.isList p1.lt p2.lt (fun A' h' => .list h' _ a (Nat.ne_of_lt p1.lt) its.toArray) (fun A' h' => .list h' _ b (Nat.ne_of_lt (Nat.lt_succ_of_lt p2.lt)) jts.toArray) rfl ?_
          (fun i v e => ?_) (fun i v e => ?_) (fun h' e k => ⟨⟨_, e, rfl, rfl⟩, ?_⟩) (fun h' e k => ⟨⟨_, e, rfl, rfl⟩, ?_⟩) (fun s' G' ts D I' sm hD gD lt pr nw => fin s' G' ts D I' sm hD gD (by rw [lt, List.size_toArray, List.size_toArray, n1, n2]) pr nw) (fun v s2 hv => args_nil hv)
        · rw [List.size_toArray]
          omega
        · exact vback rv (by simpa using e)
        · exact vback rw (by simpa using e)
        · exact p1.isList.at fun o u => k _ _ u
        · exact p2.isList.at fun o u => k _ _ u
      · obtain ⟨its, rv, p1, z1⟩ := I1.tuple sx
        obtain ⟨jts, rw, p2, z2⟩ := I1.tuple sy
        have l1 : a < s1.heap.objs.size := let ⟨_, e, _⟩ := p1; Heap.lt_size e
        have l2 : b < s1.heap.objs.size := let ⟨_, e, _⟩ := p2; Heap.lt_size e
        have p1 : s1.heap.IsTuple a its.toArray := p1
        have p2 : s1.heap.IsTuple b jts.toArray := p2
        have n1 := rv.length
        have n2 := rw.length
        refine zList (n := min its.toArray.size jts.toArray.size) hd I1 (begins_tuple a its.toArray) (begins_tuple b jts.toArray) p1 p2 l1 l2 (fun A' h' => .tuple h' _ a (Nat.ne_of_lt l1) its.toArray) (fun A' h' => .tuple h' _ b (Nat.ne_of_lt (Nat.lt_succ_of_lt l2)) jts.toArray) rfl ?_
          (fun i v e => ?_) (fun i v e => ?_) (fun h' e k => ⟨⟨_, e, rfl, rfl⟩, ?_⟩) (fun h' e k => ⟨⟨_, e, rfl, rfl⟩, ?_⟩) (fun s' G' ts D I' sm hD gD lt pr nw => fin s' G' ts D I' sm hD gD (by rw [lt, List.size_toArray, List.size_toArray, n1, n2]) pr nw) (fun v s2 hv => args_nil hv)
        · rw [List.size_toArray]
          omega
        · exact vback rv (by simpa using e)
        · exact vback rw (by simpa using e)
        · exact p1.at fun o u => k _ _ u
        · exact p2.at fun o u => k _ _ u
end
end Kz

/-! all right -/
namespace Kq
open PySem PySem.Spec PyProof.Rows L2 Kf Kg Kv Kk Ku
/-- what is due stands at v -/
def DueV (H : Hp) : Option Kd → V → Prop
  | none, v => v = .non
  | some k, v => Rp0 H k v
structure AH (T : List Addr) (H : Hp) (t0 : Tm) (sl : Sl) (ms : List Str) (v vd : V) (la lb o : Addr) : Prop where
  fz : Fz H t0 v
  lk : H la = some (.tup (sl.lk.map V.str))
  kn : Kns H lb sl.kn
  tb : TbS T H
  nm : H o = some (.lst (ms.map V.str))
  du : DueV H (chk sl t0 Ek.none) vd
theorem DueV.tk {H G : Hp} (s : Tk H G) : ∀ {od : Option Kd} {v : V}, DueV H od v → DueV G od v
  | none, _, h => h
  | some _, _, h => Rp0.tk s h
theorem AH.sm {T : List Addr} {H G : Hp} {t0 : Tm} {sl : Sl} {ms : List Str} {v vd : V} {la lb o : Addr} (h : AH T H t0 sl ms v vd la lb o) (m : Sm T H G) : AH T G t0 sl ms v vd la lb o := by
  have tk : Tk H G := fun b xs e => m.at h.tb e (fun ps z => by cases z)
  exact ⟨h.fz.sm1 tk (fun b o xs e => m.at h.tb e (fun ps z => by cases z)), tk _ _ h.lk, h.kn.tk tk, m.2, m.at h.tb h.nm (fun ps z => by cases z), h.du.tk tk⟩
theorem AH.same {T : List Addr} {H G : Hp} {t0 : Tm} {sl : Sl} {ms : List Str} {v vd : V} {la lb o : Addr} (h : AH T H t0 sl ms v vd la lb o) (s : Same H G) : AH T G t0 sl ms v vd la lb o := h.sm (Sm.of s h.tb)
/-- the pure side -/
structure ARp (xs : List Str) (t0 : Tm) (sl : Sl) (ms : List Str) : Prop where
  nk : NoK xs
  sub : ∀ y ∈ ms, y ∈ xs
  m5 : ms.length = 5
  mn : ms.Nodup
  sm : ∀ e, Sml sl xs xs t0 e
  ce : ∀ e, chk sl t0 e = chk sl t0 Ek.none
  wf : t0.wf
  d0 : t0.dp = 0
  wt : t0.dt.wt ≤ 40000
  kk : ∀ k, chk sl t0 Ek.none = some k → k.wk = true ∧ k.args.length ≤ 4 ∧ k.dp ≤ 8 ∧ k.size ≤ 165 ∧ ∀ x ∈ k.opens, x ∈ xs
def tdP : Option Kd → PyData
  | none => .tuple [.str "refused"]
  | some k => .tuple [.str "told", toD k]
theorem tdP_ok {o : Option Kd} (h : ∀ k, o = some k → (∀ x ∈ k.opens, Nm x) ∧ k.dp ≤ 50) : SeqAt.shaped (tdP o) = true ∧ PyData.eqv (tdP o) (tdP o) = true := by
  cases o with
  | none => exact shRef
  | some k => exact shTold (h k rfl).1 (h k rfl).2
/-- what is told stands at u -/
def TD (K : PySem.W.Frag) (G : Hp) : Option Kd → V → Prop
  | none, u => ∃ p, u = .ref p ∧ G p = some (.tup [.str "refused"])
  | some k, u => ∃ p w, u = .ref p ∧ G p = some (.tup [.str "told", w]) ∧ Rp K G k w
theorem TD.dp {K : PySem.W.Frag} {G : Hp} : ∀ {od : Option Kd} {u : V}, TD K G od u → Dp K G u (tdP od)
  | none, _, ⟨p, rfl, h⟩ => .tup (SqT.of h) (.cons (.str _) .nil)
  | some k, _, ⟨p, w, rfl, h, r⟩ => .tup (SqT.of h) (.cons (.str _) (.cons (dpT K r) .nil))
theorem TD.same {K : PySem.W.Frag} {G F : Hp} (s : Same G F) : ∀ {od : Option Kd} {u : V}, TD K G od u → TD K F od u
  | none, _, ⟨p, e, h⟩ => ⟨p, e, s _ _ h⟩
  | some k, _, ⟨p, w, e, h, r⟩ => ⟨p, w, e, s _ _ h, r.tk (.of s)⟩
theorem KoL.mk {K : PySem.W.Frag} {T : List Addr} {od : Option Kd} {H : Hp} {Q : VK} (h : ∀ (u : V) (G : Hp), Sm T H G → TD K G od u → Q u G) : KoL K T od H Q := by
  cases od with
  | none => exact fun p G m e => h _ G m ⟨p, rfl, e⟩
  | some k => exact fun p u G m e r => h _ G m ⟨p, u, rfl, e, r⟩
abbrev tIsN : TT := tTest (tOp (fun x y H Q => y = V.non ∧ Q (V.bl (decide (x = V.non))) H) (tVar 1) (tC V.non))
theorem if_due {K : PySem.W.Frag} {od : Option Kd} {vd : V} {σ : L2.St} {G : Hp} {R : VK} (si : σ[1]? = some (some vd)) (d : DueV G od vd) (h : ∀ y F, Same G F → TD K F od y → R y F) : tIf tIsN (tTup (tCons (tC (V.str "refused")) tNil)) (tTup (tCons (tC (V.str "told")) (tCons (tVar 1) tNil))) σ G R := by
  cases od with
  | none =>
    cases (show vd = .non from d)
    exact ⟨_, si, rfl, _, rfl, iteT ⟨(by show 1 ≤ sizeLine; decide), fun p np => h _ _ (newS np) ⟨p, rfl, upd_same⟩⟩⟩
  | some k =>
    obtain ⟨a, us, rfl, _, _⟩ := Rp0.see (show Rp0 G k vd from d)
    exact ⟨_, si, rfl, _, rfl, iteF ⟨_, si, (by show 2 ≤ sizeLine; decide), fun p np => h _ _ (newS np) ⟨p, _, rfl, upd_same, rp0_rp (Rp0.tk (.of (newS np)) d)⟩⟩⟩
theorem if_due2 {K : PySem.W.Frag} {od : Option Kd} {vd : V} {σ : L2.St} {G : Hp} {R : VK} (si : σ[1]? = some (some vd)) (d : DueV G od vd) (h : ∀ y F, Same G F → TD K F (od.map (Kd.fn .num)) y → R y F) : tIf tIsN (tTup (tCons (tC (V.str "refused")) tNil)) (tTup (tCons (tC (V.str "told")) (tCons (tTup (tCons (tC (V.str "fun")) (tCons (tTup (tCons (tC (V.str "num")) tNil)) (tCons (tVar 1) tNil)))) tNil))) σ G R := by
  cases od with
  | none =>
    cases (show vd = .non from d)
    exact ⟨_, si, rfl, _, rfl, iteT ⟨(by show 1 ≤ sizeLine; decide), fun p np => h _ _ (newS np) ⟨p, rfl, upd_same⟩⟩⟩
  | some k =>
    obtain ⟨a, us, rfl, _, _⟩ := Rp0.see (show Rp0 G k vd from d)
    refine ⟨_, si, rfl, _, rfl, iteF ⟨(by show 1 ≤ sizeLine; decide), fun p1 n1 => objG n1 fun G1 s1 g1 => ⟨_, si, (by show 3 ≤ sizeLine; decide), fun p2 n2 => objG n2 fun G2 s2 g2 => ⟨(by show 2 ≤ sizeLine; decide), fun p3 n3 => objG n3 fun G3 s3 g3 => ?_⟩⟩⟩⟩
    refine h _ _ ((s1.trans s2).trans s3) ⟨p3, .ref p2, rfl, g3, rp0_rp ⟨p2, .ref p1, _, rfl, s3 _ _ g2, ⟨p1, rfl, s3 _ _ (s2 _ _ g1)⟩, Rp0.tk (.of ((s1.trans s2).trans s3)) d⟩⟩
theorem map_fst_zip' {α β : Type} : ∀ {xs : List α} {ys : List β}, ys.length ≤ xs.length → (xs.zip ys).map (·.1) = xs.take ys.length
  | _, [], _ => by simp
  | [], _ :: _, h => by simp at h
  | x :: xs, y :: ys, h => by
    rw [List.zip_cons_cons, List.map_cons, map_fst_zip' (xs := xs) (ys := ys) (by simpa using h), List.length_cons, List.take_succ_cons]
theorem size_in {k : Kd} : ∀ {a : Kd}, a ∈ k.args → a.size ≤ k.size ∧ (∀ x ∈ a.opens, x ∈ k.opens) := by
  induction k with
  | fn b c i j =>
    intro a h
    rcases List.mem_cons.mp (show a ∈ b :: c.args from h) with rfl | h
    · exact ⟨by rw [Kd.size_fn]; omega, fun x hx => List.mem_append_left _ hx⟩
    · have := j h
      exact ⟨by rw [Kd.size_fn]; omega, fun x hx => List.mem_append_right _ (this.2 x hx)⟩
  | _ => intro a h; cases h
theorem args_fst {k : Kd} : k.wk = true → ∀ a ∈ k.args, a.isFst = true := by
  induction k with
  | fn b c i j =>
    intro h a ha
    obtain ⟨h1, h2⟩ := Bool.and_eq_true_iff.mp (show (b.isFst && c.wk) = true from h)
    rcases List.mem_cons.mp (show a ∈ b :: c.args from ha) with rfl | ha
    · exact h1
    · exact j h2 a ha
  | _ => intro h a ha; cases ha
section
variable {P : Program} {w : World} {K : PySem.W.Frag} {mg : Str → Option Value} {base : Heap} {T : List Addr}
abbrev tAllR : Stmt := tp 96
abbrev nAllR : List Str := ["_law_term", "_law_due_here", "_law_looked", "_law_known_here", "_law_names_here", "_law_within", "_law_arguments_here", "_law_result", "_law_call", "_law_kind", "_law_k", "_law_name", "_law_one"]
abbrev psAllR : List Str := ["_law_term", "_law_due_here", "_law_looked", "_law_known_here", "_law_names_here"]
theorem scAllR : FnScope nAllR psAllR (defScope tAllR) := ⟨rfl, rfl, rfl, by decide +kernel, rfl, by decide +kernel, by decide +kernel⟩
def spAllR (T : List Addr) : Sp := fun vs H Q _ => ∃ (v vd : V) (la lb o : Addr) (xs ms : List Str) (t0 : Tm) (sl : Sl), vs = [v, vd, .ref la, .ref lb, .ref o] ∧ AH T H t0 sl ms v vd la lb o ∧ ARp xs t0 sl ms ∧ ∀ G, Sm T H G → Q (.bl true) G
theorem okAllR {f : Addr} {fd : FuncData} {k : Nat} (F : Fun K "_law_all_right" "_law_all_right" tAllR f fd)
    (DL : Okd P w K mg base CX0 (k) "_law_told" ["_law_term", "_law_looked", "_law_known_here"] (spLTold K T 9))
    (DA : Okd P w K mg base CX0 (k) "_law_arguments" ["_law_kind"] spLArgs)
    (m_len : mg "len" = none)
    (m_list : mg "list" = none)
    (m_range : mg "range" = none)
    (m_zip : mg "zip" = none) : FnOk P w K mg base CX0 (k + 1) f fd psAllR (spAllR T) := by
  obtain ⟨fL, fdL, GL, bL, gL, kL⟩ := DL
  obtain ⟨fA, fdA, GA, bA, gA, kA⟩ := DA
  refine F.ok scAllR (fun vs H Q E h => ?_) (fun cdv A outer s H vs Q E hr h => ?_)
  · obtain ⟨v, vd, la, lb, o, xs, ms, t0, sl, rfl, _⟩ := h
    rfl
  obtain ⟨v, vd, la, lb, o, xs, ms, t0, sl, rfl, ah, ap, q⟩ := h
  refine ⟨_, pss_cons (ps_if (pt_cmpR (op_neD hr.units) (pe_call GL hr (by rfl) gL kL bL .nil pass0 (pa_cons (pv 0) (pa_cons (pv 2) (pa_cons (pv 3) pa_nil)))) (pe_ifExp (pt_cmpR op_isN (pv 1) pe_non (nomark _)) (pe_tup (pa_cons pe_str pa_nil)) (pe_tup (pa_cons pe_str (pa_cons (pv 1) pa_nil)))) (nomark _)) (pss_one (ps_ret pe_bl)) pss_nil)
    (pss_cons (ps_set (i := 5) scAllR.nd rfl (.inl rfl) (pe_tup (pa_cons pe_str (pa_cons (pe_ix ix_list (pv 4) pe_int (fun _ _ => rfl)) (pa_cons (pe_tup (pa_cons pe_str pa_nil)) (pa_cons (pv 0) pa_nil))))))
    (pss_cons (ps_if (pt_cmpR (op_neD hr.units) (pe_call GL hr (by rfl) gL kL bL .nil pass0 (pa_cons (pv 5) (pa_cons (pv 2) (pa_cons (pv 3) pa_nil)))) (pe_ifExp (pt_cmpR op_isN (pv 1) pe_non (nomark _)) (pe_tup (pa_cons pe_str pa_nil)) (pe_tup (pa_cons pe_str (pa_cons (pe_tup (pa_cons pe_str (pa_cons (pe_tup (pa_cons pe_str pa_nil)) (pa_cons (pv 1) pa_nil)))) pa_nil)))) (nomark _)) (pss_one (ps_ret pe_bl)) pss_nil)
    (pss_cons (ps_if (pt_cmpR op_isN (pv 1) pe_non (nomark _)) (pss_one (ps_ret pe_bl)) pss_nil)
    (pss_cons (ps_asg (pe_call GA hr (by rfl) gA kA bA .nil pass0 (pa_cons (pv 1) pa_nil)) (pg_tup rfl (pgs_cons (pg_name (i := 6) scAllR.nd rfl (.inl rfl)) (pgs_cons (pg_name (i := 7) scAllR.nd rfl (.inl rfl)) pgs_nil))))
    (pss_cons (ps_par (i := 8) (j := 9) (by rfl) scAllR.nd rfl rfl (by decide) rfl rfl (pa_cons (pv 0) (pa_cons (pv 7) pa_nil)) (by rfl))
    (pss_cons (ps_for PassesOwn.never rfl (pi_range1 (by rfl) m_range (pa_cons (pe_callB call_len_seq (by rfl) m_len PySem.boot_len (pa_cons (pv 6) pa_nil)) pa_nil)) (pg_name (i := 10) scAllR.nd rfl (.inl rfl))
      (pss_one (ps_set (i := 8) scAllR.nd rfl (.inl rfl) (pe_tup (pa_cons pe_str (pa_cons (pv 8) (pa_cons (pe_tup (pa_cons pe_str (pa_cons (pe_ix ix_list (pv 4) (pv 10) (fun _ _ => rfl)) pa_nil))) pa_nil)))))))
    (pss_cons (ps_for PassesOwn.never rfl (pi_list (pe_revL (Kz.pe_listZip rfl (by rfl) m_list (by rfl) m_zip (pa_cons (pv 4) (pa_cons (pv 6) pa_nil))))) (pg_tup rfl (pgs_cons (pg_name (i := 11) scAllR.nd rfl (.inl rfl)) (pgs_cons (pg_name (i := 12) scAllR.nd rfl (.inl rfl)) pgs_nil)))
      (pss_one (ps_par (i := 8) (j := 9) (by rfl) scAllR.nd rfl rfl (by decide) rfl rfl (pa_cons (pe_tup (pa_cons pe_str (pa_cons (pv 11) (pa_cons (pv 12) (pa_cons (pv 8) pa_nil))))) (pa_cons (pe_tup (pa_cons pe_str (pa_cons (pv 12) (pa_cons (pv 9) pa_nil)))) pa_nil)) (by rfl))))
    (pss_one (ps_ret (pe_and (pe_cmpR (op_eqD hr.units) (pv 9) (pv 1) (nomark _)) (pe_one (pe_cmpR (op_eqD hr.units) (pe_call GL hr (by rfl) gL kL bL .nil pass0 (pa_cons (pv 8) (pa_cons (pv 2) (pa_cons (pv 3) pa_nil)))) (pe_tup (pa_cons pe_str (pa_cons (pv 9) pa_nil))) (nomark _))))))))))))), ?_⟩
  have n400 : xs.length ≤ 400 := by have := ap.nk.len; omega
  have good : ∀ k, chk sl t0 Ek.none = some k → (∀ x ∈ k.opens, Nm x) ∧ k.dp ≤ 50 := fun k e => by
    obtain ⟨_, _, h3, _, h5⟩ := ap.kk k e
    exact ⟨fun x hx => ap.nk.nm x (h5 x hx), by omega⟩
  have wtS : ∀ {n : Nat}, n ≤ 16000000 → n + 2 ≤ sizeLine := fun h => by show _ ≤ 16777216; omega
  refine ⟨_, rfl, _, rfl, _, rfl, v, la, lb, t0, xs, xs, sl, rfl, n400, ap.nk, ah.fz, wtS (by have := ap.wt; omega), ah.lk, ah.kn, ah.tb, trm_of ap.wf, by rw [ap.d0]; decide, ap.sm _, ?_⟩
  refine KoL.mk fun u1 G1 m1 td1 => ?_
  have ah1 := ah.sm m1
  obtain ⟨sh1, eq1⟩ := tdP_ok good
  have neF : ∀ {A B : Prop}, B → if (!PyData.eqv (tdP (chk sl t0 Ek.none)) (tdP (chk sl t0 Ek.none))) = true then A else B := fun h => by
    rw [eq1]
    exact iteF h
  refine if_due rfl ah1.du fun y1 G2 s2 td2 => ⟨_, _, (td1.same s2).dp, td2.dp, sh1, sh1, _, rfl, neF ?_⟩
  have ah2 := ah1.same s2
  have mA2 := m1.trans (Sm.of s2 ah1.tb)
  obtain ⟨m0, e0⟩ : ∃ m0, ms[0]? = some m0 := ⟨ms[0]'(by have := ap.m5; omega), List.getElem?_eq_getElem _⟩
  have e0' : (ms.map V.str)[0]? = some (.str m0) := by rw [List.getElem?_map, e0]; rfl
  have mm0 := ap.sub m0 (List.mem_of_getElem? e0)
  refine ⟨_, rfl, o, _, _, _, rfl, rfl, SqL.of ah2.nm, atI_nat (j := 0) e0', (by show 1 ≤ sizeLine; decide), fun pn npn => objG npn fun G3 s3 g3 => ⟨_, rfl, (by show 4 ≤ sizeLine; decide), fun pw npw => objG npw fun G4 s4 g4 => ?_⟩⟩
  have s34 := s3.trans s4
  have ah4 := ah2.same s34
  have mA4 := mA2.trans (Sm.of s34 ah2.tb)
  have cw : chk sl (.fn m0 .num t0) Ek.none = (chk sl t0 Ek.none).map (Kd.fn .num) := by rw [chk, ap.ce]
  have gkN : ∀ k, chk sl t0 Ek.none = some k → Gk xs (.fn .num k) := fun k e => by
    obtain ⟨_, _, h3, h4, h5⟩ := ap.kk k e
    refine ⟨?_, ?_, fun x hx => ?_⟩
    · show max 0 k.dp + 1 ≤ 50
      omega
    · rw [Kd.size_fn]
      show 1 + k.size + 1 ≤ 900
      omega
    · rcases List.mem_append.mp (show x ∈ Kd.num.opens ++ k.opens from hx) with h | h
      · cases h
      · exact h5 x h
  have good2 : ∀ k, (chk sl t0 Ek.none).map (Kd.fn .num) = some k → (∀ x ∈ k.opens, Nm x) ∧ k.dp ≤ 50 := fun k e => by
    obtain ⟨k0, e1, rfl⟩ := Option.map_eq_some_iff.mp e
    have g := gkN k0 e1
    exact ⟨fun x hx => ap.nk.nm x (g.op x hx), g.dp⟩
  have smw : Sml sl xs xs (.fn m0 .num t0) Ek.none := ⟨mm0, .num, ap.sm _, fun r e => gkN r (by rw [← ap.ce (Ek.none.put m0 .num)]; exact e)⟩
  have wfw : (Tm.fn m0 .num t0).wf := ⟨ap.nk.nm m0 mm0, ⟨rfl, fun x hx => by cases hx⟩, ap.wf⟩
  refine ⟨_, rfl, _, rfl, _, rfl, .ref pw, la, lb, .fn m0 .num t0, xs, xs, sl, rfl, n400, ap.nk, ⟨pw, .ref pn, v, rfl, g4, ⟨pn, rfl, s4 _ _ g3⟩, ah4.fz⟩, wtS ?_, ah4.lk, ah4.kn, ah4.tb, trm_of wfw, by show t0.dp + 1 < 9; rw [ap.d0]; decide, smw, ?_⟩
  · have := fl_wt (t := t0) (B := 200) (zs := [(m0, .num)]) (fun z hz => by rw [List.mem_singleton.mp hz]; exact ⟨ap.nk.nm m0 mm0, wtK (k := .num) (fun x hx => by cases hx)⟩)
    have h2 : (fl [(m0, .num)] t0).dt.wt ≤ _ := this
    have := ap.wt
    exact Nat.le_trans h2 (by show t0.dt.wt + 600 * 1 ≤ _; omega)
  rw [cw]
  refine KoL.mk fun u5 G5 m5 td5 => ?_
  obtain ⟨sh2, eq2⟩ := tdP_ok good2
  have neF2 : ∀ {A B : Prop}, B → if (!PyData.eqv (tdP ((chk sl t0 Ek.none).map (Kd.fn .num))) (tdP ((chk sl t0 Ek.none).map (Kd.fn .num)))) = true then A else B := fun h => by
    rw [eq2]
    exact iteF h
  have ah5 := ah4.sm m5
  have mA5 := mA4.trans m5
  refine if_due2 rfl ah5.du fun y2 G6 s6 td6 => ⟨_, _, (td5.same s6).dp, td6.dp, sh2, sh2, _, rfl, neF2 ?_⟩
  have ah6 := ah5.same s6
  have mA6 := mA5.trans (Sm.of s6 ah5.tb)
  cases hc : chk sl t0 Ek.none with
  | none =>
    have du := ah6.du
    rw [hc] at du
    cases (show vd = .non from du)
    exact ⟨_, rfl, rfl, _, rfl, iteT (q _ mA6)⟩
  | some k0 =>
    have du := ah6.du
    rw [hc] at du
    have du : Rp0 G6 k0 vd := du
    obtain ⟨da, us, rfl, _, _⟩ := du.see
    refine ⟨_, rfl, rfl, _, rfl, iteF ?_⟩
    obtain ⟨kw, ka, kd, ks, ko⟩ := ap.kk k0 hc
    refine ⟨_, rfl, .ref da, k0, rfl, du, by omega, fun pp l us u G7 s7 gp gl rl ru => ⟨pp, _, rfl, SqT.of gp, rfl, _, _, rfl, _, _, rfl, rfl, ?_⟩⟩
    have ah7 := ah6.same s7
    have mA7 := mA6.trans (Sm.of s7 ah6.tb)
    have lus : us.length = k0.args.length := rl.len.symm
    have m5 := ap.m5
    refine ⟨_, rfl, _, rfl, _, _, rfl, ?_⟩
    refine ⟨_, rfl, l, us, rfl, .inl (SqL.of gl), _, rfl, by omega, by omega, ?_⟩
    have ln : ((us.length : Nat) : Int).toNat = us.length := Int.toNat_natCast _
    refine for_range (lo := 0) (n := ((us.length : Nat) : Int).toNat) (fun i σ G => ∃ vc yk, σ = [some v, some (.ref da), some (.ref la), some (.ref lb), some (.ref o), some (.ref pw), some (.ref l), some u, some vc, some u, yk, none, none] ∧ Same G7 G ∧ Fz G (cl t0 (ms.take i)) vc) ⟨v, none, rfl, Same.refl _, ah7.fz⟩ (fun i σ G hi z => ?_) (fun σ G z => ?_)
    · obtain ⟨vc, yk, rfl, sG, fz⟩ := z
      rw [ln] at hi
      obtain ⟨mi, emi⟩ : ∃ mi, ms[i]? = some mi := ⟨ms[i]'(by omega), List.getElem?_eq_getElem _⟩
      have emi' : (ms.map V.str)[i]? = some (.str mi) := by rw [List.getElem?_map, emi]; rfl
      have emi2 : atI (ms.map V.str) (0 + (i : Int)) = some (.str mi) := by
        rw [Int.zero_add]
        exact atI_nat (j := i) emi'
      refine ⟨_, rfl, _, rfl, _, rfl, o, _, _, _, rfl, rfl, SqL.of (sG _ _ ah7.nm), emi2, (by show 2 ≤ sizeLine; decide), fun p1 n1 => objG n1 fun H1 s1 g1 => ⟨(by show 3 ≤ sizeLine; decide), fun p2 n2 => objG n2 fun H2 s2 g2 => ?_⟩⟩
      refine ⟨.ref p2, _, rfl, sG.trans (s1.trans s2), ?_⟩
      rw [List.take_add_one, emi]
      show Fz H2 (cl t0 (ms.take i ++ [mi])) _
      rw [cl_snoc]
      exact ⟨p2, vc, .ref p1, rfl, g2, fz.same (s1.trans s2), ⟨p1, rfl, s2 _ _ g1⟩⟩
    · obtain ⟨vc, yk, rfl, sG, fz⟩ := z
      rw [ln] at fz
      have ah8 := ah7.same sG
      have mA8 := mA7.trans (Sm.of sG ah7.tb)
      refine ⟨_, rfl, _, rfl, o, l, _, us, rfl, .inl ⟨SqL.of ah8.nm, SqL.of (sG _ _ gl)⟩, fun q0 ts F sF nq hq lts prs _ => ⟨q0, _, rfl, SqL.of hq, fun p9 np9 => objG np9 fun G9 s9 g9 => ?_⟩⟩
      have s89 := sF.trans s9
      have ah9 := ah8.same s89
      have mA9 := mA8.trans (Sm.of s89 ah8.tb)
      have s79 := sG.trans s89
      generalize hn : us.length = n at *
      have lts : ts.length = n := by rw [lts, List.length_map]; omega
      generalize hz : ms.zip k0.args = zs
      have lzs : zs.length = n := by rw [← hz, List.length_zip]; omega
      have z1 : zs.map (·.1) = ms.take n := by
        rw [← hz, lus]
        exact map_fst_zip' (by omega)
      have z2 : zs.map (·.2) = k0.args := by
        rw [← hz]
        exact List.map_snd_zip (by omega)
      have zget : ∀ j y a, ms[j]? = some y → k0.args[j]? = some a → zs[j]? = some (y, a) := fun j y a h1 h2 => by
        rw [← hz, List.getElem?_zip_eq_some]
        exact ⟨h1, h2⟩
      refine ⟨p9, rfl, ⟨_, SqL.of g9⟩, for_list (K := K) (a := p9) (xs := (ts.map V.ref).reverse) (fun i σ G => ∃ vc vk y11 y12, σ = [some v, some (.ref da), some (.ref la), some (.ref lb), some (.ref o), some (.ref pw), some (.ref l), some u, some vc, some vk, yk, y11, y12] ∧ Same G9 G ∧ Fz G (fl (zs.drop (n - i)) (cl t0 (ms.take n))) vc ∧ Rp0 G (lead ((zs.drop (n - i)).map (·.2)) k0.res) vk) ⟨vc, u, _, _, rfl, Same.refl _, ?_, ?_⟩ (fun i σ G z => ?_) (fun i x σ G hx z => ?_) (fun σ G z => ?_)⟩
      · rw [List.drop_of_length_le (by omega)]
        exact fz.same s89
      · rw [List.drop_of_length_le (by omega)]
        exact ru.tk (.of s79)
      · intro z
        obtain ⟨_, _, _, _, _, sG, _⟩ := z
        exact SqL.of (sG _ _ g9)
      · obtain ⟨vc, vk, y11, y12, rfl, sG2, fz2, rk2⟩ := z
        have li : i < n := by
          have := (List.getElem?_eq_some_iff.mp hx).1
          rw [List.length_reverse, List.length_map] at this
          omega
        rw [List.getElem?_reverse (by rw [List.length_map]; omega), List.length_map, lts, List.getElem?_map] at hx
        obtain ⟨tt, ett, rfl⟩ := Option.map_eq_some_iff.mp hx
        generalize hj : n - 1 - i = j at *
        obtain ⟨y, ey⟩ : ∃ y, ms[j]? = some y := ⟨ms[j]'(by omega), List.getElem?_eq_getElem _⟩
        obtain ⟨uj, euj⟩ : ∃ uj, us[j]? = some uj := ⟨us[j]'(by omega), List.getElem?_eq_getElem _⟩
        obtain ⟨a, ea, ra⟩ := rl.get euj
        have ez := zget j y a ey ea
        have htt := sG2 _ _ (s9 _ _ (prs j tt (.str y) uj ett (by rw [List.getElem?_map, ey]; rfl) euj))
        have ra2 := ra.tk (.of (s79.trans sG2))
        have dr : zs.drop (n - (i + 1)) = (y, a) :: zs.drop (n - i) := by
          rw [show n - (i + 1) = j by omega, show n - i = j + 1 by omega]
          have lj := (List.getElem?_eq_some_iff.mp ez).1
          rw [List.drop_eq_getElem_cons lj]
          rw [List.getElem?_eq_getElem lj] at ez
          rw [Option.some.inj ez]
        refine ⟨tt, _, rfl, SqT.of htt, rfl, _, _, rfl, _, _, rfl, rfl, _, rfl, _, rfl, _, rfl, (by show 4 ≤ sizeLine; decide), fun p1 n1 => objG n1 fun H1 s1 g1 => ⟨_, rfl, _, rfl, (by show 3 ≤ sizeLine; decide), fun p2 n2 => objG n2 fun H2 s2 g2 => ⟨_, _, rfl, .ref p1, .ref p2, _, _, rfl, sG2.trans (s1.trans s2), ?_, ?_⟩⟩⟩
        · rw [dr]
          exact ⟨p1, uj, vc, rfl, s2 _ _ g1, ra2.tk (.of (s1.trans s2)), fz2.same (s1.trans s2)⟩
        · rw [dr]
          exact ⟨p2, uj, vk, rfl, g2, ra2.tk (.of (s1.trans s2)), rk2.tk (.of (s1.trans s2))⟩
      · obtain ⟨vc, vk, y11, y12, rfl, sG2, fz2, rk2⟩ := z
        rw [List.length_reverse, List.length_map, lts, Nat.sub_self, List.drop_zero] at fz2 rk2
        rw [z2, lead_args] at rk2
        rw [← z1] at fz2
        have ah10 := ah9.same sG2
        have mA10 := mA9.trans (Sm.of sG2 ah9.tb)
        have du10 := du.tk (.of (s7.trans (s79.trans sG2)))
        obtain ⟨gk1, gk2⟩ := good k0 hc
        have sT := shT gk1 gk2
        refine ⟨_, rfl, _, rfl, _, _, dpT K (rp0_rp rk2), dpT K (rp0_rp du10), sT.1, sT.1, _, rfl, ?_⟩
        rw [SeqAt.eqv_refl _ sT.2]
        have nd : (zs.map (·.1)).Nodup := by rw [z1]; exact ap.mn.sublist (List.take_sublist _ _)
        have znm : ∀ z ∈ zs, z.1 ∈ xs := fun z hz2 => ap.sub _ (List.mem_of_mem_take (by rw [← z1]; exact List.mem_map.mpr ⟨z, hz2, rfl⟩))
        have zar : ∀ z ∈ zs, z.2 ∈ k0.args := fun z hz2 => by rw [← z2]; exact List.mem_map.mpr ⟨z, hz2, rfl⟩
        have gk0 : Gk xs (lead (zs.map (·.2)) k0.res) := by
          rw [z2, lead_args]
          exact ⟨by omega, by omega, ko⟩
        have c0 : chk sl t0 (putl Ek.none zs) = some (lead (zs.map (·.2)) k0.res) := by rw [ap.ce, hc, z2, lead_args]
        have c1 := cl_chk (sl := sl) (zs := zs) (t := t0) (putl_at nd) c0
        have c2 := fl_chk (e := Ek.none) c1
        rw [z2, lead_args] at c2
        have wfT : (fl zs (cl t0 (zs.map (·.1)))).wf := fl_wf (fun z hz2 => ⟨ap.nk.nm _ (znm z hz2), args_fst kw _ (zar z hz2), fun x hx => gk1 x ((size_in (zar z hz2)).2 x hx)⟩) (cl_wf (fun z hz2 => by obtain ⟨q, hq2, rfl⟩ := List.mem_map.mp hz2; exact ap.nk.nm _ (znm q hq2)) ap.wf)
        have smT : Sml sl xs xs (fl zs (cl t0 (zs.map (·.1)))) Ek.none := fl_sml znm gk0 c1 (cl_sml (fun z hz2 => by obtain ⟨q, hq2, rfl⟩ := List.mem_map.mp hz2; exact (ap.nk.nm _ (znm q hq2)).len) (ap.sm _))
        refine iteT ⟨_, rfl, _, rfl, _, rfl, vc, la, lb, _, xs, xs, sl, rfl, n400, ap.nk, fz2, wtS ?_, ah10.lk, ah10.kn, ah10.tb, trm_of wfT, ?_, smT, ?_⟩
        · have h1 := fl_wt (t := cl t0 (zs.map (·.1))) (B := 33000) (zs := zs) (fun z hz2 => ⟨ap.nk.nm _ (znm z hz2), Nat.le_trans (wtK fun x hx => gk1 x ((size_in (zar z hz2)).2 x hx)) (by have := (size_in (zar z hz2)).1; omega)⟩)
          have h2 := cl_wt (t := t0) (zs := zs.map (·.1)) (fun z hz2 => by obtain ⟨q, hq2, rfl⟩ := List.mem_map.mp hz2; exact ap.nk.nm _ (znm q hq2))
          rw [List.length_map] at h2
          have h3 := ap.wt
          have h4 : zs.length ≤ 4 := by omega
          have h5 : (33000 + 400) * zs.length ≤ 33400 * 4 := Nat.mul_le_mul_left _ h4
          omega
        · rw [fl_dp, cl_dp, ap.d0, List.length_map]
          omega
        rw [c2]
        refine KoL.mk fun u11 G11 m11 td11 => ?_
        have tk11 : Tk G G11 := fun b ys e => m11.at ah10.tb e (fun ps z => by cases z)
        refine ⟨_, rfl, (by show 2 ≤ sizeLine; decide), fun p12 n12 => objG n12 fun G12 s12 g12 => ?_⟩
        have td12 : TD K G12 (some k0) (.ref p12) := ⟨p12, vk, rfl, g12, rp0_rp ((rk2.tk tk11).tk (.of s12))⟩
        obtain ⟨sh3, eq3⟩ := tdP_ok (o := some k0) (fun k e => by cases e; exact ⟨gk1, gk2⟩)
        refine ⟨_, _, (td11.same s12).dp, td12.dp, sh3, sh3, ?_⟩
        rw [eq3]
        exact q _ (mA10.trans (m11.trans (Sm.of s12 m11.2)))
end
end Kq

/-! law -/
namespace Kq
open PySem PySem.Spec PyProof.Rows L2 Kf Kg Kv Kk Ku
theorem _root_.Kg.TbS.kp {T : List Addr} {H G : Hp} {d c : Addr} (t : TbS T H) (k : Kp d c H G) (dk : Dk H d c) : TbS T G := fun p hp => by
  obtain ⟨ps, h1, h2⟩ := t p hp
  obtain ⟨_, ⟨a, b, e⟩, ⟨ns, f, _⟩⟩ := dk
  exact ⟨ps, k p _ (fun z => by rw [z, e] at h1; cases h1) (fun z => by rw [z, f] at h1; cases h1) h1, h2⟩
theorem Dk.sm {T : List Addr} {H G : Hp} {d c : Addr} (dk : Dk H d c) (m : Sm T H G) (t : TbS T H) : Dk G d c := by
  obtain ⟨n, ⟨a, b, e⟩, ⟨ns, f, l⟩⟩ := dk
  exact ⟨n, ⟨a, b, m.at t e (fun ps z => by cases z)⟩, ⟨ns, m.at t f (fun ps z => by cases z), l⟩⟩
/-- one of these kinds -/
theorem kw_mem {f : Str} {w : Kw} : ∀ {kn : List Kw}, kwOf kn f = some w → w ∈ kn ∧ w.nm = f
  | [], h => by cases h
  | u :: r, h => by
    have h : (if u.nm = f then some u else kwOf r f) = some w := h
    split at h
    · rename_i c
      cases h
      exact ⟨List.mem_cons_self, c⟩
    · obtain ⟨a, b⟩ := kw_mem (kn := r) h
      exact ⟨List.mem_cons_of_mem _ a, b⟩
theorem kw_at {w : Kw} : ∀ {kn : List Kw}, (kn.map (·.nm)).Nodup → w ∈ kn → kwOf kn w.nm = some w
  | [], _, h => by cases h
  | u :: r, nd, h => by
    rw [List.map_cons, List.nodup_cons] at nd
    show (if u.nm = w.nm then some u else kwOf r w.nm) = some w
    rcases List.mem_cons.mp h with rfl | h
    · rw [if_pos rfl]
    · rw [if_neg (fun c => nd.1 (List.mem_map.mpr ⟨w, h, c.symm⟩))]
      exact kw_at nd.2 h
section
variable {xs hs lk ys ms : List Str} {kn : List Kw} {g : Str → Option Kd} {nm : Str}
theorem chk_told (e : Ek) (h : ∀ x, x ∈ ys ↔ ∃ t, g x = some t) (ok : KnOk xs kn) {w : Kw} (hw : w ∈ kn) : (Due w.lo lk w.k g → chk ⟨lk, kn⟩ (.told w.nm (fsOf ys g)) e = some (w.k.fill g)) ∧ (¬ Due w.lo lk w.k g → chk ⟨lk, kn⟩ (.told w.nm (fsOf ys g)) e = none) := by
  have kw := kw_at ok.nd hw
  have fd := fok_due (lk := lk) h (ok.lo w hw).1
  refine ⟨fun d => ?_, fun d => ?_⟩
  · rw [chk]
    show ((kwOf kn w.nm).bind _) = _
    rw [kw, Option.bind_some, if_pos (fd.mpr d), told_g h]
  · rw [chk]
    show ((kwOf kn w.nm).bind _) = _
    rw [kw]
    exact if_neg (fun z => d (fd.mp z))
theorem chk_none (e : Ek) (h : kwOf kn nm = none) : chk ⟨lk, kn⟩ (.told nm (fsOf ys g)) e = none := by
  rw [chk]
  show ((kwOf kn nm).bind _) = _
  rw [h]
  rfl
theorem arp_mk (nk : NoK xs) (ok : KnOk xs kn) (hsx : ∀ x ∈ hs, x ∈ xs) (ll : lk.length ≤ 26) (hn : nm ∈ xs) (st : sortedS ys = true) (nd : ys.Nodup) (yx : ∀ y ∈ ys, y ∈ xs) (h : ∀ x, x ∈ ys ↔ ∃ t, g x = some t) (hg : ∀ x t, g x = some t → Sk hs t) (l13 : xs.length = 13) (mx : ∀ y ∈ ms, y ∈ xs) (m5 : ms.length = 5) (mn : ms.Nodup) : ARp xs (.told nm (fsOf ys g)) ⟨lk, kn⟩ ms := by
  have ly : ys.length ≤ 13 := by rw [← l13]; exact nodup_le nd yx
  have fo : FsOk xs (fsOf ys g) := fs_ok st nd (by omega) (fun y hy => nk.nm y (yx y hy)) h hg
  have gkF : ∀ w ∈ kn, Gk xs (w.k.fill g) ∧ (w.k.fill g).wk = true ∧ (w.k.fill g).args.length ≤ 4 ∧ (w.k.fill g).dp ≤ 8 ∧ (w.k.fill g).size ≤ 165 := fun w hw => by
    have b := ok.bd w hw
    obtain ⟨f1, f2, f3⟩ := fill_bd hg w.k
    have := b.dp
    have := b.sz
    have := b.ar
    have fa := fill_args hg b.wk
    exact ⟨⟨by omega, by omega, fun x hx => (f3 x hx).elim (fun z => b.op x z) (fun z => hsx x z)⟩, fill_wk hg b.wk, by omega, by omega, by omega⟩
  have nmh := nk.nm nm hn
  refine ⟨nk, mx, m5, mn, fun e => ?_, fun e => ?_, ⟨nmh, ?_⟩, rfl, ?_, fun k e => ?_⟩
  · refine ⟨nmh.len, fo, ll, fun w hw => ?_⟩
    obtain ⟨hm, _⟩ := kw_mem hw
    have b := ok.bd w hm
    have := b.dp
    have := b.sz
    exact ⟨b.dp, ⟨by omega, by omega, b.op⟩, (ok.lo w hm).2, fun _ => by rw [told_g h]; exact (gkF w hm).1⟩
  · rw [chk, chk]
  · exact fil_ok st nd (fun y hy => nk.nm y (yx y hy)) h hg (fun x hx => nk.nm x (hsx x hx))
  · have w := wts_fs (B := 600) (fs := fsOf ys g) fun p hp => by
      obtain ⟨x, m, rfl⟩ := List.mem_map.mp hp
      obtain ⟨t, et⟩ := (h x).mp m
      refine ⟨nk.nm x (yx x m), ?_⟩
      show ((g x).getD .num).dt.wt ≤ 600
      rw [et]
      have s := hg x t et
      have := wtK (k := t) fun z hz => nk.nm z (hsx z (s.op z hz))
      have := s.sz
      show t.dt.wt ≤ 600
      omega
    have l : (fsOf ys g).length = ys.length := by unfold fsOf; rw [List.length_map]
    rw [l] at w
    have := nm8 nmh
    have w1 : ("told" : Str).length = 4 := by decide +kernel
    show (Dt.tup [.str "told", .str nm, .tup (fsd (fsOf ys g))]).wt ≤ 40000
    simp only [Dt.wt, Dt.wts, w1]
    have : ys.length * (600 + 200) ≤ 13 * 800 := Nat.mul_le_mul_right _ ly
    omega
  · cases hk : kwOf kn nm with
    | none => rw [chk_none _ hk] at e; cases e
    | some w =>
      obtain ⟨hm, rfl⟩ := kw_mem hk
      obtain ⟨c1, c2⟩ := chk_told (xs := xs) (lk := lk) Ek.none h ok hm
      by_cases d : Due w.lo lk w.k g
      · rw [c1 d] at e
        cases e
        obtain ⟨a, b, c, d2, e2⟩ := gkF w hm
        exact ⟨b, c, d2, e2, a.op⟩
      · rw [c2 d] at e
        cases e
end
/-- what stands while the law goes on -/
structure LI (T : List Addr) (d c W o oh b : Addr) (ws : List Int) (xs hs : List Str) (kn : List Kw) (G : Hp) : Prop where
  dk : Dk G d c
  tb : TbS T G
  w_ : G W = some (.lst (ws.map V.int))
  wo : W ≠ d ∧ W ≠ c
  o_ : G o = some (.lst (xs.map V.str))
  oo : o ≠ d ∧ o ≠ c
  h_ : G oh = some (.lst (hs.map V.str))
  ho : oh ≠ d ∧ oh ≠ c
  kn : Kns G b kn
section
variable {T : List Addr} {d c W o oh b : Addr} {ws : List Int} {xs hs : List Str} {kn : List Kw} {G F : Hp}
theorem LI.kp (h : LI T d c W o oh b ws xs hs kn G) (k : Kp d c G F) (dk : Dk F d c) : LI T d c W o oh b ws xs hs kn F :=
  ⟨dk, h.tb.kp k h.dk, k W _ h.wo.1 h.wo.2 h.w_, h.wo, k o _ h.oo.1 h.oo.2 h.o_, h.oo, k oh _ h.ho.1 h.ho.2 h.h_, h.ho, h.kn.tk (Tk.kp k h.dk)⟩
theorem LI.same (h : LI T d c W o oh b ws xs hs kn G) (s : Same G F) : LI T d c W o oh b ws xs hs kn F := h.kp (Kp.of s) (h.dk.same s)
theorem LI.sm (h : LI T d c W o oh b ws xs hs kn G) (m : Sm T G F) : LI T d c W o oh b ws xs hs kn F := by
  have tk : Tk G F := fun b ys e => m.at h.tb e (fun ps z => by cases z)
  exact ⟨h.dk.sm m h.tb, m.2, m.at h.tb h.w_ (fun ps z => by cases z), h.wo, m.at h.tb h.o_ (fun ps z => by cases z), h.oo, m.at h.tb h.h_ (fun ps z => by cases z), h.ho, h.kn.tk tk⟩
theorem LI.k3 (h : LI T d c W o oh b ws xs hs kn G) {p : Addr} {kvs : List (Key × V)} (gp : G p = some (.dK kvs)) (k : Kq3 d c p G F) (dk : Dk F d c) : LI T d c W o oh b ws xs hs kn F := by
  have tk : Tk G F := fun b ys e => k b _ (h.dk.offT e).1 (h.dk.offT e).2 (fun z => by rw [z, gp] at e; cases e) e
  have tb : TbS T F := fun q hq => by
    obtain ⟨ps, h1, h2⟩ := h.tb q hq
    refine ⟨ps, k q _ ?_ ?_ (fun z => by rw [z, gp] at h1; cases h1) h1, h2⟩
    · obtain ⟨_, ⟨s, m, hd⟩, _⟩ := h.dk
      rintro rfl
      rw [hd] at h1
      cases h1
    · obtain ⟨_, _, ⟨ns, hc, _⟩⟩ := h.dk
      rintro rfl
      rw [hc] at h1
      cases h1
  exact ⟨dk, tb, k W _ h.wo.1 h.wo.2 (fun z => by have := h.w_; rw [z, gp] at this; cases this) h.w_, h.wo, k o _ h.oo.1 h.oo.2 (fun z => by have := h.o_; rw [z, gp] at this; cases this) h.o_, h.oo, k oh _ h.ho.1 h.ho.2 (fun z => by have := h.h_; rw [z, gp] at this; cases this) h.h_, h.ho, h.kn.tk tk⟩
end
end Kq

/-! law -/
namespace Kq
open PySem PySem.Spec PyProof.Rows L2 Kf Kg Kv Kk Ku
theorem cutLo (xs : List V) (n : Nat) : cutV xs (some (n : Int)) none = xs.drop n := by
  unfold cutV
  rw [HT.sIx_nat, HT.sIx_none]
  by_cases h : n ≤ xs.length
  · rw [Nat.min_eq_left h, List.take_of_length_le]
    rw [List.length_drop]
    exact Nat.le_refl _
  · rw [Nat.min_eq_right (by omega), List.drop_length, List.drop_of_length_le (by omega), List.take_nil]
theorem cut49 {xs : List Str} (h : xs.length = 13) : cutV (xs.map V.str) (some 4) (some 9) = ((xs.drop 4).take 5).map V.str := by
  unfold cutV
  rw [show (4 : Int) = ((4 : Nat) : Int) from rfl, show (9 : Int) = ((9 : Nat) : Int) from rfl, HT.sIx_nat, HT.sIx_nat, List.length_map, h]
  show ((xs.map V.str).drop 4).take 5 = _
  rw [List.map_take, List.map_drop]
section
variable {P : Program} {w : World} {K : PySem.W.Frag} {mg : Str → Option Value} {base : Heap} {T : List Addr}
abbrev tLaw : Stmt := tp 97
abbrev nLaw : List Str := ["_law_script", "_law_deck_here", "_law_turn", "_law_ways", "_law_names_here", "_law_here", "_law_known_here", "_law_way", "_law_name", "_law_looked", "_law_looks", "_law_kind", "_law_fills_here", "_law_due_here", "_law_one", "_law_term"]
abbrev psLaw : List Str := ["_law_script"]
theorem scLaw : FnScope nLaw psLaw (defScope tLaw) := ⟨rfl, rfl, rfl, by decide +kernel, rfl, by decide +kernel, by decide +kernel⟩
def spLaw (K : PySem.W.Frag) (T : List Addr) : Sp := fun vs H Q _ => ∃ (a : Addr) (ns : List Int), vs = [.ref a] ∧ SqL K H a (ns.map V.int) ∧ ns.length ≤ 63 ∧ TbS T H ∧ ∀ G : Hp, Q (.bl true) G
theorem okLaw {f : Addr} {fd : FuncData} {k : Nat} (F : Fun K "law" "law" tLaw f fd)
    (DD : Okd P w K mg base CX0 (k) "_law_draw" ["_law_deck_here", "_law_most"] spDraw)
    (DR : Okd P w K mg base CX0 (k) "_law_all_right" ["_law_term", "_law_due_here", "_law_looked", "_law_known_here", "_law_names_here"] (spAllR T))
    (DU : Okd P w K mg base CX0 (k) "_law_due" ["_law_looks", "_law_kind", "_law_fills_here", "_law_looked"] spDue)
    (DS : Okd P w K mg base CX0 (k) "_law_spoilt" ["_law_deck_here", "_law_way", "_law_found", "_law_names_here", "_law_here"] spSpoilt)
    (DF : Okd P w K mg base CX0 (k) "_law_fills" ["_law_deck_here", "_law_looks", "_law_kind", "_law_looked", "_law_here"] spFil)
    (DP : Okd P w K mg base CX0 (k) "_law_pick" ["_law_deck_here", "_law_some"] spPickT)
    (DW : Okd P w K mg base CX0 (k) "_law_known" ["_law_deck_here", "_law_names_here"] spKnown)
    (DN : Okd P w K mg base CX0 (k) "_law_names" ["_law_deck_here", "_law_many"] spNames)
    (DK : Okd P w K mg base CX0 (k) "_law_deck" ["_law_script"] (spDeck K))
    (m_range : mg "range" = none)
    (m_sorted : mg "sorted" = none)
    (m_tuple : mg "tuple" = none) : FnOk P w K mg base CX0 (k + 1) f fd psLaw (spLaw K T) := by
  obtain ⟨fD, fdD, GD, bD, gD, kD⟩ := DD
  obtain ⟨fR, fdR, GR, bR, gR, kR⟩ := DR
  obtain ⟨fU, fdU, GU, bU, gU, kU⟩ := DU
  obtain ⟨fS, fdS, GS, bS, gS, kS⟩ := DS
  obtain ⟨fF, fdF, GF, bF, gF, kF⟩ := DF
  obtain ⟨fP, fdP, GP, bP, gP, kP⟩ := DP
  obtain ⟨fW, fdW, GW, bW, gW, kW⟩ := DW
  obtain ⟨fN, fdN, GN, bN, gN, kN⟩ := DN
  obtain ⟨fK, fdK, GK, bK, gK, kK⟩ := DK
  refine F.ok scLaw (fun vs H Q E h => ?_) (fun cdv A outer s H vs Q E hr h => ?_)
  · obtain ⟨a, ns, rfl, _⟩ := h
    rfl
  obtain ⟨a, ns, rfl, hS, hl, tb, q⟩ := h
  refine ⟨_, pss_cons (ps_set (i := 1) scLaw.nd rfl (.inr rfl) (pe_call GK hr (by rfl) gK kK bK .nil pass0 (pa_cons (pv 0) pa_nil)))
    (pss_cons (ps_setLc (i := 3) (own := [("_law_turn", 2)]) (g := gName 2) (by rfl) scLaw.nd rfl rfl (sw_true rfl rfl rfl (by decide +kernel)) (pi_range1 (by rfl) m_range (pa_cons pe_int pa_nil)) (blkOk_by (own := [("_law_turn", 2)]) (N := nLaw) (sc := defScope tLaw) (by decide +kernel)) (fun _ _ _ _ _ => (pg_name (i := 2) scLaw.nd rfl (.inl rfl))) (fun _ _ _ _ _ => pts_nil) (fun _ _ _ _ _ => (pe_call GD hr (by rfl) gD kD bD .nil pass0 (pa_cons (pv 1) (pa_cons pe_int pa_nil)))))
    (pss_cons (ps_set (i := 4) scLaw.nd rfl (.inl rfl) (pe_call GN hr (by rfl) gN kN bN .nil pass0 (pa_cons (pv 1) (pa_cons pe_int pa_nil))))
    (pss_cons (ps_set (i := 5) scLaw.nd rfl (.inl rfl) (pe_slice sl_list (pv 4) (po_some pe_int) po_none))
    (pss_cons (ps_set (i := 6) scLaw.nd rfl (.inl rfl) (pe_call GW hr (by rfl) gW kW bW .nil pass0 (pa_cons (pv 1) (pa_cons (pv 4) pa_nil))))
    (pss_cons (ps_for PassesOwn.never rfl (pi_list (pv 3)) (pg_name (i := 7) scLaw.nd rfl (.inl rfl))
      (pss_cons (ps_set (i := 9) scLaw.nd rfl (.inl rfl) (pe_callTy call_tuple_of (by rfl) m_tuple PyProof.Rows.boot_tuple (pa_cons (pe_callB cr_sortedS (by rfl) m_sorted (by decide +kernel) (pa_cons (pe_lc (own := [("_law_name", 8)]) (g := gName 8) (tt := _) (by rfl) scLaw.nd (pi_list (pv 5)) (blkOk_by (own := [("_law_name", 8)]) (N := nLaw) (sc := defScope tLaw) (by decide +kernel)) (fun _ _ _ _ _ => (pg_name (i := 8) scLaw.nd rfl (.inl rfl))) (fun _ _ _ _ _ => pts_one (pt_cmpR op_gt (pe_call GD hr (by rfl) gD kD bD .nil pass0 (pa_cons (pv 1) (pa_cons pe_int pa_nil))) pe_int (nomark _))) (fun _ _ _ _ _ => (pv 8))) pa_nil)) pa_nil)))
    (pss_cons (ps_asg (pe_call GP hr (by rfl) gP kP bP .nil pass0 (pa_cons (pv 1) (pa_cons (pv 6) pa_nil))) (pg_tup rfl (pgs_cons (pg_name (i := 8) scLaw.nd rfl (.inl rfl)) (pgs_cons (pg_name (i := 10) scLaw.nd rfl (.inl rfl)) (pgs_cons (pg_name (i := 11) scLaw.nd rfl (.inl rfl)) pgs_nil)))))
    (pss_cons (ps_set (i := 12) scLaw.nd rfl (.inr rfl) (pe_call GS hr (by rfl) gS kS bS .nil pass0 (pa_cons (pv 1) (pa_cons (pv 7) (pa_cons (pe_call GF hr (by rfl) gF kF bF .nil pass0 (pa_cons (pv 1) (pa_cons (pv 10) (pa_cons (pv 11) (pa_cons (pv 9) (pa_cons (pv 5) pa_nil)))))) (pa_cons (pv 4) (pa_cons (pv 5) pa_nil)))))))
    (C8.pss_cut (ps_set (i := 13) scLaw.nd rfl (.inl rfl) (pe_call GU hr (by rfl) gU kU bU .nil pass0 (pa_cons (pv 10) (pa_cons (pv 11) (pa_cons (pv 12) (pa_cons (pv 9) pa_nil))))))
    (C8.pss_cut (ps_if (pt_cmpR op_eq (pv 7) pe_int (nomark _)) (pss_one (ps_par (i := 8) (j := 13) (by rfl) scLaw.nd rfl rfl (by decide) rfl rfl (pa_cons (pe_ix ix_list (pv 4) pe_int (fun _ _ => rfl)) (pa_cons pe_non pa_nil)) (by rfl))) pss_nil)
    (pss_cons (ps_set (i := 15) scLaw.nd rfl (.inl rfl) (pe_tup (pa_cons pe_str (pa_cons (pv 8) (pa_cons (pe_callTy Kt.call_tupleF (by rfl) m_tuple PyProof.Rows.boot_tuple (pa_cons (pe_lc (own := [("_law_one", 14)]) (g := gName 14) (by rfl) scLaw.nd (pi_list (pe_callB (call_sortedD rfl) (by rfl) m_sorted (by decide +kernel) (pa_cons (pv 12) pa_nil))) (blkOk_by (own := [("_law_one", 14)]) (N := nLaw) (sc := defScope tLaw) (by decide +kernel)) (fun _ _ _ _ _ => (pg_name (i := 14) scLaw.nd rfl (.inl rfl))) (fun _ _ _ _ _ => pts_nil) (fun _ _ _ _ _ => (pe_tup (pa_cons (pv 14) (pa_cons (pe_dget (hu_of hr) (pv 12) (pv 14) (fun _ _ => rfl)) pa_nil))))) pa_nil)) pa_nil)))))
    (pss_one (ps_if (pt_not (pt_val (pe_call GR hr (by rfl) gR kR bR .nil pass0 (pa_cons (pv 15) (pa_cons (pv 13) (pa_cons (pv 9) (pa_cons (pv 6) (pa_cons (pe_slice sl_list (pv 4) (po_some pe_int) (po_some pe_int)) pa_nil)))))))) (pss_one (ps_ret pe_bl)) pss_nil)))))))))
    (pss_one (ps_ret pe_bl))))))), ?_⟩
  refine ⟨_, rfl, a, ns, rfl, hS, hl, fun d c G0 s0 nd nc dk0 => ?_⟩
  have tb0 := tb.same s0
  refine ⟨8, rfl, by decide, by decide, fun W nW => ?_⟩
  have offW := dk0.off nW
  refine lc_range (lo := 0) (n := 8) (fun i G => Kp d c G0 G ∧ Dk G d c ∧ ∃ ks : List Int, ks.length = i ∧ G W = some (.lst (ks.map V.int))) ⟨Kp.of (newS nW), dk0.same (newS nW), [], rfl, upd_same⟩ (fun i G hi z => ?_) (fun G1 z => ?_)
  · obtain ⟨kpi, dki, ks, lk, gW⟩ := z
    refine ⟨rfl, _, rfl, d, c, 8, rfl, dki, by decide, by decide, fun r G2 r0 r1 kp2 dk2 => ?_⟩
    refine ⟨ks.map V.int, kp2 W _ offW.1 offW.2 gW, small1000 (by rw [List.length_map]; omega), kpPut (kpi.trans kp2) nW, dk2.putO offW.1 offW.2, ks ++ [r], by rw [List.length_append, lk]; rfl, ?_⟩
    rw [upd_same, List.map_append]
    rfl
  obtain ⟨kp1, dk1, ws, _, gW1⟩ := z
  have tb1 := tb0.kp kp1 dk0
  refine ⟨_, rfl, d, c, 13, rfl, dk1, by decide, by decide, fun o xs G2 kp2 dk2 no go lx nx ndx _ => ?_⟩
  have l13 : xs.length = 13 := lx
  have offo := dk1.off no
  have cut10 : cutV (xs.map V.str) (some 10) none = (xs.drop 10).map V.str := by
    rw [show (10 : Int) = ((10 : Nat) : Int) from rfl, cutLo, List.map_drop]
  refine ⟨_, rfl, 10, rfl, o, _, rfl, SqL.of go, fun oh noh => ?_⟩
  rw [cut10]
  have offh := dk2.off noh
  refine objG noh fun G3 s3 g3 => ?_
  generalize ehs : xs.drop 10 = hs at g3 ⊢
  have lhs : hs.length = 3 := by rw [← ehs, List.length_drop]; omega
  have hsx : ∀ x ∈ hs, x ∈ xs := fun x hx => List.mem_of_mem_drop (by rw [ehs]; exact hx)
  refine ⟨_, rfl, _, rfl, d, c, o, xs, rfl, dk2.same s3, s3 _ _ go, offo.1, offo.2, l13, ndx, nx, fun b kn G4 kp4 dk4 kns ok n1 n4 => ?_⟩
  have li0 : LI T d c W o oh b ws xs hs kn G4 := ⟨dk4, ((tb1.kp kp2 dk1).same s3).kp kp4 (dk2.same s3), kp4 W _ offW.1 offW.2 (s3 _ _ (kp2 W _ offW.1 offW.2 gW1)), offW, kp4 o _ offo.1 offo.2 (s3 _ _ go), offo, kp4 oh _ offh.1 offh.2 g3, offh, kns⟩
  have nk : NoK xs := ⟨ndx, by omega, nx⟩
  refine ⟨_, rfl, W, rfl, ⟨_, SqL.of li0.w_⟩, for_list (K := K) (a := W) (xs := ws.map V.int) (fun i σ G => (∃ y7 y8 y9 y10 y11 y12 y13 y15, σ = [some (.ref a), some (.ref d), none, some (.ref W), some (.ref o), some (.ref oh), some (.ref b), y7, y8, y9, y10, y11, y12, y13, none, y15]) ∧ LI T d c W o oh b ws xs hs kn G) ⟨⟨_, _, _, _, _, _, _, _, rfl⟩, li0⟩ (fun i σ G _ z => SqL.of z.2.w_) (fun i u σ G hu z => ?_) (fun σ G z => q G)⟩
  obtain ⟨⟨y7, y8, y9, y10, y11, y12, y13, y15, rfl⟩, li⟩ := z
  obtain ⟨r, _, rfl⟩ : ∃ r, ws[i]? = some r ∧ u = .int r := by
    rw [List.getElem?_map] at hu
    obtain ⟨r, e1, e2⟩ := Option.map_eq_some_iff.mp hu
    exact ⟨r, e1, e2.symm⟩
  refine ⟨_, rfl, oh, rfl, ⟨_, SqL.of li.h_⟩, fun D nD => ?_⟩
  have offD := li.dk.off nD
  refine lc_list (K := K) (a := oh) (xs := hs.map V.str) (fun i F => Kp d c G F ∧ Dk F d c ∧ ∃ js : List Str, F D = some (.lst (js.map V.str)) ∧ (∀ y ∈ js, y ∈ hs) ∧ js.length ≤ i) ⟨Kp.of (newS nD), li.dk.same (newS nD), [], upd_same, fun y hy => (by cases hy), Nat.le_refl _⟩ (fun i F _ z => SqL.of (z.1 oh _ offh.1 offh.2 li.h_)) (fun i u F hu z => ?_) (fun F z => ?_)
  · obtain ⟨kpF, dkF, js, gD, mj, lj⟩ := z
    obtain ⟨y, hy, rfl⟩ : ∃ y, hs[i]? = some y ∧ u = .str y := by
      rw [List.getElem?_map] at hu
      obtain ⟨r, e1, e2⟩ := Option.map_eq_some_iff.mp hu
      exact ⟨r, e1, e2.symm⟩
    have li := (List.getElem?_eq_some_iff.mp hy).1
    refine ⟨rfl, _, rfl, d, c, 3, rfl, dkF, by decide, by decide, fun r3 F2 r30 r31 kpF2 dkF2 => ⟨_, _, rfl, rfl, _, rfl, ite2 (fun _ => ?_) (fun _ => ⟨kpF.trans kpF2, dkF2, js, kpF2 D _ offD.1 offD.2 gD, mj, by omega⟩)⟩⟩
    refine ⟨_, rfl, js.map V.str, kpF2 D _ offD.1 offD.2 gD, small1000 (by rw [List.length_map]; omega), kpPut (kpF.trans kpF2) nD, dkF2.putO offD.1 offD.2, js ++ [y], ?_, ?_, ?_⟩
    · rw [upd_same, List.map_append]
      rfl
    · intro v hv
      rcases List.mem_append.mp hv with hv | hv
      · exact mj v hv
      · rw [List.mem_singleton.mp hv]
        exact List.mem_of_getElem? hy
    · rw [List.length_append]
      show js.length + 1 ≤ _
      omega
  obtain ⟨kpF, dkF, js, gD, mj, lj⟩ := z
  rw [List.length_map] at lj
  have li1 := li.kp kpF dkF
  refine ⟨D, js, rfl, SqL.of gD, by omega, fun lk q1 pm _ nq1 => objG nq1 fun G5 s5 g5 => ⟨q1, _, rfl, .inl ⟨SqL.of g5, fun la nla => objG nla fun G6 s6 g6 => ?_⟩⟩⟩
  have mlk : ∀ y ∈ lk, y ∈ hs := fun y hy => mj y (pm.mem_iff.mp hy)
  have llk : lk.length ≤ 13 := by rw [pm.length_eq]; omega
  have li2 := (li1.same s5).same s6
  obtain ⟨rs, kb, kr⟩ := li2.kn
  have lrs := kr.length
  refine ⟨_, rfl, _, rfl, d, c, b, _, rfl, li2.dk, kb, by rw [List.length_map]; omega, by rw [List.length_map]; omega, fun v G7 kp7 dk7 mv => ?_⟩
  obtain ⟨row, hrow, rfl⟩ := List.mem_map.mp mv
  obtain ⟨jr, hjr⟩ := List.getElem?_of_mem hrow
  obtain ⟨wk, hwk, lo, kv, hr7, hlo, rk⟩ := paired_get kr hjr
  have hw := List.mem_of_getElem? hwk
  have tk7 := Tk.kp kp7 li2.dk
  have li3 := li2.kp kp7 dk7
  have bw := ok.bd wk hw
  have hlo7 := tk7 _ _ hlo
  have rk7 := rk.tk tk7
  have g67 := tk7 _ _ g6
  refine ⟨row, _, rfl, SqT.of (tk7 _ _ hr7), rfl, _, _, rfl, _, _, rfl, _, _, rfl, rfl, ?_⟩
  refine ⟨_, rfl, _, rfl, _, rfl, _, rfl, _, rfl, _, rfl, _, rfl, d, c, lo, la, oh, kv, wk.k, wk.lo, lk, hs, xs, rfl, dk7, hlo7, rk7, bw.dp, bw.op, by omega, g67, mlk, by omega, li3.h_, offh.1, offh.2, by omega, (fun x hx => nx x (hsx x hx)), fun p kvs G8 kp8 dk8 np df => ?_⟩
  have offp := dk7.off np
  have li4 := li3.kp kp8 dk8
  have tk8 := Tk.kp kp8 dk7
  refine ⟨_, rfl, _, rfl, d, c, p, o, oh, r, xs, hs, kvs, rfl, dk8, offp.1, offp.2, df, li4.o_, offo.1, offo.2, l13, nx, li4.h_, offh.1, offh.2, lhs, fun G9 sp => ?_⟩
  obtain ⟨k9, dk9, kvs9, df9⟩ := sp
  have li5 := li4.k3 df.at_ k9 dk9
  have tk9 : Tk G8 G9 := fun b' ys e => k9 b' _ (dk8.offT e).1 (dk8.offT e).2 (fun z => by rw [z, df.at_] at e; cases e) e
  have hlo9 := tk9 _ _ (tk8 _ _ hlo7)
  have rk9 := (rk7.tk tk8).tk tk9
  have gla9 := tk9 _ _ (tk8 _ _ g67)
  obtain ⟨g, rv, hg⟩ := df9.fn
  obtain ⟨ks, eks, mks⟩ := keys_s df9.nm.ns
  have nks : ks.Nodup := inr_nodup (by rw [← eks]; exact df9.nm.nd)
  have lks : ks.length ≤ 13 := by rw [← l13]; exact nodup_le nks mks
  have inK : ∀ x, x ∈ ks ↔ ∃ t, g x = some t := fun x => by
    rw [rv_iff (rv x), eks]
    constructor
    · exact fun h => List.mem_map.mpr ⟨x, h, rfl⟩
    · intro h
      obtain ⟨y, hy, e⟩ := List.mem_map.mp h
      cases e
      exact hy
  refine ⟨fun σ F => ∃ u, σ = [some (.ref a), some (.ref d), none, some (.ref W), some (.ref o), some (.ref oh), some (.ref b), some (.int r), some (.str wk.nm), some (.ref la), some (.ref lo), some kv, some (.ref p), some u, none, y15] ∧ Same G9 F ∧ (Due wk.lo lk wk.k g → Rp0 F (wk.k.fill g) u) ∧ (¬ Due wk.lo lk wk.k g → u = .non), ?_, ?_⟩
  · exact ⟨_, rfl, _, rfl, _, rfl, _, rfl, lo, p, la, kv, wk.k, wk.lo, lk, xs, hs, kvs9, g, rfl, hlo9, rk9, bw.dp, bw.op, nx, by omega, df9, rv, gla9, (ok.lo wk hw).1, fun hd u F s r => ⟨u, rfl, s, fun _ => r, fun z => absurd hd z⟩, fun hd F s => ⟨_, rfl, s, fun z => absurd z hd, fun _ => rfl⟩⟩
  rintro σ F ⟨u, rfl, sF, hdu, hnd⟩
  refine ⟨fun σ F => ∃ nm u, σ = [some (.ref a), some (.ref d), none, some (.ref W), some (.ref o), some (.ref oh), some (.ref b), some (.int r), some (.str nm), some (.ref la), some (.ref lo), some kv, some (.ref p), some u, none, y15] ∧ Same G9 F ∧ nm ∈ xs ∧ ∀ ys : List Str, (∀ x, x ∈ ys ↔ ∃ t, g x = some t) → DueV F (chk ⟨lk, kn⟩ (.told nm (fsOf ys g)) Ek.none) u, ?_, ?_⟩
  · refine ⟨_, rfl, rfl, _, rfl, ite2 (fun _ => ?_) (fun _ => ⟨wk.nm, u, rfl, sF, List.mem_of_mem_take (ok.nm wk hw), fun ys h => ?_⟩)⟩
    · have l9 : 9 < xs.length := by omega
      have e9 : (xs.map V.str)[9]? = some (.str xs[9]) := by rw [List.getElem?_map, List.getElem?_eq_getElem l9]; rfl
      refine ⟨_, rfl, o, _, _, _, rfl, rfl, SqL.of (sF _ _ li5.o_), atI_nat (j := 9) e9, _, _, rfl, xs[9], _, rfl, sF, List.getElem_mem l9, fun ys h => ?_⟩
      rw [chk_none Ek.none (kw_none fun w2 h2 e => ?_)]
      · rfl
      · have m4 := ok.nm w2 h2
        rw [e] at m4
        obtain ⟨j, hj⟩ := List.getElem?_of_mem m4
        rw [List.getElem?_take] at hj
        split at hj
        · rename_i lt
          have l2 := (List.getElem?_eq_some_iff.mp hj)
          exact (List.pairwise_iff_getElem.mp ndx) j 9 l2.1 l9 (by omega) l2.2
        · cases hj
    · obtain ⟨c1, c2⟩ := chk_told (xs := xs) (lk := lk) Ek.none h ok hw
      by_cases hd : Due wk.lo lk wk.k g
      · rw [c1 hd]
        exact hdu hd
      · rw [c2 hd]
        exact hnd hd
  rintro σ F ⟨nm, u, rfl, sF, mnm, due⟩
  have df10 : DF F p xs hs kvs9 := df9.tk (sF _ _ df9.at_) (.of sF)
  have li6 := li5.same sF
  refine ⟨_, rfl, _, rfl, p, _, ks, rfl, .inl df10.at_, eks, by omega, fun ys l pm2 sr nl => objG nl fun B1 t1 b1 => ?_⟩
  have inY : ∀ x, x ∈ ys ↔ ∃ t, g x = some t := fun x => pm2.mem_iff.trans (inK x)
  have nys : ys.Nodup := pm2.nodup_iff.mpr nks
  have yx : ∀ y ∈ ys, y ∈ xs := fun y hy => mks y (pm2.mem_iff.mp hy)
  have lys : ys.length ≤ 13 := by rw [pm2.length_eq]; exact lks
  have df11 : DF B1 p xs hs kvs9 := df10.tk (t1 _ _ df10.at_) (.of t1)
  have rvB : ∀ x, RV B1 (g x) (valV kvs9 (.inr x)) := fun x => ((rv x).tk (.of sF)).tk (.of t1)
  refine ⟨l, rfl, ⟨_, SqL.of b1⟩, fun D2 nD2 => ?_⟩
  refine lc_list (K := K) (a := l) (xs := ys.map V.str) (fun i F => Same B1 F ∧ ∃ (ps : List Addr) (ks' : List (Key × V)), F D2 = some (.lst (ps.map V.ref)) ∧ ps.length = i ∧ Paired (fun p kv => F p = some (.tup [kV kv.1, kv.2])) ps ks' ∧ Paired (fun (kv : Key × V) (f : Str × Kd) => kv.1 = .inr f.1 ∧ Rp0 F f.2 kv.2) ks' (fsOf (ys.take i) g)) ⟨newS nD2, [], [], upd_same, rfl, .nil, .nil⟩ (fun i F _ z => SqL.of (z.1 _ _ b1)) (fun i x F hx z => ?_) (fun F9 z => ?_)
  · obtain ⟨sB, ps, ks', gD2, lps, pr1, pr2⟩ := z
    obtain ⟨y, hy, rfl⟩ : ∃ y, ys[i]? = some y ∧ x = .str y := by
      rw [List.getElem?_map] at hx
      obtain ⟨r, e1, e2⟩ := Option.map_eq_some_iff.mp hx
      exact ⟨r, e1, e2.symm⟩
    have hm := List.mem_of_getElem? hy
    have li := (List.getElem?_eq_some_iff.mp hy).1
    obtain ⟨vy, ev⟩ := valV_in ((rv_iff (rvB y)).mp ((inY y).mp hm))
    have ry := rvB y
    rw [ev] at ry
    obtain ⟨ty, eg, ry⟩ := rv_some ry
    have DG : DGet F p (.str y) (some vy) := ev ▸ DGet.k (k := Sum.inr y) (sB _ _ df11.at_)
    refine ⟨rfl, _, rfl, _, rfl, _, rfl, p, vy, rfl, DG, (by show 2 ≤ sizeLine; decide), fun tp ntp => objG ntp fun F2 u2 v2 => ?_⟩
    have gD3 := u2 _ _ gD2
    have tkO : Tk F2 (upd F2 D2 (.lst (ps.map V.ref ++ [.ref tp]))) := Tk.rfl.put (fun _ z => by rw [gD3] at z; cases z)
    have tkA : Tk F (upd F2 D2 (.lst (ps.map V.ref ++ [.ref tp]))) := (Tk.of u2).trans tkO
    refine ⟨ps.map V.ref, gD3, small1000 (by rw [List.length_map]; omega), sPutS (sB.trans u2) nD2, ps ++ [tp], ks' ++ [(.inr y, vy)], ?_, by rw [List.length_append, lps]; rfl, ?_, ?_⟩
    · rw [upd_same, List.map_append]
      rfl
    · exact Paired.snoc (Paired.mapP pr1 fun _ _ e => tkA _ _ e) (tkO _ _ v2)
    · rw [List.take_add_one, hy]
      show Paired _ _ (fsOf (ys.take i ++ [y]) g)
      unfold fsOf
      rw [List.map_append]
      refine Paired.snoc (Paired.mapP pr2 fun _ _ e => ⟨e.1, e.2.tk tkA⟩) ⟨rfl, ?_⟩
      show Rp0 _ ((g y).getD .num) vy
      rw [eg]
      exact (ry.tk (.of sB)).tk tkA
  obtain ⟨sB, ps, ks', gD2, _, pr1, pr2⟩ := z
  rw [List.length_map, List.take_length] at pr2
  refine ⟨D2, _, rfl, SqL.of gD2, fun l2 ob n2 od oc => objG n2 fun F3 u3 v3 => ⟨(by show 3 ≤ sizeLine; decide), fun tm ntm => objG ntm fun F4 u4 v4 => ?_⟩⟩
  have sFin : Same F F4 := (t1.trans sB).trans (u3.trans u4)
  have li7 := li6.same sFin
  have rf : RF F4 l2 (fsOf ys g) := ⟨ob, ps, ks', u4 _ _ v3, od, oc, Paired.mapP pr1 fun _ _ e => (u3.trans u4) _ _ e, Paired.mapP pr2 fun _ _ e => ⟨e.1, e.2.tk (.of (u3.trans u4))⟩⟩
  have fz : Fz F4 (.told nm (fsOf ys g)) (.ref tm) := ⟨tm, l2, rfl, v4, rf⟩
  have s94 := sF.trans sFin
  refine ⟨_, rfl, _, rfl, _, rfl, _, rfl, _, rfl, 4, rfl, 9, rfl, o, _, rfl, SqL.of li7.o_, fun om nom => ?_⟩
  rw [cut49 l13]
  refine objG nom fun F5 u5 v5 => ?_
  have li8 := li7.same u5
  refine ⟨.ref tm, u, la, b, om, xs, (xs.drop 4).take 5, .told nm (fsOf ys g), ⟨lk, kn⟩, rfl, ⟨fz.same u5, (s94.trans u5) _ _ gla9, li8.kn, li8.tb, v5, (due ys inY).tk (.of (sFin.trans u5))⟩, ?_, fun F6 m6 => ⟨_, rfl, iteF ⟨⟨_, _, _, _, _, _, _, _, rfl⟩, li8.sm m6⟩⟩⟩
  exact arp_mk nk ok hsx (by omega) mnm sr nys yx inY hg l13 (fun y hy => List.mem_of_mem_drop (List.mem_of_mem_take hy)) (by rw [List.length_take, List.length_drop]; omega) (ndx.sublist ((List.take_sublist _ _).trans (List.drop_sublist _ _)))
end
end Kq

/-! the end where some of the defs hold generator expressions -/
namespace Kg
open PySem PySem.Spec PyProof.Rows L2 LamX
/-- the def's code object, its table: empty -/
def TabOf (mg : Str → Option Value) (h : Heap) (x : Str) : Prop := ∃ (a : Addr) (o : Obj) (fd : FuncData) (c p : Addr), mg x = some (.ref a) ∧ h.get? a = some o ∧ o.data = .func fd ∧ fd.code = .ref c ∧ h.IsCode c p #[] ∧ h.TableAt c p #[]
theorem walk_ofNs {l : PySem.W.OpenLaw} {n k : Nat} {q : Program} {loose : List Str} {XP : (Str → Option Value) → Heap → Prop} {YP : World → Heap → Prop} {d : DefRec} {K : Params → PySem.W.Frag} {CX : World → CXT} {x : Str} (names : List Str)
    (hn : l.most = some n) (hn2 : n ≤ sizeLine) (hdf : d.params.defaults = []) (hr : Room k callerA) (hrec : (names.all fun y => (recsOf q).any fun e => e.name == y) = true) (hY : ∀ (w : World) (h : Heap), YP w h → (K w.params).In h)
    (F : ∀ (w : World) (mg : Str → Option Value) (fa : Addr) (h : Heap), YP w h → (K w.params).In h → h.Ns mainGlobals mg → mg d.name = some (.ref fa) → (∀ y ∈ names, TabOf mg h y) → LawAtS l w (K w.params) (CX w) k n x mg fa h)
    (hCX : ∀ (w : World) (H : Hp) (s : Shared) (e : Value) (s' : Shared), CX w [] H s (fun _ _ _ => False) e s' → False) :
    PySem.W.WalkO q loose XP YP l.row.toRowW d [] (fun f vs => PySem.call f vs) := by
  refine Att.attach_callB hn hdf fun w s₀ s₁ mg mb fa o pm cd doc a vs ns G Y ho hd hcd hmg hobj hints hlen hbits hg => ?_
  have KX := hY w _ Y
  have own : ∀ y ∈ names, TabOf mg s₁.heap y := fun y hy => by
    obtain ⟨dL, hm, hn1⟩ := List.any_eq_true.mp (List.all_eq_true.mp hrec y hy)
    have hn2 : dL.name = y := beq_iff_eq.mp hn1
    obtain ⟨a', o', fd', c', P', h1, h2, h3, h4, h5, h6⟩ := G.T.tab dL hm
    exact ⟨a', o', fd', c', P', by rw [← hn2]; exact h1, h2, h3, h4, h5, h6⟩
  obtain ⟨fd, cs, sp, hT, nT, C, hb, hsp, hF⟩ := F w mg fa _ Y KX G.T.g hmg own
  exact law_callTs KX G.T.g G.T.b G.T.builtins G.T.nolimit hg hT nT C G.T.bmain hobj hints (Nat.le_trans hlen hn2) hr hF hb (fun H hH hS => hsp H a ns hlen hbits hH hS) fun H e s' => hCX w H s₁ e s'
/-- such a def by what is written of it -/
theorem tabOf_at {K : PySem.W.Frag} {mg : Str → Option Value} {h : Heap} {x name qual : Str} {f c p : Addr} {params : Arguments} {body : List Stmt} {scope : Scope} {oc dV kV doc pm ct e : Value} {od an dd : Option Addr} {sl sl' : Array (Option Value)} {vs : Array Value} (X : K.In h) (T : TabOf mg h x) (g : mg x = some (.ref f))
    (l : K.lookup f = some ⟨oc, od, .func (PySem.W.fnOf name qual params body scope dV kV doc pm an (.ref c) ct), sl⟩) (t : K.lookup c = some ⟨e, dd, .fields vs, sl'⟩) (v : vs[11]? = some (.ref p)) :
    h.get? p = some { cls := .none, data := .fields #[] } ∧ PySem.W.CodeHd h c p := by
  obtain ⟨a', o', fd', c', P', h1, h2, h3, h4, h5, h6⟩ := T
  rw [g] at h1
  cases h1
  rw [X _ _ l] at h2
  cases h2
  cases h3
  cases h4
  obtain ⟨⟨oc', vc, e1, e2, e3, e4⟩, hP⟩ := id h6
  rw [X _ _ t] at e1
  cases e1
  cases e3
  rw [v] at e4
  cases e4
  exact ⟨hP, .of h5 h6⟩
end Kg

namespace Kq
open PySem PySem.Spec PyProof.Rows L2 Kf Kg Kv GxR RZ Kk Ku
section
variable {K : PySem.W.Frag} {t : Value} {n C : Addr} {b : Bool}
theorem kit_self : PySem.W.kitOne K (.ref n) (.ref n) = some true := by
  unfold PySem.W.kitOne
  rw [if_pos (by simp)]
theorem kit_cl (iC : PySem.W.isClsIn K C = true) (tC : PySem.W.typeIn K (.ref C) = some (.type "type")) (s : PySem.W.subIn K t (.ref C) = some b) : PySem.W.kitCls K t (.ref C) = some b := by
  unfold PySem.W.isClsIn at iC
  show (if ((PySem.W.clsIn K C).isSome && PySem.W.typeIn K (.ref C) == some (.type "type")) = true then PySem.W.subIn K t (.ref C) else none) = _
  rw [if_pos (by rw [iC, tC]; simp)]
  exact s
theorem kit_no (ne : (Value.ref n == Value.ref C) = false) (iC : PySem.W.isClsIn K C = true) (tC : PySem.W.typeIn K (.ref C) = some (.type "type")) (s : PySem.W.subIn K (.ref n) (.ref C) = some false) : PySem.W.kitOne K (.ref n) (.ref C) = some false := by
  unfold PySem.W.kitOne
  rw [if_neg (by rw [ne]; exact Bool.false_ne_true)]
  exact kit_cl iC tC s
theorem kit_tyV (s : PySem.W.subIn K (.ref n) (.type "ValueError") = some true) : PySem.W.kitOne K (.ref n) (.type "ValueError") = some true := by
  unfold PySem.W.kitOne
  rw [if_neg (show ¬ (Value.ref n == Value.type "ValueError") = true from Bool.false_ne_true)]
  show (if PySem.W.kitMeta "ValueError" = true then PySem.W.subIn K (.ref n) (.type "ValueError") else none) = _
  rw [if_pos (by decide +kernel)]
  exact s
theorem any_no {c : Value} {r : List Value} (h : PySem.W.kitOne K t c = some false) (k : PySem.W.kitAny K t r = some false) : PySem.W.kitAny K t (c :: r) = some false := by
  unfold PySem.W.kitAny
  rw [h]
  exact k
theorem exm_yes {c : Value} (sB : PySem.W.subIn K (.ref C) (.type "BaseException") = some true) (iC : PySem.W.isClsIn K C = true) (tC : PySem.W.typeIn K (.ref C) = some (.type "type")) (s : PySem.W.subIn K c (.ref C) = some true) : PySem.W.exmOne K c (.ref C) = some true := by
  unfold PySem.W.exmOne
  rw [if_pos (by rw [sB]; simp)]
  exact kit_cl iC tC s
end

def KeysAre : List DictEntry → List (Str × Value) → Prop
  | [], [] => True
  | e :: es, (x, v) :: xs => (∃ t, e.key = .str x t) ∧ e.val = v ∧ KeysAre es xs
  | _, _ => False
theorem find_keys (z : Str) : ∀ {es : List DictEntry} {xs : List (Str × Value)}, KeysAre es xs → (es.find? (·.key.isStr z)).map (·.val) = xs.lookup z ∧ es.any (·.refKey) = false
  | [], [], _ => ⟨rfl, rfl⟩
  | e :: es, (x, v) :: xs, h => by
    obtain ⟨⟨t, h1⟩, h2, h3⟩ := h
    obtain ⟨i1, i2⟩ := find_keys z h3
    have e1 : e.key.isStr z = (z == x) := by
      rw [h1]
      show (x == z) = (z == x)
      by_cases c : x = z
      · subst c
        rfl
      · rw [beq_eq_false_iff_ne.mpr c, beq_eq_false_iff_ne.mpr (Ne.symm c)]
    have e2 : e.refKey = false := by
      unfold DictEntry.refKey
      rw [h1]
    refine ⟨?_, by rw [List.any_cons, e2, i2]; rfl⟩
    rw [List.find?_cons, List.lookup_cons, e1]
    cases c : (z == x) with
    | true => exact congrArg some h2
    | false => exact i1
  | [], _ :: _, h => h.elim
  | _ :: _, [], h => h.elim
theorem ns_keys {K : PySem.W.Frag} {a : Addr} {es : Array DictEntry} {n : Nat} {xs : List (Str × Value)} (l : K.lookup a = some ⟨.type "dict", none, .dict es n, #[]⟩) (h : KeysAre es.toList xs) (z : Str) : PySem.W.nsIn K a z = some (xs.lookup z) := by
  obtain ⟨i1, i2⟩ := find_keys z h
  unfold PySem.W.nsIn
  rw [l]
  simp only
  cases c : es.toList.find? (·.key.isStr z) with
  | some e =>
    rw [c] at i1
    exact congrArg some i1
  | none =>
    rw [c] at i1
    simp only [i2]
    exact congrArg some i1

theorem tt_of {x : Str} {q : Program} {mg : Str → Option Value} {h : Heap} (hrec : ((recsOf q).any fun e => e.name == x) = true)
    (tabs : ∀ e ∈ recsOf q, ∃ (a : Addr) (o : Obj) (fd : FuncData) (c p : Addr), mg e.name = some (.ref a) ∧ h.get? a = some o ∧ o.data = .func fd ∧ fd.code = .ref c ∧ h.IsCode c p #[] ∧ h.TableAt c p #[]) : Kg.TabOf mg h x := by
  obtain ⟨dL, hm, hn1⟩ := List.any_eq_true.mp hrec
  obtain ⟨a', o', fd', c', P', h1, h2, h3, h4, h5, h6⟩ := tabs dL hm
  exact ⟨a', o', fd', c', P', by rw [← (beq_iff_eq.mp hn1)]; exact h1, h2, h3, h4, h5, h6⟩
theorem tabX {base : Heap} {mg : Str → Option Value} {c p : Addr} (t : LamX.TabB base mg c p) : GxR.TabB base mg c p := ⟨t.code, t.bm, t.gP⟩
inductive Rl2 (R : List Str → Value → Prop) : List (Str × List Str) → List (Str × Value) → Prop
  | nil : Rl2 R [] []
  | cons {z : Str} {rs : List Str} {u : Value} {xs : List (Str × List Str)} {ys : List (Str × Value)} : R rs u → Rl2 R xs ys → Rl2 R ((z, rs) :: xs) ((z, u) :: ys)
theorem Rl2.look {R : List Str → Value → Prop} (k : Str) : ∀ {xs : List (Str × List Str)} {ys : List (Str × Value)}, Rl2 R xs ys → (xs.lookup k = none → ys.lookup k = none) ∧ ∀ rs, xs.lookup k = some rs → ∃ u, ys.lookup k = some u ∧ R rs u
  | _, _, .nil => ⟨fun _ => rfl, fun _ h => by cases h⟩
  | _, _, .cons (z := z) (u := u) r t => by
    obtain ⟨h1, h2⟩ := t.look k
    rw [List.lookup_cons, List.lookup_cons]
    cases c : (k == z) with
    | true => exact ⟨fun h => (by cases h), fun rs h => ⟨u, rfl, by rw [← Option.some.inj h]; exact r⟩⟩
    | false => exact ⟨h1, h2⟩
theorem all_mk {l : PySem.W.OpenLaw} {w : World} {K : PySem.W.Frag} {h : Heap} {mg : Str → Option Value} {fa dA dB dR cN cK tD u_num u_plus u_less u_truth u_if u_pair u_first u_second u_left u_right u_case u_none u_more u_fold u_built u_alike u_fault u_rounds x1 x2 x3 x4 x5 x6 x7 x8 x9 x10 x11 x12 o1 o2 o3 o4 o5 o6 o7 r1 r2 r3 r4 r5 r6 r7 r8 r9 r10 r11 r12 r13 r14 r15 r16 r17 r18 r19 r20 r21 r22 f1 f2 f3 f4 f5 f6 f7 f8 f9 f10 f11 f12 f13 f14 f15 f16 f17 f18 f19 f20 f21 f22 f23 f24 f25 f26 f27 f28 f29 f30 f31 f32 f33 f34 f35 f36 f37 f38 f39 f40 f41 f42 f43 f44 f45 f46 f47 f48 f49 c1 p1 c6 p6 c18 p18 c15 p15 : Addr} (X : K.In h) (G : h.Ns mainGlobals mg) (hfa : mg "law" = some (.ref fa))
    (TT1 : Kg.TabOf mg h "is_name")
    (TT6 : Kg.TabOf mg h "is_rising")
    (TT18 : Kg.TabOf mg h "is_fills")
    (TT15 : Kg.TabOf mg h "has_term_form")
    {od1 an1 od2 an2 od3 an3 od4 an4 od5 an5 od6 an6 od7 an7 od8 an8 od9 an9 od10 an10 od11 an11 od12 an12 od13 an13 od14 an14 od15 an15 od16 an16 od17 an17 od18 an18 od19 an19 od20 an20 od21 an21 od22 an22 od23 an23 od24 an24 od25 an25 od26 an26 od27 an27 od28 an28 od29 an29 od30 an30 od31 an31 od32 an32 od33 an33 od34 an34 od35 an35 od36 an36 od37 an37 od38 an38 od39 an39 od40 an40 od41 an41 od42 an42 od43 an43 od44 an44 od45 an45 od46 an46 od47 an47 od48 an48 od49 an49 dd1 dd6 dd18 dd15 dT1 dT2 dT3 dT4 dT5 dT6 dT7 dQ1 dQ2 dQ3 dQ4 dQ5 dQ6 dQ7 dQ8 dQ9 dQ10 dQ11 dQ12 dQ13 dQ14 dQ15 dQ16 dQ17 dQ18 dQ19 dQ20 dQ21 dQ22 dD : Option Addr} {sl1 sl2 sl3 sl4 sl5 sl6 sl7 sl8 sl9 sl10 sl11 sl12 sl13 sl14 sl15 sl16 sl17 sl18 sl19 sl20 sl21 sl22 sl23 sl24 sl25 sl26 sl27 sl28 sl29 sl30 sl31 sl32 sl33 sl34 sl35 sl36 sl37 sl38 sl39 sl40 sl41 sl42 sl43 sl44 sl45 sl46 sl47 sl48 sl49 sm1 sm6 sm18 sm15 sT1 sT2 sT3 sT4 sT5 sT6 sT7 sQ1 sQ2 sQ3 sQ4 sQ5 sQ6 sQ7 sQ8 sQ9 sQ10 sQ11 sQ12 sQ13 sQ14 sQ15 sQ16 sQ17 sQ18 sQ19 sQ20 sQ21 sQ22 slD : Array (Option Value)} {es esB esR : Array DictEntry} {nD nB nR nDd nT1 nT2 nT3 nT4 nT5 nT6 nT7 nQ1 nQ2 nQ3 nQ4 nQ5 nQ6 nQ7 nQ8 nQ9 nQ10 nQ11 nQ12 nQ13 nQ14 nQ15 nQ16 nQ17 nQ18 nQ19 nQ20 nQ21 nQ22 : Nat} {oc1 kV1 dc1 pm1 ct1 oc2 kV2 dc2 pm2 ct2 oc3 kV3 dc3 pm3 ct3 oc4 kV4 dc4 pm4 ct4 oc5 kV5 dc5 pm5 ct5 oc6 kV6 dc6 pm6 ct6 oc7 kV7 dc7 pm7 ct7 oc8 kV8 dc8 pm8 ct8 oc9 kV9 dc9 pm9 ct9 oc10 kV10 dc10 pm10 ct10 oc11 kV11 dc11 pm11 ct11 oc12 kV12 dc12 pm12 ct12 oc13 kV13 dc13 pm13 ct13 oc14 kV14 dc14 pm14 ct14 oc15 kV15 dc15 pm15 ct15 oc16 kV16 dc16 pm16 ct16 oc17 kV17 dc17 pm17 ct17 oc18 kV18 dc18 pm18 ct18 oc19 kV19 dc19 pm19 ct19 oc20 kV20 dc20 pm20 ct20 oc21 kV21 dc21 pm21 ct21 oc22 kV22 dc22 pm22 ct22 oc23 kV23 dc23 pm23 ct23 oc24 kV24 dc24 pm24 ct24 oc25 kV25 dc25 pm25 ct25 oc26 kV26 dc26 pm26 ct26 oc27 kV27 dc27 pm27 ct27 oc28 kV28 dc28 pm28 ct28 oc29 kV29 dc29 pm29 ct29 oc30 kV30 dc30 pm30 ct30 oc31 kV31 dc31 pm31 ct31 oc32 kV32 dc32 pm32 ct32 oc33 kV33 dc33 pm33 ct33 oc34 kV34 dc34 pm34 ct34 oc35 kV35 dc35 pm35 ct35 oc36 kV36 dc36 pm36 ct36 oc37 kV37 dc37 pm37 ct37 oc38 kV38 dc38 pm38 ct38 oc39 kV39 dc39 pm39 ct39 oc40 kV40 dc40 pm40 ct40 oc41 kV41 dc41 pm41 ct41 oc42 kV42 dc42 pm42 ct42 oc43 kV43 dc43 pm43 ct43 oc44 kV44 dc44 pm44 ct44 oc45 kV45 dc45 pm45 ct45 oc46 kV46 dc46 pm46 ct46 oc47 kV47 dc47 pm47 ct47 oc48 kV48 dc48 pm48 ct48 oc49 kV49 dc49 pm49 ct49 cd2 cd3 cd4 cd5 cd7 cd8 cd9 cd10 cd11 cd12 cd13 cd14 cd16 cd17 cd19 cd20 cd21 cd22 cd23 cd24 cd25 cd26 cd27 cd28 cd29 cd30 cd31 cd32 cd33 cd34 cd35 cd36 cd37 cd38 cd39 cd40 cd41 cd42 cd43 cd44 cd45 cd46 cd47 cd48 cd49 e1 e6 e18 e15 uL uN uM : Value} {vs1 vs6 vs18 vs15 iT1 iT2 iT3 iT4 iT5 iT6 iT7 iQ1 iQ2 iQ3 iQ4 iQ5 iQ6 iQ7 iQ8 iQ9 iQ10 iQ11 iQ12 iQ13 iQ14 iQ15 iQ16 iQ17 iQ18 iQ19 iQ20 iQ21 iQ22 iD : Array Value}
    (a1 : PySem.W.nsIn K mainGlobals "is_name" = some (some (.ref f1))) (l1 : K.lookup f1 = some ⟨oc1, od1, .func (PySem.W.fnOf "is_name" "is_name" (defArgs tName) (defBody tName) (defScope tName) .none kV1 dc1 pm1 an1 (.ref c1) ct1), sl1⟩)
      (q1 : PySem.W.codeIn K (.ref c1) "is_name" = true) (k1 : PySem.W.keepIn K (.ref f1) = true)
    (a2 : PySem.W.nsIn K mainGlobals "is_truth" = some (some (.ref f2))) (l2 : K.lookup f2 = some ⟨oc2, od2, .func (PySem.W.fnOf "is_truth" "is_truth" (defArgs tTruth) (defBody tTruth) (defScope tTruth) .none kV2 dc2 pm2 an2 cd2 ct2), sl2⟩)
      (q2 : PySem.W.codeIn K cd2 "is_truth" = true) (k2 : PySem.W.keepIn K (.ref f2) = true)
    (a3 : PySem.W.nsIn K mainGlobals "is_whole" = some (some (.ref f3))) (l3 : K.lookup f3 = some ⟨oc3, od3, .func (PySem.W.fnOf "is_whole" "is_whole" (defArgs tWhole) (defBody tWhole) (defScope tWhole) .none kV3 dc3 pm3 an3 cd3 ct3), sl3⟩)
      (q3 : PySem.W.codeIn K cd3 "is_whole" = true) (k3 : PySem.W.keepIn K (.ref f3) = true)
    (a4 : PySem.W.nsIn K mainGlobals "is_number" = some (some (.ref f4))) (l4 : K.lookup f4 = some ⟨oc4, od4, .func (PySem.W.fnOf "is_number" "is_number" (defArgs tNumber) (defBody tNumber) (defScope tNumber) .none kV4 dc4 pm4 an4 cd4 ct4), sl4⟩)
      (q4 : PySem.W.codeIn K cd4 "is_number" = true) (k4 : PySem.W.keepIn K (.ref f4) = true)
    (a5 : PySem.W.nsIn K mainGlobals "is_tagged" = some (some (.ref f5))) (l5 : K.lookup f5 = some ⟨oc5, od5, .func (PySem.W.fnOf "is_tagged" "is_tagged" (defArgs tTagged) (defBody tTagged) (defScope tTagged) .none kV5 dc5 pm5 an5 cd5 ct5), sl5⟩)
      (q5 : PySem.W.codeIn K cd5 "is_tagged" = true) (k5 : PySem.W.keepIn K (.ref f5) = true)
    (a6 : PySem.W.nsIn K mainGlobals "is_rising" = some (some (.ref f6))) (l6 : K.lookup f6 = some ⟨oc6, od6, .func (PySem.W.fnOf "is_rising" "is_rising" (defArgs tRising) (defBody tRising) (defScope tRising) .none kV6 dc6 pm6 an6 (.ref c6) ct6), sl6⟩)
      (q6 : PySem.W.codeIn K (.ref c6) "is_rising" = true) (k6 : PySem.W.keepIn K (.ref f6) = true)
    (a7 : PySem.W.nsIn K mainGlobals "is_data" = some (some (.ref f7))) (l7 : K.lookup f7 = some ⟨oc7, od7, .func (PySem.W.fnOf "is_data" "is_data" (defArgs tIsData) (defBody tIsData) (defScope tIsData) .none kV7 dc7 pm7 an7 cd7 ct7), sl7⟩)
      (q7 : PySem.W.codeIn K cd7 "is_data" = true) (k7 : PySem.W.keepIn K (.ref f7) = true)
    (a8 : PySem.W.nsIn K mainGlobals "has_data_form" = some (some (.ref f8))) (l8 : K.lookup f8 = some ⟨oc8, od8, .func (PySem.W.fnOf "has_data_form" "has_data_form" (defArgs tForm) (defBody tForm) (defScope tForm) .none kV8 dc8 pm8 an8 cd8 ct8), sl8⟩)
      (q8 : PySem.W.codeIn K cd8 "has_data_form" = true) (k8 : PySem.W.keepIn K (.ref f8) = true)
    (a9 : PySem.W.nsIn K mainGlobals "kinds_within" = some (some (.ref f9))) (l9 : K.lookup f9 = some ⟨oc9, od9, .func (PySem.W.fnOf "kinds_within" "kinds_within" (defArgs tWithin) (defBody tWithin) (defScope tWithin) .none kV9 dc9 pm9 an9 cd9 ct9), sl9⟩)
      (q9 : PySem.W.codeIn K cd9 "kinds_within" = true) (k9 : PySem.W.keepIn K (.ref f9) = true)
    (a10 : PySem.W.nsIn K mainGlobals "is_first" = some (some (.ref f10))) (l10 : K.lookup f10 = some ⟨oc10, od10, .func (PySem.W.fnOf "is_first" "is_first" (defArgs tIsFirst) (defBody tIsFirst) (defScope tIsFirst) .none kV10 dc10 pm10 an10 cd10 ct10), sl10⟩)
      (q10 : PySem.W.codeIn K cd10 "is_first" = true) (k10 : PySem.W.keepIn K (.ref f10) = true)
    (a11 : PySem.W.nsIn K mainGlobals "is_argument" = some (some (.ref f11))) (l11 : K.lookup f11 = some ⟨oc11, od11, .func (PySem.W.fnOf "is_argument" "is_argument" (defArgs tIsArg) (defBody tIsArg) (defScope tIsArg) .none kV11 dc11 pm11 an11 cd11 ct11), sl11⟩)
      (q11 : PySem.W.codeIn K cd11 "is_argument" = true) (k11 : PySem.W.keepIn K (.ref f11) = true)
    (a12 : PySem.W.nsIn K mainGlobals "parts_of" = some (some (.ref f12))) (l12 : K.lookup f12 = some ⟨oc12, od12, .func (PySem.W.fnOf "parts_of" "parts_of" (defArgs tParts) (defBody tParts) (defScope tParts) .none kV12 dc12 pm12 an12 cd12 ct12), sl12⟩)
      (q12 : PySem.W.codeIn K cd12 "parts_of" = true) (k12 : PySem.W.keepIn K (.ref f12) = true)
    (a13 : PySem.W.nsIn K mainGlobals "opens_in" = some (some (.ref f13))) (l13 : K.lookup f13 = some ⟨oc13, od13, .func (PySem.W.fnOf "opens_in" "opens_in" (defArgs tOpens) (defBody tOpens) (defScope tOpens) .none kV13 dc13 pm13 an13 cd13 ct13), sl13⟩)
      (q13 : PySem.W.codeIn K cd13 "opens_in" = true) (k13 : PySem.W.keepIn K (.ref f13) = true)
    (a14 : PySem.W.nsIn K mainGlobals "is_term" = some (some (.ref f14))) (l14 : K.lookup f14 = some ⟨oc14, od14, .func (PySem.W.fnOf "is_term" "is_term" (defArgs tIsTerm) (defBody tIsTerm) (defScope tIsTerm) .none kV14 dc14 pm14 an14 cd14 ct14), sl14⟩)
      (q14 : PySem.W.codeIn K cd14 "is_term" = true) (k14 : PySem.W.keepIn K (.ref f14) = true)
    (a15 : PySem.W.nsIn K mainGlobals "has_term_form" = some (some (.ref f15))) (l15 : K.lookup f15 = some ⟨oc15, od15, .func (PySem.W.fnOf "has_term_form" "has_term_form" (defArgs tHasTerm) (defBody tHasTerm) (defScope tHasTerm) .none kV15 dc15 pm15 an15 (.ref c15) ct15), sl15⟩)
      (q15 : PySem.W.codeIn K (.ref c15) "has_term_form" = true) (k15 : PySem.W.keepIn K (.ref f15) = true)
    (a16 : PySem.W.nsIn K mainGlobals "fits" = some (some (.ref f16))) (l16 : K.lookup f16 = some ⟨oc16, od16, .func (PySem.W.fnOf "fits" "fits" (defArgs tFits) (defBody tFits) (defScope tFits) .none kV16 dc16 pm16 an16 cd16 ct16), sl16⟩)
      (q16 : PySem.W.codeIn K cd16 "fits" = true) (k16 : PySem.W.keepIn K (.ref f16) = true)
    (a17 : PySem.W.nsIn K mainGlobals "is_turns" = some (some (.ref f17))) (l17 : K.lookup f17 = some ⟨oc17, od17, .func (PySem.W.fnOf "is_turns" "is_turns" (defArgs tTurns) (defBody tTurns) (defScope tTurns) .none kV17 dc17 pm17 an17 cd17 ct17), sl17⟩)
      (q17 : PySem.W.codeIn K cd17 "is_turns" = true) (k17 : PySem.W.keepIn K (.ref f17) = true)
    (a18 : PySem.W.nsIn K mainGlobals "is_fills" = some (some (.ref f18))) (l18 : K.lookup f18 = some ⟨oc18, od18, .func (PySem.W.fnOf "is_fills" "is_fills" (defArgs tFills) (defBody tFills) (defScope tFills) .none kV18 dc18 pm18 an18 (.ref c18) ct18), sl18⟩)
      (q18 : PySem.W.codeIn K (.ref c18) "is_fills" = true) (k18 : PySem.W.keepIn K (.ref f18) = true)
    (a19 : PySem.W.nsIn K mainGlobals "is_fill" = some (some (.ref f19))) (l19 : K.lookup f19 = some ⟨oc19, od19, .func (PySem.W.fnOf "is_fill" "is_fill" (defArgs tFill) (defBody tFill) (defScope tFill) .none kV19 dc19 pm19 an19 cd19 ct19), sl19⟩)
      (q19 : PySem.W.codeIn K cd19 "is_fill" = true) (k19 : PySem.W.keepIn K (.ref f19) = true)
    (a20 : PySem.W.nsIn K mainGlobals "terms_in" = some (some (.ref f20))) (l20 : K.lookup f20 = some ⟨oc20, od20, .func (PySem.W.fnOf "terms_in" "terms_in" (defArgs tTermsIn) (defBody tTermsIn) (defScope tTermsIn) .none kV20 dc20 pm20 an20 cd20 ct20), sl20⟩)
      (q20 : PySem.W.codeIn K cd20 "terms_in" = true) (k20 : PySem.W.keepIn K (.ref f20) = true)
    (a21 : PySem.W.nsIn K mainGlobals "kind_of" = some (some (.ref f21))) (l21 : K.lookup f21 = some ⟨oc21, od21, .func (PySem.W.fnOf "kind_of" "kind_of" (defArgs tKindOf) (defBody tKindOf) (defScope tKindOf) (.ref tD) kV21 dc21 pm21 an21 cd21 ct21), sl21⟩)
      (q21 : PySem.W.codeIn K cd21 "kind_of" = true) (k21 : PySem.W.keepIn K (.ref f21) = true)
    (a22 : PySem.W.nsIn K mainGlobals "kind_at" = some (some (.ref f22))) (l22 : K.lookup f22 = some ⟨oc22, od22, .func (PySem.W.fnOf "kind_at" "kind_at" (defArgs tKindAt) (defBody tKindAt) (defScope tKindAt) .none kV22 dc22 pm22 an22 cd22 ct22), sl22⟩)
      (q22 : PySem.W.codeIn K cd22 "kind_at" = true) (k22 : PySem.W.keepIn K (.ref f22) = true)
    (a23 : PySem.W.nsIn K mainGlobals "need" = some (some (.ref f23))) (l23 : K.lookup f23 = some ⟨oc23, od23, .func (PySem.W.fnOf "need" "need" (defArgs tNeed) (defBody tNeed) (defScope tNeed) .none kV23 dc23 pm23 an23 cd23 ct23), sl23⟩)
      (q23 : PySem.W.codeIn K cd23 "need" = true) (k23 : PySem.W.keepIn K (.ref f23) = true)
    (a24 : PySem.W.nsIn K mainGlobals "need_same" = some (some (.ref f24))) (l24 : K.lookup f24 = some ⟨oc24, od24, .func (PySem.W.fnOf "need_same" "need_same" (defArgs tNeedSame) (defBody tNeedSame) (defScope tNeedSame) .none kV24 dc24 pm24 an24 cd24 ct24), sl24⟩)
      (q24 : PySem.W.codeIn K cd24 "need_same" = true) (k24 : PySem.W.keepIn K (.ref f24) = true)
    (a25 : PySem.W.nsIn K mainGlobals "formed_at" = some (some (.ref f25))) (l25 : K.lookup f25 = some ⟨oc25, od25, .func (PySem.W.fnOf "formed_at" "formed_at" (defArgs tFormedAt) (defBody tFormedAt) (defScope tFormedAt) .none kV25 dc25 pm25 an25 cd25 ct25), sl25⟩)
      (q25 : PySem.W.codeIn K cd25 "formed_at" = true) (k25 : PySem.W.keepIn K (.ref f25) = true)
    (a26 : PySem.W.nsIn K mainGlobals "of_name" = some (some (.ref f26))) (l26 : K.lookup f26 = some ⟨oc26, od26, .func (PySem.W.fnOf "of_name" "of_name" (defArgs tOfName) (defBody tOfName) (defScope tOfName) .none kV26 dc26 pm26 an26 cd26 ct26), sl26⟩)
      (q26 : PySem.W.codeIn K cd26 "of_name" = true) (k26 : PySem.W.keepIn K (.ref f26) = true)
    (a27 : PySem.W.nsIn K mainGlobals "of_fun" = some (some (.ref f27))) (l27 : K.lookup f27 = some ⟨oc27, od27, .func (PySem.W.fnOf "of_fun" "of_fun" (defArgs tOfFun) (defBody tOfFun) (defScope tOfFun) .none kV27 dc27 pm27 an27 cd27 ct27), sl27⟩)
      (q27 : PySem.W.codeIn K cd27 "of_fun" = true) (k27 : PySem.W.keepIn K (.ref f27) = true)
    (a28 : PySem.W.nsIn K mainGlobals "of_call" = some (some (.ref f28))) (l28 : K.lookup f28 = some ⟨oc28, od28, .func (PySem.W.fnOf "of_call" "of_call" (defArgs tOfCall) (defBody tOfCall) (defScope tOfCall) .none kV28 dc28 pm28 an28 cd28 ct28), sl28⟩)
      (q28 : PySem.W.codeIn K cd28 "of_call" = true) (k28 : PySem.W.keepIn K (.ref f28) = true)
    (a29 : PySem.W.nsIn K mainGlobals "of_told" = some (some (.ref f29))) (l29 : K.lookup f29 = some ⟨oc29, od29, .func (PySem.W.fnOf "of_told" "of_told" (defArgs tOfTold) (defBody tOfTold) (defScope tOfTold) .none kV29 dc29 pm29 an29 cd29 ct29), sl29⟩)
      (q29 : PySem.W.codeIn K cd29 "of_told" = true) (k29 : PySem.W.keepIn K (.ref f29) = true)
    (a30 : PySem.W.nsIn K mainGlobals "filled_kind" = some (some (.ref f30))) (l30 : K.lookup f30 = some ⟨oc30, od30, .func (PySem.W.fnOf "filled_kind" "filled_kind" (defArgs tFilled) (defBody tFilled) (defScope tFilled) .none kV30 dc30 pm30 an30 cd30 ct30), sl30⟩)
      (q30 : PySem.W.codeIn K cd30 "filled_kind" = true) (k30 : PySem.W.keepIn K (.ref f30) = true)
    (a31 : PySem.W.nsIn K mainGlobals "put_in" = some (some (.ref f31))) (l31 : K.lookup f31 = some ⟨oc31, od31, .func (PySem.W.fnOf "put_in" "put_in" (defArgs tPutIn) (defBody tPutIn) (defScope tPutIn) .none kV31 dc31 pm31 an31 cd31 ct31), sl31⟩)
      (q31 : PySem.W.codeIn K cd31 "put_in" = true) (k31 : PySem.W.keepIn K (.ref f31) = true)
    (a32 : PySem.W.nsIn K mainGlobals "need_fills" = some (some (.ref f32))) (l32 : K.lookup f32 = some ⟨oc32, od32, .func (PySem.W.fnOf "need_fills" "need_fills" (defArgs tNeedFills) (defBody tNeedFills) (defScope tNeedFills) .none kV32 dc32 pm32 an32 cd32 ct32), sl32⟩)
      (q32 : PySem.W.codeIn K cd32 "need_fills" = true) (k32 : PySem.W.keepIn K (.ref f32) = true)
    (a33 : PySem.W.nsIn K mainGlobals "_law_deck" = some (some (.ref f33))) (l33 : K.lookup f33 = some ⟨oc33, od33, .func (PySem.W.fnOf "_law_deck" "_law_deck" (defArgs tDeck) (defBody tDeck) (defScope tDeck) .none kV33 dc33 pm33 an33 cd33 ct33), sl33⟩)
      (q33 : PySem.W.codeIn K cd33 "_law_deck" = true) (k33 : PySem.W.keepIn K (.ref f33) = true)
    (a34 : PySem.W.nsIn K mainGlobals "_law_draw" = some (some (.ref f34))) (l34 : K.lookup f34 = some ⟨oc34, od34, .func (PySem.W.fnOf "_law_draw" "_law_draw" (defArgs tDraw) (defBody tDraw) (defScope tDraw) .none kV34 dc34 pm34 an34 cd34 ct34), sl34⟩)
      (q34 : PySem.W.codeIn K cd34 "_law_draw" = true) (k34 : PySem.W.keepIn K (.ref f34) = true)
    (a35 : PySem.W.nsIn K mainGlobals "_law_pick" = some (some (.ref f35))) (l35 : K.lookup f35 = some ⟨oc35, od35, .func (PySem.W.fnOf "_law_pick" "_law_pick" (defArgs tPick) (defBody tPick) (defScope tPick) .none kV35 dc35 pm35 an35 cd35 ct35), sl35⟩)
      (q35 : PySem.W.codeIn K cd35 "_law_pick" = true) (k35 : PySem.W.keepIn K (.ref f35) = true)
    (a36 : PySem.W.nsIn K mainGlobals "_law_names" = some (some (.ref f36))) (l36 : K.lookup f36 = some ⟨oc36, od36, .func (PySem.W.fnOf "_law_names" "_law_names" (defArgs tNames) (defBody tNames) (defScope tNames) .none kV36 dc36 pm36 an36 cd36 ct36), sl36⟩)
      (q36 : PySem.W.codeIn K cd36 "_law_names" = true) (k36 : PySem.W.keepIn K (.ref f36) = true)
    (a37 : PySem.W.nsIn K mainGlobals "_law_data" = some (some (.ref f37))) (l37 : K.lookup f37 = some ⟨oc37, od37, .func (PySem.W.fnOf "_law_data" "_law_data" (defArgs tLData) (defBody tLData) (defScope tLData) .none kV37 dc37 pm37 an37 cd37 ct37), sl37⟩)
      (q37 : PySem.W.codeIn K cd37 "_law_data" = true) (k37 : PySem.W.keepIn K (.ref f37) = true)
    (a38 : PySem.W.nsIn K mainGlobals "_law_handed" = some (some (.ref f38))) (l38 : K.lookup f38 = some ⟨oc38, od38, .func (PySem.W.fnOf "_law_handed" "_law_handed" (defArgs tHanded) (defBody tHanded) (defScope tHanded) .none kV38 dc38 pm38 an38 cd38 ct38), sl38⟩)
      (q38 : PySem.W.codeIn K cd38 "_law_handed" = true) (k38 : PySem.W.keepIn K (.ref f38) = true)
    (a39 : PySem.W.nsIn K mainGlobals "_law_walked" = some (some (.ref f39))) (l39 : K.lookup f39 = some ⟨oc39, od39, .func (PySem.W.fnOf "_law_walked" "_law_walked" (defArgs tWalked) (defBody tWalked) (defScope tWalked) .none kV39 dc39 pm39 an39 cd39 ct39), sl39⟩)
      (q39 : PySem.W.codeIn K cd39 "_law_walked" = true) (k39 : PySem.W.keepIn K (.ref f39) = true)
    (a40 : PySem.W.nsIn K mainGlobals "_law_arguments" = some (some (.ref f40))) (l40 : K.lookup f40 = some ⟨oc40, od40, .func (PySem.W.fnOf "_law_arguments" "_law_arguments" (defArgs tLArgs) (defBody tLArgs) (defScope tLArgs) .none kV40 dc40 pm40 an40 cd40 ct40), sl40⟩)
      (q40 : PySem.W.codeIn K cd40 "_law_arguments" = true) (k40 : PySem.W.keepIn K (.ref f40) = true)
    (a41 : PySem.W.nsIn K mainGlobals "_law_told" = some (some (.ref f41))) (l41 : K.lookup f41 = some ⟨oc41, od41, .func (PySem.W.fnOf "_law_told" "_law_told" (defArgs tLTold) (defBody tLTold) (defScope tLTold) .none kV41 dc41 pm41 an41 cd41 ct41), sl41⟩)
      (q41 : PySem.W.codeIn K cd41 "_law_told" = true) (k41 : PySem.W.keepIn K (.ref f41) = true)
    (a42 : PySem.W.nsIn K mainGlobals "_law_opens" = some (some (.ref f42))) (l42 : K.lookup f42 = some ⟨oc42, od42, .func (PySem.W.fnOf "_law_opens" "_law_opens" (defArgs tLOpens) (defBody tLOpens) (defScope tLOpens) .none kV42 dc42 pm42 an42 cd42 ct42), sl42⟩)
      (q42 : PySem.W.codeIn K cd42 "_law_opens" = true) (k42 : PySem.W.keepIn K (.ref f42) = true)
    (a43 : PySem.W.nsIn K mainGlobals "_law_put_in" = some (some (.ref f43))) (l43 : K.lookup f43 = some ⟨oc43, od43, .func (PySem.W.fnOf "_law_put_in" "_law_put_in" (defArgs tLPut) (defBody tLPut) (defScope tLPut) .none kV43 dc43 pm43 an43 cd43 ct43), sl43⟩)
      (q43 : PySem.W.codeIn K cd43 "_law_put_in" = true) (k43 : PySem.W.keepIn K (.ref f43) = true)
    (a44 : PySem.W.nsIn K mainGlobals "_law_known" = some (some (.ref f44))) (l44 : K.lookup f44 = some ⟨oc44, od44, .func (PySem.W.fnOf "_law_known" "_law_known" (defArgs tKnown) (defBody tKnown) (defScope tKnown) .none kV44 dc44 pm44 an44 cd44 ct44), sl44⟩)
      (q44 : PySem.W.codeIn K cd44 "_law_known" = true) (k44 : PySem.W.keepIn K (.ref f44) = true)
    (a45 : PySem.W.nsIn K mainGlobals "_law_fills" = some (some (.ref f45))) (l45 : K.lookup f45 = some ⟨oc45, od45, .func (PySem.W.fnOf "_law_fills" "_law_fills" (defArgs tFil) (defBody tFil) (defScope tFil) .none kV45 dc45 pm45 an45 cd45 ct45), sl45⟩)
      (q45 : PySem.W.codeIn K cd45 "_law_fills" = true) (k45 : PySem.W.keepIn K (.ref f45) = true)
    (a46 : PySem.W.nsIn K mainGlobals "_law_spoilt" = some (some (.ref f46))) (l46 : K.lookup f46 = some ⟨oc46, od46, .func (PySem.W.fnOf "_law_spoilt" "_law_spoilt" (defArgs tSpoilt) (defBody tSpoilt) (defScope tSpoilt) .none kV46 dc46 pm46 an46 cd46 ct46), sl46⟩)
      (q46 : PySem.W.codeIn K cd46 "_law_spoilt" = true) (k46 : PySem.W.keepIn K (.ref f46) = true)
    (a47 : PySem.W.nsIn K mainGlobals "_law_due" = some (some (.ref f47))) (l47 : K.lookup f47 = some ⟨oc47, od47, .func (PySem.W.fnOf "_law_due" "_law_due" (defArgs tDue) (defBody tDue) (defScope tDue) .none kV47 dc47 pm47 an47 cd47 ct47), sl47⟩)
      (q47 : PySem.W.codeIn K cd47 "_law_due" = true) (k47 : PySem.W.keepIn K (.ref f47) = true)
    (a48 : PySem.W.nsIn K mainGlobals "_law_all_right" = some (some (.ref f48))) (l48 : K.lookup f48 = some ⟨oc48, od48, .func (PySem.W.fnOf "_law_all_right" "_law_all_right" (defArgs tAllR) (defBody tAllR) (defScope tAllR) .none kV48 dc48 pm48 an48 cd48 ct48), sl48⟩)
      (q48 : PySem.W.codeIn K cd48 "_law_all_right" = true) (k48 : PySem.W.keepIn K (.ref f48) = true)
    (a49 : PySem.W.nsIn K mainGlobals "law" = some (some (.ref f49))) (l49 : K.lookup f49 = some ⟨oc49, od49, .func (PySem.W.fnOf "law" "law" (defArgs tLaw) (defBody tLaw) (defScope tLaw) .none kV49 dc49 pm49 an49 cd49 ct49), sl49⟩)
      (q49 : PySem.W.codeIn K cd49 "law" = true) (k49 : PySem.W.keepIn K (.ref f49) = true)
    (t1 : K.lookup c1 = some ⟨e1, dd1, .fields vs1, sm1⟩) (v1 : vs1[11]? = some (.ref p1)) (n1 : K.lookup p1 = none)
    (t6 : K.lookup c6 = some ⟨e6, dd6, .fields vs6, sm6⟩) (v6 : vs6[11]? = some (.ref p6)) (n6 : K.lookup p6 = none)
    (t18 : K.lookup c18 = some ⟨e18, dd18, .fields vs18, sm18⟩) (v18 : vs18[11]? = some (.ref p18)) (n18 : K.lookup p18 = none)
    (t15 : K.lookup c15 = some ⟨e15, dd15, .fields vs15, sm15⟩) (v15 : vs15[11]? = some (.ref p15)) (n15 : K.lookup p15 = none)
    (aL : PySem.W.nsIn K mainGlobals "LETTERS" = some (some uL)) (rL : RelV (.str lets) uL) (aN : PySem.W.nsIn K mainGlobals "LONGEST_NAME" = some (some uN)) (rN : RelV (.int 8) uN) (aM : PySem.W.nsIn K mainGlobals "MOST_TURNS" = some (some uM)) (rM : RelV (.int 30) uM)
    (aD_ : PySem.W.nsIn K mainGlobals "KIND_FORMS" = some (some (.ref dA))) (lD_ : K.lookup dA = some ⟨.type "dict", none, .dict es nD, #[]⟩) (tD_ : PySem.W.KeysLit w.params es.toList) (sD_ : (dA == sysModules) = false)
    (kD_ : KeysAre es.toList [("open", .ref o1), ("num", .ref o2), ("truth", .ref o3), ("pair", .ref o4), ("either", .ref o5), ("list", .ref o6), ("fun", .ref o7)])
    (aB_ : PySem.W.nsIn K mainGlobals "TERM_FORMS" = some (some (.ref dB))) (lB_ : K.lookup dB = some ⟨.type "dict", none, .dict esB nB, #[]⟩) (tB_ : PySem.W.KeysLit w.params esB.toList) (sB_ : (dB == sysModules) = false)
    (kB_ : KeysAre esB.toList [("name", .ref r1), ("fun", .ref r2), ("call", .ref r3), ("num", .ref r4), ("plus", .ref r5), ("less", .ref r6), ("truth", .ref r7), ("if", .ref r8), ("pair", .ref r9), ("first", .ref r10), ("second", .ref r11), ("left", .ref r12), ("right", .ref r13), ("case", .ref r14), ("none", .ref r15), ("more", .ref r16), ("fold", .ref r17), ("built", .ref r18), ("alike", .ref r19), ("fault", .ref r20), ("rounds", .ref r21), ("told", .ref r22)])
    (aR_ : PySem.W.nsIn K mainGlobals "RULES" = some (some (.ref dR))) (lR_ : K.lookup dR = some ⟨.type "dict", none, .dict esR nR, #[]⟩) (tR_ : PySem.W.KeysLit w.params esR.toList) (sR_ : (dR == sysModules) = false)
    (kR_ : KeysAre esR.toList [("name", .ref f26), ("fun", .ref f27), ("call", .ref f28), ("num", .ref u_num), ("plus", .ref u_plus), ("less", .ref u_less), ("truth", .ref u_truth), ("if", .ref u_if), ("pair", .ref u_pair), ("first", .ref u_first), ("second", .ref u_second), ("left", .ref u_left), ("right", .ref u_right), ("case", .ref u_case), ("none", .ref u_none), ("more", .ref u_more), ("fold", .ref u_fold), ("built", .ref u_built), ("alike", .ref u_alike), ("fault", .ref u_fault), ("rounds", .ref u_rounds), ("told", .ref f29)])
    (lT1 : K.lookup o1 = some ⟨.type "tuple", dT1, .seq iT1 nT1, sT1⟩) (vT1 : iT1.size ≤ sizeLine ∧ Vals [V.str "name"] iT1.toList)
    (lT2 : K.lookup o2 = some ⟨.type "tuple", dT2, .seq iT2 nT2, sT2⟩) (vT2 : iT2.size ≤ sizeLine ∧ Vals [] iT2.toList)
    (lT3 : K.lookup o3 = some ⟨.type "tuple", dT3, .seq iT3 nT3, sT3⟩) (vT3 : iT3.size ≤ sizeLine ∧ Vals [] iT3.toList)
    (lT4 : K.lookup o4 = some ⟨.type "tuple", dT4, .seq iT4 nT4, sT4⟩) (vT4 : iT4.size ≤ sizeLine ∧ Vals [V.str "kind", V.str "kind"] iT4.toList)
    (lT5 : K.lookup o5 = some ⟨.type "tuple", dT5, .seq iT5 nT5, sT5⟩) (vT5 : iT5.size ≤ sizeLine ∧ Vals [V.str "kind", V.str "kind"] iT5.toList)
    (lT6 : K.lookup o6 = some ⟨.type "tuple", dT6, .seq iT6 nT6, sT6⟩) (vT6 : iT6.size ≤ sizeLine ∧ Vals [V.str "kind"] iT6.toList)
    (lT7 : K.lookup o7 = some ⟨.type "tuple", dT7, .seq iT7 nT7, sT7⟩) (vT7 : iT7.size ≤ sizeLine ∧ Vals [V.str "kind", V.str "kind"] iT7.toList)
    (lQ1 : K.lookup r1 = some ⟨.type "tuple", dQ1, .seq iQ1 nQ1, sQ1⟩) (vQ1 : iQ1.size ≤ sizeLine ∧ Vals [V.str "name"] iQ1.toList)
    (lQ2 : K.lookup r2 = some ⟨.type "tuple", dQ2, .seq iQ2 nQ2, sQ2⟩) (vQ2 : iQ2.size ≤ sizeLine ∧ Vals [V.str "name", V.str "argument", V.str "term"] iQ2.toList)
    (lQ3 : K.lookup r3 = some ⟨.type "tuple", dQ3, .seq iQ3 nQ3, sQ3⟩) (vQ3 : iQ3.size ≤ sizeLine ∧ Vals [V.str "term", V.str "term"] iQ3.toList)
    (lQ4 : K.lookup r4 = some ⟨.type "tuple", dQ4, .seq iQ4 nQ4, sQ4⟩) (vQ4 : iQ4.size ≤ sizeLine ∧ Vals [V.str "number"] iQ4.toList)
    (lQ5 : K.lookup r5 = some ⟨.type "tuple", dQ5, .seq iQ5 nQ5, sQ5⟩) (vQ5 : iQ5.size ≤ sizeLine ∧ Vals [V.str "term", V.str "term"] iQ5.toList)
    (lQ6 : K.lookup r6 = some ⟨.type "tuple", dQ6, .seq iQ6 nQ6, sQ6⟩) (vQ6 : iQ6.size ≤ sizeLine ∧ Vals [V.str "term", V.str "term"] iQ6.toList)
    (lQ7 : K.lookup r7 = some ⟨.type "tuple", dQ7, .seq iQ7 nQ7, sQ7⟩) (vQ7 : iQ7.size ≤ sizeLine ∧ Vals [V.str "truth"] iQ7.toList)
    (lQ8 : K.lookup r8 = some ⟨.type "tuple", dQ8, .seq iQ8 nQ8, sQ8⟩) (vQ8 : iQ8.size ≤ sizeLine ∧ Vals [V.str "term", V.str "term", V.str "term"] iQ8.toList)
    (lQ9 : K.lookup r9 = some ⟨.type "tuple", dQ9, .seq iQ9 nQ9, sQ9⟩) (vQ9 : iQ9.size ≤ sizeLine ∧ Vals [V.str "term", V.str "term"] iQ9.toList)
    (lQ10 : K.lookup r10 = some ⟨.type "tuple", dQ10, .seq iQ10 nQ10, sQ10⟩) (vQ10 : iQ10.size ≤ sizeLine ∧ Vals [V.str "term"] iQ10.toList)
    (lQ11 : K.lookup r11 = some ⟨.type "tuple", dQ11, .seq iQ11 nQ11, sQ11⟩) (vQ11 : iQ11.size ≤ sizeLine ∧ Vals [V.str "term"] iQ11.toList)
    (lQ12 : K.lookup r12 = some ⟨.type "tuple", dQ12, .seq iQ12 nQ12, sQ12⟩) (vQ12 : iQ12.size ≤ sizeLine ∧ Vals [V.str "term", V.str "data"] iQ12.toList)
    (lQ13 : K.lookup r13 = some ⟨.type "tuple", dQ13, .seq iQ13 nQ13, sQ13⟩) (vQ13 : iQ13.size ≤ sizeLine ∧ Vals [V.str "data", V.str "term"] iQ13.toList)
    (lQ14 : K.lookup r14 = some ⟨.type "tuple", dQ14, .seq iQ14 nQ14, sQ14⟩) (vQ14 : iQ14.size ≤ sizeLine ∧ Vals [V.str "term", V.str "name", V.str "term", V.str "name", V.str "term"] iQ14.toList)
    (lQ15 : K.lookup r15 = some ⟨.type "tuple", dQ15, .seq iQ15 nQ15, sQ15⟩) (vQ15 : iQ15.size ≤ sizeLine ∧ Vals [V.str "data"] iQ15.toList)
    (lQ16 : K.lookup r16 = some ⟨.type "tuple", dQ16, .seq iQ16 nQ16, sQ16⟩) (vQ16 : iQ16.size ≤ sizeLine ∧ Vals [V.str "term", V.str "term"] iQ16.toList)
    (lQ17 : K.lookup r17 = some ⟨.type "tuple", dQ17, .seq iQ17 nQ17, sQ17⟩) (vQ17 : iQ17.size ≤ sizeLine ∧ Vals [V.str "term", V.str "term", V.str "name", V.str "name", V.str "term"] iQ17.toList)
    (lQ18 : K.lookup r18 = some ⟨.type "tuple", dQ18, .seq iQ18 nQ18, sQ18⟩) (vQ18 : iQ18.size ≤ sizeLine ∧ Vals [V.str "data", V.str "name", V.str "name", V.str "name", V.str "term"] iQ18.toList)
    (lQ19 : K.lookup r19 = some ⟨.type "tuple", dQ19, .seq iQ19 nQ19, sQ19⟩) (vQ19 : iQ19.size ≤ sizeLine ∧ Vals [V.str "term", V.str "term"] iQ19.toList)
    (lQ20 : K.lookup r20 = some ⟨.type "tuple", dQ20, .seq iQ20 nQ20, sQ20⟩) (vQ20 : iQ20.size ≤ sizeLine ∧ Vals [V.str "data"] iQ20.toList)
    (lQ21 : K.lookup r21 = some ⟨.type "tuple", dQ21, .seq iQ21 nQ21, sQ21⟩) (vQ21 : iQ21.size ≤ sizeLine ∧ Vals [V.str "turns", V.str "term", V.str "name", V.str "term"] iQ21.toList)
    (lQ22 : K.lookup r22 = some ⟨.type "tuple", dQ22, .seq iQ22 nQ22, sQ22⟩) (vQ22 : iQ22.size ≤ sizeLine ∧ Vals [V.str "name", V.str "fills"] iQ22.toList)
    (lGD : K.lookup tD = some ⟨.type "tuple", dD, .seq iD nDd, slD⟩) (vGD : Vals [V.non] iD.toList)
    (aX : PySem.W.nsIn K mainGlobals "NoKind" = some (some (.ref cN))) (xP : PySem.W.excIn K cN [.type "ValueError", .type "Exception", .type "BaseException", .type "object"] "ValueError.__new__" = true) (kX : PySem.W.keepIn K (.ref cN) = true) (bX : PySem.W.subIn K (.ref cN) (.type "BaseException") = some true) (tX : PySem.W.typeIn K (.ref cN) = some (.type "type")) (vX : PySem.W.subIn K (.ref cN) (.type "ValueError") = some true)
    (gX : PySem.W.findIn K (.ref cN) "__getattribute__" = some (some (.builtin "BaseException.__getattribute__"))) (hX : PySem.W.findIn K (.ref cN) "__getattr__" = some none) (dX : PySem.W.hasDictIn K cN = true) (cX : PySem.W.findIn K (.ref cN) "__class__" = some (some (.builtin "object.__class__"))) (sX : PySem.W.specialIn K (.builtin "object.__class__") "__get__" = some (some (.builtin "getset_descriptor.__get__"))) (uX : PySem.W.takesIn K (.builtin "object.__class__") = some true) (mX : PySem.W.mroIn K cN (.type "object") = some true)
    (aK : PySem.W.nsIn K mainGlobals "KindError" = some (some (.ref cK))) (bK : PySem.W.subIn K (.ref cK) (.type "BaseException") = some true) (iK : PySem.W.isClsIn K cK = true) (tK : PySem.W.typeIn K (.ref cK) = some (.type "type")) (sK : PySem.W.subIn K (.ref cN) (.ref cK) = some true)
    (xa1 : PySem.W.nsIn K mainGlobals "TooMany" = some (some (.ref x1))) (xn1 : (Value.ref cN == Value.ref x1) = false) (xi1 : PySem.W.isClsIn K x1 = true) (xt1 : PySem.W.typeIn K (.ref x1) = some (.type "type")) (xs1 : PySem.W.subIn K (.ref cN) (.ref x1) = some false)
    (xa2 : PySem.W.nsIn K mainGlobals "TooMuch" = some (some (.ref x2))) (xn2 : (Value.ref cN == Value.ref x2) = false) (xi2 : PySem.W.isClsIn K x2 = true) (xt2 : PySem.W.typeIn K (.ref x2) = some (.type "type")) (xs2 : PySem.W.subIn K (.ref cN) (.ref x2) = some false)
    (xa3 : PySem.W.nsIn K mainGlobals "NoText" = some (some (.ref x3))) (xn3 : (Value.ref cN == Value.ref x3) = false) (xi3 : PySem.W.isClsIn K x3 = true) (xt3 : PySem.W.typeIn K (.ref x3) = some (.type "type")) (xs3 : PySem.W.subIn K (.ref cN) (.ref x3) = some false)
    (xa4 : PySem.W.nsIn K mainGlobals "NoLead" = some (some (.ref x4))) (xn4 : (Value.ref cN == Value.ref x4) = false) (xi4 : PySem.W.isClsIn K x4 = true) (xt4 : PySem.W.typeIn K (.ref x4) = some (.type "type")) (xs4 : PySem.W.subIn K (.ref cN) (.ref x4) = some false)
    (xa5 : PySem.W.nsIn K mainGlobals "NoName" = some (some (.ref x5))) (xn5 : (Value.ref cN == Value.ref x5) = false) (xi5 : PySem.W.isClsIn K x5 = true) (xt5 : PySem.W.typeIn K (.ref x5) = some (.type "type")) (xs5 : PySem.W.subIn K (.ref cN) (.ref x5) = some false)
    (xa6 : PySem.W.nsIn K mainGlobals "Taken" = some (some (.ref x6))) (xn6 : (Value.ref cN == Value.ref x6) = false) (xi6 : PySem.W.isClsIn K x6 = true) (xt6 : PySem.W.typeIn K (.ref x6) = some (.type "type")) (xs6 : PySem.W.subIn K (.ref cN) (.ref x6) = some false)
    (xa7 : PySem.W.nsIn K mainGlobals "Ring" = some (some (.ref x7))) (xn7 : (Value.ref cN == Value.ref x7) = false) (xi7 : PySem.W.isClsIn K x7 = true) (xt7 : PySem.W.typeIn K (.ref x7) = some (.type "type")) (xs7 : PySem.W.subIn K (.ref cN) (.ref x7) = some false)
    (xa8 : PySem.W.nsIn K mainGlobals "NoBack" = some (some (.ref x8))) (xn8 : (Value.ref cN == Value.ref x8) = false) (xi8 : PySem.W.isClsIn K x8 = true) (xt8 : PySem.W.typeIn K (.ref x8) = some (.type "type")) (xs8 : PySem.W.subIn K (.ref cN) (.ref x8) = some false)
    (xa9 : PySem.W.nsIn K mainGlobals "NoRow" = some (some (.ref x9))) (xn9 : (Value.ref cN == Value.ref x9) = false) (xi9 : PySem.W.isClsIn K x9 = true) (xt9 : PySem.W.typeIn K (.ref x9) = some (.type "type")) (xs9 : PySem.W.subIn K (.ref cN) (.ref x9) = some false)
    (xa10 : PySem.W.nsIn K mainGlobals "Unbounded" = some (some (.ref x10))) (xn10 : (Value.ref cN == Value.ref x10) = false) (xi10 : PySem.W.isClsIn K x10 = true) (xt10 : PySem.W.typeIn K (.ref x10) = some (.type "type")) (xs10 : PySem.W.subIn K (.ref cN) (.ref x10) = some false)
    (xa11 : PySem.W.nsIn K mainGlobals "Broken" = some (some (.ref x11))) (xn11 : (Value.ref cN == Value.ref x11) = false) (xi11 : PySem.W.isClsIn K x11 = true) (xt11 : PySem.W.typeIn K (.ref x11) = some (.type "type")) (xs11 : PySem.W.subIn K (.ref cN) (.ref x11) = some false)
    (xa12 : PySem.W.nsIn K mainGlobals "Used" = some (some (.ref x12))) (xn12 : (Value.ref cN == Value.ref x12) = false) (xi12 : PySem.W.isClsIn K x12 = true) (xt12 : PySem.W.typeIn K (.ref x12) = some (.type "type")) (xs12 : PySem.W.subIn K (.ref cN) (.ref x12) = some false)
    (z1 : PySem.W.nsIn K mainGlobals "len" = some none) (z2 : PySem.W.nsIn K mainGlobals "tuple" = some none) (z3 : PySem.W.nsIn K mainGlobals "sorted" = some none) (z4 : PySem.W.nsIn K mainGlobals "all" = some none) (z5 : PySem.W.nsIn K mainGlobals "isinstance" = some none) (z6 : PySem.W.nsIn K mainGlobals "bool" = some none) (z7 : PySem.W.nsIn K mainGlobals "str" = some none) (z8 : PySem.W.nsIn K mainGlobals "int" = some none) (z9 : PySem.W.nsIn K mainGlobals "zip" = some none) (z10 : PySem.W.nsIn K mainGlobals "ValueError" = some none) (z11 : PySem.W.nsIn K mainGlobals "list" = some none) (z12 : PySem.W.nsIn K mainGlobals "range" = some none) (z13 : PySem.W.nsIn K mainGlobals "reversed" = some none) (z14 : PySem.W.nsIn K mainGlobals "sum" = some none) (z15 : PySem.W.nsIn K mainGlobals "dict" = some none) (z16 : PySem.W.nsIn K mainGlobals "set" = some none) :
    LawG l w K CX0 41 63 "_law_script" mg fa h := by
  have e := hfa.symm.trans (PySem.W.mg_of X G a49)
  cases e
  have F1 := fun_mk (st := tName) l1 q1 k1
  have b1 := F1.binds (ps := ["thing"]) fun _ _ _ _ _ _ us hl => match us, hl with | [_], _ => rfl
  have g_1 := PySem.W.mg_of X G a1
  have F2 := fun_mk (st := tTruth) l2 q2 k2
  have b2 := F2.binds (ps := ["thing"]) fun _ _ _ _ _ _ us hl => match us, hl with | [_], _ => rfl
  have g_2 := PySem.W.mg_of X G a2
  have F3 := fun_mk (st := tWhole) l3 q3 k3
  have b3 := F3.binds (ps := ["thing"]) fun _ _ _ _ _ _ us hl => match us, hl with | [_], _ => rfl
  have g_3 := PySem.W.mg_of X G a3
  have F4 := fun_mk (st := tNumber) l4 q4 k4
  have b4 := F4.binds (ps := ["thing"]) fun _ _ _ _ _ _ us hl => match us, hl with | [_], _ => rfl
  have g_4 := PySem.W.mg_of X G a4
  have F5 := fun_mk (st := tTagged) l5 q5 k5
  have b5 := F5.binds (ps := ["thing", "word", "many"]) fun _ _ _ _ _ _ us hl => match us, hl with | [_, _, _], _ => rfl
  have g_5 := PySem.W.mg_of X G a5
  have F6 := fun_mk (st := tRising) l6 q6 k6
  have b6 := F6.binds (ps := ["row"]) fun _ _ _ _ _ _ us hl => match us, hl with | [_], _ => rfl
  have g_6 := PySem.W.mg_of X G a6
  have F7 := fun_mk (st := tIsData) l7 q7 k7
  have b7 := F7.binds (ps := ["thing"]) fun _ _ _ _ _ _ us hl => match us, hl with | [_], _ => rfl
  have g_7 := PySem.W.mg_of X G a7
  have F8 := fun_mk (st := tForm) l8 q8 k8
  have b8 := F8.binds (ps := ["thing"]) fun _ _ _ _ _ _ us hl => match us, hl with | [_], _ => rfl
  have g_8 := PySem.W.mg_of X G a8
  have F9 := fun_mk (st := tWithin) l9 q9 k9
  have b9 := F9.binds (ps := ["kind"]) fun _ _ _ _ _ _ us hl => match us, hl with | [_], _ => rfl
  have g_9 := PySem.W.mg_of X G a9
  have F10 := fun_mk (st := tIsFirst) l10 q10 k10
  have b10 := F10.binds (ps := ["thing"]) fun _ _ _ _ _ _ us hl => match us, hl with | [_], _ => rfl
  have g_10 := PySem.W.mg_of X G a10
  have F11 := fun_mk (st := tIsArg) l11 q11 k11
  have b11 := F11.binds (ps := ["thing"]) fun _ _ _ _ _ _ us hl => match us, hl with | [_], _ => rfl
  have g_11 := PySem.W.mg_of X G a11
  have F12 := fun_mk (st := tParts) l12 q12 k12
  have b12 := F12.binds (ps := ["kind"]) fun _ _ _ _ _ _ us hl => match us, hl with | [_], _ => rfl
  have g_12 := PySem.W.mg_of X G a12
  have F13 := fun_mk (st := tOpens) l13 q13 k13
  have b13 := F13.binds (ps := ["kind"]) fun _ _ _ _ _ _ us hl => match us, hl with | [_], _ => rfl
  have g_13 := PySem.W.mg_of X G a13
  have F14 := fun_mk (st := tIsTerm) l14 q14 k14
  have b14 := F14.binds (ps := ["thing"]) fun _ _ _ _ _ _ us hl => match us, hl with | [_], _ => rfl
  have g_14 := PySem.W.mg_of X G a14
  have F15 := fun_mk (st := tHasTerm) l15 q15 k15
  have b15 := F15.binds (ps := ["thing"]) fun _ _ _ _ _ _ us hl => match us, hl with | [_], _ => rfl
  have g_15 := PySem.W.mg_of X G a15
  have F16 := fun_mk (st := tFits) l16 q16 k16
  have b16 := F16.binds (ps := ["role", "part"]) fun _ _ _ _ _ _ us hl => match us, hl with | [_, _], _ => rfl
  have g_16 := PySem.W.mg_of X G a16
  have F17 := fun_mk (st := tTurns) l17 q17 k17
  have b17 := F17.binds (ps := ["thing"]) fun _ _ _ _ _ _ us hl => match us, hl with | [_], _ => rfl
  have g_17 := PySem.W.mg_of X G a17
  have F18 := fun_mk (st := tFills) l18 q18 k18
  have b18 := F18.binds (ps := ["thing"]) fun _ _ _ _ _ _ us hl => match us, hl with | [_], _ => rfl
  have g_18 := PySem.W.mg_of X G a18
  have F19 := fun_mk (st := tFill) l19 q19 k19
  have b19 := F19.binds (ps := ["thing"]) fun _ _ _ _ _ _ us hl => match us, hl with | [_], _ => rfl
  have g_19 := PySem.W.mg_of X G a19
  have F20 := fun_mk (st := tTermsIn) l20 q20 k20
  have b20 := F20.binds (ps := ["term"]) fun _ _ _ _ _ _ us hl => match us, hl with | [_], _ => rfl
  have g_20 := PySem.W.mg_of X G a20
  have F21 : FunD K "kind_of" "kind_of" (defArgs tKindOf) (defBody tKindOf) (defScope tKindOf) [V.non] [] f21 _ := ⟨⟨_, _, _, _, _, _, _, _, _, _, rfl, l21, q21, .inr ⟨by simp, tD, _, iD.toList, nDd, rfl, lGD, by simp, vGD⟩, .inl rfl⟩, k21⟩
  obtain ⟨ds21, vd21, b21⟩ := F21.binds1 (ps := ["term", "looked", "known"]) 2 0 (by simp) rfl fun T kV doc pm an cdv ct us its h1 h2 => match us, its, h1, h2 with | [_, _], [_], _, _ => ⟨_, rfl, rfl⟩
  have g_21 := PySem.W.mg_of X G a21
  have F22 := fun_mk (st := tKindAt) l22 q22 k22
  have b22 := F22.binds (ps := ["term", "names", "settled"]) fun _ _ _ _ _ _ us hl => match us, hl with | [_, _, _], _ => rfl
  have g_22 := PySem.W.mg_of X G a22
  have F23 := fun_mk (st := tNeed) l23 q23 k23
  have b23 := F23.binds (ps := ["held", "why"]) fun _ _ _ _ _ _ us hl => match us, hl with | [_, _], _ => rfl
  have g_23 := PySem.W.mg_of X G a23
  have F24 := fun_mk (st := tNeedSame) l24 q24 k24
  have b24 := F24.binds (ps := ["one", "other", "why"]) fun _ _ _ _ _ _ us hl => match us, hl with | [_, _, _], _ => rfl
  have g_24 := PySem.W.mg_of X G a24
  have F25 := fun_mk (st := tFormedAt) l25 q25 k25
  have b25 := F25.binds (ps := ["word", "term", "names", "settled"]) fun _ _ _ _ _ _ us hl => match us, hl with | [_, _, _, _], _ => rfl
  have g_25 := PySem.W.mg_of X G a25
  have F26 := fun_mk (st := tOfName) l26 q26 k26
  have b26 := F26.binds (ps := ["term", "names", "settled"]) fun _ _ _ _ _ _ us hl => match us, hl with | [_, _, _], _ => rfl
  have g_26 := PySem.W.mg_of X G a26
  have F27 := fun_mk (st := tOfFun) l27 q27 k27
  have b27 := F27.binds (ps := ["term", "names", "settled"]) fun _ _ _ _ _ _ us hl => match us, hl with | [_, _, _], _ => rfl
  have g_27 := PySem.W.mg_of X G a27
  have F28 := fun_mk (st := tOfCall) l28 q28 k28
  have b28 := F28.binds (ps := ["term", "names", "settled"]) fun _ _ _ _ _ _ us hl => match us, hl with | [_, _, _], _ => rfl
  have g_28 := PySem.W.mg_of X G a28
  have F29 := fun_mk (st := tOfTold) l29 q29 k29
  have b29 := F29.binds (ps := ["term", "names", "settled"]) fun _ _ _ _ _ _ us hl => match us, hl with | [_, _, _], _ => rfl
  have g_29 := PySem.W.mg_of X G a29
  have F30 := fun_mk (st := tFilled) l30 q30 k30
  have b30 := F30.binds (ps := ["kind", "fills"]) fun _ _ _ _ _ _ us hl => match us, hl with | [_, _], _ => rfl
  have g_30 := PySem.W.mg_of X G a30
  have F31 := fun_mk (st := tPutIn) l31 q31 k31
  have b31 := F31.binds (ps := ["kind", "put"]) fun _ _ _ _ _ _ us hl => match us, hl with | [_, _], _ => rfl
  have g_31 := PySem.W.mg_of X G a31
  have F32 := fun_mk (st := tNeedFills) l32 q32 k32
  have b32 := F32.binds (ps := ["fills", "opens", "looks", "looked"]) fun _ _ _ _ _ _ us hl => match us, hl with | [_, _, _, _], _ => rfl
  have g_32 := PySem.W.mg_of X G a32
  have F33 := fun_mk (st := tDeck) l33 q33 k33
  have b33 := F33.binds (ps := ["_law_script"]) fun _ _ _ _ _ _ us hl => match us, hl with | [_], _ => rfl
  have g_33 := PySem.W.mg_of X G a33
  have F34 := fun_mk (st := tDraw) l34 q34 k34
  have b34 := F34.binds (ps := ["_law_deck_here", "_law_most"]) fun _ _ _ _ _ _ us hl => match us, hl with | [_, _], _ => rfl
  have g_34 := PySem.W.mg_of X G a34
  have F35 := fun_mk (st := tPick) l35 q35 k35
  have b35 := F35.binds (ps := psPick) fun _ _ _ _ _ _ us hl => match us, hl with | [_, _], _ => rfl
  have g_35 := PySem.W.mg_of X G a35
  have F36 := fun_mk (st := tNames) l36 q36 k36
  have b36 := F36.binds (ps := ["_law_deck_here", "_law_many"]) fun _ _ _ _ _ _ us hl => match us, hl with | [_, _], _ => rfl
  have g_36 := PySem.W.mg_of X G a36
  have F37 := fun_mk (st := tLData) l37 q37 k37
  have b37 := F37.binds (ps := psLData) fun _ _ _ _ _ _ us hl => match us, hl with | [_, _, _, _], _ => rfl
  have g_37 := PySem.W.mg_of X G a37
  have F38 := fun_mk (st := tHanded) l38 q38 k38
  have b38 := F38.binds (ps := psTwo) fun _ _ _ _ _ _ us hl => match us, hl with | [_, _], _ => rfl
  have g_38 := PySem.W.mg_of X G a38
  have F39 := fun_mk (st := tWalked) l39 q39 k39
  have b39 := F39.binds (ps := psTwo) fun _ _ _ _ _ _ us hl => match us, hl with | [_, _], _ => rfl
  have g_39 := PySem.W.mg_of X G a39
  have F40 := fun_mk (st := tLArgs) l40 q40 k40
  have b40 := F40.binds (ps := ["_law_kind"]) fun _ _ _ _ _ _ us hl => match us, hl with | [_], _ => rfl
  have g_40 := PySem.W.mg_of X G a40
  have F41 := fun_mk (st := tLTold) l41 q41 k41
  have b41 := F41.binds (ps := psLTold) fun _ _ _ _ _ _ us hl => match us, hl with | [_, _, _], _ => rfl
  have g_41 := PySem.W.mg_of X G a41
  have F42 := fun_mk (st := tLOpens) l42 q42 k42
  have b42 := F42.binds (ps := ["_law_kind"]) fun _ _ _ _ _ _ us hl => match us, hl with | [_], _ => rfl
  have g_42 := PySem.W.mg_of X G a42
  have F43 := fun_mk (st := tLPut) l43 q43 k43
  have b43 := F43.binds (ps := ["_law_kind", "_law_table"]) fun _ _ _ _ _ _ us hl => match us, hl with | [_, _], _ => rfl
  have g_43 := PySem.W.mg_of X G a43
  have F44 := fun_mk (st := tKnown) l44 q44 k44
  have b44 := F44.binds (ps := psKnown) fun _ _ _ _ _ _ us hl => match us, hl with | [_, _], _ => rfl
  have g_44 := PySem.W.mg_of X G a44
  have F45 := fun_mk (st := tFil) l45 q45 k45
  have b45 := F45.binds (ps := psFil) fun _ _ _ _ _ _ us hl => match us, hl with | [_, _, _, _, _], _ => rfl
  have g_45 := PySem.W.mg_of X G a45
  have F46 := fun_mk (st := tSpoilt) l46 q46 k46
  have b46 := F46.binds (ps := psSpoilt) fun _ _ _ _ _ _ us hl => match us, hl with | [_, _, _, _, _], _ => rfl
  have g_46 := PySem.W.mg_of X G a46
  have F47 := fun_mk (st := tDue) l47 q47 k47
  have b47 := F47.binds (ps := psDue) fun _ _ _ _ _ _ us hl => match us, hl with | [_, _, _, _], _ => rfl
  have g_47 := PySem.W.mg_of X G a47
  have F48 := fun_mk (st := tAllR) l48 q48 k48
  have b48 := F48.binds (ps := psAllR) fun _ _ _ _ _ _ us hl => match us, hl with | [_, _, _, _, _], _ => rfl
  have g_48 := PySem.W.mg_of X G a48
  have F49 := fun_mk (st := tLaw) l49 q49 k49
  have m_len := PySem.W.mg_none_of X G z1
  have m_tuple := PySem.W.mg_none_of X G z2
  have m_sorted := PySem.W.mg_none_of X G z3
  have m_all := PySem.W.mg_none_of X G z4
  have m_isinstance := PySem.W.mg_none_of X G z5
  have m_bool := PySem.W.mg_none_of X G z6
  have m_str := PySem.W.mg_none_of X G z7
  have m_int := PySem.W.mg_none_of X G z8
  have m_zip := PySem.W.mg_none_of X G z9
  have m_ValueError := PySem.W.mg_none_of X G z10
  have m_list := PySem.W.mg_none_of X G z11
  have m_range := PySem.W.mg_none_of X G z12
  have m_reversed := PySem.W.mg_none_of X G z13
  have m_sum := PySem.W.mg_none_of X G z14
  have m_dict := PySem.W.mg_none_of X G z15
  have m_set := PySem.W.mg_none_of X G z16
  have C1 := Kg.funC_mk (st := tName) l1 q1
  obtain ⟨h1, hc1⟩ := Kg.tabOf_at X TT1 g_1 l1 t1 v1
  have C6 := Kg.funC_mk (st := tRising) l6 q6
  obtain ⟨h6, hc6⟩ := Kg.tabOf_at X TT6 g_6 l6 t6 v6
  have C18 := Kg.funC_mk (st := tFills) l18 q18
  obtain ⟨h18, hc18⟩ := Kg.tabOf_at X TT18 g_18 l18 t18 v18
  have C15 := Kg.funC_mk (st := tHasTerm) l15 q15
  obtain ⟨h15, hc15⟩ := Kg.tabOf_at X TT15 g_15 l15 t15 v15
  have gL := PySem.W.mg_of X G aL
  have gN := PySem.W.mg_of X G aN
  have gM := PySem.W.mg_of X G aM
  have gD := PySem.W.mg_of X G aD_
  have gB := PySem.W.mg_of X G aB_
  have hD : Forms K w dA es nD := by
    refine ⟨⟨lD_, tD_, sD_⟩, fun z hz => ?_, fun z m hz => ?_⟩
    · rw [ns_keys lD_ kD_]
      unfold ar at hz
      repeat' split at hz
      all_goals first | cases hz | skip
      rename_i c1 c2 c3 c4 c5 c6 c7
      simp only [List.lookup_cons, beq_eq_false_iff_ne.mpr c1, beq_eq_false_iff_ne.mpr c2, beq_eq_false_iff_ne.mpr c3, beq_eq_false_iff_ne.mpr c4, beq_eq_false_iff_ne.mpr c5, beq_eq_false_iff_ne.mpr c6, beq_eq_false_iff_ne.mpr c7, List.lookup_nil]
    · unfold ar at hz
      repeat' split at hz
      all_goals first | (rename_i c1; subst c1; cases hz) | cases hz
      · exact ⟨o1, [V.str "name"], (ns_keys lD_ kD_ _).trans rfl, rfl, fun H => .inr ⟨_, iT1, nT1, lT1, rfl, rfl, vT1.1, vT1.2⟩⟩
      · exact ⟨o2, [], (ns_keys lD_ kD_ _).trans rfl, rfl, fun H => .inr ⟨_, iT2, nT2, lT2, rfl, rfl, vT2.1, vT2.2⟩⟩
      · exact ⟨o3, [], (ns_keys lD_ kD_ _).trans rfl, rfl, fun H => .inr ⟨_, iT3, nT3, lT3, rfl, rfl, vT3.1, vT3.2⟩⟩
      · exact ⟨o4, [V.str "kind", V.str "kind"], (ns_keys lD_ kD_ _).trans rfl, rfl, fun H => .inr ⟨_, iT4, nT4, lT4, rfl, rfl, vT4.1, vT4.2⟩⟩
      · exact ⟨o5, [V.str "kind", V.str "kind"], (ns_keys lD_ kD_ _).trans rfl, rfl, fun H => .inr ⟨_, iT5, nT5, lT5, rfl, rfl, vT5.1, vT5.2⟩⟩
      · exact ⟨o6, [V.str "kind"], (ns_keys lD_ kD_ _).trans rfl, rfl, fun H => .inr ⟨_, iT6, nT6, lT6, rfl, rfl, vT6.1, vT6.2⟩⟩
      · exact ⟨o7, [V.str "kind", V.str "kind"], (ns_keys lD_ kD_ _).trans rfl, rfl, fun H => .inr ⟨_, iT7, nT7, lT7, rfl, rfl, vT7.1, vT7.2⟩⟩
  have hB : TForms K w dB esB nB := by
    have r2 : Rl2 (fun rs u => ∃ t, u = Value.ref t ∧ ∀ G : Hp, SqT K G t (rs.map V.str)) tblT [("name", .ref r1), ("fun", .ref r2), ("call", .ref r3), ("num", .ref r4), ("plus", .ref r5), ("less", .ref r6), ("truth", .ref r7), ("if", .ref r8), ("pair", .ref r9), ("first", .ref r10), ("second", .ref r11), ("left", .ref r12), ("right", .ref r13), ("case", .ref r14), ("none", .ref r15), ("more", .ref r16), ("fold", .ref r17), ("built", .ref r18), ("alike", .ref r19), ("fault", .ref r20), ("rounds", .ref r21), ("told", .ref r22)] := (.cons ⟨r1, rfl, fun H => .inr ⟨_, iQ1, nQ1, lQ1, rfl, rfl, vQ1.1, vQ1.2⟩⟩ (.cons ⟨r2, rfl, fun H => .inr ⟨_, iQ2, nQ2, lQ2, rfl, rfl, vQ2.1, vQ2.2⟩⟩ (.cons ⟨r3, rfl, fun H => .inr ⟨_, iQ3, nQ3, lQ3, rfl, rfl, vQ3.1, vQ3.2⟩⟩ (.cons ⟨r4, rfl, fun H => .inr ⟨_, iQ4, nQ4, lQ4, rfl, rfl, vQ4.1, vQ4.2⟩⟩ (.cons ⟨r5, rfl, fun H => .inr ⟨_, iQ5, nQ5, lQ5, rfl, rfl, vQ5.1, vQ5.2⟩⟩ (.cons ⟨r6, rfl, fun H => .inr ⟨_, iQ6, nQ6, lQ6, rfl, rfl, vQ6.1, vQ6.2⟩⟩ (.cons ⟨r7, rfl, fun H => .inr ⟨_, iQ7, nQ7, lQ7, rfl, rfl, vQ7.1, vQ7.2⟩⟩ (.cons ⟨r8, rfl, fun H => .inr ⟨_, iQ8, nQ8, lQ8, rfl, rfl, vQ8.1, vQ8.2⟩⟩ (.cons ⟨r9, rfl, fun H => .inr ⟨_, iQ9, nQ9, lQ9, rfl, rfl, vQ9.1, vQ9.2⟩⟩ (.cons ⟨r10, rfl, fun H => .inr ⟨_, iQ10, nQ10, lQ10, rfl, rfl, vQ10.1, vQ10.2⟩⟩ (.cons ⟨r11, rfl, fun H => .inr ⟨_, iQ11, nQ11, lQ11, rfl, rfl, vQ11.1, vQ11.2⟩⟩ (.cons ⟨r12, rfl, fun H => .inr ⟨_, iQ12, nQ12, lQ12, rfl, rfl, vQ12.1, vQ12.2⟩⟩ (.cons ⟨r13, rfl, fun H => .inr ⟨_, iQ13, nQ13, lQ13, rfl, rfl, vQ13.1, vQ13.2⟩⟩ (.cons ⟨r14, rfl, fun H => .inr ⟨_, iQ14, nQ14, lQ14, rfl, rfl, vQ14.1, vQ14.2⟩⟩ (.cons ⟨r15, rfl, fun H => .inr ⟨_, iQ15, nQ15, lQ15, rfl, rfl, vQ15.1, vQ15.2⟩⟩ (.cons ⟨r16, rfl, fun H => .inr ⟨_, iQ16, nQ16, lQ16, rfl, rfl, vQ16.1, vQ16.2⟩⟩ (.cons ⟨r17, rfl, fun H => .inr ⟨_, iQ17, nQ17, lQ17, rfl, rfl, vQ17.1, vQ17.2⟩⟩ (.cons ⟨r18, rfl, fun H => .inr ⟨_, iQ18, nQ18, lQ18, rfl, rfl, vQ18.1, vQ18.2⟩⟩ (.cons ⟨r19, rfl, fun H => .inr ⟨_, iQ19, nQ19, lQ19, rfl, rfl, vQ19.1, vQ19.2⟩⟩ (.cons ⟨r20, rfl, fun H => .inr ⟨_, iQ20, nQ20, lQ20, rfl, rfl, vQ20.1, vQ20.2⟩⟩ (.cons ⟨r21, rfl, fun H => .inr ⟨_, iQ21, nQ21, lQ21, rfl, rfl, vQ21.1, vQ21.2⟩⟩ (.cons ⟨r22, rfl, fun H => .inr ⟨_, iQ22, nQ22, lQ22, rfl, rfl, vQ22.1, vQ22.2⟩⟩ .nil))))))))))))))))))))))
    refine ⟨⟨lB_, tB_, sB_⟩, fun z hz => ?_, fun z rs hz => ?_⟩
    · rw [ns_keys lB_ kB_, (r2.look z).1 hz]
    · obtain ⟨u, hu, t, rfl, ht⟩ := (r2.look z).2 rs hz
      exact ⟨t, by rw [ns_keys lB_ kB_, hu], ht⟩
  have xm : XN K mg cN := ⟨PySem.W.mg_of X G aX, xP, kX, bX, tX⟩
  have ni : TMI K mg cN cK := ⟨⟨gX, hX, bX, dX, cX, sX, uX, mX⟩, PySem.W.mg_of X G aK, exm_yes bK iK tK sK, kit_self, kit_tyV vX,
    ⟨x1, x2, x3, x4, x5, x6, x7, x8, x9, PySem.W.mg_of X G xa1, PySem.W.mg_of X G xa2, PySem.W.mg_of X G xa3, PySem.W.mg_of X G xa4, PySem.W.mg_of X G xa5, PySem.W.mg_of X G xa6, PySem.W.mg_of X G xa7, PySem.W.mg_of X G xa8, PySem.W.mg_of X G xa9, (any_no (kit_no xn1 xi1 xt1 xs1) (any_no (kit_no xn2 xi2 xt2 xs2) (any_no (kit_no xn3 xi3 xt3 xs3) (any_no (kit_no xn4 xi4 xt4 xs4) (any_no (kit_no xn5 xi5 xt5 xs5) (any_no (kit_no xn6 xi6 xt6 xs6) (any_no (kit_no xn7 xi7 xt7 xs7) (any_no (kit_no xn8 xi8 xt8 xs8) (any_no (kit_no xn9 xi9 xt9 xs9) rfl)))))))))⟩,
    ⟨x10, x11, x12, PySem.W.mg_of X G xa10, PySem.W.mg_of X G xa11, PySem.W.mg_of X G xa12, (any_no (kit_no xn10 xi10 xt10 xs10) (any_no (kit_no xn11 xi11 xt11 xs11) (any_no (kit_no xn12 xi12 xt12 xs12) rfl)))⟩⟩
  have CFF : CF K w mg cN dR := ⟨xm, ⟨_, _, lR_, tR_, sR_⟩, PySem.W.mg_of X G aR_, ⟨_, _, F23, b23, g_23⟩, ⟨_, _, F24, b24, g_24⟩, ⟨_, _, F25, b25, g_25⟩, ⟨_, _, F22, b22, g_22⟩, ⟨_, _, _, F21, vd21, b21, g_21⟩, ⟨_, _, F30, b30, g_30⟩, ⟨_, _, F31, b31, g_31⟩, ⟨_, _, F32, b32, g_32⟩, m_dict, m_list, ⟨_, _, F9, b9, g_9⟩, ⟨_, _, F12, b12, g_12⟩, ⟨_, _, F13, b13, g_13⟩, ⟨_, _, F26, b26, (ns_keys lR_ kR_ _).trans rfl⟩, ⟨_, _, F27, b27, (ns_keys lR_ kR_ _).trans rfl⟩, ⟨_, _, F28, b28, (ns_keys lR_ kR_ _).trans rfl⟩, ⟨_, _, F29, b29, (ns_keys lR_ kR_ _).trans rfl⟩, m_tuple, m_sorted⟩
  refine ⟨PySem.W.fnOf "law" "law" (defArgs tLaw) (defBody tLaw) (defScope tLaw) .none kV49 dc49 pm49 an49 cd49 ct49, [(c1, p1), (c6, p6), (c18, p18), (c15, p15)], spLaw K [p1, p6, p18, p15], ?T, fun s v => .of_eq rfl, fun H a ns hl _ hH hS => ⟨a, ns, rfl, hS, hl, ?S, fun _ => rfl⟩, fun base _ _ TB => ?_⟩
  case T =>
    intro p hp
    rcases List.mem_cons.mp hp with e | hp
    · rw [e]; exact ⟨h1, n1, hc1⟩
    rcases List.mem_cons.mp hp with e | hp
    · rw [e]; exact ⟨h6, n6, hc6⟩
    rcases List.mem_cons.mp hp with e | hp
    · rw [e]; exact ⟨h18, n18, hc18⟩
    · rw [List.mem_singleton.mp hp]; exact ⟨h15, n15, hc15⟩
  case S =>
    intro p hp
    have q : ∀ p ∈ [p1, p6, p18, p15], H p = some (.tbl #[]) := by
      intro p hp
      rcases List.mem_cons.mp hp with e | hp
      · rw [e]; exact hH (c1, p1) (by simp)
      rcases List.mem_cons.mp hp with e | hp
      · rw [e]; exact hH (c6, p6) (by simp)
      rcases List.mem_cons.mp hp with e | hp
      · rw [e]; exact hH (c18, p18) (by simp)
      · rw [List.mem_singleton.mp hp]; exact hH (c15, p15) (by simp)
    exact ⟨#[], q p hp, True.intro⟩
  have T1 := tabX (TB (c1, p1) (by simp))
  have M1 : p1 ∈ [p1, p6, p18, p15] := by simp
  have T6 := tabX (TB (c6, p6) (by simp))
  have M6 : p6 ∈ [p1, p6, p18, p15] := by simp
  have T18 := tabX (TB (c18, p18) (by simp))
  have M18 : p18 ∈ [p1, p6, p18, p15] := by simp
  have T15 := tabX (TB (c15, p15) (by simp))
  have M15 : p15 ∈ [p1, p6, p18, p15] := by simp
  have N0 : ∀ k, FnOk l.prog w K mg base CX0 (k + 4) f1 _ ["thing"] (spName [p1, p6, p18, p15]) := fun k => okName C1 T1 M1 gL rL gN rN m_all m_isinstance m_str m_len
  have O0 : ∀ k, FnOk l.prog w K mg base CX0 (k + 5) f8 _ ["thing"] (spForm [p1, p6, p18, p15]) := fun k => okForm F8 (N0 k) b1 g_1 k1 gD hD m_isinstance m_tuple m_str m_len
  have I0 : ∀ k, FnOk l.prog w K mg base CX0 (k + 6) f7 _ ["thing"] (spIsData [p1, p6, p18, p15]) := fun k => okIsData F7 (O0 k) b8 g_8 k8 (fun N => okWithin F9) b9 g_9 k9
  have TG : ∀ k, FnOk l.prog w K mg base CX0 (k + 1) f5 _ ["thing", "word", "many"] spTagged := fun k => okTagged F5 m_isinstance m_tuple m_len
  have FI : ∀ k, FnOk l.prog w K mg base CX0 (k + 7) f10 _ ["thing"] (spYes [p1, p6, p18, p15] fstD) := fun k => okIsFirst F10 (TG (k + 5)) b5 g_5 k5 (I0 k) b7 g_7 k7
  have AR : ∀ k, FnOk l.prog w K mg base CX0 (k + 8) f11 _ ["thing"] (spYes [p1, p6, p18, p15] argD) := fun k => okIsArg F11 (FI k) b10 g_10 k10 (I0 (k + 1)) b7 g_7 k7
  have WH : ∀ k, FnOk l.prog w K mg base CX0 (k + 1) f3 _ ["thing"] (spYesS whlD) := fun k => okWhole F3 m_isinstance m_bool m_int
  have NU : ∀ k, FnOk l.prog w K mg base CX0 (k + 2) f4 _ ["thing"] (spYesS numD) := fun k => okNumber F4 (WH k) b3 g_3 k3
  have TU : ∀ k, FnOk l.prog w K mg base CX0 (k + 2) f17 _ ["thing"] (spYesS trnD) := fun k => okTurns F17 (WH k) b3 g_3 k3 gM rM
  have TR : ∀ k, FnOk l.prog w K mg base CX0 (k + 1) f2 _ ["thing"] (spYesS Dt.isBl) := fun k => okTruth F2 m_isinstance m_bool
  have RI : ∀ k, FnOk l.prog w K mg base CX0 (k + 4) f6 _ ["row"] (spRising [p1, p6, p18, p15]) := fun k => okRising C6 T6 M6 m_all m_zip
  have FL : ∀ k, FnOk l.prog w K mg base CX0 (k + 7) f19 _ ["thing"] (spYes [p1, p6, p18, p15] filD1) := fun k => okFill F19 (N0 (k + 2)) b1 g_1 k1 (I0 k) b7 g_7 k7 m_isinstance m_tuple m_len
  have FS : ∀ k, FnOk l.prog w K mg base CX0 (k + 11) f18 _ ["thing"] (spYes [p1, p6, p18, p15] filD) := fun k => okFills (k := k + 7) C18 T18 M18 (FL k) b19 g_19 k19 (RI (k + 6)) b6 g_6 k6 m_all m_isinstance m_tuple
  have FT : FnOk l.prog w K mg base CX0 12 f16 _ ["role", "part"] (spFits [p1, p6, p18, p15]) := okFits (k := 11) F16 (N0 7) b1 g_1 k1 (NU 9) b4 g_4 k4 (TR 10) b2 g_2 k2 (TU 9) b17 g_17 k17 (I0 5) b7 g_7 k7 (AR 3) b11 g_11 k11 (FS 0) b18 g_18 k18
  have HF : FnOk l.prog w K mg base CX0 16 f15 _ ["thing"] (spYes [p1, p6, p18, p15] tfrm) := okHasTerm (k := 12) C15 T15 M15 FT b16 g_16 k16 gB hB m_all m_zip m_isinstance m_tuple m_str m_len
  have IT : FnOk l.prog w K mg base CX0 17 f14 _ ["thing"] (spYes [p1, p6, p18, p15] trm) := okIsTerm (k := 16) F14 HF b15 g_15 k15 (fun N => okTermsIn (k := 15) F20 gB hB m_zip) b20 g_20 k20
  have H_isterm : Okd l.prog w K mg base CX0 17 "is_term" ["thing"] (spYes [p1, p6, p18, p15] trm) := ⟨_, _, IT, b14, g_14, k14⟩
  have H_draw : Okd l.prog w K mg base CX0 1 "_law_draw" ["_law_deck_here", "_law_most"] spDraw := ⟨_, _, okDraw (k := 0) F34, b34, g_34, F34.kp⟩
  have H_pick : Okd l.prog w K mg base CX0 2 "_law_pick" psPick spPick := ⟨_, _, okPick (k := 0) F35 (okDraw (k := 0) F34) b34 g_34 F34.kp m_len, b35, g_35, F35.kp⟩
  have H_pickT : Okd l.prog w K mg base CX0 2 "_law_pick" psPick spPickT := ⟨_, _, okPickT (k := 1) F35 (DD := H_draw) (m_len := m_len), b35, g_35, F35.kp⟩
  have H_names : Okd l.prog w K mg base CX0 2 "_law_names" ["_law_deck_here", "_law_many"] spNames := ⟨_, _, okNames (k := 0) F36 (okDraw (k := 0) F34) b34 g_34 F34.kp m_len m_range, b36, g_36, F36.kp⟩
  have H_deck : Okd l.prog w K mg base CX0 1 "_law_deck" ["_law_script"] (spDeck K) := ⟨_, _, okDeck (k := 0) F33 m_list m_reversed m_sum m_len, b33, g_33, F33.kp⟩
  have T0 := okLData (P := l.prog) (w := w) (base := base) F37 b37 g_37 F34 b34 g_34 F35 b35 g_35 m_int m_len
  have HN := okHanded (P := l.prog) (w := w) (base := base) F38 (okDraw (k := 5) F34) b34 g_34 F34.kp (okPick (k := 4) F35 (okDraw (k := 4) F34) b34 g_34 F34.kp m_len) b35 g_35 F35.kp (T0 4) b37 g_37 F37.kp m_int m_range
  have WK := okWalked (P := l.prog) (w := w) (base := base) F39 (okDraw (k := 6) F34) b34 g_34 F34.kp (okPick (k := 5) F35 (okDraw (k := 5) F34) b34 g_34 F34.kp m_len) b35 g_35 F35.kp (T0 4) b37 g_37 F37.kp HN b38 g_38 F38.kp m_range
  have H_data : Okd l.prog w K mg base CX0 4 "_law_data" psLData (spLData 2) := ⟨_, _, T0 2, b37, g_37, F37.kp⟩
  have H_walked : Okd l.prog w K mg base CX0 8 "_law_walked" psTwo spWalked := ⟨_, _, WK, b39, g_39, F39.kp⟩
  have H_args : Okd l.prog w K mg base CX0 1 "_law_arguments" ["_law_kind"] spLArgs := ⟨_, _, okLArgs (k := 0) F40, b40, g_40, F40.kp⟩
  have H_opens : Okd l.prog w K mg base CX0 9 "_law_opens" ["_law_kind"] (spLOpens 8) := ⟨_, _, okLOpens F42 b42 g_42 m_sorted m_set 8, b42, g_42, F42.kp⟩
  have H_put : Okd l.prog w K mg base CX0 9 "_law_put_in" ["_law_kind", "_law_table"] (spPutIn 8) := ⟨_, _, okLPut F43 b43 g_43 m_tuple 8, b43, g_43, F43.kp⟩
  have H_kof := CFF.kof3 (P := l.prog) (base := base) H_isterm 9 (by decide)
  have H_told : Okd l.prog w K mg base CX0 39 "_law_told" psLTold (spLTold K [p1, p6, p18, p15] 9) := ⟨_, _, okLTold (k := 38) F41 xm ni H_kof m_isinstance m_ValueError, b41, g_41, F41.kp⟩
  have H_known : Okd l.prog w K mg base CX0 10 "_law_known" psKnown spKnown := ⟨_, _, okKnown (k := 9) F44 (DD := H_draw.up (by decide)) (DO := H_opens) (DW := H_walked.up (by decide)) (m_sorted := m_sorted) (m_tuple := m_tuple), b44, g_44, F44.kp⟩
  have H_fills : Okd l.prog w K mg base CX0 10 "_law_fills" psFil spFil := ⟨_, _, okFil (k := 9) F45 (DA := H_data.up (by decide)) (DP := H_pickT.up (by decide)) (DO := H_opens), b45, g_45, F45.kp⟩
  have H_spoilt : Okd l.prog w K mg base CX0 3 "_law_spoilt" psSpoilt spSpoilt := ⟨_, _, okSpoilt (k := 2) F46 (DP := H_pick) (m_sorted := m_sorted), b46, g_46, F46.kp⟩
  have H_due : Okd l.prog w K mg base CX0 10 "_law_due" psDue spDue := ⟨_, _, okDue (k := 9) F47 (DP := H_put) (DO := H_opens) (m_sorted := m_sorted), b47, g_47, F47.kp⟩
  have H_all : Okd l.prog w K mg base CX0 40 "_law_all_right" psAllR (spAllR [p1, p6, p18, p15]) := ⟨_, _, okAllR (k := 39) F48 (DL := H_told) (DA := H_args.up (by decide)) (m_len := m_len) (m_list := m_list) (m_range := m_range) (m_zip := m_zip), b48, g_48, F48.kp⟩
  exact FnG.of (okLaw (k := 40) F49 (DD := H_draw.up (by decide)) (DR := H_all) (DU := H_due.up (by decide)) (DS := H_spoilt.up (by decide)) (DF := H_fills.up (by decide)) (DP := H_pickT.up (by decide)) (DW := H_known.up (by decide)) (DN := H_names.up (by decide)) (DK := H_deck.up (by decide)) (m_range := m_range) (m_sorted := m_sorted) (m_tuple := m_tuple))
end Kq
open PySem PySem.W PyProof.Rows
set_option maxRecDepth 100000 in
set_option maxHeartbeats 0 in
theorem PySem.Challenge.cw_kindalone_k21_told_ones_by_known_holds : PySem.Challenge.rw_kindalone_k21_told_ones_by_known.Holds := by
  w_on; o_law; k_head; (case hw => w_witness2)
  k_fill
  refine Kf.walk_ofG (l := PySem.Challenge.rw_kindalone_k21_told_ones_by_known) (n := 63) (k := 41) (x := "_law_script") (CX := fun _ => L2.CX0) rfl (by decide) rfl ⟨rfl, by decide, by decide⟩ (fun w h Y => PySem.W.kIn_of Y) ?F (fun _ _ _ _ _ h => h)
  case F =>
    intro w mg fa h Y KX G hmg tabs
    have TT1 : Kg.TabOf mg h "is_name" := by
      refine Kq.tt_of ?_ tabs
      decide +kernel
    have TT6 : Kg.TabOf mg h "is_rising" := by
      refine Kq.tt_of ?_ tabs
      decide +kernel
    have TT18 : Kg.TabOf mg h "is_fills" := by
      refine Kq.tt_of ?_ tabs
      decide +kernel
    have TT15 : Kg.TabOf mg h "has_term_form" := by
      refine Kq.tt_of ?_ tabs
      decide +kernel
    refine' Kq.all_mk KX G hmg TT1 TT6 TT18 TT15 ?a1 ?l1 ?q1 ?k1 ?a2 ?l2 ?q2 ?k2 ?a3 ?l3 ?q3 ?k3 ?a4 ?l4 ?q4 ?k4 ?a5 ?l5 ?q5 ?k5 ?a6 ?l6 ?q6 ?k6 ?a7 ?l7 ?q7 ?k7 ?a8 ?l8 ?q8 ?k8 ?a9 ?l9 ?q9 ?k9 ?a10 ?l10 ?q10 ?k10 ?a11 ?l11 ?q11 ?k11 ?a12 ?l12 ?q12 ?k12 ?a13 ?l13 ?q13 ?k13 ?a14 ?l14 ?q14 ?k14 ?a15 ?l15 ?q15 ?k15 ?a16 ?l16 ?q16 ?k16 ?a17 ?l17 ?q17 ?k17 ?a18 ?l18 ?q18 ?k18 ?a19 ?l19 ?q19 ?k19 ?a20 ?l20 ?q20 ?k20 ?a21 ?l21 ?q21 ?k21 ?a22 ?l22 ?q22 ?k22 ?a23 ?l23 ?q23 ?k23 ?a24 ?l24 ?q24 ?k24 ?a25 ?l25 ?q25 ?k25 ?a26 ?l26 ?q26 ?k26 ?a27 ?l27 ?q27 ?k27 ?a28 ?l28 ?q28 ?k28 ?a29 ?l29 ?q29 ?k29 ?a30 ?l30 ?q30 ?k30 ?a31 ?l31 ?q31 ?k31 ?a32 ?l32 ?q32 ?k32 ?a33 ?l33 ?q33 ?k33 ?a34 ?l34 ?q34 ?k34 ?a35 ?l35 ?q35 ?k35 ?a36 ?l36 ?q36 ?k36 ?a37 ?l37 ?q37 ?k37 ?a38 ?l38 ?q38 ?k38 ?a39 ?l39 ?q39 ?k39 ?a40 ?l40 ?q40 ?k40 ?a41 ?l41 ?q41 ?k41 ?a42 ?l42 ?q42 ?k42 ?a43 ?l43 ?q43 ?k43 ?a44 ?l44 ?q44 ?k44 ?a45 ?l45 ?q45 ?k45 ?a46 ?l46 ?q46 ?k46 ?a47 ?l47 ?q47 ?k47 ?a48 ?l48 ?q48 ?k48 ?a49 ?l49 ?q49 ?k49 ?t1 ?v1 ?n1 ?t6 ?v6 ?n6 ?t18 ?v18 ?n18 ?t15 ?v15 ?n15 ?aL ?rL ?aN ?rN ?aM ?rM ?aD_ ?lD_ ?tD_ ?sD_ ?kD_ ?aB_ ?lB_ ?tB_ ?sB_ ?kB_ ?aR_ ?lR_ ?tR_ ?sR_ ?kR_ ?lT1 ?vT1 ?lT2 ?vT2 ?lT3 ?vT3 ?lT4 ?vT4 ?lT5 ?vT5 ?lT6 ?vT6 ?lT7 ?vT7 ?lQ1 ?vQ1 ?lQ2 ?vQ2 ?lQ3 ?vQ3 ?lQ4 ?vQ4 ?lQ5 ?vQ5 ?lQ6 ?vQ6 ?lQ7 ?vQ7 ?lQ8 ?vQ8 ?lQ9 ?vQ9 ?lQ10 ?vQ10 ?lQ11 ?vQ11 ?lQ12 ?vQ12 ?lQ13 ?vQ13 ?lQ14 ?vQ14 ?lQ15 ?vQ15 ?lQ16 ?vQ16 ?lQ17 ?vQ17 ?lQ18 ?vQ18 ?lQ19 ?vQ19 ?lQ20 ?vQ20 ?lQ21 ?vQ21 ?lQ22 ?vQ22 ?lGD ?vGD ?aX ?xP ?kX ?bX ?tX ?vX ?gX ?hX ?dX ?cX ?sX ?uX ?mX ?aK ?bK ?iK ?tK ?sK ?xa1 ?xn1 ?xi1 ?xt1 ?xs1 ?xa2 ?xn2 ?xi2 ?xt2 ?xs2 ?xa3 ?xn3 ?xi3 ?xt3 ?xs3 ?xa4 ?xn4 ?xi4 ?xt4 ?xs4 ?xa5 ?xn5 ?xi5 ?xt5 ?xs5 ?xa6 ?xn6 ?xi6 ?xt6 ?xs6 ?xa7 ?xn7 ?xi7 ?xt7 ?xs7 ?xa8 ?xn8 ?xi8 ?xt8 ?xs8 ?xa9 ?xn9 ?xi9 ?xt9 ?xs9 ?xa10 ?xn10 ?xi10 ?xt10 ?xs10 ?xa11 ?xn11 ?xi11 ?xt11 ?xs11 ?xa12 ?xn12 ?xi12 ?xt12 ?xs12 ?z1 ?z2 ?z3 ?z4 ?z5 ?z6 ?z7 ?z8 ?z9 ?z10 ?z11 ?z12 ?z13 ?z14 ?z15 ?z16
    (case a1 => k_is); (case l1 => k_is); (case q1 => k_is); (case k1 => k_is)
    (case a2 => k_is); (case l2 => k_is); (case q2 => k_is); (case k2 => k_is)
    (case a3 => k_is); (case l3 => k_is); (case q3 => k_is); (case k3 => k_is)
    (case a4 => k_is); (case l4 => k_is); (case q4 => k_is); (case k4 => k_is)
    (case a5 => k_is); (case l5 => k_is); (case q5 => k_is); (case k5 => k_is)
    (case a6 => k_is); (case l6 => k_is); (case q6 => k_is); (case k6 => k_is)
    (case a7 => k_is); (case l7 => k_is); (case q7 => k_is); (case k7 => k_is)
    (case a8 => k_is); (case l8 => k_is); (case q8 => k_is); (case k8 => k_is)
    (case a9 => k_is); (case l9 => k_is); (case q9 => k_is); (case k9 => k_is)
    (case a10 => k_is); (case l10 => k_is); (case q10 => k_is); (case k10 => k_is)
    (case a11 => k_is); (case l11 => k_is); (case q11 => k_is); (case k11 => k_is)
    (case a12 => k_is); (case l12 => k_is); (case q12 => k_is); (case k12 => k_is)
    (case a13 => k_is); (case l13 => k_is); (case q13 => k_is); (case k13 => k_is)
    (case a14 => k_is); (case l14 => k_is); (case q14 => k_is); (case k14 => k_is)
    (case a15 => k_is); (case l15 => k_is); (case q15 => k_is); (case k15 => k_is)
    (case a16 => k_is); (case l16 => k_is); (case q16 => k_is); (case k16 => k_is)
    (case a17 => k_is); (case l17 => k_is); (case q17 => k_is); (case k17 => k_is)
    (case a18 => k_is); (case l18 => k_is); (case q18 => k_is); (case k18 => k_is)
    (case a19 => k_is); (case l19 => k_is); (case q19 => k_is); (case k19 => k_is)
    (case a20 => k_is); (case l20 => k_is); (case q20 => k_is); (case k20 => k_is)
    (case a21 => k_is); (case l21 => k_is); (case q21 => k_is); (case k21 => k_is)
    (case a22 => k_is); (case l22 => k_is); (case q22 => k_is); (case k22 => k_is)
    (case a23 => k_is); (case l23 => k_is); (case q23 => k_is); (case k23 => k_is)
    (case a24 => k_is); (case l24 => k_is); (case q24 => k_is); (case k24 => k_is)
    (case a25 => k_is); (case l25 => k_is); (case q25 => k_is); (case k25 => k_is)
    (case a26 => k_is); (case l26 => k_is); (case q26 => k_is); (case k26 => k_is)
    (case a27 => k_is); (case l27 => k_is); (case q27 => k_is); (case k27 => k_is)
    (case a28 => k_is); (case l28 => k_is); (case q28 => k_is); (case k28 => k_is)
    (case a29 => k_is); (case l29 => k_is); (case q29 => k_is); (case k29 => k_is)
    (case a30 => k_is); (case l30 => k_is); (case q30 => k_is); (case k30 => k_is)
    (case a31 => k_is); (case l31 => k_is); (case q31 => k_is); (case k31 => k_is)
    (case a32 => k_is); (case l32 => k_is); (case q32 => k_is); (case k32 => k_is)
    (case a33 => k_is); (case l33 => k_is); (case q33 => k_is); (case k33 => k_is)
    (case a34 => k_is); (case l34 => k_is); (case q34 => k_is); (case k34 => k_is)
    (case a35 => k_is); (case l35 => k_is); (case q35 => k_is); (case k35 => k_is)
    (case a36 => k_is); (case l36 => k_is); (case q36 => k_is); (case k36 => k_is)
    (case a37 => k_is); (case l37 => k_is); (case q37 => k_is); (case k37 => k_is)
    (case a38 => k_is); (case l38 => k_is); (case q38 => k_is); (case k38 => k_is)
    (case a39 => k_is); (case l39 => k_is); (case q39 => k_is); (case k39 => k_is)
    (case a40 => k_is); (case l40 => k_is); (case q40 => k_is); (case k40 => k_is)
    (case a41 => k_is); (case l41 => k_is); (case q41 => k_is); (case k41 => k_is)
    (case a42 => k_is); (case l42 => k_is); (case q42 => k_is); (case k42 => k_is)
    (case a43 => k_is); (case l43 => k_is); (case q43 => k_is); (case k43 => k_is)
    (case a44 => k_is); (case l44 => k_is); (case q44 => k_is); (case k44 => k_is)
    (case a45 => k_is); (case l45 => k_is); (case q45 => k_is); (case k45 => k_is)
    (case a46 => k_is); (case l46 => k_is); (case q46 => k_is); (case k46 => k_is)
    (case a47 => k_is); (case l47 => k_is); (case q47 => k_is); (case k47 => k_is)
    (case a48 => k_is); (case l48 => k_is); (case q48 => k_is); (case k48 => k_is)
    (case a49 => k_is); (case l49 => k_is); (case q49 => k_is); (case k49 => k_is)
    (case t1 => k_is); (case v1 => rfl); (case n1 => rfl)
    (case t6 => k_is); (case v6 => rfl); (case n6 => rfl)
    (case t18 => k_is); (case v18 => rfl); (case n18 => rfl)
    (case t15 => k_is); (case v15 => rfl); (case n15 => rfl)
    (case aL => k_is); (case rL => exact ⟨_, rfl⟩); (case aN => k_is); (case rN => exact ⟨_, rfl⟩); (case aM => k_is); (case rM => exact ⟨_, rfl⟩)
    (case aD_ => k_is); (case lD_ => k_is); (case tD_ => exact ⟨⟨_, _, rfl, rfl⟩, ⟨_, _, rfl, rfl⟩, ⟨_, _, rfl, rfl⟩, ⟨_, _, rfl, rfl⟩, ⟨_, _, rfl, rfl⟩, ⟨_, _, rfl, rfl⟩, ⟨_, _, rfl, rfl⟩, trivial⟩); (case sD_ => rfl)
    (case kD_ => exact ⟨⟨_, rfl⟩, rfl, ⟨_, rfl⟩, rfl, ⟨_, rfl⟩, rfl, ⟨_, rfl⟩, rfl, ⟨_, rfl⟩, rfl, ⟨_, rfl⟩, rfl, ⟨_, rfl⟩, rfl, trivial⟩)
    (case aB_ => k_is); (case lB_ => k_is); (case tB_ => exact ⟨⟨_, _, rfl, rfl⟩, ⟨_, _, rfl, rfl⟩, ⟨_, _, rfl, rfl⟩, ⟨_, _, rfl, rfl⟩, ⟨_, _, rfl, rfl⟩, ⟨_, _, rfl, rfl⟩, ⟨_, _, rfl, rfl⟩, ⟨_, _, rfl, rfl⟩, ⟨_, _, rfl, rfl⟩, ⟨_, _, rfl, rfl⟩, ⟨_, _, rfl, rfl⟩, ⟨_, _, rfl, rfl⟩, ⟨_, _, rfl, rfl⟩, ⟨_, _, rfl, rfl⟩, ⟨_, _, rfl, rfl⟩, ⟨_, _, rfl, rfl⟩, ⟨_, _, rfl, rfl⟩, ⟨_, _, rfl, rfl⟩, ⟨_, _, rfl, rfl⟩, ⟨_, _, rfl, rfl⟩, ⟨_, _, rfl, rfl⟩, ⟨_, _, rfl, rfl⟩, trivial⟩); (case sB_ => rfl)
    (case kB_ => exact ⟨⟨_, rfl⟩, rfl, ⟨_, rfl⟩, rfl, ⟨_, rfl⟩, rfl, ⟨_, rfl⟩, rfl, ⟨_, rfl⟩, rfl, ⟨_, rfl⟩, rfl, ⟨_, rfl⟩, rfl, ⟨_, rfl⟩, rfl, ⟨_, rfl⟩, rfl, ⟨_, rfl⟩, rfl, ⟨_, rfl⟩, rfl, ⟨_, rfl⟩, rfl, ⟨_, rfl⟩, rfl, ⟨_, rfl⟩, rfl, ⟨_, rfl⟩, rfl, ⟨_, rfl⟩, rfl, ⟨_, rfl⟩, rfl, ⟨_, rfl⟩, rfl, ⟨_, rfl⟩, rfl, ⟨_, rfl⟩, rfl, ⟨_, rfl⟩, rfl, ⟨_, rfl⟩, rfl, trivial⟩)
    (case aR_ => k_is); (case lR_ => k_is); (case tR_ => exact ⟨⟨_, _, rfl, rfl⟩, ⟨_, _, rfl, rfl⟩, ⟨_, _, rfl, rfl⟩, ⟨_, _, rfl, rfl⟩, ⟨_, _, rfl, rfl⟩, ⟨_, _, rfl, rfl⟩, ⟨_, _, rfl, rfl⟩, ⟨_, _, rfl, rfl⟩, ⟨_, _, rfl, rfl⟩, ⟨_, _, rfl, rfl⟩, ⟨_, _, rfl, rfl⟩, ⟨_, _, rfl, rfl⟩, ⟨_, _, rfl, rfl⟩, ⟨_, _, rfl, rfl⟩, ⟨_, _, rfl, rfl⟩, ⟨_, _, rfl, rfl⟩, ⟨_, _, rfl, rfl⟩, ⟨_, _, rfl, rfl⟩, ⟨_, _, rfl, rfl⟩, ⟨_, _, rfl, rfl⟩, ⟨_, _, rfl, rfl⟩, ⟨_, _, rfl, rfl⟩, trivial⟩); (case sR_ => rfl)
    (case kR_ => exact ⟨⟨_, rfl⟩, rfl, ⟨_, rfl⟩, rfl, ⟨_, rfl⟩, rfl, ⟨_, rfl⟩, rfl, ⟨_, rfl⟩, rfl, ⟨_, rfl⟩, rfl, ⟨_, rfl⟩, rfl, ⟨_, rfl⟩, rfl, ⟨_, rfl⟩, rfl, ⟨_, rfl⟩, rfl, ⟨_, rfl⟩, rfl, ⟨_, rfl⟩, rfl, ⟨_, rfl⟩, rfl, ⟨_, rfl⟩, rfl, ⟨_, rfl⟩, rfl, ⟨_, rfl⟩, rfl, ⟨_, rfl⟩, rfl, ⟨_, rfl⟩, rfl, ⟨_, rfl⟩, rfl, ⟨_, rfl⟩, rfl, ⟨_, rfl⟩, rfl, ⟨_, rfl⟩, rfl, trivial⟩)
    (case lT1 => k_is); (case vT1 => exact ⟨by decide, (.cons ⟨_, rfl⟩ .nil)⟩)
    (case lT2 => k_is); (case vT2 => exact ⟨by decide, .nil⟩)
    (case lT3 => k_is); (case vT3 => exact ⟨by decide, .nil⟩)
    (case lT4 => k_is); (case vT4 => exact ⟨by decide, (.cons ⟨_, rfl⟩ (.cons ⟨_, rfl⟩ .nil))⟩)
    (case lT5 => k_is); (case vT5 => exact ⟨by decide, (.cons ⟨_, rfl⟩ (.cons ⟨_, rfl⟩ .nil))⟩)
    (case lT6 => k_is); (case vT6 => exact ⟨by decide, (.cons ⟨_, rfl⟩ .nil)⟩)
    (case lT7 => k_is); (case vT7 => exact ⟨by decide, (.cons ⟨_, rfl⟩ (.cons ⟨_, rfl⟩ .nil))⟩)
    (case lQ1 => k_is); (case vQ1 => exact ⟨by decide, (.cons ⟨_, rfl⟩ .nil)⟩)
    (case lQ2 => k_is); (case vQ2 => exact ⟨by decide, (.cons ⟨_, rfl⟩ (.cons ⟨_, rfl⟩ (.cons ⟨_, rfl⟩ .nil)))⟩)
    (case lQ3 => k_is); (case vQ3 => exact ⟨by decide, (.cons ⟨_, rfl⟩ (.cons ⟨_, rfl⟩ .nil))⟩)
    (case lQ4 => k_is); (case vQ4 => exact ⟨by decide, (.cons ⟨_, rfl⟩ .nil)⟩)
    (case lQ5 => k_is); (case vQ5 => exact ⟨by decide, (.cons ⟨_, rfl⟩ (.cons ⟨_, rfl⟩ .nil))⟩)
    (case lQ6 => k_is); (case vQ6 => exact ⟨by decide, (.cons ⟨_, rfl⟩ (.cons ⟨_, rfl⟩ .nil))⟩)
    (case lQ7 => k_is); (case vQ7 => exact ⟨by decide, (.cons ⟨_, rfl⟩ .nil)⟩)
    (case lQ8 => k_is); (case vQ8 => exact ⟨by decide, (.cons ⟨_, rfl⟩ (.cons ⟨_, rfl⟩ (.cons ⟨_, rfl⟩ .nil)))⟩)
    (case lQ9 => k_is); (case vQ9 => exact ⟨by decide, (.cons ⟨_, rfl⟩ (.cons ⟨_, rfl⟩ .nil))⟩)
    (case lQ10 => k_is); (case vQ10 => exact ⟨by decide, (.cons ⟨_, rfl⟩ .nil)⟩)
    (case lQ11 => k_is); (case vQ11 => exact ⟨by decide, (.cons ⟨_, rfl⟩ .nil)⟩)
    (case lQ12 => k_is); (case vQ12 => exact ⟨by decide, (.cons ⟨_, rfl⟩ (.cons ⟨_, rfl⟩ .nil))⟩)
    (case lQ13 => k_is); (case vQ13 => exact ⟨by decide, (.cons ⟨_, rfl⟩ (.cons ⟨_, rfl⟩ .nil))⟩)
    (case lQ14 => k_is); (case vQ14 => exact ⟨by decide, (.cons ⟨_, rfl⟩ (.cons ⟨_, rfl⟩ (.cons ⟨_, rfl⟩ (.cons ⟨_, rfl⟩ (.cons ⟨_, rfl⟩ .nil)))))⟩)
    (case lQ15 => k_is); (case vQ15 => exact ⟨by decide, (.cons ⟨_, rfl⟩ .nil)⟩)
    (case lQ16 => k_is); (case vQ16 => exact ⟨by decide, (.cons ⟨_, rfl⟩ (.cons ⟨_, rfl⟩ .nil))⟩)
    (case lQ17 => k_is); (case vQ17 => exact ⟨by decide, (.cons ⟨_, rfl⟩ (.cons ⟨_, rfl⟩ (.cons ⟨_, rfl⟩ (.cons ⟨_, rfl⟩ (.cons ⟨_, rfl⟩ .nil)))))⟩)
    (case lQ18 => k_is); (case vQ18 => exact ⟨by decide, (.cons ⟨_, rfl⟩ (.cons ⟨_, rfl⟩ (.cons ⟨_, rfl⟩ (.cons ⟨_, rfl⟩ (.cons ⟨_, rfl⟩ .nil)))))⟩)
    (case lQ19 => k_is); (case vQ19 => exact ⟨by decide, (.cons ⟨_, rfl⟩ (.cons ⟨_, rfl⟩ .nil))⟩)
    (case lQ20 => k_is); (case vQ20 => exact ⟨by decide, (.cons ⟨_, rfl⟩ .nil)⟩)
    (case lQ21 => k_is); (case vQ21 => exact ⟨by decide, (.cons ⟨_, rfl⟩ (.cons ⟨_, rfl⟩ (.cons ⟨_, rfl⟩ (.cons ⟨_, rfl⟩ .nil))))⟩)
    (case lQ22 => k_is); (case vQ22 => exact ⟨by decide, (.cons ⟨_, rfl⟩ (.cons ⟨_, rfl⟩ .nil))⟩)
    (case lGD => k_is); (case vGD => exact .cons rfl .nil)
    (case aX => k_is); (case xP => k_exc); (case kX => k_is); (case bX => k_is); (case tX => k_is); (case vX => k_is); (case gX => k_is); (case hX => k_is); (case dX => k_is); (case cX => k_is); (case sX => k_is); (case uX => k_is); (case mX => k_is); (case aK => k_is); (case bK => k_is); (case iK => k_is); (case tK => k_is); (case sK => k_is)
    (case xa1 => k_is); (case xn1 => rfl); (case xi1 => k_is); (case xt1 => k_is); (case xs1 => k_is)
    (case xa2 => k_is); (case xn2 => rfl); (case xi2 => k_is); (case xt2 => k_is); (case xs2 => k_is)
    (case xa3 => k_is); (case xn3 => rfl); (case xi3 => k_is); (case xt3 => k_is); (case xs3 => k_is)
    (case xa4 => k_is); (case xn4 => rfl); (case xi4 => k_is); (case xt4 => k_is); (case xs4 => k_is)
    (case xa5 => k_is); (case xn5 => rfl); (case xi5 => k_is); (case xt5 => k_is); (case xs5 => k_is)
    (case xa6 => k_is); (case xn6 => rfl); (case xi6 => k_is); (case xt6 => k_is); (case xs6 => k_is)
    (case xa7 => k_is); (case xn7 => rfl); (case xi7 => k_is); (case xt7 => k_is); (case xs7 => k_is)
    (case xa8 => k_is); (case xn8 => rfl); (case xi8 => k_is); (case xt8 => k_is); (case xs8 => k_is)
    (case xa9 => k_is); (case xn9 => rfl); (case xi9 => k_is); (case xt9 => k_is); (case xs9 => k_is)
    (case xa10 => k_is); (case xn10 => rfl); (case xi10 => k_is); (case xt10 => k_is); (case xs10 => k_is)
    (case xa11 => k_is); (case xn11 => rfl); (case xi11 => k_is); (case xt11 => k_is); (case xs11 => k_is)
    (case xa12 => k_is); (case xn12 => rfl); (case xi12 => k_is); (case xt12 => k_is); (case xs12 => k_is)
    (case z1 => k_is); (case z2 => k_is); (case z3 => k_is); (case z4 => k_is); (case z5 => k_is); (case z6 => k_is); (case z7 => k_is); (case z8 => k_is); (case z9 => k_is); (case z10 => k_is); (case z11 => k_is); (case z12 => k_is); (case z13 => k_is); (case z14 => k_is); (case z15 => k_is); (case z16 => k_is)
