import PyProof.Rows.All
import Wide.All
import OpenK.AllK
import Wide.FinOn
import HandS.ForMost
import HandS.Rev
import HandS.StrMore
import HandS.IsInst
import HandS.Replace
import HandS.Codes
import HandS.Wide
import HandS.GenList
import HandS.AnyAll
import HandS.EndOwn
import HandS.ExcOwn
import PyProof.ReprRoads
import HandS.Walk
import HandS.Dict
import HandS.TupAny
import HandS.Style
import KE.KDictPairs
import KE.GoesMore
import HandS.Iter
import KE.KRevSl
import PyProof.Draws
import PyProof.EnumMake
import PyProof.EqKinds
import HandS.More
import PyProof.Rows.IntBool
import PyProof.CallStr
import PyProof.IsRules
import PyProof.ReprLen
import PyProof.FitsInt
import PyProof.StrLawsRepr
import HandS.FStrTup
import PyProof.Rows.RegReprOcc
import HandS.Zip
import HandS.Set
import HandS.SetBool
import HandS.TupSets
import HandS.SetFor
import HandS.DeepEq
import HandS.DictTup
import PyProof.DictUpdate
import HandS.Comp
import PyProof.Rows.RuleB_bool
import PyProof.Rows.FloatCmp
import HandS.RaiseMore
import HandS.TryOnly
import HandS.ForExc
import HandS.FStr
import HandS.IterVal
import HandS.Defaults
import KE.KDictZip
import PyProof.ZipIter
import KE.KDictList
import HandS.Sort
import HandS.Deep
import PyProof.P3In
import HandS.Small
import PyProof.NeKinds
import HandS.Conv
import PyProof.P3Eq
import KE.GoesEnum
import HandS.OwnEq
import PySem.Challenge.RW_kindalone_k76_more_rounds_in_terms
set_option Elab.async false
set_option linter.all false
set_option maxRecDepth 100000
set_option maxHeartbeats 4000000
namespace Kr
open PySem PySem.Spec PyProof.Rows L2 RT
section
variable {prog : Program} {w : World} {A : Around} {E : Value → Shared → Prop} {s : Shared}
/-- a list grows by what a walk from behind over another list gives -/
theorem growRev {R : Result → Shared → Prop} {it l S : Addr} {its : Array Value} {res : Value} {c0 : Nat} (hh : A.handled = none) (hit : s.heap.IsRevIter it l ((its.size : Int) - 1))
    (hl : s.heap.IsList l its) (hne : l ≠ it) (hn : its.size ≤ sizeLine) (hS : s.heap.get? S = some { cls := .type "list", data := .seq #[] c0 }) (hSi : S ≠ it) (hSl : S ≠ l)
    (hR : ∀ (h' : Heap) (tk : Nat) (acc : Array Value) (c : Nat), (∀ b o, b ≠ it → b ≠ S → s.heap.get? b = some o → h'.get? b = some o) →
      h'.get? S = some { cls := .type "list", dict := none, data := .seq acc c, slots := #[] } → ItemsOf (fun i v => its[its.size - 1 - i]? = some v) acc its.size → R (.ok (.ret res)) { s with heap := h', toks := tk }) :
    wpAny (model prog w) A.in1 (Builtin.List.listExtendWith (.ref S) (.ref it) res)
      (fun fin s' => match fin with
        | .done f => R (.ok f) s'
        | .again c' => c'.quiet = true ∧ codeAny (model prog w) A c' R s') (fun e s' => R (.error e) s') s := by
  have W := (Walks.listRev (prog := prog) (w := w) (A := A.in1) hh it l hne its).toS
  have out : S ∉ [it, l] := by
    intro z
    rcases List.mem_cons.mp z with z | z
    · exact hSi z
    · exact hSl (List.mem_singleton.mp z)
  have ty : s.TypeIs (.ref it) "list_reverseiterator" := hit.typeIs
  have no : Builtin.List.listSameRef (.ref S) (.ref it) = false := by
    simp [Builtin.List.listSameRef, hSi]
  unfold Builtin.List.listExtendWith
  refine wpAny_bind (wpAny_typeOf ty ?_)
  rw [if_neg (by rw [no]; decide)]
  refine wpAny_bind (wpAny_pyIter_revIter hit ?_)
  refine wpAny_bind (wpAny_holding ?_)
  unfold Builtin.List.listLengthHint
  refine wpAny_bind (wpAny_specialOf ty RT.nolen_lri ?_)
  show wpAny _ A.in1 (specialOf (.ref it) (Str.ofString "__length_hint__") >>= _) _ _ _
  refine wpAny_bind (wpAny_specialOf ty RT.hint_lri ?_)
  generalize hid : ("list_reverseiterator.__length_hint__" : String) = nm
  wp_delta
  have sp : splitId nm = some ("list_reverseiterator", "__length_hint__") := by
    subst hid
    decide +kernel
  rw [sp]
  subst hid
  refine wpAny_bind (wpAny_isInstance (b := true) ty (by rw [isSubtype_type]; kernel_rfl) ?_)
  refine wpAny_pure ?_
  rw [if_neg (by decide)]
  have z0 : ((its.size : Nat) : Int) - 1 - ((0 : Nat) : Int) = (its.size : Int) - 1 := by omega
  have st0 : s.heap.IsRevIter it l ((its.size : Int) - 1 - ((0 : Nat) : Int)) := by rw [z0]; exact hit
  refine wpAny_pure ⟨plainId_quiet F.plain_extend_loop _, ?_⟩
  refine codeAny_extend_loopS W hn S out res its.size 0 _ _ _ rfl (Nat.zero_le _) ⟨Nat.zero_le _, st0, hl⟩ hS (ItemsOf.nil _) (fun s' acc' c' mv hS' hacc => ?_)
  rw [Moved.eq_with mv]
  refine hR s'.heap s'.toks acc' c' (fun b o h1 h2 e => mv.heap b o (fun z => ?_) e) hS' hacc
  rcases List.mem_cons.mp z with z | z
  · exact h2 z
  · exact h1 (List.mem_singleton.mp z)
theorem call_list_rev {Q : Value → Shared → Prop} {it l : Addr} {its : Array Value} (hh : A.handled = none) (hit : s.heap.IsRevIter it l ((its.size : Int) - 1)) (hl : s.heap.IsList l its) (hne : l ≠ it) (hn : its.size ≤ sizeLine)
    (hQ : ∀ (h' : Heap) (tk : Nat) (acc : Array Value) (c : Nat), (∀ b o, b ≠ it → s.heap.get? b = some o → h'.get? b = some o) →
      h'.get? s.heap.objs.size = some { cls := .type "list", dict := none, data := .seq acc c, slots := #[] } → ItemsOf (fun i v => its[its.size - 1 - i]? = some v) acc its.size → Q (.ref s.heap.objs.size) { s with heap := h', toks := tk }) :
    wpAny (model prog w) A (call (.type "list") [.ref it]) Q E s := by
  obtain ⟨oi, hoi, _⟩ := id hit
  obtain ⟨ol, hol, _⟩ := id hl
  have n1 : s.heap.objs.size ≠ it := Nat.ne_of_gt (Heap.lt_size hoi)
  have n2 : s.heap.objs.size ≠ l := Nat.ne_of_gt (Heap.lt_size hol)
  refine callType_codes (Q₁ := fun obj s₁ => obj = .ref s.heap.objs.size ∧ s₁ = { s with heap := s.heap.push { cls := .type "list", data := .seq #[] } })
    F.called_list (F.typeCall_list_1 _) F.entry_list_init (code_list_new _ ⟨rfl, rfl⟩) (fun obj s₁ h₁ => ?_)
  obtain ⟨rfl, rfl⟩ := h₁
  have hS : (s.heap.push { cls := .type "list", data := .seq #[] }).get? s.heap.objs.size
      = some { cls := .type "list", data := .seq #[] } := Heap.get?_push_size _ rfl
  refine ⟨⟨_, hS, rfl⟩, F.args_list_init_2 _ _, ?_⟩
  show wpAny _ _ (do
    let old ← Builtin.List.listItems (.ref s.heap.objs.size)
    Builtin.List.listUpdate (.ref s.heap.objs.size) (fun _ => #[])
    letGo old.toList.reverse
    Builtin.List.listExtendWith (.ref s.heap.objs.size) (.ref it) .none) _ _ _
  refine wpAny_bind ?_
  unfold Builtin.List.listItems
  refine wpAny_bind (wpAny_seqItems hS rfl (wpAny_pure ?_))
  show wpAny _ _ (do
    updateSeq s.heap.objs.size (fun _ => #[])
    letGo (#[] : Array Value).toList.reverse
    Builtin.List.listExtendWith (.ref s.heap.objs.size) (.ref it) .none) _ _ _
  refine wpAny_bind (wpAny_updateSeq hS rfl ?_)
  have hS2 := Heap.get?_update_self (Obj.mapSeq fun _ => (#[] : Array Value)) hS rfl
  refine wpAny_bind (wpAny_letGo ?_)
  generalize hh2 : (s.heap.push { cls := .type "list", data := .seq #[] }).update s.heap.objs.size (Obj.mapSeq fun _ => (#[] : Array Value)) = h2 at hS2 ⊢
  have kp : ∀ b o, s.heap.get? b = some o → h2.get? b = some o := fun b o e => by
    rw [← hh2, Heap.get?_update_other _ _ (Nat.ne_of_gt (Heap.lt_size e))]
    exact Heap.get?_push_of_some _ e
  have hl2 : h2.IsList l its := by
    obtain ⟨o, e, r⟩ := id hl
    exact ⟨o, kp _ _ e, r⟩
  refine growRev (A := A.in1) (s := { s with heap := h2 }) hh (hit.at fun o e => kp _ _ e) hl2 hne hn hS2 n1 n2 (fun h' tk acc c k e i => ?_)
  exact ⟨rfl, hQ h' tk acc c (fun b o hb hbo => k b o hb (Nat.ne_of_lt (Heap.lt_size hbo)) (kp b o hbo)) e i⟩
end
/-- list(reversed(x)), x a list -/
def tListRev (K : PySem.W.Frag) (te : TE) : TE := fun σ H Q => te σ H fun v G => ∃ (a : Addr) (xs : List V), v = .ref a ∧ SqL K G a xs ∧ ∀ q, G q = none → Q (.ref q) (upd G q (.lst xs.reverse))
theorem pe_listRev {X : Cx} {e : Expr} {te : TE} {p p2 pos pos2 : Pos} (hc : X.calm = true) (hg : Gl X "list") (hm : X.mg "list" = none) (hg2 : Gl X "reversed") (hm2 : X.mg "reversed" = none) (he : PE X e te)
    (hs : starEach [e] X.env = (false, eval e X.env) :: starEach [] X.env := by rfl)
    (hs2 : starEach [.Call (.Name "reversed" p2) [e] [] pos2] X.env = (false, eval (.Call (.Name "reversed" p2) [e] [] pos2) X.env) :: starEach [] X.env := by rfl) :
    PE X (.Call (.Name "list" p) [.Call (.Name "reversed" p2) [e] [] pos2] [] pos) (tListRev X.K te) := by
  refine ⟨fun pins s σ H Q I h => ?_⟩
  have inner := fun (Q' : Value → Shared → Prop) (k : ∀ (a : Addr) (xs : List V) (its : List Value) (s1 : Shared) (G : Hp), Inv X pins σ G s1 → SqL X.K G a xs → Vals xs its → PlainL s1.heap a its.toArray → xs.length ≤ sizeLine →
      (∀ q, G q = none → Q (.ref q) (upd G q (.lst xs.reverse))) → Q' (.ref s1.heap.objs.size) { s1 with heap := s1.heap.push (revObj a ((its.toArray.size : Int) - 1)) }) =>
    show wpAny (model X.prog X.w) X.A (eval (.Call (.Name "reversed" p2) [e] [] pos2) X.env) Q' X.xe s from
      Call_ (ld_blt I hg2 hm2 PyProof.Rows.boot_reversed (PyProof.Rows.callWith_type1 (args_cons (thn (he.run pins s σ H _ I h) fun u s1 ⟨v, G, I1, r1, a, xs, ev, hq, q⟩ => args_nil (by
        subst ev
        obtain rfl : u = Value.ref a := r1
        obtain ⟨its, rv, pl, hz⟩ := I1.list hq
        exact call_reversed_list pl.isList (k a xs its s1 G I1 hq rv pl hz q))) hs) hs rfl))
  refine Call_ (ld_blt I hg hm boot_list (PyProof.Rows.callWith_type1 (args_cons (inner _ fun a xs its s1 G I1 hq rv pl hz q => args_nil ?_) hs2) hs2 rfl))
  have k0 : ∀ b o, s1.heap.get? b = some o → (s1.heap.push (revObj a ((its.toArray.size : Int) - 1))).get? b = some o := fun b o z => Heap.get?_push_of_some _ z
  obtain ⟨ol, hol, _⟩ := id pl.isList
  have hne : a ≠ s1.heap.objs.size := Nat.ne_of_lt (Heap.lt_size hol)
  have hn : its.toArray.size ≤ sizeLine := by rw [List.size_toArray, ← rv.length]; exact hz
  generalize hh3 : s1.heap.push (revObj a ((its.toArray.size : Int) - 1)) = h3 at k0 ⊢
  have it3 : h3.IsRevIter s1.heap.objs.size a ((its.toArray.size : Int) - 1) := by
    rw [← hh3]
    exact ⟨_, Heap.get?_push_size _ rfl, rfl, rfl⟩
  have l3 : h3.IsList a its.toArray := by
    rw [← hh3]
    exact pl.isList.push _
  have lt3 : s1.heap.objs.size < h3.objs.size := by
    obtain ⟨o, e, _⟩ := id it3
    exact Heap.lt_size e
  refine call_list_rev (s := { s1 with heap := h3 }) (I1.ok.hd hc) it3 l3 hne hn fun h' tk acc c hk hS hi => ?_
  have hgo : G h3.objs.size = none := I1.hok.fresh (Nat.le_of_lt lt3)
  refine ⟨.ref h3.objs.size, upd G h3.objs.size (.lst xs.reverse), I1.laid (t' := tk) (fun b o z => hk b o (Nat.ne_of_lt (Heap.lt_size z)) (k0 b o z)) (Nat.le_of_lt lt3)
    (show ObjOk X.prog X.w _ _ _ (.lst xs.reverse) from ⟨by rw [List.length_reverse]; exact hz, acc.toList, c, vals_rev rv hi, by rw [Array.toArray_toList]; exact hS⟩), rfl, q _ hgo⟩
end Kr
namespace Kq
open PySem PySem.Spec PyProof.Rows L2
/-! the program's defs, by their places -/
def tp (i : Nat) : Stmt := PySem.Challenge.pw_kindalone_k76_more_rounds_in_terms.main.body.getD i (.Pass ⟨0, 0, 0, 0⟩)
/-! heaps -/
theorem newS {H : Hp} {p : Addr} {o : HO} (h : H p = none) : Same H (upd H p o) := fun b u e => by
  rw [upd_ne (ne_of_none e h)]
  exact e
/-- but for d and c all that stood stands -/
def Kp (d c : Addr) (H G : Hp) : Prop := ∀ b o, b ≠ d → b ≠ c → H b = some o → G b = some o
theorem Kp.rfl {d c : Addr} {H : Hp} : Kp d c H H := fun _ _ _ _ e => e
theorem Kp.trans {d c : Addr} {H G F : Hp} (a : Kp d c H G) (b : Kp d c G F) : Kp d c H F := fun x o h1 h2 e => b x o h1 h2 (a x o h1 h2 e)
theorem Kp.of {d c : Addr} {H G : Hp} (a : Same H G) : Kp d c H G := fun x o _ _ e => a x o e
theorem Kp.at1 {d c : Addr} {H : Hp} {o : HO} : Kp d c H (upd H d o) := fun x u h1 _ e => by rw [upd_ne h1]; exact e
theorem Kp.at2 {d c : Addr} {H : Hp} {o : HO} : Kp d c H (upd H c o) := fun x u _ h2 e => by rw [upd_ne h2]; exact e
/-- the deck of drawn cells -/
structure Dk (H : Hp) (d c : Addr) : Prop where
  ne : d ≠ c
  dd : ∃ seed k : Int, H d = some (.lst [.ref c, .int seed, .int k])
  cc : ∃ ns : List Int, H c = some (.lst (ns.map V.int)) ∧ ns.length ≤ 63
theorem Dk.same {H G : Hp} {d c : Addr} (x : Dk H d c) (s : Same H G) : Dk G d c := by
  obtain ⟨n, ⟨a, b, e⟩, ⟨ns, f, l⟩⟩ := x
  exact ⟨n, ⟨a, b, s _ _ e⟩, ⟨ns, s _ _ f, l⟩⟩
theorem sz {n : Nat} (h : n ≤ 1000) : n ≤ sizeLine := Nat.le_of_lt (small1000 h)
theorem Kp.mk {d c p : Addr} {H G : Hp} {o : HO} (a : Kp d c H G) (h : H p = none) : Kp d c H (upd G p o) := fun b u h1 h2 e => by
  rw [upd_ne (ne_of_none e h)]
  exact a b u h1 h2 e
theorem Dk.put {G : Hp} {d c p : Addr} {o : HO} (x : Dk G d c) (h : p ≠ d) (h' : p ≠ c) : Dk (upd G p o) d c := by
  obtain ⟨n, ⟨a, b, e⟩, ⟨ns, f, l⟩⟩ := x
  exact ⟨n, ⟨a, b, by rw [upd_ne h.symm]; exact e⟩, ⟨ns, by rw [upd_ne h'.symm]; exact f, l⟩⟩
theorem Dk.off {H : Hp} {d c p : Addr} (x : Dk H d c) (h : H p = none) : p ≠ d ∧ p ≠ c := by
  obtain ⟨n, ⟨a, b, e⟩, ⟨ns, f, l⟩⟩ := x
  exact ⟨(ne_of_none e h).symm, (ne_of_none f h).symm⟩
/-! texts of letters -/
def lets : Str := "abcdefghijklmnopqrstuvwxyz"
def sg (i : Nat) : Str := ⟨#[97 + i]⟩
theorem lets_at : ∀ i : Fin 26, lets.cps.toList[i.val]? = some (97 + i.val) := by decide +kernel
structure Nm (x : Str) : Prop where
  low : ∀ c ∈ x.cps.toList, 97 ≤ c ∧ c < 123
  few : x.cps.toList.length ≤ 8
  one : 1 ≤ x.cps.toList.length
theorem app_cps (x y : Str) : (x ++ y).cps.toList = x.cps.toList ++ y.cps.toList := by
  show (x.cps ++ y.cps).toList = _
  rw [Array.toList_append]
theorem join_low : ∀ ks : List Nat, (∀ k ∈ ks, k < 26) → (∀ c ∈ (Txt.join (Str.ofString "") (ks.map sg)).cps.toList, 97 ≤ c ∧ c < 123) ∧ (Txt.join (Str.ofString "") (ks.map sg)).cps.toList.length = ks.length := by
  intro ks h
  rw [show ∀ a b, Txt.join a b = Str.join a b from TL.join_eq]
  induction ks with
  | nil => exact ⟨fun c z => absurd z (by simp [Str.join, Str.empty]), by simp [Str.join, Str.empty]⟩
  | cons k ks ih =>
    have hk := h k List.mem_cons_self
    have ih := ih fun j hj => h j (List.mem_cons_of_mem _ hj)
    cases ks with
    | nil =>
      refine ⟨fun c z => ?_, rfl⟩
      have e : c = 97 + k := by simpa [Str.join, sg] using z
      omega
    | cons j r =>
      have e : Str.join (Str.ofString "") ((k :: j :: r).map sg) = sg k ++ Str.ofString "" ++ Str.join (Str.ofString "") ((j :: r).map sg) := rfl
      rw [e, app_cps, app_cps]
      have e0 : (Str.ofString "").cps.toList = [] := by decide
      rw [e0, List.append_nil]
      refine ⟨fun c z => ?_, ?_⟩
      · rcases List.mem_append.mp z with z | z
        · have e : c = 97 + k := by simpa [sg] using z
          omega
        · exact ih.1 c z
      · rw [List.length_append, ih.2]
        show 1 + _ = _
        simp only [List.length_cons]
        omega
theorem join_nm {ks : List Nat} (h : ∀ k ∈ ks, k < 26) (h1 : 1 ≤ ks.length) (h8 : ks.length ≤ 8) : Nm (Txt.join (Str.ofString "") (ks.map sg)) := by
  obtain ⟨a, b⟩ := join_low ks h
  exact ⟨a, by omega, by omega⟩
theorem cutTo {xs : List V} {j : Nat} (h : j ≤ xs.length) : cutV xs none (some (j : Int)) = xs.take j := by
  unfold cutV
  rw [HT.sIx_nat, HT.sIx_none, Nat.min_eq_left h]
  rfl
theorem Kp.free {d c p : Addr} {H G : Hp} (a : Kp d c H G) (k : Dk G d c) (h : G p = none) : H p = none := by
  obtain ⟨h1, h2⟩ := k.off h
  cases e : H p with
  | none => rfl
  | some o =>
    rw [a p o h1 h2 e] at h
    cases h
theorem sg_len (ks : List Nat) : ((ks.map sg).map (·.length)).sum = ks.length := by
  induction ks with
  | nil => rfl
  | cons k ks ih =>
    rw [List.map_cons, List.map_cons, List.sum_cons, ih, List.length_cons]
    show 1 + ks.length = _
    omega
theorem lets_get {r : Int} (h0 : 0 ≤ r) (h1 : r < 26) : atI lets.cps.toList r = some (97 + r.toNat) := by
  have e : r = ((r.toNat : Nat) : Int) := by omega
  have q := atI_nat (lets_at ⟨r.toNat, by omega⟩)
  rw [← show r = (((⟨r.toNat, by omega⟩ : Fin 26).val : Nat) : Int) from e] at q
  exact q
theorem lets_len : lets.length ≤ sizeLine := by decide
/-! rules for the inside of a comprehension, the written part named -/
def rJn (K : PySem.W.Frag) : V → List V → Hp → VK → Prop := fun x xs H Q => ∃ a p, ∃ ys : List Str, x = .str a ∧ xs = [.ref p] ∧ (SqL K H p (ys.map V.str) ∨ SqT K H p (ys.map V.str)) ∧ (ys.map (·.length)).sum + ys.length * a.length ≤ 16777216 ∧ Q (.str (Txt.join a ys)) H
theorem pe_joinK {X : Cx} (K : PySem.W.Frag) (h : X.K = K) {o e : Expr} {apos pos : Pos} {to te : TE} (ho : PE X o to) (he : PE X e te) (hbase : attributeBase o "join" X.env (eval o X.env) = eval o X.env := by rfl) (hline : (apos.endLine == pos.line) = true := by rfl)
    (hs : starEach [e] X.env = [(false, eval e X.env)] := by rfl) : PE X (.Call (.Attribute o "join" apos) [e] [] pos) (tM1 (rJn K) to te) := by
  subst h
  exact pe_join ho he hs hbase hline
theorem dpInts (K : PySem.W.Frag) (H : Hp) : ∀ ns : List Int, DpAll K H (ns.map V.int) (ns.map PyData.int)
  | [] => .nil
  | n :: ns => .cons (.int n) (dpInts K H ns)
theorem ixNat {n j : Nat} (hj : j < n) : ixN n (j : Int) = some j := by
  have h1 : (0 : Int) ≤ (j : Int) := by omega
  have h2 : (j : Int) < (n : Int) := by omega
  simp [ixN, h1, h2]
theorem join_cps : ∀ ks : List Nat, (Txt.join (Str.ofString "") (ks.map sg)).cps.toList = ks.map (97 + ·) := by
  intro ks
  rw [show ∀ a b, Txt.join a b = Str.join a b from TL.join_eq]
  induction ks with
  | nil => rfl
  | cons k ks ih =>
    cases ks with
    | nil => rfl
    | cons j r =>
      have e : Str.join (Str.ofString "") ((k :: j :: r).map sg) = sg k ++ Str.ofString "" ++ Str.join (Str.ofString "") ((j :: r).map sg) := rfl
      rw [e, app_cps, app_cps, ih]
      rfl
theorem nodupR {f : Nat → Str} : ∀ n, (∀ i j, i < n → j < n → f i = f j → i = j) → ((List.range n).map f).Nodup
  | 0, _ => List.nodup_nil
  | n + 1, h => by
    rw [List.range_succ, List.map_append]
    refine List.nodup_append.mpr ⟨nodupR n fun i j hi hj e => h i j (by omega) (by omega) e, (by simp), fun x hx y hy e => ?_⟩
    obtain ⟨i, hi, rfl⟩ := List.mem_map.mp hx
    have ey : y = f n := List.mem_singleton.mp hy
    rw [ey] at e
    have hi := List.mem_range.mp hi
    have := h i n (by omega) (by omega) e
    omega
abbrev tDeck : Stmt := tp 7
abbrev tDraw : Stmt := tp 8
section
variable {P : Program} {w : World} {K : PySem.W.Frag} {mg : Str → Option Value} {base : Heap}
theorem scDraw : FnScope ["_law_deck_here", "_law_most", "_law_cell", "_law_number"] ["_law_deck_here", "_law_most"] (defScope tDraw) := ⟨rfl, rfl, rfl, by decide +kernel, rfl, by decide +kernel, by decide +kernel⟩
def spDraw : Sp := fun vs H Q _ => ∃ (d c : Addr) (m : Int), vs = [.ref d, .int m] ∧ Dk H d c ∧ 0 < m ∧ m < 1298074214633706907132624082305024 ∧ ∀ (r : Int) (G : Hp), 0 ≤ r → r < m → Kp d c H G → Dk G d c → Q (.int r) G
theorem okDraw {f : Addr} {fd : FuncData} {k : Nat} (F : Fun K "_law_draw" "_law_draw" tDraw f fd) : FnOk P w K mg base CX0 (k + 1) f fd ["_law_deck_here", "_law_most"] spDraw := by
  refine F.ok scDraw (fun vs H Q E h => ?_) (fun cdv A outer s H vs Q E hr h => ?_)
  · obtain ⟨d, c, m, rfl, _⟩ := h
    rfl
  obtain ⟨d, c, m, rfl, ⟨ndc, ⟨seed, k0, hd⟩, ⟨ns, hc, hl⟩⟩, m0, m1, q⟩ := h
  refine ⟨_, pss_cons (ps_asg (pe_op op_add (pe_ix ix_list (pv 0) pe_int (fun _ _ => rfl)) pe_int) (pg_sub (pv 0) pe_int set_list))
    (C8.pss_cut (ps_set (i := 2) scDraw.nd rfl (.inl rfl) (pe_ifExp (pt_cmpR (op_eqD hr.units) (pe_ix ix_list (pv 0) pe_int (fun _ _ => rfl)) (pe_lst pa_nil) (nomark _)) (pe_ix ix_list (pv 0) pe_int (fun _ _ => rfl)) (pe_bm0 PySem.F.plainAttrs_list PySem.F.slot_list_pop PySem.F.type_list_pop mt_pop (pe_ix ix_list (pv 0) pe_int (fun _ _ => rfl)))))
    (pss_cons (ps_if (pt_cmpR op_ge (pv 2) (pe_op op_pow pe_int pe_int) (nomark _))
      (pss_cons (ps_expr (pe_bm PySem.F.plainAttrs_list PySem.F.slot_list_append PySem.F.type_list_append mt_append (pe_ix ix_list (pv 0) pe_int (fun _ _ => rfl)) (pa_cons (pe_op op_fdivW (pv 2) (pv 1)) pa_nil)))
      (pss_one (ps_ret (pe_op op_mod (pv 2) (pv 1))))) pss_nil)
    (pss_cons (ps_set (i := 3) scDraw.nd rfl (.inl rfl) (pe_op op_mod (pe_op op_mul (pe_op op_add (pe_op op_add (pe_op op_mod (pv 2) pe_int) (pe_op op_mul pe_int (pe_ix ix_list (pv 0) pe_int (fun _ _ => rfl)))) pe_int) pe_int) pe_int))
    (pss_cons (ps_set (i := 3) scDraw.nd rfl (.inl rfl) (pe_op op_mod (pe_op op_add (pe_op op_add (pe_op op_mul (pv 3) (pv 3)) (pe_op op_mul pe_int (pe_ix ix_list (pv 0) pe_int (fun _ _ => rfl)))) pe_int) pe_int))
    (pss_one (ps_ret (pe_op op_mod (pe_op op_fdiv (pe_op op_mod (pe_op op_mul (pv 3) (pe_op op_add (pe_op op_fdiv (pv 3) pe_int) pe_int)) pe_int) pe_int) (pv 1)))))))), ?_⟩
  refine ⟨_, rfl, d, _, _, _, rfl, rfl, SqL.of hd, atI_nat (j := 2) rfl, _, _, rfl, rfl, _, rfl, d, _, _, 2, rfl, rfl, hd, rfl, ?_⟩
  generalize hH1 : upd H d _ = H1
  have d1 : H1 d = some (.lst [.ref c, .int seed, .int (k0 + 1)]) := by rw [← hH1, upd_same]; rfl
  have c1 : H1 c = some (.lst (ns.map V.int)) := by rw [← hH1, upd_ne ndc.symm]; exact hc
  have p1 : Kp d c H H1 := by rw [← hH1]; exact Kp.at1
  clear hH1
  refine ⟨fun σ G => ∃ (cell : Int) (ms : List Int), σ = [some (.ref d), some (.int m), some (.int cell), none] ∧ Kp d c H G ∧ G d = some (.lst [.ref c, .int seed, .int (k0 + 1)]) ∧ G c = some (.lst (ms.map V.int)) ∧ ms.length ≤ 62, ?_, ?b2⟩
  · refine ⟨_, rfl, d, _, _, _, rfl, rfl, SqL.of d1, atI_nat (j := 0) rfl, Nat.zero_le _, fun p np => ?_⟩
    have sp : Same H1 (upd H1 p (.lst [])) := newS np
    have d2 := sp _ _ d1
    have c2 := sp _ _ c1
    have p2 : Kp d c H (upd H1 p (.lst [])) := p1.trans (.of sp)
    refine ⟨.list (ns.map PyData.int), .list [], .lst (SqL.of c2) (dpInts K _ ns), .lst (SqL.of upd_same) .nil, PySem.W.ke_shaped_ints ns, rfl, _, rfl, ?_⟩
    generalize upd H1 p (.lst []) = H2 at d2 c2 p2
    refine ite2 (fun he => ?_) (fun hne => ?_)
    · have n0 : ns = [] := by
        cases ns with
        | nil => rfl
        | cons a b => simp [PyData.eqv, PyData.eqvAll] at he
      subst n0
      exact ⟨_, rfl, d, _, _, _, rfl, rfl, SqL.of d2, atI_nat (j := 1) rfl, seed, [], rfl, p2, d2, c2, Nat.zero_le _⟩
    · have nn : ns ≠ [] := fun z => hne (by rw [z]; rfl)
      obtain ⟨n, hn⟩ : ∃ n, (ns.map V.int)[(ns.map V.int).length - 1]? = some (.int n) := by
        have h0 : 0 < ns.length := List.length_pos_iff.mpr nn
        rw [List.length_map, List.getElem?_map, List.getElem?_eq_getElem (by omega)]
        exact ⟨_, rfl⟩
      have ed : (ns.map V.int).dropLast = ns.dropLast.map V.int := by rw [List.map_dropLast]
      refine ⟨_, rfl, d, _, _, _, rfl, rfl, SqL.of d2, atI_nat (j := 0) rfl, .inl ⟨rfl, _, SqL.of c2⟩, c, _, _, rfl, rfl, c2, hn, ?_⟩
      rw [ed]
      refine ⟨n, ns.dropLast, rfl, p2.trans Kp.at2, by rw [upd_ne ndc]; exact d2, upd_same, ?_⟩
      rw [List.length_dropLast]
      omega
  case b2 =>
    rintro σ G ⟨cell, ms, rfl, kp, gd, gc, lm⟩
    refine ⟨_, rfl, _, _, rfl, rfl, ⟨by decide, by decide, by decide⟩, _, _, rfl, rfl, _, rfl, ite2 (fun _ => ?_) (fun _ => ?_)⟩
    · refine ⟨_, rfl, d, _, _, _, rfl, rfl, SqL.of gd, atI_nat (j := 0) rfl, .inl ⟨rfl, _, SqL.of gc⟩, _, rfl, _, rfl, _, _, rfl, rfl, wide_div m0 (b := 120) (by show m.natAbs < 1329227995784915872903807060280344576; omega) (by decide) (by decide), c, _, _, rfl, rfl, gc, (by rw [List.length_map]; exact small1000 (by omega)), ?_⟩
      refine ⟨_, rfl, _, rfl, _, _, rfl, rfl, m0, q _ _ (Int.emod_nonneg _ (by omega)) (Int.emod_lt_of_pos _ m0) (kp.trans Kp.at2) ⟨ndc, ⟨seed, k0 + 1, (by rw [upd_ne ndc]; exact gd)⟩, ⟨ms ++ [cell / m], ?_, ?_⟩⟩⟩
      · rw [upd_same, List.map_append]
        rfl
      · rw [List.length_append]
        show _ + 1 ≤ 63
        omega
    · refine ⟨_, rfl, _, _, rfl, rfl, (by show (0 : Int) < 2147483629; decide), _, rfl, d, _, _, _, rfl, rfl, SqL.of gd, atI_nat (j := 2) rfl, _, _, rfl, rfl, .inl ⟨by decide, by decide⟩, _, _, rfl, rfl, _, _, rfl, rfl, _, _, rfl, rfl, .inr ⟨by decide, by decide⟩, _, _, rfl, rfl, (by show (0 : Int) < 2147483647; decide), ?_⟩
      generalize hx : (cell % 2147483629 + 104729 * (k0 + 1) + 1) * 48271 % 2147483647 = x
      have x0 : 0 ≤ x := by rw [← hx]; exact Int.emod_nonneg _ (by decide)
      have x1 : x < 2147483647 := by rw [← hx]; exact Int.emod_lt_of_pos _ (by decide)
      refine ⟨_, rfl, _, rfl, _, _, rfl, rfl, .inl ⟨by omega, by omega⟩, _, rfl, d, _, _, _, rfl, rfl, SqL.of gd, atI_nat (j := 2) rfl, _, _, rfl, rfl, .inl ⟨by decide, by decide⟩, _, _, rfl, rfl, _, _, rfl, rfl, _, _, rfl, rfl, (by show (0 : Int) < 2147483587; decide), ?_⟩
      generalize hy : (x * x + 69621 * (k0 + 1) + 7) % 2147483587 = y
      have y0 : 0 ≤ y := by rw [← hy]; exact Int.emod_nonneg _ (by decide)
      have y1 : y < 2147483587 := by rw [← hy]; exact Int.emod_lt_of_pos _ (by decide)
      refine ⟨_, rfl, _, rfl, _, _, rfl, rfl, ⟨by decide, by decide⟩, _, _, rfl, rfl, _, _, rfl, rfl, .inl ⟨by omega, by omega⟩, _, _, rfl, rfl, (by show (0 : Int) < 2305843009213693951; decide), _, _, rfl, rfl, ⟨by decide, by decide⟩, _, rfl, _, _, rfl, rfl, m0, ?_⟩
      exact q _ _ (Int.emod_nonneg _ (by omega)) (Int.emod_lt_of_pos _ m0) kp ⟨ndc, ⟨_, _, gd⟩, ⟨ms, gc, by omega⟩⟩
/-! _law_deck -/
theorem scDeck : FnScope ["_law_script", "_law_cells"] ["_law_script"] (defScope tDeck) := ⟨rfl, rfl, rfl, by decide +kernel, rfl, by decide +kernel, by decide +kernel⟩
def spDeck (K : PySem.W.Frag) : Sp := fun vs H Q _ => ∃ (a : Addr) (ns : List Int), vs = [.ref a] ∧ SqL K H a (ns.map V.int) ∧ ns.length ≤ 63 ∧ ∀ (d c : Addr) (G : Hp), Same H G → H d = none → H c = none → Dk G d c → Q (.ref d) G
theorem okDeck {f : Addr} {fd : FuncData} {k : Nat} (F : Fun K "_law_deck" "_law_deck" tDeck f fd) (ml : mg "list" = none) (mr : mg "reversed" = none) (ms : mg "sum" = none) (mn : mg "len" = none) : FnOk P w K mg base CX0 (k + 1) f fd ["_law_script"] (spDeck K) := by
  refine F.ok scDeck (fun vs H Q E h => ?_) (fun cdv A outer s H vs Q E hr h => ?_)
  · obtain ⟨a, ns, rfl, _⟩ := h
    rfl
  obtain ⟨a, ns, rfl, hS, hl, q⟩ := h
  refine ⟨_, pss_cons (ps_set (i := 1) scDeck.nd rfl (.inl rfl) (Kr.pe_listRev rfl (by rfl) ml (by rfl) mr (pe_slice sl_list (pv 0) po_none (po_some pe_int))))
    (pss_one (ps_ret (pe_lst (pa_cons (pv 1) (pa_cons (pe_op op_add (pe_op op_mod (pe_callB (cr_sum rfl) (by rfl) ms PyProof.Rows.boot_sum (pa_cons (pv 1) pa_nil)) pe_int) (pe_op op_mul pe_int (pe_callB call_len_seq (by rfl) mn PySem.boot_len (pa_cons (pv 1) pa_nil)))) (pa_cons pe_int pa_nil)))))), ?_⟩
  refine ⟨_, rfl, 63, rfl, a, _, rfl, hS, fun p np => ?_⟩
  refine ⟨p, _, rfl, SqL.of upd_same, fun c nc => ?_⟩
  have e0 : cutV (ns.map V.int) none (some 63) = (ns.take 63).map V.int := by
    rw [List.take_of_length_le hl]
    unfold cutV
    rw [HT.sIx_none, show HT.sIx (ns.map V.int).length (ns.map V.int).length (some 63) = min 63 (ns.map V.int).length from HT.sIx_nat _ _ 63, List.drop_zero, List.take_of_length_le]
    rw [List.length_map]
    omega
  rw [e0, ← List.map_reverse]
  generalize hm : (ns.take 63).reverse = ms'
  have lm : ms'.length ≤ 63 := by rw [← hm, List.length_reverse, List.length_take]; omega
  generalize hG : upd (upd H p _) c (.lst (ms'.map V.int)) = G
  have gc : G c = some (.lst (ms'.map V.int)) := by rw [← hG, upd_same]
  have hc : H c = none := (newS np).free nc
  have hcp : c ≠ p := fun z => by
    rw [z, upd_same] at nc
    cases nc
  have sG : Same H G := by
    rw [← hG]
    exact (newS np).trans (newS (by rw [upd_ne hcp]; exact hc))
  refine ⟨_, rfl, _, rfl, c, _, rfl, SqL.of gc, _, _, rfl, rfl, (by show (0 : Int) < 2147483629; decide), _, rfl, c, _, rfl, .inl (SqL.of gc), _, _, rfl, rfl, .inl ⟨by decide, by decide⟩, _, _, rfl, rfl, (by show 3 ≤ sizeLine; decide), fun d nd => q d c _ (sG.trans (newS nd)) (sG.free nd) hc ⟨(ne_of_none gc nd).symm, ⟨_, _, upd_same⟩, ⟨ms', ?_, lm⟩⟩⟩
  rw [upd_ne (ne_of_none gc nd)]
  exact gc
end
end Kq
namespace Kq
open PySem PySem.Spec PyProof.Rows L2
/-- the tuples stay -/
def Tk (H G : Hp) : Prop := ∀ b xs, H b = some (.tup xs) → G b = some (.tup xs)
theorem Tk.of {H G : Hp} (s : Same H G) : Tk H G := fun b xs e => s b _ e
theorem Tk.rfl {H : Hp} : Tk H H := fun _ _ e => e
theorem Tk.trans {H G F : Hp} (a : Tk H G) (b : Tk G F) : Tk H F := fun x o e => b x o (a x o e)
theorem Tk.kp {H G : Hp} {d c : Addr} (a : Kp d c H G) (k : Dk H d c) : Tk H G := fun b xs e => by
  obtain ⟨n, ⟨s, k0, hd⟩, ⟨ns, hc, _⟩⟩ := k
  refine a b _ (fun z => ?_) (fun z => ?_) e
  · rw [z, hd] at e
    cases e
  · rw [z, hc] at e
    cases e
theorem Tk.put {H G : Hp} {p : Addr} {o : HO} (a : Tk H G) (h : ∀ xs, H p ≠ some (.tup xs)) : Tk H (upd G p o) := fun b xs e => by
  rw [upd_ne (fun z => h xs (by rw [← z]; exact e))]
  exact a b xs e
theorem cutFrom1 (x : V) (vs : List V) : cutV (x :: vs) (some 1) none = vs := by
  unfold cutV
  rw [show HT.sIx (x :: vs).length 0 (some 1) = min 1 (x :: vs).length from HT.sIx_nat _ _ 1, HT.sIx_none, List.length_cons, Nat.min_eq_left (by omega)]
  show (vs.take (vs.length + 1 - 1)) = vs
  rw [Nat.add_sub_cancel, List.take_length]
theorem notWhole (x : V) (vs : List V) : ¬ (HT.sIx (x :: vs).length 0 (some 1) = 0 ∧ HT.sIx (x :: vs).length (x :: vs).length none = (x :: vs).length) := by
  rw [show HT.sIx (x :: vs).length 0 (some 1) = min 1 (x :: vs).length from HT.sIx_nat _ _ 1, List.length_cons, Nat.min_eq_left (by omega)]
  rintro ⟨h, _⟩
  cases h
theorem smk {H G : Hp} {p : Addr} {o : HO} (a : Same H G) (h : H p = none) : Same H (upd G p o) := fun b u e => by
  rw [upd_ne (ne_of_none e h)]
  exact a b u e
theorem Nm.ok {x : Str} (h : Nm x) : PyData.strOk x = true := by
  unfold PyData.strOk
  rw [← Array.all_toList, List.all_eq_true]
  intro c hc
  have := (h.low c hc).2
  exact decide_eq_true (by omega)
theorem dpStrs (K : PySem.W.Frag) (H : Hp) : ∀ xs : List Str, DpAll K H (xs.map V.str) (xs.map PyData.str)
  | [] => .nil
  | x :: xs => .cons (.str x) (dpStrs K H xs)
theorem layStrs : ∀ xs : List Str, (∀ x ∈ xs, Nm x) → PyData.canLayAll0 (xs.map PyData.str) = true ∧ PyData.depthAll (xs.map PyData.str) = 0
  | [], _ => ⟨by simp [PyData.canLayAll0], by simp [PyData.depthAll]⟩
  | x :: xs, h => by
    obtain ⟨a, b⟩ := layStrs xs fun y hy => h y (List.mem_cons_of_mem _ hy)
    have c := (h x List.mem_cons_self).ok
    exact ⟨by simp [PyData.canLayAll0, PyData.canLay0, a, c], by simp [PyData.depthAll, PyData.depth, b]⟩
theorem shStrs {xs : List Str} (h : ∀ x ∈ xs, Nm x) : SeqAt.shaped (.list (xs.map PyData.str)) = true := by
  obtain ⟨a, b⟩ := layStrs xs h
  simp [SeqAt.shaped, PyData.canLay0, PyData.depth, a, b]
theorem eqvNil (xs : List Str) : PyData.eqv (.list (xs.map PyData.str)) (.list []) = xs.isEmpty := by
  cases xs <;> simp [PyData.eqv, PyData.eqvAll]
theorem isiK {X : Cx} (K : PySem.W.Frag) (h : X.K = K) : CallR X (.builtin "isinstance") (rIsi K) := by
  subst h
  exact call_isi
theorem ixTK {X : Cx} (K : PySem.W.Frag) (h : X.K = K) : IxR X (rIxT K) := by
  subst h
  exact ix_tup
section
variable {P : Program} {w : World} {K : PySem.W.Frag} {mg : Str → Option Value} {base : Heap}
theorem noFn {f : Addr} {fd : FuncData} {ps : List Str} {sp : Sp} {k : Nat} (no : ∀ vs H Q E, ¬ sp vs H Q E) : FnOk P w K mg base CX0 k f fd ps sp :=
  ⟨fun vs H Q E h => absurd h (no vs H Q E), fun A outer s H args us vs Q E _ _ _ _ h => absurd h (no vs H Q E)⟩
end
end Kq
/-! all(..) of a generator expression whose element may call defs -/
namespace Kg
open PySem PySem.Spec PyProof.Rows L2 GenW GxR
open Sem (wp)
/-! the protocol -/
end Kg
namespace Kg
open PySem PySem.Spec PyProof.Rows L2 GenW GxR
open Sem (wp)
/-! the rule -/
end Kg
/-! defs that are called where no repr is under way -/
namespace Kf
open PySem PySem.Spec PyProof.Rows L2 LamX
/-- no repr is under way -/
abbrev Still (A : Around) : Prop := A.guards = some []
/-- a def's promise, called where no repr is under way -/
structure FnG (P : Program) (w : World) (K : PySem.W.Frag) (mg : Str → Option Value) (base : Heap) (CX : CXT) (k : Nat) (f : Addr) (fd : FuncData) (ps : List Str) (sp : Sp) : Prop where
  cnt : ∀ vs H Q E, sp vs H Q E → vs.length = ps.length
  go : ∀ (A : Around) (o : List Env) (s : Shared) (H : Hp) (r : Args) (us : List Value) (vs : List V) (Q : VK) (E : XK), Still A → Room k A → Env0 P w K mg base A o s H → BindsTo s fd r (ps.zip us) → Vals vs us → sp vs H Q E →
    codeAny (model P w) A (.call (.ref f) r) (CR CX o P w H s Q E) s
section
variable {P : Program} {w : World} {K : PySem.W.Frag} {mg : Str → Option Value} {base : Heap} {CX : CXT}
theorem FnG.of {k : Nat} {f : Addr} {fd : FuncData} {ps : List Str} {sp : Sp} (F : FnOk P w K mg base CX k f fd ps sp) : FnG P w K mg base CX k f fd ps sp :=
  ⟨F.len, fun A o s H r us vs Q E _ => F.run A o s H r us vs Q E⟩
theorem FnG.up {j k : Nat} {f : Addr} {fd : FuncData} {ps : List Str} {sp : Sp} (F : FnG P w K mg base CX j f fd ps sp) (h : j ≤ k) : FnG P w K mg base CX k f fd ps sp :=
  ⟨F.cnt, fun A o s H r us vs Q E g hr => F.go A o s H r us vs Q E g (hr.mono h)⟩
/-- a def by its body -/
theorem fnG_of {k : Nat} {f : Addr} {nm ql : Str} {prm : Arguments} {bd : List Stmt} {sco : Scope} {dV kV doc pm cdv ct oc : Value} {an od : Option Addr} {sl : Array (Option Value)} {N ps : List Str} {sp : Sp}
    (at' : K.lookup f = some ⟨oc, od, .func (PySem.W.fnOf nm ql prm bd sco dV kV doc pm an cdv ct), sl⟩) (hc : PySem.W.codeIn K cdv ql = true) (S : FnScope N ps sco) (cnt : ∀ vs H Q E, sp vs H Q E → vs.length = ps.length)
    (body : ∀ (A : Around) (o : List Env) (s : Shared) (H : Hp) (vs : List V) (Q : VK) (E : XK), Still A → Room k (A.deeper (envOfC ql sco s.heap.objs.size f cdv)) → sp vs H Q E →
      ∃ t, PSs (cxOf CX P w K mg base N ql sco f cdv A o s H E) bd t ∧ t { nx := fun _ G => Q .non G, rt := Q } (start N vs) H) : FnG P w K mg base CX (k + 1) f (PySem.W.fnOf nm ql prm bd sco dV kV doc pm an cdv ct) ps sp where
  cnt := cnt
  go := by
    intro A o s H r us vs Q E still room e0 binds vals hsp
    have hold := fun b u (z : base.get? b = some u) => (e0.bs b u z).1
    have kx := e0.mod.kin.keeps hold
    have par : ∀ z ∈ ps.zip us, sco.names.lookup z.1 = some .local ∨ (sco.names.lookup z.1 = some .cell ∧ ((cellsFrom (s.heap.objs.size + 1) sco.names []).lookup z.1).isSome = true) := by
      intro z hz
      have hm : z.1 ∈ ps := (List.of_mem_zip (a := z.1) (b := z.2) hz).1
      exact (S.par z.1 hm).imp id fun q => ⟨q, PySem.W.cellsFrom_some _ _ _ (.inl q)⟩
    refine codeAny_call_function room.depth (kx _ _ at') rfl S.co S.gen rfl (PySem.W.codeRec_of kx hc) (binds _ _ _ _ (wpAny_newFunctionEnv_cells S.kind par ?_))
    rintro env rfl s1 x
    refine ⟨(e0.mod.nolimit.keeps hold).keeps x.toInCall.keep, codeAny_func ?_⟩
    obtain ⟨t, ht, hq⟩ := body A o s H vs Q E still (room.deeper _) hsp
    refine wpAny_mono (ht.run [] s1 (start N vs) H _ (inv_start S room.hd e0 (cnt _ _ _ _ hsp) vals x) hq) ?_ (fun _ _ z => z)
    intro fl s2 z
    match fl, z with
    | .ret u, ⟨v, _, G, J, rv, q⟩ => exact ⟨v, G, J.os, J.bare, J.base, J.hok, rv, q⟩
    | .next, ⟨_, G, J, q⟩ => exact ⟨V.non, G, J.os, J.bare, J.base, J.hok, rfl, q⟩
    | .brk, ⟨_, _, _, q⟩ => exact q.elim
    | .cont, ⟨_, _, _, q⟩ => exact q.elim
/-- a def of the text that lets nothing out -/
theorem okG {x ql : Str} {st : Stmt} {f : Addr} {fd : FuncData} {N ps : List Str} {k : Nat} {sp : Sp} (F : Fun K x ql st f fd) (S : FnScope N ps (defScope st)) (cnt : ∀ vs H Q E, sp vs H Q E → vs.length = ps.length)
    (body : ∀ (cdv : Value) (A : Around) (o : List Env) (s : Shared) (H : Hp) (vs : List V) (Q : VK) (E : XK), Still A → Room k (A.deeper (envOfC ql (defScope st) s.heap.objs.size f cdv)) → sp vs H Q E →
      ∃ t, PSs (cxOf CX0 P w K mg base N ql (defScope st) f cdv A o s H E).nox (defBody st) t ∧ t { nx := fun _ G => Q .non G, rt := Q } (start N vs) H) : FnG P w K mg base CX0 (k + 1) f fd ps sp := by
  obtain ⟨oc, od, kV, doc, pm, an, cdv, ct, sl, rfl, hl, hc⟩ := F.ex
  exact fnG_of hl hc S cnt fun A o s H vs Q E g hr h => (body cdv A o s H vs Q E g hr h).imp fun t z => ⟨z.1.nox, z.2⟩
end
section
variable {X : Cx} {CX : CXT} {k : Nat} {f : Addr} {fd : FuncData} {ps : List Str} {sp : Sp} {dvs : List V} {ds : List Value} {E : XK} {x : Str} {p pos : Pos} {e : Expr} {es : List Expr} {t : TA}
theorem goG {pins : List (Addr × Obj)} {σ : L2.St} {H : Hp} {s : Shared} {Q : VK} {us : List Value} {vs : List V} (F : FnG X.prog X.w X.K X.mg X.base CX k f fd ps sp) (g : Still X.A) (hr : Room k X.A) (hb : Binds X.K fd ps ds) (hd : Vals dvs ds) (hx : Passes CX X E) (I : Inv X pins σ H s) (rv : Vals vs us)
    (h : sp (vs ++ dvs) H Q E) : wpAny (model X.prog X.w) X.A (call (.ref f) us) (EP X pins σ Q) X.xe s := by
  have both := rv.append hd
  have n : (us ++ ds).length = ps.length := both.length.symm.trans (F.cnt _ _ _ _ h)
  refine wpAny_call (codeAny_mono (F.go X.A X.stack s H ⟨us, []⟩ _ _ Q E g hr I.env0 (hb s us I.kIn n) both h) ?_)
  intro r s2 z
  match r, z with
  | .error u, z => exact hx pins σ H s u s2 I z
  | .ok (.ret u), z => exact I.after z
  | .ok .next, z => exact z.elim
  | .ok .brk, z => exact z.elim
  | .ok .cont, z => exact z.elim
/-- f(e, ..) -/
theorem pe_callG (F : FnG X.prog X.w X.K X.mg X.base CX k f fd ps sp) (g : Still X.A) (hr : Room k X.A) (hg : Gl X x) (hm : X.mg x = some (.ref f)) (hk : PySem.W.keepIn X.K (.ref f) = true) (hb : Binds X.K fd ps ds) (hd : Vals dvs ds) (hx : Passes CX X E) (ha : PA X (e :: es) t)
    (hn : (x == ("__debug__" : Str)) = false := by decide) (h1 : starEach (e :: es) X.env = (false, eval e X.env) :: starEach es X.env := by rfl) (h2 : (backTo pos (starEach es X.env)).any (·.1) = false := by rfl) : PE X (.Call (.Name x p) (e :: es) [] pos) (tCall sp dvs E t) := by
  constructor
  intro pins s σ H Q I h
  refine wpAny_Call_Name_kw (ld_glob I hg hm (PySem.W.callWith_K (h₀ := X.base) I.ok.mod.kin hk (thn (ha.run pos pins s σ H _ I h) ?_) h1 h2) hn)
  rintro us s2 ⟨vs, G, J, rv, q⟩
  exact ⟨J.kIn, goG F g hr hb hd hx J rv q⟩
end
end Kf
/-! repr of data -/
namespace Kf
open PySem PySem.Spec PyProof.Rows L2
end Kf
/-! things of anything: none, truths, numbers, texts, tuples, lists, the empty dict -/
namespace Kv
open PySem PySem.Spec PyProof.Rows L2 Kf
inductive Dt where
  | non
  | bl (b : Bool)
  | int (i : Int)
  | str (x : Str)
  | tup (xs : List Dt)
  | lst (xs : List Dt)
  | dct (kvs : List (Str × Int))
/-- a dict of texts with numbers -/
def dkv (kvs : List (Str × Int)) : List (Key × V) := kvs.map fun p => (.inr p.1, .int p.2)
def dkp (kvs : List (Str × Int)) : List (PyData × PyData) := kvs.map fun p => (.str p.1, .int p.2)
mutual
/-- the thing stands at v; its lists and dicts at places N -/
inductive Dd (N : Addr → Prop) (H : Hp) : Dt → V → Prop
  | non : Dd N H .non .non
  | bl (b : Bool) : Dd N H (.bl b) (.bl b)
  | int (i : Int) : Dd N H (.int i) (.int i)
  | str (x : Str) : Dd N H (.str x) (.str x)
  | tup {a : Addr} {xs : List Dt} {vs : List V} : H a = some (.tup vs) → DdL N H xs vs → Dd N H (.tup xs) (.ref a)
  | lst {a : Addr} {xs : List Dt} {vs : List V} : N a → H a = some (.lst vs) → DdL N H xs vs → Dd N H (.lst xs) (.ref a)
  | dct {a : Addr} {kvs : List (Str × Int)} : N a → H a = some (.dK (dkv kvs)) → Dd N H (.dct kvs) (.ref a)
inductive DdL (N : Addr → Prop) (H : Hp) : List Dt → List V → Prop
  | nil : DdL N H [] []
  | cons {x : Dt} {xs : List Dt} {v : V} {vs : List V} : Dd N H x v → DdL N H xs vs → DdL N H (x :: xs) (v :: vs)
end
/-- what stood of tuples, and of lists and dicts at N, stands -/
structure Kn (N : Addr → Prop) (H G : Hp) : Prop where
  tup : ∀ b xs, H b = some (.tup xs) → G b = some (.tup xs)
  lst : ∀ b xs, N b → H b = some (.lst xs) → G b = some (.lst xs)
  dic : ∀ b xs, N b → H b = some (.dK xs) → G b = some (.dK xs)
theorem Kn.of {N : Addr → Prop} {H G : Hp} (s : Same H G) : Kn N H G := ⟨fun b _ e => s b _ e, fun b _ _ e => s b _ e, fun b _ _ e => s b _ e⟩
theorem Kn.trans {N : Addr → Prop} {H G F : Hp} (a : Kn N H G) (b : Kn N G F) : Kn N H F := ⟨fun x _ e => b.tup x _ (a.tup x _ e), fun x _ n e => b.lst x _ n (a.lst x _ n e), fun x _ n e => b.dic x _ n (a.dic x _ n e)⟩
theorem Kn.rfl {N : Addr → Prop} {H : Hp} : Kn N H H := ⟨fun _ _ e => e, fun _ _ _ e => e, fun _ _ _ e => e⟩
theorem Kn.sub {N M : Addr → Prop} {H G : Hp} (k : Kn N H G) (h : ∀ b, M b → N b) : Kn M H G := ⟨k.tup, fun b xs n e => k.lst b xs (h b n) e, fun b xs n e => k.dic b xs (h b n) e⟩
/-- another list, dict or the like is put at p -/
theorem Kn.put {N : Addr → Prop} {H G : Hp} {p : Addr} {o : HO} (k : Kn N H G) (n : ¬ N p) (h : ∀ xs, H p ≠ some (.tup xs)) : Kn N H (upd G p o) := by
  refine ⟨fun b xs e => ?_, fun b u hb e => ?_, fun b u hb e => ?_⟩
  · rw [upd_ne (fun z => h xs (by rw [← z]; exact e))]
    exact k.tup b xs e
  · rw [upd_ne (fun z => n (by rw [← z]; exact hb))]
    exact k.lst b u hb e
  · rw [upd_ne (fun z => n (by rw [← z]; exact hb))]
    exact k.dic b u hb e
mutual
theorem Dd.kn {N : Addr → Prop} {H G : Hp} (k : Kn N H G) : ∀ {x : Dt} {v : V}, Dd N H x v → Dd N G x v
  | _, _, .non => .non
  | _, _, .bl b => .bl b
  | _, _, .int i => .int i
  | _, _, .str x => .str x
  | _, _, .tup h t => .tup (k.tup _ _ h) (t.kn k)
  | _, _, .lst n h t => .lst n (k.lst _ _ n h) (t.kn k)
  | _, _, .dct n h => .dct n (k.dic _ _ n h)
theorem DdL.kn {N : Addr → Prop} {H G : Hp} (k : Kn N H G) : ∀ {xs : List Dt} {vs : List V}, DdL N H xs vs → DdL N G xs vs
  | _, _, .nil => .nil
  | _, _, .cons h t => .cons (h.kn k) (t.kn k)
end
mutual
/-- at fewer, or other places, where the heap has nothing elsewhere -/
theorem Dd.at {N M : Addr → Prop} {H : Hp} (k : ∀ b u, N b → H b = some u → M b) : ∀ {x : Dt} {v : V}, Dd N H x v → Dd M H x v
  | _, _, .non => .non
  | _, _, .bl b => .bl b
  | _, _, .int i => .int i
  | _, _, .str x => .str x
  | _, _, .tup h t => .tup h (t.at k)
  | _, _, .lst n h t => .lst (k _ _ n h) h (t.at k)
  | _, _, .dct n h => .dct (k _ _ n h) h
theorem DdL.at {N M : Addr → Prop} {H : Hp} (k : ∀ b u, N b → H b = some u → M b) : ∀ {xs : List Dt} {vs : List V}, DdL N H xs vs → DdL M H xs vs
  | _, _, .nil => .nil
  | _, _, .cons h t => .cons (h.at k) (t.at k)
end
/-- at any places -/
abbrev Any : Addr → Prop := fun _ => True
theorem Dd.any {N : Addr → Prop} {H : Hp} {x : Dt} {v : V} (h : Dd N H x v) : Dd Any H x v := h.at fun _ _ _ _ => trivial
theorem DdL.any {N : Addr → Prop} {H : Hp} {x : List Dt} {v : List V} (h : DdL N H x v) : DdL Any H x v := h.at fun _ _ _ _ => trivial
theorem Dd.same {N : Addr → Prop} {H G : Hp} {x : Dt} {v : V} (h : Dd N H x v) (s : Same H G) : Dd N G x v := h.kn (.of s)
theorem DdL.same {N : Addr → Prop} {H G : Hp} {x : List Dt} {v : List V} (h : DdL N H x v) (s : Same H G) : DdL N G x v := h.kn (.of s)
section
variable {N : Addr → Prop} {H : Hp}
theorem DdL.len : ∀ {xs : List Dt} {vs : List V}, DdL N H xs vs → xs.length = vs.length
  | _, _, .nil => rfl
  | _, _, .cons _ t => congrArg (· + 1) t.len
theorem DdL.app : ∀ {xs ys : List Dt} {vs ws : List V}, DdL N H xs vs → DdL N H ys ws → DdL N H (xs ++ ys) (vs ++ ws)
  | _, _, _, _, .nil, h => h
  | _, _, _, _, .cons h t, k => .cons h (t.app k)
theorem DdL.get : ∀ {xs : List Dt} {vs : List V} {i : Nat} {v : V}, DdL N H xs vs → vs[i]? = some v → ∃ x, xs[i]? = some x ∧ Dd N H x v
  | _, _, i, v, .nil, e => by simp at e
  | _, _, 0, v, .cons (x := x) (v := w) h t, e => ⟨x, rfl, by rw [← show w = v from Option.some.inj e]; exact h⟩
  | _, _, i + 1, v, .cons h t, e => DdL.get (i := i) t e
theorem DdL.get' : ∀ {xs : List Dt} {vs : List V} {i : Nat} {x : Dt}, DdL N H xs vs → xs[i]? = some x → ∃ v, vs[i]? = some v ∧ Dd N H x v
  | _, _, i, v, .nil, e => by simp at e
  | _, _, 0, v, .cons (x := w) (v := y) h t, e => ⟨y, rfl, by rw [← show w = v from Option.some.inj e]; exact h⟩
  | _, _, i + 1, v, .cons h t, e => DdL.get' (i := i) t e
theorem DdL.drop : ∀ {xs : List Dt} {vs : List V} (n : Nat), DdL N H xs vs → DdL N H (xs.drop n) (vs.drop n)
  | _, _, 0, h => h
  | _, _, n + 1, .nil => .nil
  | _, _, n + 1, .cons _ t => t.drop n
theorem DdL.take : ∀ {xs : List Dt} {vs : List V} (n : Nat), DdL N H xs vs → DdL N H (xs.take n) (vs.take n)
  | _, _, 0, h => .nil
  | _, _, n + 1, .nil => .nil
  | _, _, n + 1, .cons h t => .cons h (t.take n)
end
/-! their classes -/
def Dt.cls : Dt → String
  | .non => "NoneType"
  | .bl _ => "bool"
  | .int _ => "int"
  | .str _ => "str"
  | .tup _ => "tuple"
  | .lst _ => "list"
  | .dct _ => "dict"
theorem Dd.ty {K : PySem.W.Frag} {N : Addr → Prop} {H : Hp} {x : Dt} {v : V} (h : Dd N H x v) : TyX K H v (.type x.cls) := by
  cases h with
  | non => exact .base .non
  | bl b => exact .base (.bl b)
  | int i => exact .base (.int i)
  | str x => exact .base (.str x)
  | tup h _ => exact .base (.tup h)
  | lst _ h _ => exact .base (.lst h)
  | dct _ h => exact .base (.dK h)
def Dt.isTup : Dt → Bool
  | .tup _ => true
  | _ => false
/-- isinstance of such a thing: the answers -/
theorem kTup (K : PySem.W.Frag) : ∀ x : Dt, PySem.W.kitOne K (.type x.cls) (.type "tuple") = some x.isTup := by
  intro x
  cases x <;> (refine kit_ty ?_; simp only [Dt.cls, Dt.isTup]; decide +kernel)
/-! as data, shown -/
mutual
def Dt.toP : Dt → PyData
  | .non => .none
  | .bl b => .bool b
  | .int i => .int i
  | .str x => .str x
  | .tup xs => .tuple (Dt.toPs xs)
  | .lst xs => .list (Dt.toPs xs)
  | .dct kvs => .dict (dkp kvs)
def Dt.toPs : List Dt → List PyData
  | [] => []
  | x :: xs => x.toP :: Dt.toPs xs
end
section
variable {X : Cx} {pins : List (Addr × Obj)} {σ : L2.St} {H : Hp} {s : Shared} {N : Addr → Prop}
theorem reads_pairs {P : Program} {w : World} {h : Heap} : ∀ {kvs : List (Str × Int)} {vs : List (Key × Value)} {es : List DictEntry}, KV (dkv kvs) vs → Pairs (mixKind P w) es vs → ReadsAll h (es.map (·.key)) ((dkp kvs).map (·.1)) [] ∧ ReadsAll h (es.map (·.val)) ((dkp kvs).map (·.2)) []
  | [], _, _, r, p => by
    unfold KV at r
    cases r
    cases p
    exact ⟨.nil, .nil⟩
  | (x, i) :: kvs, _, _, r, p => by
    unfold KV at r
    cases r with
    | cons hh t =>
      cases p with
      | cons h1 h2 t2 =>
        rename_i q qs e es
        obtain ⟨a, b⟩ := reads_pairs (P := P) (w := w) (h := h) (kvs := kvs) (by unfold KV; exact t) t2
        obtain ⟨g1, tk, g2⟩ := hh
        have h1 : keyIs q.1 e.key = true := h1
        rw [← g1] at h1
        rcases keyIs_shape h1 with ⟨j, u, z, _⟩ | ⟨y, u, z, ek⟩
        · cases z
        cases z
        obtain ⟨k0, v0⟩ := e
        cases ek
        have ev := h2.trans g2
        dsimp only at ev
        subst ev
        exact ⟨.cons (.str _ u) a, .cons (as := []) (.int _ tk) b⟩
/-- a dict, as an object -/
theorem dct_obj (I : Inv X pins σ H s) {a : Addr} {kvs : List (Str × Int)} (h : H a = some (.dK (dkv kvs))) : ∃ o es n, s.heap.get? a = some o ∧ o.cls = .type "dict" ∧ o.data = .dict es n ∧ (a == sysModules) = false ∧ ReadsAll s.heap (es.toList.map (·.key)) ((dkp kvs).map (·.1)) [] ∧ ReadsAll s.heap (es.toList.map (·.val)) ((dkp kvs).map (·.2)) [] := by
  obtain ⟨_, low, vs, kv, o, es, ep, ho, hx, hd, _, pr, _⟩ := dk_of I.hok h
  obtain ⟨r1, r2⟩ := reads_pairs (h := s.heap) kv pr
  exact ⟨o, es, ep, ho, hx.1, hd, low, r1, r2⟩
mutual
theorem Dd.reads (I : Inv X pins σ H s) : ∀ {x : Dt} {v : V}, Dd N H x v → ∀ {u : Value}, RelV v u → ∃ as, Reads s.heap u x.toP as
  | _, _, .non, _, r => by
    cases r
    exact ⟨_, .none⟩
  | _, _, .bl b, _, r => by
    cases r
    exact ⟨_, .bool b⟩
  | _, _, .int i, _, r => by
    obtain ⟨t, rfl⟩ := r
    exact ⟨_, .int i t⟩
  | _, _, .str x, _, r => by
    obtain ⟨t, rfl⟩ := r
    exact ⟨_, .str x t⟩
  | _, _, .tup h t, _, r => by
    cases r
    obtain ⟨its, rv, ⟨o, ho, hc, n, hd⟩, _⟩ := I.tuple (SqT.of h)
    obtain ⟨as, ra⟩ := t.reads I rv
    exact ⟨_, .tuple ho hc hd ra⟩
  | _, _, .lst _ h t, _, r => by
    cases r
    obtain ⟨its, rv, ⟨o, n, ho, hc, _, hd⟩, _⟩ := I.list (SqL.of h)
    obtain ⟨as, ra⟩ := t.reads I rv
    exact ⟨_, .list ho hc hd ra⟩
  | _, _, .dct _ h, _, r => by
    cases r
    obtain ⟨o, es, n, ho, hc, hd, _, h4, h5⟩ := dct_obj I h
    exact ⟨_, .dict ho hc hd h4 h5⟩
theorem DdL.reads (I : Inv X pins σ H s) : ∀ {xs : List Dt} {vs : List V}, DdL N H xs vs → ∀ {us : List Value}, Vals vs us → ∃ as, ReadsAll s.heap us (Dt.toPs xs) as
  | _, _, .nil, _, r => by
    cases r
    exact ⟨_, .nil⟩
  | _, _, .cons h t, _, r => by
    cases r with
    | cons r1 r2 =>
      obtain ⟨as, ra⟩ := h.reads I r1
      obtain ⟨bs, rb⟩ := t.reads I r2
      exact ⟨_, .cons ra rb⟩
end
mutual
theorem Dd.reprK (I : Inv X pins σ H s) : ∀ {x : Dt} {v : V}, Dd N H x v → ∀ {u : Value}, RelV v u → x.toP.showable = true → x.toP.shown.length ≤ sizeLine → ∃ bs, ReadAtMost s.heap x.toP.depth bs ∧ ReprK X.prog X.w bs s.heap x.toP.depth u x.toP.shown
  | _, _, .non, _, r, _, _ => by
    cases r
    exact ⟨[], (fun _ h => nomatch h), by simp only [Dt.toP, PyData.shown]; exact .of_is ReprIs.none _ _ _⟩
  | _, _, .bl b, _, r, _, _ => by
    cases r
    exact ⟨[], (fun _ h => nomatch h), by simp only [Dt.toP, PyData.shown]; exact .of_is (ReprIs.bool b) _ _ _⟩
  | _, _, .int i, _, r, hs, _ => by
    obtain ⟨t, rfl⟩ := r
    exact ⟨[], (fun _ h => nomatch h), by simp only [Dt.toP, PyData.shown]; exact .of_is (ReprIs.int t (by simpa [Dt.toP, PyData.showable] using hs)) _ _ _⟩
  | _, _, .str x, _, r, _, hz => by
    obtain ⟨t, rfl⟩ := r
    exact ⟨[], (fun _ h => nomatch h), by simp only [Dt.toP, PyData.shown]; exact .of_is (ReprIs.str x t (by simpa only [Dt.toP, PyData.shown] using hz)) _ _ _⟩
  | _, _, .tup (a := a) (xs := xs) h t, _, r, hs, hz => by
    cases r
    obtain ⟨its, rv, ⟨o, ho, hc, n, hd⟩, _⟩ := I.tuple (SqT.of h)
    have hz' : (tupleText (PyData.shownAll (Dt.toPs xs))).length ≤ sizeLine := by simpa only [Dt.toP, PyData.shown] using hz
    obtain ⟨as, ra⟩ := t.reads I rv
    obtain ⟨bs, hb, hk⟩ := t.reprK I rv (by simpa [Dt.toP, PyData.showable] using hs) (fun t ht => Nat.le_trans (tupleText_mem_le ht) hz')
    have rd : Reads s.heap (.ref a) (.tuple (Dt.toPs xs)) _ := .tuple ho hc hd ra
    have na : a ∉ bs := not_mem_of_deeper rd (by simp only [PyData.depth]; omega) hb
    have le : PyData.depthAll (Dt.toPs xs) ≤ (PyData.tuple (Dt.toPs xs)).depth := by simp only [PyData.depth]; omega
    exact ⟨a :: bs, ReadAtMost.cons rd le hb, by simp only [Dt.toP, PyData.depth, PyData.shown]; exact ReprK.tuple ho hc hd na hk⟩
  | _, _, .lst (a := a) (xs := xs) (vs := vs) _ h t, _, r, hs, hz => by
    cases r
    obtain ⟨its, rv, ⟨o, n, ho, hc, _, hd⟩, _⟩ := I.list (SqL.of h)
    have hz' : (listText (PyData.shownAll (Dt.toPs xs))).length ≤ sizeLine := by simpa only [Dt.toP, PyData.shown] using hz
    obtain ⟨as, ra⟩ := t.reads I rv
    obtain ⟨bs, hb, hk⟩ := t.reprK I rv (by simpa [Dt.toP, PyData.showable] using hs) (fun t ht => Nat.le_trans (listText_mem_le ht) hz')
    have rd : Reads s.heap (.ref a) (.list (Dt.toPs xs)) _ := .list ho hc hd ra
    have na : a ∉ bs := not_mem_of_deeper rd (by simp only [PyData.depth]; omega) hb
    have le : PyData.depthAll (Dt.toPs xs) ≤ (PyData.list (Dt.toPs xs)).depth := by simp only [PyData.depth]; omega
    refine ⟨a :: bs, ReadAtMost.cons rd le hb, ?_⟩
    simp only [Dt.toP, PyData.depth, PyData.shown]
    cases its with
    | nil =>
      cases rv
      cases t
      simp only [Dt.toPs, PyData.shownAll, listText_nil]
      exact ReprK.listEmpty ho hc hd
    | cons y l => exact ReprK.list ho hc hd na (by simpa using hk.length_eq) (fun i y e => hk.item i y (by simpa using e))
  | _, _, .dct (a := a) (kvs := kvs) _ h, _, r, hs, hz => by
    cases r
    obtain ⟨o, es, n, ho, hc, hd, low, h4, h5⟩ := dct_obj I h
    have rd : Reads s.heap (.ref a) (.dict (dkp kvs)) _ := .dict ho hc hd h4 h5
    have hz' : (dictText (PyData.shownKv (dkp kvs))).length ≤ sizeLine := by simpa only [Dt.toP, PyData.shown] using hz
    obtain ⟨hs1, hs2⟩ := PyData.showableKv_split (dkp kvs) (by simpa [Dt.toP, PyData.showable] using hs)
    obtain ⟨b1, hb1, k1⟩ := ReprAllK.of_readsAll (prog := X.prog) (w := X.w) h4 hs1 (fun _ hm => nomatch hm) (fun t ht => let ⟨p, hp, hl⟩ := PyData.shownKv_key_le _ t ht; Nat.le_trans hl (Nat.le_trans (dictText_mem_le hp) hz'))
    obtain ⟨b2, hb2, k2⟩ := ReprAllK.of_readsAll (prog := X.prog) (w := X.w) h5 hs2 (fun _ hm => nomatch hm) (fun t ht => let ⟨p, hp, hl⟩ := PyData.shownKv_val_le _ t ht; Nat.le_trans hl (Nat.le_trans (dictText_mem_le hp) hz'))
    have hb : ReadAtMost s.heap (PyData.depthKv (dkp kvs)) (b1 ++ b2) := (hb1.mono (PyData.depthAll_keys_le _)).append (hb2.mono (PyData.depthAll_vals_le _))
    have le : PyData.depthKv (dkp kvs) ≤ (PyData.dict (dkp kvs)).depth := by simp only [PyData.depth]; omega
    have hna : a ∉ b1 ++ b2 := not_mem_of_deeper rd (by simp only [PyData.depth]; omega) hb
    refine ⟨a :: (b1 ++ b2), ReadAtMost.cons rd le hb, ?_⟩
    simp only [Dt.toP, PyData.depth, PyData.shown, PyData.shownKv_eq]
    exact ReprK.dict ho hc hd low hna (ReprEntriesK.of_two es.toList _ _ (k1.more_le (fun b hb => List.mem_append_left _ hb) (PyData.depthAll_keys_le _)) (k2.more_le (fun b hb => List.mem_append_right _ hb) (PyData.depthAll_vals_le _)))
theorem DdL.reprK (I : Inv X pins σ H s) : ∀ {xs : List Dt} {vs : List V}, DdL N H xs vs → ∀ {us : List Value}, Vals vs us → PyData.showableAll (Dt.toPs xs) = true → (∀ t ∈ PyData.shownAll (Dt.toPs xs), t.length ≤ sizeLine) →
    ∃ bs, ReadAtMost s.heap (PyData.depthAll (Dt.toPs xs)) bs ∧ ReprAllK X.prog X.w bs s.heap (PyData.depthAll (Dt.toPs xs)) us (PyData.shownAll (Dt.toPs xs))
  | _, _, .nil, _, r, _, _ => by
    cases r
    exact ⟨[], (fun _ h => nomatch h), .nil⟩
  | _, _, .cons (x := x) (xs := xs) h t, _, r, hs, hz => by
    cases r with
    | cons r1 r2 =>
      have hs' : x.toP.showable = true ∧ PyData.showableAll (Dt.toPs xs) = true := by simpa [Dt.toPs, PyData.showableAll] using hs
      obtain ⟨as, ha, ka⟩ := h.reprK I r1 hs'.1 (hz _ (by simp [Dt.toPs, PyData.shownAll]))
      obtain ⟨bs, hb, kb⟩ := t.reprK I r2 hs'.2 (fun t ht => hz _ (by simp [Dt.toPs, PyData.shownAll, ht]))
      have m1 : x.toP.depth ≤ PyData.depthAll (Dt.toPs (x :: xs)) := by simp only [Dt.toPs, PyData.depthAll]; omega
      have m2 : PyData.depthAll (Dt.toPs xs) ≤ PyData.depthAll (Dt.toPs (x :: xs)) := by simp only [Dt.toPs, PyData.depthAll]; omega
      refine ⟨as ++ bs, (ha.mono m1).append (hb.mono m2), ?_⟩
      simp only [Dt.toPs, PyData.shownAll]
      exact .cons ((ka.more fun b hb => List.mem_append_left _ hb).level_le m1) (kb.more_le (fun b hb => List.mem_append_right _ hb) m2)
end
/-- it is shown: within the bounds -/
structure Shw (n : Nat) (x : Dt) : Prop where
  ok : x.toP.showable = true
  dp : x.toP.depth ≤ n
  sz : x.toP.shown.length ≤ sizeLine
def rShowU (n : Nat) : List V → Hp → VK → Prop := fun xs H Q => ∃ (v : V) (x : Dt), xs = [v] ∧ Dd Any H x v ∧ Shw n x ∧ Q (.str x.toP.shown) H
theorem call_showU {n : Nat} (g : Still X.A) (hu : X.A.units + (n + 1) < cLine) : CallR X (.builtin "repr") (rShowU n) := by
  intro pins s σ H xs us Q I r h
  obtain ⟨v, x, rfl, hd, sh, q⟩ := h
  cases r with
  | cons r1 r2 =>
    cases r2
    have done : ∀ (h' : Heap) (u tk : Tok), (∀ b o, s.heap.get? b = some o → h'.get? b = some o) → EP X pins σ Q (.str x.toP.shown u) { s with heap := h', toks := tk } := fun h' u tk hk => ⟨.str _, H, I.kept hk, ⟨u, rfl⟩, q⟩
    have dpx := sh.dp
    cases hd with
    | non =>
      cases r1
      exact PySem.P.repr_of_none (done s.heap _ _ fun _ _ e => e)
    | bl b =>
      cases r1
      exact PySem.P.repr_of_bool (by simpa only [Dt.toP, PyData.shown] using done s.heap _ _ fun _ _ e => e)
    | int i =>
      obtain ⟨t, rfl⟩ := r1
      exact PySem.P.repr_of_int (by simpa [Dt.toP, PyData.showable] using sh.ok) (by simpa only [Dt.toP, PyData.shown] using done s.heap _ _ fun _ _ e => e)
    | str y =>
      obtain ⟨t, rfl⟩ := r1
      exact PySem.P.repr_of_str (by simpa only [Dt.toP, PyData.shown] using done s.heap _ _ fun _ _ e => e) (by simpa only [Dt.toP, PyData.shown] using sh.sz)
    | tup h t =>
      rename_i a ys ws
      cases r1
      obtain ⟨its, rv, ⟨o, ho, hc, m, hd⟩, _⟩ := I.tuple (SqT.of h)
      have hz' : (tupleText (PyData.shownAll (Dt.toPs ys))).length ≤ sizeLine := by simpa only [Dt.toP, PyData.shown] using sh.sz
      obtain ⟨as, ra⟩ := t.reads I rv
      obtain ⟨bs, hb, hk⟩ := t.reprK I rv (by simpa [Dt.toP, PyData.showable] using sh.ok) (fun t ht => Nat.le_trans (tupleText_mem_le ht) hz')
      have rd : Reads s.heap (.ref a) (.tuple (Dt.toPs ys)) _ := .tuple ho hc hd ra
      have na : a ∉ bs := not_mem_of_deeper rd (by simp only [PyData.depth]; omega) hb
      have dp : PyData.depthAll (Dt.toPs ys) + 1 ≤ n := by simpa only [Dt.toP, PyData.depth, Nat.add_comm] using dpx
      exact call_repr_slot (by omega) ⟨o, ho, hc⟩ PySem.F.slot_tuple_repr (call_tuple_reprK ho hc hd na hk (A := X.A.in1) g (fun b _ => Clear.nil b) (by show X.A.units + 1 + _ < cLine; omega) (fun _ _ e => e) (fun h' u tk hk' => ⟨_, _, rfl, by simpa only [Dt.toP, PyData.shown] using done h' u tk hk'⟩) hz')
    | lst _ h t =>
      rename_i a ys ws _
      cases r1
      obtain ⟨its, rv, ⟨o, m, ho, hc, _, hd⟩, _⟩ := I.list (SqL.of h)
      have hz' : (listText (PyData.shownAll (Dt.toPs ys))).length ≤ sizeLine := by simpa only [Dt.toP, PyData.shown] using sh.sz
      obtain ⟨as, ra⟩ := t.reads I rv
      obtain ⟨bs, hb, hk⟩ := t.reprK I rv (by simpa [Dt.toP, PyData.showable] using sh.ok) (fun t ht => Nat.le_trans (listText_mem_le ht) hz')
      have rd : Reads s.heap (.ref a) (.list (Dt.toPs ys)) _ := .list ho hc hd ra
      have na : a ∉ bs := not_mem_of_deeper rd (by simp only [PyData.depth]; omega) hb
      have dp : PyData.depthAll (Dt.toPs ys) + 1 ≤ n := by simpa only [Dt.toP, PyData.depth, Nat.add_comm] using dpx
      cases its with
      | nil =>
        cases rv
        cases t
        exact call_repr_slot (by omega) ⟨o, ho, hc⟩ PySem.F.slot_list_repr.toG (call_list_repr_empty ⟨o, ho, hc⟩ ho hd ⟨_, _, rfl, by
          have z := done s.heap s.toks (s.toks + 1) fun _ _ e => e
          simp only [Dt.toP, Dt.toPs, PyData.shown, PyData.shownAll, listText_nil] at z
          exact z⟩)
      | cons y l =>
        exact call_repr_slot (by omega) ⟨o, ho, hc⟩ PySem.F.slot_list_repr.toG (call_list_reprK ho hc hd na (by simpa using hk.length_eq) (fun i y e => hk.item i y (by simpa using e)) (A := X.A.in1) g (fun b _ => Clear.nil b) (by show X.A.units + 1 + _ < cLine; omega) (fun _ _ e => e) (fun h' u tk hk' => ⟨_, _, rfl, by simpa only [Dt.toP, PyData.shown] using done h' u tk hk'⟩) hz')
    | dct _ h =>
      rename_i a kvs _
      cases r1
      obtain ⟨o, es, m, ho, hc, hd, low, h4, h5⟩ := dct_obj I h
      have rd : Reads s.heap (.ref a) (.dict (dkp kvs)) _ := .dict ho hc hd h4 h5
      have hz' : (dictText (PyData.shownKv (dkp kvs))).length ≤ sizeLine := by simpa only [Dt.toP, PyData.shown] using sh.sz
      obtain ⟨hs1, hs2⟩ := PyData.showableKv_split (dkp kvs) (by simpa [Dt.toP, PyData.showable] using sh.ok)
      obtain ⟨b1, hb1, k1⟩ := ReprAllK.of_readsAll (prog := X.prog) (w := X.w) h4 hs1 (fun _ hm => nomatch hm) (fun t ht => let ⟨p, hp, hl⟩ := PyData.shownKv_key_le _ t ht; Nat.le_trans hl (Nat.le_trans (dictText_mem_le hp) hz'))
      obtain ⟨b2, hb2, k2⟩ := ReprAllK.of_readsAll (prog := X.prog) (w := X.w) h5 hs2 (fun _ hm => nomatch hm) (fun t ht => let ⟨p, hp, hl⟩ := PyData.shownKv_val_le _ t ht; Nat.le_trans hl (Nat.le_trans (dictText_mem_le hp) hz'))
      have hb : ReadAtMost s.heap (PyData.depthKv (dkp kvs)) (b1 ++ b2) := (hb1.mono (PyData.depthAll_keys_le _)).append (hb2.mono (PyData.depthAll_vals_le _))
      have hna : a ∉ b1 ++ b2 := not_mem_of_deeper rd (by simp only [PyData.depth]; omega) hb
      have dp : PyData.depthKv (dkp kvs) + 1 ≤ n := by simpa only [Dt.toP, PyData.depth, Nat.add_comm] using dpx
      exact call_repr_slot (by omega) ⟨o, ho, hc⟩ PySem.F.slot_dict_repr (call_dict_reprK ho hc hd low hna (ReprEntriesK.of_two es.toList _ _ (k1.more_le (fun b hb => List.mem_append_left _ hb) (PyData.depthAll_keys_le _)) (k2.more_le (fun b hb => List.mem_append_right _ hb) (PyData.depthAll_vals_le _))) (A := X.A.in1) g (fun b _ => Clear.nil b) (by show X.A.units + 1 + _ < cLine; omega) (fun _ _ e => e) (fun h' u tk hk => ⟨_, _, rfl, by simpa only [Dt.toP, PyData.shown, PyData.shownKv_eq] using done h' u tk hk⟩) (by rw [← PyData.shownKv_eq]; exact hz'))
end
end Kv
namespace Kg
open PySem PySem.Spec PyProof.Rows L2 GxR
/-- a def whose code object is known -/
structure FunC (K : PySem.W.Frag) (x qual : Str) (st : Stmt) (f : Addr) (fd : FuncData) (c : Addr) : Prop where
  ex : ∃ (oc : Value) (od : Option Addr) (kV doc pm : Value) (an : Option Addr) (ct : Value) (osl : Array (Option Value)),
    fd = PySem.W.fnOf x qual (defArgs st) (defBody st) (defScope st) .none kV doc pm an (.ref c) ct ∧ K.lookup f = some ⟨oc, od, .func fd, osl⟩ ∧ PySem.W.codeIn K (.ref c) qual = true
section
variable {P : Program} {w : World} {K : PySem.W.Frag} {mg : Str → Option Value} {base : Heap}
theorem FunC.ok {x qual : Str} {st : Stmt} {f : Addr} {fd : FuncData} {c : Addr} {N ps : List Str} {k : Nat} {sp : Sp} (F : FunC K x qual st f fd c) (S : FnScope N ps (defScope st)) (len : ∀ vs H Q E, sp vs H Q E → vs.length = ps.length)
    (hbody : ∀ (A : Around) (outer : List Env) (s : Shared) (H : Hp) (vs : List V) (Q : VK) (E : XK), Room k (A.deeper (envOfC qual (defScope st) s.heap.objs.size f (.ref c))) → sp vs H Q E →
      ∃ t, PSs (cxOf CX0 P w K mg base N qual (defScope st) f (.ref c) A outer s H E).nox (defBody st) t ∧ t { nx := fun _ H' => Q .non H', rt := Q } (start N vs) H) : FnOk P w K mg base CX0 (k + 1) f fd ps sp := by
  obtain ⟨oc, od, kV, doc, pm, an, ct, osl, rfl, lk, hcd⟩ := F.ex
  refine fn_of lk hcd S len fun A outer s H vs Q E hr hsp => ?_
  obtain ⟨t, h, q⟩ := hbody A outer s H vs Q E hr hsp
  exact ⟨t, h.nox, q⟩
end
/-! the tables of code objects -/
def TbS (T : List Addr) (H : Hp) : Prop := ∀ p ∈ T, TabG H p
/-- all but the tables stands; they are tables -/
def Sm (T : List Addr) (H G : Hp) : Prop := (∀ b u, b ∉ T → H b = some u → G b = some u) ∧ TbS T G
theorem TbS.same {T : List Addr} {H G : Hp} (t : TbS T H) (s : Same H G) : TbS T G := fun p hp => by
  obtain ⟨ps, h1, h2⟩ := t p hp
  exact ⟨ps, s _ _ h1, h2⟩
theorem Sm.refl {T : List Addr} {H : Hp} (t : TbS T H) : Sm T H H := ⟨fun _ _ _ e => e, t⟩
theorem Sm.of {T : List Addr} {H G : Hp} (s : Same H G) (t : TbS T H) : Sm T H G := ⟨fun b u _ e => s b u e, t.same s⟩
theorem Sm.trans {T : List Addr} {H G F : Hp} (a : Sm T H G) (b : Sm T G F) : Sm T H F := ⟨fun x u h e => b.1 x u h (a.1 x u h e), b.2⟩
theorem Sm.tab {T : List Addr} {H G : Hp} {p : Addr} (hp : p ∈ T) (t : TbS T H) (h : Tabbed p H G) : Sm T H G := by
  refine ⟨fun b u hb e => ?_, fun q hq => ?_⟩
  · rw [h.2 b (fun z => hb (by rw [z]; exact hp))]
    exact e
  · by_cases z : q = p
    · rw [z]
      exact h.1
    · obtain ⟨ps, h1, h2⟩ := t q hq
      exact ⟨ps, by rw [h.2 q z]; exact h1, h2⟩
theorem TbS.off {T : List Addr} {H : Hp} {b : Addr} {u : HO} (t : TbS T H) (e : H b = some u) (n : ∀ ps, u ≠ .tbl ps) : b ∉ T := fun hb => by
  obtain ⟨ps, h1, _⟩ := t b hb
  rw [e] at h1
  exact n ps (Option.some.inj h1)
theorem Sm.at {T : List Addr} {H G : Hp} (a : Sm T H G) (t : TbS T H) {b : Addr} {u : HO} (e : H b = some u) (n : ∀ ps, u ≠ .tbl ps) : G b = some u := a.1 b u (t.off e n) e
theorem Sm.free {T : List Addr} {H G : Hp} {p : Addr} (a : Sm T H G) (h : G p = none) : H p = none := by
  cases e : H p with
  | none => rfl
  | some u =>
    by_cases hp : p ∈ T
    · obtain ⟨ps, h1, _⟩ := a.2 p hp
      rw [h] at h1
      cases h1
    · rw [a.1 p u hp e] at h
      cases h
/-! all over a list, over a tuple -/
section
variable {K : PySem.W.Frag} {a : Addr} {xs : List V} {g : TG} {te : TE} {vs : List Nat} {σ0 : L2.St} {G : Hp} {Qe : Bool → Hp → Prop}
theorem Sm.kn {T : List Addr} {N : Addr → Prop} {H G : Hp} (a : Sm T H G) (t : TbS T H) : Kv.Kn N H G :=
  ⟨fun b xs e => a.at t e (fun ps z => by cases z), fun b xs _ e => a.at t e (fun ps z => by cases z), fun b xs _ e => a.at t e (fun ps z => by cases z)⟩
end
end Kg
/-! dict(..) of a tuple of pairs, a tuple of two turned about -/
namespace Kt
open PySem PySem.Spec PyProof.Rows L2
section
variable {X : Cx}
theorem raws_of {pins : List (Addr × Obj)} {σ : L2.St} {H : Hp} {s : Shared} (I : Inv X pins σ H s) : ∀ {ps : List Addr} {kvs : List (Key × V)}, Paired (fun p kv => SqT X.K H p [kV kv.1, kv.2]) ps kvs →
    ∃ (prs : List (Key × Value)) (raws : List (Value × Value)), KV kvs prs ∧ prs.length = ps.length ∧ raws.length = ps.length ∧ ∀ (j : Nat) (u v : Value), raws[j]? = some (u, v) → ∃ (b : Addr) (k : Key), ps[j]? = some b ∧ IsTup s.heap b #[u, v] ∧ prs[j]? = some (k, v) ∧ keyIs k u = true
  | _, _, .nil => ⟨[], [], .nil, rfl, rfl, fun j u v e => by simp at e⟩
  | _, _, .cons (a := p) (b := kv) h t => by
    obtain ⟨prs, raws, r, hl, hl2, hp⟩ := raws_of I t
    obtain ⟨its, rv, ht, _⟩ := I.tuple h
    obtain ⟨u, y, ei, ru, ry⟩ := vals2 rv
    subst ei
    refine ⟨(kv.1, y) :: prs, (u, y) :: raws, .cons ⟨rfl, ry⟩ r, by rw [List.length_cons, List.length_cons, hl], by rw [List.length_cons, List.length_cons, hl2], fun j u' v' e => ?_⟩
    cases j with
    | zero =>
      have e' : (u, y) = (u', v') := Option.some.inj e
      cases e'
      exact ⟨p, kv.1, rfl, ht, rfl, kV_is (P := X.prog) (w := X.w) ru⟩
    | succ j =>
      obtain ⟨b, k, e1, e2, e3, e4⟩ := hp j u' v' (by simpa using e)
      exact ⟨b, k, by simpa using e1, e2, by simpa using e3, e4⟩
end
/-! t[::-1], t of two -/
end Kt
/-! further rules: == of tuples by texts, enumerate of a tuple, a text many times, a tuple turned about -/
namespace Kv
open PySem PySem.Spec PyProof.Rows L2 Kf
/-! a text many times -/
/-! a tuple turned about -/
/-! a list == the empty list -/
end Kv
/-! enumerate of a tuple -/
namespace PySem
open Sem (wp)
open AutoSeq1 (wpAny_loadPart')
end PySem
namespace Kv
open PySem PySem.Spec PyProof.Rows L2 Kf
end Kv
/-! a thing of anything == a text -/
namespace PySem.SeqAt
end PySem.SeqAt
namespace Kv
open PySem PySem.Spec PyProof.Rows L2 Kf
end Kv
/-! numbers and truths reckoned with; a thing is a truth; None among things -/
namespace Kv
open PySem PySem.Spec PyProof.Rows L2 Kf
end Kv
/-! things of anything: how great they are -/
namespace Kv
open PySem PySem.Spec PyProof.Rows L2 Kf
mutual
def Dt.sz : Dt → Nat
  | .tup xs => 1 + Dt.szs xs
  | .lst xs => 1 + Dt.szs xs
  | .dct kvs => 1 + 3 * kvs.length
  | _ => 1
def Dt.szs : List Dt → Nat
  | [] => 0
  | x :: xs => x.sz + Dt.szs xs
end
theorem sz_mem : ∀ {xs : List Dt} {x : Dt}, x ∈ xs → x.sz ≤ Dt.szs xs
  | y :: ys, x, h => by
    rcases List.mem_cons.mp h with rfl | h
    · exact Nat.le_add_right _ _
    · exact Nat.le_trans (sz_mem h) (Nat.le_add_left _ _)
mutual
def Dt.dp : Dt → Nat
  | .tup xs => Dt.dps xs + 1
  | .lst xs => Dt.dps xs + 1
  | .dct _ => 1
  | _ => 0
def Dt.dps : List Dt → Nat
  | [] => 0
  | x :: xs => max x.dp (Dt.dps xs)
end
def kwt : List (Str × Int) → Nat
  | [] => 3
  | p :: r => 10 * p.1.length + 60 + kwt r
mutual
def Dt.wt : Dt → Nat
  | .non => 4
  | .bl _ => 5
  | .int _ => 52
  | .str x => 10 * x.length + 2
  | .tup xs => Dt.wts xs + 3
  | .lst xs => Dt.wts xs + 3
  | .dct kvs => kwt kvs
def Dt.wts : List Dt → Nat
  | [] => 0
  | x :: xs => x.wt + 2 + Dt.wts xs
end
mutual
def Dt.fine (B : Nat) : Dt → Prop
  | .int i => i.natAbs < B
  | .str x => ∀ c ∈ x.cps.toList, c < 16 ^ 8
  | .tup xs => Dt.fines B xs
  | .lst xs => Dt.fines B xs
  | .dct kvs => ∀ p ∈ kvs, (∀ c ∈ p.1.cps.toList, c < 16 ^ 8) ∧ p.2.natAbs < B
  | _ => True
def Dt.fines (B : Nat) : List Dt → Prop
  | [] => True
  | x :: xs => x.fine B ∧ Dt.fines B xs
end
theorem int_shw {B : Nat} (hB : B ≤ 10 ^ 45) (i : Int) (h : i.natAbs < B) : (PyData.int i).showable = true ∧ (PyData.int i).depth = 0 ∧ (PyData.int i).shown.length ≤ 52 := by
  have h : i.natAbs < 10 ^ 45 := Nat.lt_of_lt_of_le h hB
  refine ⟨?_, by simp [PyData.depth], ?_⟩
  · simp only [PyData.showable]
    refine decide_eq_true ?_
    by_cases z : i.natAbs = 0
    · rw [z]
      decide
    · have : i.natAbs.log2 < 150 := (Nat.log2_lt z).mpr (Nat.lt_of_lt_of_le h (by decide))
      omega
  · have z := int_text_length_le10 (a := i) (k := 45) (by decide) h
    simp only [PyData.shown]
    have e : (Str.ofString (toString i)).length = (toString i).length := PySem.ofString_length _
    rw [e]
    omega
theorem dct_shw {B : Nat} (hB : B ≤ 10 ^ 45) : ∀ (kvs : List (Str × Int)), (∀ p ∈ kvs, (∀ c ∈ p.1.cps.toList, c < 16 ^ 8) ∧ p.2.natAbs < B) → PyData.showableKv (dkp kvs) = true ∧ PyData.depthKv (dkp kvs) = 0 ∧ ((PyData.shownKv (dkp kvs)).map (·.length)).sum + 2 * (PyData.shownKv (dkp kvs)).length + 3 ≤ kwt kvs
  | [], _ => ⟨by simp [dkp, PyData.showableKv], by simp [dkp, PyData.depthKv], by simp [dkp, PyData.shownKv, kwt]⟩
  | (x, i) :: kvs, h => by
    obtain ⟨a, b, c⟩ := dct_shw hB kvs fun p hp => h p (List.mem_cons_of_mem _ hp)
    obtain ⟨f1, f2⟩ := h (x, i) List.mem_cons_self
    obtain ⟨i1, i2, i3⟩ := int_shw hB i f2
    have e : dkp ((x, i) :: kvs) = (.str x, .int i) :: dkp kvs := rfl
    rw [e]
    refine ⟨by simp only [PyData.showableKv, a, i1]; simp [PyData.showable], by simp only [PyData.depthKv, b, i2]; simp [PyData.depth], ?_⟩
    have z : (PyData.str x).shown.length ≤ 10 * x.length + 2 := by simp only [PyData.shown]; exact PySem.StrLaws.reprText_len x f1
    have e2 : ((": " : Str)).length = 2 := by decide +kernel
    simp only [PyData.shownKv, List.map_cons, List.sum_cons, List.length_cons, kwt, strLen_append, e2]
    omega
mutual
theorem Dt.shw {B : Nat} (hB : B ≤ 10 ^ 45) : ∀ (x : Dt), x.fine B → x.toP.showable = true ∧ x.toP.depth = x.dp ∧ x.toP.shown.length ≤ x.wt
  | .non, _ => ⟨by simp [Dt.toP, PyData.showable], by simp [Dt.toP, PyData.depth, Dt.dp], by simp only [Dt.toP, PyData.shown, Dt.wt]; decide⟩
  | .bl b, _ => ⟨by simp [Dt.toP, PyData.showable], by simp [Dt.toP, PyData.depth, Dt.dp], by cases b <;> (simp only [Dt.toP, PyData.shown, Dt.wt]; decide)⟩
  | .int i, h => by
    have h : i.natAbs < B := by simpa only [Dt.fine] using h
    have h : i.natAbs < 10 ^ 45 := Nat.lt_of_lt_of_le h hB
    refine ⟨?_, by simp [Dt.toP, PyData.depth, Dt.dp], ?_⟩
    · simp only [Dt.toP, PyData.showable]
      refine decide_eq_true ?_
      by_cases z : i.natAbs = 0
      · rw [z]
        decide
      · have : i.natAbs.log2 < 150 := (Nat.log2_lt z).mpr (Nat.lt_of_lt_of_le h (by decide))
        omega
    · have z := int_text_length_le10 (a := i) (k := 45) (by decide) h
      simp only [Dt.toP, PyData.shown, Dt.wt]
      have e : (Str.ofString (toString i)).length = (toString i).length := PySem.ofString_length _
      rw [e]
      omega
  | .str x, h => by
    have h : ∀ c ∈ x.cps.toList, c < 16 ^ 8 := by simpa only [Dt.fine] using h
    exact ⟨by simp [Dt.toP, PyData.showable], by simp [Dt.toP, PyData.depth, Dt.dp], by simp only [Dt.toP, PyData.shown, Dt.wt]; exact PySem.StrLaws.reprText_len x h⟩
  | .tup xs, h => by
    obtain ⟨a, b, c⟩ := Dt.shws hB xs (by simpa only [Dt.fine] using h)
    refine ⟨by simpa only [Dt.toP, PyData.showable] using a, by simp only [Dt.toP, PyData.depth, Dt.dp]; omega, ?_⟩
    simp only [Dt.toP, PyData.shown, Dt.wt]
    have := tupleText_len_le (PyData.shownAll (Dt.toPs xs))
    omega
  | .lst xs, h => by
    obtain ⟨a, b, c⟩ := Dt.shws hB xs (by simpa only [Dt.fine] using h)
    refine ⟨by simpa only [Dt.toP, PyData.showable] using a, by simp only [Dt.toP, PyData.depth, Dt.dp]; omega, ?_⟩
    simp only [Dt.toP, PyData.shown, Dt.wt]
    have := listText_len_le (PyData.shownAll (Dt.toPs xs))
    omega
  | .dct kvs, h => by
    obtain ⟨a, b, c⟩ := dct_shw hB kvs (by simpa only [Dt.fine] using h)
    refine ⟨by simp only [Dt.toP, PyData.showable, a], by simp only [Dt.toP, PyData.depth, b, Dt.dp], ?_⟩
    simp only [Dt.toP, PyData.shown, Dt.wt]
    have := dictText_len_le (PyData.shownKv (dkp kvs))
    omega
theorem Dt.shws {B : Nat} (hB : B ≤ 10 ^ 45) : ∀ (xs : List Dt), Dt.fines B xs → PyData.showableAll (Dt.toPs xs) = true ∧ PyData.depthAll (Dt.toPs xs) = Dt.dps xs ∧ ((PyData.shownAll (Dt.toPs xs)).map (·.length)).sum + 2 * (PyData.shownAll (Dt.toPs xs)).length ≤ Dt.wts xs
  | [], _ => ⟨by simp [Dt.toPs, PyData.showableAll], by simp [Dt.toPs, PyData.depthAll, Dt.dps], by simp [Dt.toPs, PyData.shownAll]⟩
  | x :: xs, h => by
    have h : x.fine B ∧ Dt.fines B xs := by simpa only [Dt.fines] using h
    obtain ⟨a, b, c⟩ := x.shw hB h.1
    obtain ⟨a', b', c'⟩ := Dt.shws hB xs h.2
    refine ⟨by simp [Dt.toPs, PyData.showableAll, a, a'], by simp [Dt.toPs, PyData.depthAll, Dt.dps, b, b'], ?_⟩
    simp only [Dt.toPs, PyData.shownAll, List.map_cons, List.sum_cons, List.length_cons, Dt.wts]
    omega
end
/-- it is fine, and within the bounds -/
structure Fine (B n W : Nat) (x : Dt) : Prop where
  ok : x.fine B
  dp : x.dp ≤ n
  wt : x.wt ≤ W
theorem Fine.shw {B n W : Nat} {x : Dt} (h : Fine B n W x) (hB : B ≤ 10 ^ 45) (hW : W ≤ sizeLine) : Shw n x := by
  obtain ⟨a, b, c⟩ := x.shw hB h.ok
  exact ⟨a, by rw [b]; exact h.dp, Nat.le_trans c (Nat.le_trans h.wt hW)⟩
mutual
theorem Dt.fine_up {B C : Nat} (h : B ≤ C) : ∀ {x : Dt}, x.fine B → x.fine C
  | .non, _ => by simp only [Dt.fine]
  | .bl _, _ => by simp only [Dt.fine]
  | .int i, f => by
    simp only [Dt.fine] at f ⊢
    omega
  | .str x, f => by
    simp only [Dt.fine] at f ⊢
    exact f
  | .tup xs, f => by
    simp only [Dt.fine] at f ⊢
    exact Dt.fines_up h f
  | .lst xs, f => by
    simp only [Dt.fine] at f ⊢
    exact Dt.fines_up h f
  | .dct kvs, f => by
    simp only [Dt.fine] at f ⊢
    exact fun p hp => ⟨(f p hp).1, Nat.lt_of_lt_of_le (f p hp).2 h⟩
theorem Dt.fines_up {B C : Nat} (h : B ≤ C) : ∀ {xs : List Dt}, Dt.fines B xs → Dt.fines C xs
  | [], _ => by simp only [Dt.fines]
  | x :: xs, f => by
    simp only [Dt.fines] at f ⊢
    exact ⟨Dt.fine_up h f.1, Dt.fines_up h f.2⟩
end
theorem Fine.mono {A B n W m V : Nat} {x : Dt} (h : Fine A n W x) (ha : A ≤ B) (hn : n ≤ m) (hw : W ≤ V) : Fine B m V x := ⟨Dt.fine_up ha h.ok, Nat.le_trans h.dp hn, Nat.le_trans h.wt hw⟩
end Kv
/-! the end of a law whose defs show things -/
namespace Kf
open PySem PySem.Spec PyProof.Rows L2 LamX
/-- the heap at the law's call: the written part, the tables cs, the script -/
structure Beg (h : Heap) (K : PySem.W.Frag) (mg : Str → Option Value) (cs : List (Addr × Addr)) (a : Addr) (us : Array Value) : Prop where
  kin : K.In h
  gl : h.Ns mainGlobals mg
  bl : ∃ m, h.Ns builtinsNs m ∧ ∀ y : Str, y ≠ "__name__" → m y = bootBuiltins y
  nl : h.NoLimit
  tb : ∀ p ∈ cs, h.get? p.2 = some { cls := .none, data := .fields #[] }
  nk : ∀ p ∈ cs, K.lookup p.2 = none
  cd : ∀ p ∈ cs, PySem.W.CodeHd h p.1 p.2
  bm : ∃ (z : Addr) (q : Obj), mg "__builtins__" = some (.ref z) ∧ z ≠ builtinsNs ∧ h.get? z = some q ∧ q.cls = .type "module" ∧ q.dict = some builtinsNs ∧ q.data = .plain
  sc : h.get? a = some { cls := .type "list", data := .seq us }
/-- tracked are the tables, and perhaps the script -/
structure Fit (H : Hp) (K : PySem.W.Frag) (cs : List (Addr × Addr)) (a : Addr) : Prop where
  tb : ∀ p ∈ cs, H p.2 = some (.tbl #[])
  no : ∀ b u, H b = some u → (∃ p ∈ cs, p.2 = b ∧ u = .tbl #[]) ∨ (b = a ∧ K.lookup a = none ∧ ∃ o xs, u = .frz o (.lst xs))
section
variable {h : Heap} {K : PySem.W.Frag} {mg : Str → Option Value} {cs : List (Addr × Addr)} {a : Addr} {us : Array Value} {H : Hp}
theorem Fit.off (F : Fit H K cs a) (B : Beg h K mg cs a us) {b : Addr} {o : Obj} (e : h.get? b = some o) (n1 : ∀ vs n, o.data ≠ .seq vs n) (n2 : o.data ≠ .fields #[]) : H b = none := by
  match q : H b with
  | none => rfl
  | some u =>
    rcases F.no b u q with ⟨p, hp, rfl, _⟩ | ⟨rfl, _⟩
    · have z := (B.tb p hp).symm.trans e
      exact absurd (congrArg Obj.data (Option.some.inj z)).symm n2
    · have z := B.sc.symm.trans e
      exact absurd (congrArg Obj.data (Option.some.inj z)).symm (n1 _ _)
theorem Fit.dic (F : Fit H K cs a) (B : Beg h K mg cs a us) {b : Addr} {m : Str → Option Value} (N : h.Ns b m) : (hidT h H).Ns b m := by
  obtain ⟨o, es, n, e, d, r⟩ := N
  refine ⟨o, es, n, hidT_get e (F.off B e ?_ ?_), d, r⟩
  · intro vs k z
    rw [d] at z
    cases z
  · intro z
    rw [d] at z
    cases z
theorem Fit.kin (F : Fit H K cs a) (B : Beg h K mg cs a us) : K.In (hidT h H) := fun b o e => hidT_get (B.kin b o e) <| by
  match q : H b with
  | none => rfl
  | some u =>
    rcases F.no b u q with ⟨p, hp, rfl, _⟩ | ⟨rfl, n, _⟩
    · rw [B.nk p hp] at e
      cases e
    · rw [n] at e
      cases e
theorem Fit.mod (F : Fit H K cs a) (B : Beg h K mg cs a us) : L2.Mod K mg (hidT h H) := by
  obtain ⟨m, m1, m2⟩ := B.bl
  obtain ⟨c, c1, c2⟩ := B.nl
  exact ⟨F.kin B, F.dic B B.gl, ⟨m, F.dic B m1, m2⟩, ⟨c, F.dic B c1, c2⟩⟩
theorem Fit.tabs (F : Fit H K cs a) (B : Beg h K mg cs a us) : ∀ p ∈ cs, TabB (hidT h H) mg p.1 p.2 := by
  intro p hp
  have tp := B.tb p hp
  have gP : mainGlobals ≠ p.2 := by
    intro z
    obtain ⟨o, es, n, e, d, _⟩ := B.gl
    rw [z, tp] at e
    cases e
    cases d
  refine ⟨?_, ?_, gP⟩
  · obtain ⟨o, vs, fl, tf, fg, tg, iF, tx, tt, e, r1, r2, r3, r⟩ := B.cd p hp
    refine ⟨o, vs, fl, tf, fg, tg, iF, tx, tt, hidT_get e (F.off B e (fun vs n z => ?_) (fun z => ?_)), r1, r2, r3, r⟩
    · rw [r2] at z
      cases z
    · rw [r2] at z
      cases z
      simp at r3
  · obtain ⟨z, q, b1, b2, b3, b4, b5, b6⟩ := B.bm
    refine ⟨z, q, b1, b2, fun y => ?_, fun y => ?_, hidT_get b3 (F.off B b3 (fun vs n y => ?_) (fun y => ?_)), b4, b5, b6⟩
    · obtain ⟨o, es, n, e, d, _⟩ := B.gl
      rw [← y, b3] at e
      cases e
      rw [b6] at d
      cases d
    · rw [y, tp] at b3
      cases b3
      cases b6
    · rw [b6] at y
      cases y
    · rw [b6] at y
      cases y
/-- what stood stands, behind the call -/
theorem Fit.old (F : Fit H K cs a) (B : Beg h K mg cs a us) {P : Program} {w : World} {G : Hp} {h' : Heap} (U : Un [] [] H G h h') (o1 : HOk P w H h) (o2 : HOk P w G h') : OldK h h' := by
  have tab : ∀ p ∈ cs, ∃ m : Array Value, h'.get? p.2 = some { cls := .none, data := .fields m } := fun p hp => by
    obtain ⟨m, z⟩ := U.tbls p.2 #[] (F.tb p hp)
    exact ⟨_, o2 p.2 _ z⟩
  have rest : ∀ b o, h.get? b = some o → (∃ p ∈ cs, p.2 = b) ∨ h'.get? b = some o := fun b o e => by
    match q : H b with
    | none => exact .inr (U.keep b o e q (by simp) (by simp))
    | some u =>
      rcases F.no b u q with ⟨p, hp, z, _⟩ | ⟨_, _, ob, xs, rfl⟩
      · exact .inl ⟨p, hp, z⟩
      · have e1 := (o1 b _ q).1
        have e2 := (o2 b _ (U.frzs b ob _ q)).1
        rw [e] at e1
        cases e1
        exact .inr e2
  constructor
  · intro b o e
    rcases rest b o e with ⟨p, hp, rfl⟩ | z
    · obtain ⟨m, hm⟩ := tab p hp
      have tp := B.tb p hp
      rw [tp] at e
      cases e
      exact .inr (.inl ⟨((B.cd p hp).tab tp).isCodeTable, rfl, #[], m, rfl, by rw [Array.empty_append]; exact hm⟩)
    · exact .inl z
  · intro b o e
    rcases rest b o e with ⟨p, hp, rfl⟩ | z
    · obtain ⟨m, hm⟩ := tab p hp
      exact ⟨_, hm⟩
    · exact ⟨o, z⟩
end
/-- such a heap there is -/
theorem fit_of {h : Heap} {K : PySem.W.Frag} {mg : Str → Option Value} {cs : List (Addr × Addr)} {a : Addr} {vs : List Value} {ns : List Int} (P : Program) (w : World) (B : Beg h K mg cs a vs.toArray) (hi : IntsAre vs ns) (hl : ns.length ≤ sizeLine) :
    ∃ H : Hp, Fit H K cs a ∧ SqL K H a (ns.map V.int) ∧ HOk P w H h := by
  have lv := hi.length
  have isT : ∀ b, (∃ p ∈ cs, p.2 = b) → h.get? b = some { cls := .none, data := .fields #[] } := by
    rintro b ⟨p, hp, rfl⟩
    exact B.tb p hp
  have na : ¬ ∃ p ∈ cs, p.2 = a := fun z => by
    have y := congrArg Obj.data (Option.some.inj ((isT a z).symm.trans B.sc))
    cases y
  open Classical in
  let T : Hp := fun b => if ∃ p ∈ cs, p.2 = b then some (.tbl #[]) else none
  have Ty : ∀ p ∈ cs, T p.2 = some (.tbl #[]) := fun p hp => if_pos ⟨p, hp, rfl⟩
  have Tn : ∀ b u, T b = some u → (∃ p ∈ cs, p.2 = b) ∧ u = .tbl #[] := fun b u z => by
    by_cases c : ∃ p ∈ cs, p.2 = b
    · exact ⟨c, (Option.some.inj ((if_pos c).symm.trans z)).symm⟩
    · have y := (if_neg c).symm.trans z
      cases y
  match hk : K.lookup a with
  | some o =>
    have e := B.kin a o hk
    rw [B.sc] at e
    cases e
    refine ⟨T, ⟨Ty, fun b u z => ?_⟩, .inr ⟨_, vs.toArray, _, hk, rfl, rfl, rfl, by rw [List.size_toArray, lv]; exact hl, by simpa using vals_ints hi⟩, fun b u z => ?_⟩
    · obtain ⟨⟨p, hp, e⟩, e2⟩ := Tn b u z
      exact .inl ⟨p, hp, e, e2⟩
    · obtain ⟨c, rfl⟩ := Tn b u z
      exact isT b c
  | none =>
    refine ⟨upd T a (.frz { cls := .type "list", data := .seq vs.toArray } (.lst (ns.map V.int))), ⟨fun p hp => ?_, fun b u z => ?_⟩, .inl (.inr ⟨_, upd_same⟩), fun b u z => ?_⟩
    · rw [upd_ne (fun y => na ⟨p, hp, y⟩)]
      exact Ty p hp
    · by_cases c : b = a
      · subst c
        rw [upd_same] at z
        cases z
        exact .inr ⟨rfl, hk, _, _, rfl⟩
      · rw [upd_ne c] at z
        obtain ⟨⟨p, hp, e⟩, e2⟩ := Tn b u z
        exact .inl ⟨p, hp, e, e2⟩
    · by_cases c : b = a
      · subst c
        rw [upd_same] at z
        cases z
        exact ⟨B.sc, by rw [List.length_map]; exact hl, vs, _, vals_ints hi, B.sc⟩
      · rw [upd_ne c] at z
        obtain ⟨c, rfl⟩ := Tn b u z
        exact isT b c
/-- what is known of the law's promise at the head's heap -/
def LawG (l : PySem.W.OpenLaw) (w : World) (K : PySem.W.Frag) (CX : CXT) (k n : Nat) (x : Str) (mg : Str → Option Value) (fa : Addr) (h : Heap) : Prop :=
  ∃ (fd : FuncData) (cs : List (Addr × Addr)) (sp : Sp), (∀ p ∈ cs, h.get? p.2 = some { cls := .none, data := .fields #[] } ∧ K.lookup p.2 = none ∧ PySem.W.CodeHd h p.1 p.2) ∧ (∀ (s : Shared) (u : Value), BindsTo s fd ⟨[u], []⟩ [(x, u)]) ∧
    (∀ (H : Hp) (a : Addr) (ns : List Int), ns.length ≤ n → (∀ z ∈ ns, Builtin.Int.intBits z ≤ 1048576) → (∀ p ∈ cs, H p.2 = some (.tbl #[])) → SqL K H a (ns.map V.int) → sp [.ref a] H (fun v _ => v = .bl true) E0) ∧
    ∀ base : Heap, K.In base → base.Ns mainGlobals mg → (∀ p ∈ cs, TabB base mg p.1 p.2) → FnG l.prog w K mg base CX k fa fd [x] sp
/-- the end; names: the defs with generator expressions -/
theorem walk_ofG {l : PySem.W.OpenLaw} {n k : Nat} {q : Program} {loose : List Str} {XP : (Str → Option Value) → Heap → Prop} {YP : World → Heap → Prop} {d : DefRec} {K : Params → PySem.W.Frag} {CX : World → CXT} {x : Str}
    (hn : l.most = some n) (hz : n ≤ sizeLine) (hdf : d.params.defaults = []) (hr : Room k callerA) (hY : ∀ (w : World) (h : Heap), YP w h → (K w.params).In h)
    (F : ∀ (w : World) (mg : Str → Option Value) (fa : Addr) (h : Heap), YP w h → (K w.params).In h → h.Ns mainGlobals mg → mg d.name = some (.ref fa) →
      (∀ e ∈ recsOf q, ∃ (a : Addr) (o : Obj) (fd : FuncData) (c p : Addr), mg e.name = some (.ref a) ∧ h.get? a = some o ∧ o.data = .func fd ∧ fd.code = .ref c ∧ h.IsCode c p #[] ∧ h.TableAt c p #[]) → LawG l w (K w.params) (CX w) k n x mg fa h)
    (hX : ∀ (w : World) (H : Hp) (s : Shared) (e : Value) (t : Shared), CX w [] H s E0 e t → False) :
    PySem.W.WalkO q loose XP YP l.row.toRowW d [] (fun f vs => PySem.call f vs) := by
  refine Att.attach_callB hn hdf ?_
  intro w s₀ s mg mb fa o pm cd doc a vs ns G Y _ _ _ hmg ha hi hlen bits hg
  have KX := hY w _ Y
  obtain ⟨fd, cs, sp, tabs, bind, start, run⟩ := F w mg fa _ Y KX G.T.g hmg fun e he => G.T.tab e he
  have B : Beg s.heap (K w.params) mg cs a vs.toArray := ⟨KX, G.T.g, ⟨mb, G.T.b, G.T.builtins⟩, G.T.nolimit, fun p hp => (tabs p hp).1, fun p hp => (tabs p hp).2.1, fun p hp => (tabs p hp).2.2, G.T.bmain, ha⟩
  obtain ⟨H, Ft, sq, ok⟩ := fit_of l.prog w B hi (Nat.le_trans hlen hz)
  have e0 : Env0 l.prog w (K w.params) mg (hidT s.heap H) callerA [] s H := ⟨rfl, Ft.mod B, fun b u e => of_hidT e, Nat.le_of_eq (hidT_size _ _), trivial, by simp [frs], ok, .of_eq hg⟩
  refine codeAny_mono ((run _ (Ft.kin B) (Ft.dic B G.T.g) (Ft.tabs B)).go callerA [] s H ⟨[.ref a], []⟩ [.ref a] [.ref a] _ E0 rfl hr e0 (bind s (.ref a)) (.cons rfl .nil) (start H a ns hlen bits Ft.tb sq)) ?_
  intro r t z
  match r, z with
  | .error e, z => exact (hX w H s e t z).elim
  | .ok .next, z => exact z.elim
  | .ok .brk, z => exact z.elim
  | .ok .cont, z => exact z.elim
  | .ok (.ret u), ⟨v, G', os, bare, un, ok', rv, e⟩ =>
    have e : v = .bl true := e
    subst e
    obtain rfl : u = Value.bool true := rv
    exact ⟨rfl, Ft.old B un ok ok', os, bare⟩
end Kf
/-! the signs of a repr: texts of letters, tuples -/
namespace Kf
open PySem PySem.Spec PyProof.Rows L2 PySem.Builtin.Str
end Kf
namespace Kq
open PySem PySem.Spec PyProof.Rows L2 Kf Kg Kv GxR
/-! what is a data kind, a kind -/
def isLo (c : Nat) : Bool := decide (c ∈ lets.cps.toList)
def nmS (x : Str) : Bool := decide (1 ≤ x.length) && decide (x.length ≤ 8) && x.cps.toList.all isLo
def nmD : Dt → Bool
  | .str x => nmS x
  | _ => false
def ar (w : Str) : Option Nat :=
  if w = "open" then some 1 else if w = "num" then some 0 else if w = "truth" then some 0 else if w = "pair" then some 2 else if w = "either" then some 2 else if w = "list" then some 1 else if w = "fun" then some 2 else none
def nm1 : List Dt → Bool
  | x :: _ => nmD x
  | [] => false
/-- the form alone -/
def frm : Dt → Bool
  | .tup (.str w :: xs) => !decide (w = "fun") && (match ar w with | some k => decide (xs.length = k) | none => false) && (!decide (w = "open") || nm1 xs)
  | _ => false
/-- the parts that are kinds -/
def prt : Dt → List Dt
  | .tup (.str w :: xs) => if w = "open" then [] else xs
  | _ => []
theorem prt_sz : ∀ x : Dt, Dt.szs (prt x) + 1 ≤ x.sz
  | .tup [] => Nat.le_refl _
  | .tup (.str w :: xs) => by
    have e : (Dt.tup (.str w :: xs)).sz = 1 + (1 + Dt.szs xs) := by simp only [Dt.sz, Dt.szs]
    rw [e]
    show Dt.szs (if w = "open" then [] else xs) + 1 ≤ _
    by_cases h : w = "open"
    · rw [if_pos h]
      simp only [Dt.szs]
      omega
    · rw [if_neg h]
      omega
  | .tup (.non :: xs) => by show 0 + 1 ≤ 1 + _; omega
  | .tup (.bl _ :: xs) => by show 0 + 1 ≤ 1 + _; omega
  | .tup (.int _ :: xs) => by show 0 + 1 ≤ 1 + _; omega
  | .tup (.tup _ :: xs) => by show 0 + 1 ≤ 1 + _; omega
  | .tup (.lst _ :: xs) => by show 0 + 1 ≤ 1 + _; omega
  | .tup (.dct _ :: xs) => by show 0 + 1 ≤ 1 + _; omega
  | .lst xs => by show 0 + 1 ≤ 1 + _; omega
  | .non => Nat.le_refl _
  | .bl _ => Nat.le_refl _
  | .int _ => Nat.le_refl _
  | .str _ => Nat.le_refl _
  | .dct _ => by show 0 + 1 ≤ 1 + _; omega
/-- a data kind: the form, and the parts are so -/
def dat (x : Dt) : Bool := frm x && (prt x).attach.all fun y => dat y.1
termination_by x.sz
decreasing_by
  have h1 := prt_sz x
  have h2 := sz_mem y.2
  omega
end Kq
namespace Kq
open PySem PySem.Spec PyProof.Rows L2 Kf Kg Kv GxR
theorem DdL.see {N : Addr → Prop} {H : Hp} {xs : List Dt} {vs : List V} (h : DdL N H xs vs) : (xs = [] ∧ vs = []) ∨ ∃ y ys w ws, xs = y :: ys ∧ vs = w :: ws ∧ Dd N H y w ∧ DdL N H ys ws := by
  cases h with
  | nil => exact .inl ⟨rfl, rfl⟩
  | cons h t => exact .inr ⟨_, _, _, _, rfl, rfl, h, t⟩
end Kq
namespace Kq
open PySem PySem.Spec PyProof.Rows L2 Kf Kg Kv GxR RZ
/-! all over two at once -/
/-! rising -/
def ltS (x y : Str) : Bool := decide (x.cps.toList < y.cps.toList)
def rising : List Str → Bool
  | x :: y :: r => ltS x y && rising (y :: r)
  | _ => true
end Kq
namespace Kq
open PySem PySem.Spec PyProof.Rows L2 Kf Kg Kv GxR RZ
def filD1 : Dt → Bool
  | .tup [n, k] => nmD n && dat k
  | _ => false
def nmOf : Dt → Str
  | .tup (.str n :: _) => n
  | _ => ""
def filD : Dt → Bool
  | .tup xs => xs.all filD1 && rising (xs.map nmOf)
  | _ => false
end Kq
namespace Kq
open PySem PySem.Spec PyProof.Rows L2
/-! kinds as trees -/
inductive Kd where
  | opn (x : Str)
  | num
  | tru
  | pair (a b : Kd)
  | eith (a b : Kd)
  | lst (a : Kd)
  | fn (a b : Kd)
  deriving DecidableEq
namespace Kd
def word : Kd → Str
  | opn _ => "open"
  | num => "num"
  | tru => "truth"
  | pair _ _ => "pair"
  | eith _ _ => "either"
  | lst _ => "list"
  | fn _ _ => "fun"
def kids : Kd → List Kd
  | pair a b => [a, b]
  | eith a b => [a, b]
  | lst a => [a]
  | fn a b => [a, b]
  | _ => []
def isFn : Kd → Bool
  | fn _ _ => true
  | _ => false
def isOp : Kd → Bool
  | opn _ => true
  | _ => false
def nodes : Kd → List Kd
  | opn x => [opn x]
  | num => [num]
  | tru => [tru]
  | pair a b => pair a b :: (nodes a ++ nodes b)
  | eith a b => eith a b :: (nodes a ++ nodes b)
  | lst a => lst a :: nodes a
  | fn a b => fn a b :: (nodes a ++ nodes b)
def size (t : Kd) : Nat := t.nodes.length
def dp : Kd → Nat
  | pair a b => max a.dp b.dp + 1
  | eith a b => max a.dp b.dp + 1
  | lst a => a.dp + 1
  | fn a b => max a.dp b.dp + 1
  | _ => 0
def opens : Kd → List Str
  | opn x => [x]
  | num => []
  | tru => []
  | pair a b => opens a ++ opens b
  | eith a b => opens a ++ opens b
  | lst a => opens a
  | fn a b => opens a ++ opens b
def args : Kd → List Kd
  | fn a b => a :: args b
  | _ => []
def res : Kd → Kd
  | fn _ b => res b
  | t => t
def ledTo (ts : List Kd) (t : Kd) : Kd := ts.foldr fn t
theorem nodes_eq (t : Kd) : t.nodes = t :: t.kids.flatMap nodes := by
  cases t <;> simp [nodes, kids]
theorem isFn_word (t : Kd) : decide (V.str t.word = V.str "fun") = t.isFn := by
  cases t <;> rfl
end Kd
/-- a tuple, or one of the written part -/
def Sq (K : PySem.W.Frag) (H : Hp) (a : Addr) (xs : List V) : Prop := H a = some (.tup xs) ∨ ∀ G : Hp, SqT K G a xs
theorem Sq.t {K : PySem.W.Frag} {H : Hp} {a : Addr} {xs : List V} (h : Sq K H a xs) : SqT K H a xs := by
  rcases h with h | h
  · exact SqT.of h
  · exact h H
theorem Sq.tk {K : PySem.W.Frag} {H G : Hp} {a : Addr} {xs : List V} (h : Sq K H a xs) (k : Tk H G) : Sq K G a xs := by
  rcases h with h | h
  · exact .inl (k _ _ h)
  · exact .inr h
/-- the tree stands at v -/
def Rp (K : PySem.W.Frag) (H : Hp) : Kd → V → Prop
  | .opn x, v => ∃ a, v = .ref a ∧ Sq K H a [.str "open", .str x]
  | .num, v => ∃ a, v = .ref a ∧ Sq K H a [.str "num"]
  | .tru, v => ∃ a, v = .ref a ∧ Sq K H a [.str "truth"]
  | .pair s t, v => ∃ a x y, v = .ref a ∧ Sq K H a [.str "pair", x, y] ∧ Rp K H s x ∧ Rp K H t y
  | .eith s t, v => ∃ a x y, v = .ref a ∧ Sq K H a [.str "either", x, y] ∧ Rp K H s x ∧ Rp K H t y
  | .lst s, v => ∃ a x, v = .ref a ∧ Sq K H a [.str "list", x] ∧ Rp K H s x
  | .fn s t, v => ∃ a x y, v = .ref a ∧ Sq K H a [.str "fun", x, y] ∧ Rp K H s x ∧ Rp K H t y
def RpL (K : PySem.W.Frag) (H : Hp) : List Kd → List V → Prop
  | [], [] => True
  | t :: ts, v :: vs => Rp K H t v ∧ RpL K H ts vs
  | _, _ => False
theorem Rp.tk {K : PySem.W.Frag} {H G : Hp} (k : Tk H G) : ∀ {t : Kd} {v : V}, Rp K H t v → Rp K G t v := by
  intro t
  induction t with
  | opn x => exact fun ⟨a, e, h⟩ => ⟨a, e, h.tk k⟩
  | num => exact fun ⟨a, e, h⟩ => ⟨a, e, h.tk k⟩
  | tru => exact fun ⟨a, e, h⟩ => ⟨a, e, h.tk k⟩
  | pair s t i j => exact fun ⟨a, x, y, e, h, p, q⟩ => ⟨a, x, y, e, h.tk k, i p, j q⟩
  | eith s t i j => exact fun ⟨a, x, y, e, h, p, q⟩ => ⟨a, x, y, e, h.tk k, i p, j q⟩
  | lst s i => exact fun ⟨a, x, e, h, p⟩ => ⟨a, x, e, h.tk k, i p⟩
  | fn s t i j => exact fun ⟨a, x, y, e, h, p, q⟩ => ⟨a, x, y, e, h.tk k, i p, j q⟩
theorem RpL.tk {K : PySem.W.Frag} {H G : Hp} (k : Tk H G) : ∀ {ts : List Kd} {vs : List V}, RpL K H ts vs → RpL K G ts vs
  | [], [], _ => trivial
  | _ :: _, _ :: _, h => ⟨h.1.tk k, RpL.tk k h.2⟩
  | [], _ :: _, h => h.elim
  | _ :: _, [], h => h.elim
theorem RpL.len {K : PySem.W.Frag} {H : Hp} : ∀ {ts : List Kd} {vs : List V}, RpL K H ts vs → ts.length = vs.length
  | [], [], _ => rfl
  | _ :: _, _ :: _, h => congrArg (· + 1) (RpL.len h.2)
  | [], _ :: _, h => h.elim
  | _ :: _, [], h => h.elim
theorem RpL.app {K : PySem.W.Frag} {H : Hp} : ∀ {ts us : List Kd} {vs ws : List V}, RpL K H ts vs → RpL K H us ws → RpL K H (ts ++ us) (vs ++ ws)
  | [], _, [], _, _, h => h
  | _ :: _, _, _ :: _, _, h, k => ⟨h.1, RpL.app h.2 k⟩
  | [], _, _ :: _, _, h, _ => h.elim
  | _ :: _, _, [], _, h, _ => h.elim
theorem RpL.get {K : PySem.W.Frag} {H : Hp} : ∀ {ts : List Kd} {vs : List V} {i : Nat} {v : V}, RpL K H ts vs → vs[i]? = some v → ∃ t, ts[i]? = some t ∧ Rp K H t v
  | [], [], i, v, _, e => by simp at e
  | t :: _, w :: _, 0, v, h, e => ⟨t, rfl, by rw [← show w = v from Option.some.inj e]; exact h.1⟩
  | _ :: ts, _ :: vs, i + 1, v, h, e => RpL.get (ts := ts) (vs := vs) (i := i) h.2 e
  | [], _ :: _, _, _, h, _ => h.elim
  | _ :: _, [], _, _, h, _ => h.elim
/-- the tuple at v: the word, and the rest -/
theorem Rp.see {K : PySem.W.Frag} {H : Hp} {t : Kd} {v : V} (h : Rp K H t v) : ∃ a vs, v = .ref a ∧ Sq K H a (.str t.word :: vs) ∧ ((t.isOp = false ∧ RpL K H t.kids vs) ∨ ∃ x, t = .opn x ∧ vs = [.str x]) := by
  cases t with
  | opn x =>
    obtain ⟨a, e, g⟩ := h
    exact ⟨a, _, e, g, .inr ⟨x, rfl, rfl⟩⟩
  | num =>
    obtain ⟨a, e, g⟩ := h
    exact ⟨a, [], e, g, .inl ⟨rfl, trivial⟩⟩
  | tru =>
    obtain ⟨a, e, g⟩ := h
    exact ⟨a, [], e, g, .inl ⟨rfl, trivial⟩⟩
  | pair s t =>
    obtain ⟨a, x, y, e, g, p, q⟩ := h
    exact ⟨a, _, e, g, .inl ⟨rfl, p, q, trivial⟩⟩
  | eith s t =>
    obtain ⟨a, x, y, e, g, p, q⟩ := h
    exact ⟨a, _, e, g, .inl ⟨rfl, p, q, trivial⟩⟩
  | lst s =>
    obtain ⟨a, x, e, g, p⟩ := h
    exact ⟨a, _, e, g, .inl ⟨rfl, p, trivial⟩⟩
  | fn s t =>
    obtain ⟨a, x, y, e, g, p, q⟩ := h
    exact ⟨a, _, e, g, .inl ⟨rfl, p, q, trivial⟩⟩
end Kq
namespace Ks
open PySem PySem.Spec PyProof.Rows L2
/-! a set of texts -/
def tx (e : Int × Value) : Str := match e.2 with
  | .str x _ => x
  | _ => Str.empty
def GoodT (w : World) (e : Int × Value) : Prop := ∃ x t, e.2 = Value.str x t ∧ e.1 = hashStr w x
structure SetT (w : World) (es : Array (Int × Value)) (t : SetTable) (S : Str → Bool) (n : Nat) : Prop where
  good : ∀ e ∈ es.toList, GoodT w e
  nd : (es.toList.map tx).Nodup
  mem : ∀ k, S k = true ↔ k ∈ es.toList.map tx
  few : es.size < scanBound
  fit : t.fits es.size = true
  num : es.size = n
  ris : Ris t.place.toList
  led : w.params.followText "set-order" = true ∨ t.led = true
def SetS (w : World) (h : Heap) (a : Addr) (S : Str → Bool) (n : Nat) : Prop :=
  ∃ o es ep t, h.get? a = some o ∧ o.ExactSet ∧ o.data = .set es ep t ∧ SetT w es t S n
section
variable {P : Program} {w : World} {A : Around} {E : Value → Shared → Prop} {s : Shared} {a : Addr} {S : Str → Bool} {n : Nat}
theorem after {h : Heap} {o : Obj} {es es' : Array (Int × Value)} {ep : Nat} {t t' : SetTable} (ho : h.get? a = some o) (hd : o.data = .set es ep t) :
    (h.update a (Obj.putSet es' t')).get? a = some { o with data := .set es' (ep + 1) t' } := by
  have q := Heap.get?_update_self (Obj.putSet es' t') ho (by rw [putSet_of es' t' hd]; rfl)
  rw [putSet_of es' t' hd] at q
  exact q
theorem fresh {h : Heap} (w : World) : SetS w (h.push { cls := .type "set", dict := none, data := .set #[] 0 (.fresh 0 0 (!w.params.followText "set-order")) }) h.objs.size (fun _ => false) 0 := by
  refine ⟨_, #[], 0, _, Heap.get?_push_size _ rfl, ⟨rfl, rfl, rfl⟩, rfl, ⟨fun e he => ?_, ?_, fun k => ?_, ?_, ?_, rfl, List.Pairwise.nil, ?_⟩⟩
  · simp at he
  · simp
  · simp
  · decide
  · rfl
  · show _ ∨ (!w.params.followText "set-order") = true
    cases w.params.followText "set-order"
    · exact .inr rfl
    · exact .inl rfl
end
end Ks
namespace Ks
open PySem PySem.Spec PyProof.Rows L2
section
variable {P : Program} {w : World} {A : Around} {E : Value → Shared → Prop} {s : Shared}
theorem SetS.keep {h h' : Heap} {a : Addr} {S : Str → Bool} {n : Nat} (R : SetS w h a S n) (k : ∀ o, h.get? a = some o → h'.get? a = some o) : SetS w h' a S n := by
  obtain ⟨o, es, ep, t, ho, r⟩ := R
  exact ⟨o, es, ep, t, k o ho, r⟩
end
end Ks
namespace Kq
open PySem PySem.Spec PyProof.Rows L2
namespace Kd
theorem size_fn (a b : Kd) : (fn a b).size = a.size + b.size + 1 := by
  show (a.nodes ++ b.nodes).length + 1 = _
  rw [List.length_append]
  rfl
theorem size_pos (t : Kd) : 1 ≤ t.size := by
  unfold size
  rw [nodes_eq]
  exact Nat.succ_le_succ (Nat.zero_le _)
theorem args_le : ∀ t : Kd, t.args.length ≤ t.size
  | fn a b => by
    have := args_le b
    rw [size_fn]
    show b.args.length + 1 ≤ _
    omega
  | opn _ => Nat.zero_le _
  | num => Nat.zero_le _
  | tru => Nat.zero_le _
  | pair _ _ => Nat.zero_le _
  | eith _ _ => Nat.zero_le _
  | lst _ => Nat.zero_le _
end Kd
end Kq
namespace Kq
open PySem PySem.Spec PyProof.Rows L2 Kf Kg Kv
/-! trees as data -/
def toD : Kd → PyData
  | .opn x => .tuple [.str "open", .str x]
  | .num => .tuple [.str "num"]
  | .tru => .tuple [.str "truth"]
  | .pair a b => .tuple [.str "pair", toD a, toD b]
  | .eith a b => .tuple [.str "either", toD a, toD b]
  | .lst a => .tuple [.str "list", toD a]
  | .fn a b => .tuple [.str "fun", toD a, toD b]
theorem dpT (K : PySem.W.Frag) {H : Hp} : ∀ {t : Kd} {v : V}, Rp K H t v → Dp K H v (toD t) := by
  intro t
  induction t with
  | opn x =>
    rintro v ⟨a, rfl, h⟩
    exact .tup (h.t) (.cons (.str _) (.cons (.str _) .nil))
  | num =>
    rintro v ⟨a, rfl, h⟩
    exact .tup (h.t) (.cons (.str _) .nil)
  | tru =>
    rintro v ⟨a, rfl, h⟩
    exact .tup (h.t) (.cons (.str _) .nil)
  | pair s t i j =>
    rintro v ⟨a, x, y, rfl, h, p, q⟩
    exact .tup (h.t) (.cons (.str _) (.cons (i p) (.cons (j q) .nil)))
  | eith s t i j =>
    rintro v ⟨a, x, y, rfl, h, p, q⟩
    exact .tup (h.t) (.cons (.str _) (.cons (i p) (.cons (j q) .nil)))
  | lst s i =>
    rintro v ⟨a, x, rfl, h, p⟩
    exact .tup (h.t) (.cons (.str _) (.cons (i p) .nil))
  | fn s t i j =>
    rintro v ⟨a, x, y, rfl, h, p, q⟩
    exact .tup (h.t) (.cons (.str _) (.cons (i p) (.cons (j q) .nil)))
theorem layT : ∀ t : Kd, (∀ x ∈ t.opens, Nm x) → (toD t).canLay0 = true ∧ (toD t).depth ≤ t.dp + 1 := by
  have w1 : PyData.strOk "open" = true := by decide +kernel
  have w2 : PyData.strOk "num" = true := by decide +kernel
  have w3 : PyData.strOk "truth" = true := by decide +kernel
  have w4 : PyData.strOk "pair" = true := by decide +kernel
  have w5 : PyData.strOk "either" = true := by decide +kernel
  have w6 : PyData.strOk "list" = true := by decide +kernel
  have w7 : PyData.strOk "fun" = true := by decide +kernel
  intro t
  induction t with
  | opn x =>
    intro h
    have := (h x List.mem_cons_self).ok
    simp [toD, PyData.canLay0, PyData.canLayAll0, PyData.depth, PyData.depthAll, Kd.dp, w1, this]
  | num =>
    intro h
    simp [toD, PyData.canLay0, PyData.canLayAll0, PyData.depth, PyData.depthAll, Kd.dp, w2]
  | tru =>
    intro h
    simp [toD, PyData.canLay0, PyData.canLayAll0, PyData.depth, PyData.depthAll, Kd.dp, w3]
  | pair s t i j =>
    intro h
    obtain ⟨a1, a2⟩ := i fun x hx => h x (List.mem_append_left _ hx)
    obtain ⟨b1, b2⟩ := j fun x hx => h x (List.mem_append_right _ hx)
    simp only [toD, PyData.canLay0, PyData.canLayAll0, PyData.depth, PyData.depthAll, Kd.dp, w4, a1, b1, Bool.and_self, true_and]
    omega
  | eith s t i j =>
    intro h
    obtain ⟨a1, a2⟩ := i fun x hx => h x (List.mem_append_left _ hx)
    obtain ⟨b1, b2⟩ := j fun x hx => h x (List.mem_append_right _ hx)
    simp only [toD, PyData.canLay0, PyData.canLayAll0, PyData.depth, PyData.depthAll, Kd.dp, w5, a1, b1, Bool.and_self, true_and]
    omega
  | lst s i =>
    intro h
    obtain ⟨a1, a2⟩ := i h
    simp only [toD, PyData.canLay0, PyData.canLayAll0, PyData.depth, PyData.depthAll, Kd.dp, w6, a1, Bool.and_self, true_and]
    omega
  | fn s t i j =>
    intro h
    obtain ⟨a1, a2⟩ := i fun x hx => h x (List.mem_append_left _ hx)
    obtain ⟨b1, b2⟩ := j fun x hx => h x (List.mem_append_right _ hx)
    simp only [toD, PyData.canLay0, PyData.canLayAll0, PyData.depth, PyData.depthAll, Kd.dp, w7, a1, b1, Bool.and_self, true_and]
    omega
theorem shT {t : Kd} (h : ∀ x ∈ t.opens, Nm x) (hd : t.dp ≤ 50) : SeqAt.shaped (toD t) = true ∧ (toD t).canLay0 = true := by
  obtain ⟨a, b⟩ := layT t h
  refine ⟨?_, a⟩
  unfold SeqAt.shaped
  rw [a, Bool.true_and]
  exact decide_eq_true (by omega)
theorem shTs {ts : List Kd} (h : ∀ t ∈ ts, (∀ x ∈ t.opens, Nm x) ∧ t.dp ≤ 50) : SeqAt.shaped (.list (ts.map toD)) = true ∧ (PyData.list (ts.map toD)).canLay0 = true := by
  have all : PyData.canLayAll0 (ts.map toD) = true ∧ PyData.depthAll (ts.map toD) ≤ 51 := by
    induction ts with
    | nil => exact ⟨by simp [PyData.canLayAll0], by simp [PyData.depthAll]⟩
    | cons t ts ih =>
      obtain ⟨a, b⟩ := ih fun u hu => h u (List.mem_cons_of_mem _ hu)
      obtain ⟨h1, h2⟩ := h t List.mem_cons_self
      obtain ⟨c, e⟩ := layT t h1
      refine ⟨by simp [PyData.canLayAll0, a, c], ?_⟩
      simp only [List.map_cons, PyData.depthAll]
      omega
  have lay : (PyData.list (ts.map toD)).canLay0 = true := by simp only [PyData.canLay0]; exact all.1
  refine ⟨?_, lay⟩
  unfold SeqAt.shaped
  rw [lay, Bool.true_and]
  refine decide_eq_true ?_
  simp only [PyData.depth]
  omega
theorem neF {d : PyData} (lay : d.canLay0 = true) {A B : Prop} (h : B) : if (!PyData.eqv d d) = true then A else B := by
  rw [SeqAt.eqv_refl d lay]
  exact iteF h
theorem eqv_tup (xs ys : List PyData) : PyData.eqv (.tuple xs) (.tuple ys) = PyData.eqvAll xs ys := by rw [PyData.eqv]
theorem eqv_str (x y : Str) : PyData.eqv (.str x) (.str y) = (x == y) := by rw [PyData.eqv]
theorem eqv_cons (x y : PyData) (xs ys : List PyData) : PyData.eqvAll (x :: xs) (y :: ys) = (PyData.eqv x y && PyData.eqvAll xs ys) := by rw [PyData.eqvAll]
theorem two_see {a b c d : PyData} (h : PyData.eqvAll [a, b] [c, d] = true) : PyData.eqv a c = true ∧ PyData.eqv b d = true := by
  rw [eqv_cons, eqv_cons] at h
  obtain ⟨h1, h2⟩ := Bool.and_eq_true_iff.mp h
  exact ⟨h1, (Bool.and_eq_true_iff.mp h2).1⟩
theorem one_see {a c : PyData} (h : PyData.eqvAll [a] [c] = true) : PyData.eqv a c = true := by
  rw [eqv_cons] at h
  exact (Bool.and_eq_true_iff.mp h).1
def Kd.pys : Kd → List PyData
  | .opn x => [.str x]
  | .num => []
  | .tru => []
  | .pair a b => [toD a, toD b]
  | .eith a b => [toD a, toD b]
  | .lst a => [toD a]
  | .fn a b => [toD a, toD b]
theorem py_eq (k : Kd) : toD k = .tuple (.str k.word :: k.pys) := by cases k <;> rfl
theorem eqv_see {a b : Kd} (h : PyData.eqv (toD a) (toD b) = true) : a.word = b.word ∧ PyData.eqvAll a.pys b.pys = true := by
  rw [py_eq a, py_eq b, eqv_tup, eqv_cons, eqv_str] at h
  obtain ⟨h1, h2⟩ := Bool.and_eq_true_iff.mp h
  exact ⟨beq_iff_eq.mp h1, h2⟩
theorem eqv_inj : ∀ {a b : Kd}, PyData.eqv (toD a) (toD b) = true → a = b := by
  intro a
  induction a with
  | opn x =>
    intro b h
    obtain ⟨h1, h2⟩ := eqv_see h
    cases b with
    | opn y =>
      have h3 := one_see h2
      rw [eqv_str] at h3
      rw [beq_iff_eq.mp h3]
    | _ => exact absurd h1 (by simp only [Kd.word]; decide)
  | num =>
    intro b h
    obtain ⟨h1, h2⟩ := eqv_see h
    cases b with
    | num => rfl
    | _ => exact absurd h1 (by simp only [Kd.word]; decide)
  | tru =>
    intro b h
    obtain ⟨h1, h2⟩ := eqv_see h
    cases b with
    | tru => rfl
    | _ => exact absurd h1 (by simp only [Kd.word]; decide)
  | pair a c i j =>
    intro b h
    obtain ⟨h1, h2⟩ := eqv_see h
    cases b with
    | pair e g =>
      obtain ⟨h3, h4⟩ := two_see h2
      rw [i h3, j h4]
    | _ => exact absurd h1 (by simp only [Kd.word]; decide)
  | eith a c i j =>
    intro b h
    obtain ⟨h1, h2⟩ := eqv_see h
    cases b with
    | eith e g =>
      obtain ⟨h3, h4⟩ := two_see h2
      rw [i h3, j h4]
    | _ => exact absurd h1 (by simp only [Kd.word]; decide)
  | fn a c i j =>
    intro b h
    obtain ⟨h1, h2⟩ := eqv_see h
    cases b with
    | fn e g =>
      obtain ⟨h3, h4⟩ := two_see h2
      rw [i h3, j h4]
    | _ => exact absurd h1 (by simp only [Kd.word]; decide)
  | lst a i =>
    intro b h
    obtain ⟨h1, h2⟩ := eqv_see h
    cases b with
    | lst e => rw [i (one_see h2)]
    | _ => exact absurd h1 (by simp only [Kd.word]; decide)
theorem eqv_iff {a b : Kd} (lay : (toD a).canLay0 = true) : PyData.eqv (toD a) (toD b) = true ↔ a = b := ⟨eqv_inj, fun e => by rw [← e]; exact SeqAt.eqv_refl _ lay⟩
end Kq
/-! d.update(e), two dicts of numbers and texts -/
/-! {**d, k: v, ..} of a dict of numbers and texts -/
namespace Ku
open PySem PySem.Spec PyProof.Rows L2
end Ku
/-! d.get(k) of a dict of the module; statements and expressions that are never reached -/
namespace Kk
open PySem PySem.Spec PyProof.Rows L2
end Kk
/-! True > n, False > n; what is told of a number or a truth alike -/
/-! helpers -/
namespace Kq
open PySem PySem.Spec PyProof.Rows L2 Kf Kg Kv Kk Ku
abbrev Non : Addr → Prop := fun _ => False
structure NmD (NS : List Str) (kvs : List (Key × V)) : Prop where
  nd : (kvs.map (·.1)).Nodup
  ns : ∀ k ∈ kvs.map (·.1), ∃ x ∈ NS, k = Sum.inr x
theorem nodup_le {α : Type} [DecidableEq α] : ∀ {xs ys : List α}, xs.Nodup → (∀ x ∈ xs, x ∈ ys) → xs.length ≤ ys.length
  | [], _, _, _ => Nat.zero_le _
  | x :: xs, ys, nd, h => by
    rw [List.nodup_cons] at nd
    have hx := h x List.mem_cons_self
    have z := nodup_le (xs := xs) (ys := ys.erase x) nd.2 fun y hy => (List.mem_erase_of_ne (fun e => nd.1 (by rw [← e]; exact hy))).mpr (h y (List.mem_cons_of_mem _ hy))
    rw [List.length_erase_of_mem hx] at z
    have := List.length_pos_of_mem hx
    rw [List.length_cons]
    omega
theorem NmD.len {NS : List Str} {kvs : List (Key × V)} (h : NmD NS kvs) : kvs.length ≤ NS.length := by
  have z := nodup_le (xs := kvs.map (·.1)) (ys := NS.map (Sum.inr : Str → Key)) h.nd fun k hk => by
    obtain ⟨x, hx, rfl⟩ := h.ns k hk
    exact List.mem_map.mpr ⟨x, hx, rfl⟩
  rw [List.length_map, List.length_map] at z
  exact z
theorem szBig {n : Nat} (h : n ≤ 200000) : n ≤ sizeLine := by
  show n ≤ 16777216
  omega
theorem keys_in {kvs : List (Key × V)} {k : Key} (v : V) (h : k ∈ kvs.map (·.1)) : (putK kvs k v).map (·.1) = kvs.map (·.1) := by
  have ha : (kvs.any fun kv => decide (kv.1 = k)) = true := by
    obtain ⟨p, hp, e⟩ := List.mem_map.mp h
    exact List.any_eq_true.mpr ⟨p, hp, decide_eq_true e⟩
  unfold putK
  rw [if_pos ha, List.map_map]
  refine List.map_congr_left fun p _ => ?_
  show (if p.1 = k then (p.1, v) else p).1 = p.1
  by_cases e : p.1 = k
  · rw [if_pos e]
  · rw [if_neg e]
theorem keys_out {kvs : List (Key × V)} {k : Key} (v : V) (h : ¬ k ∈ kvs.map (·.1)) : (putK kvs k v).map (·.1) = kvs.map (·.1) ++ [k] := by
  have ha : ¬ (kvs.any fun kv => decide (kv.1 = k)) = true := fun z => by
    obtain ⟨p, hp, e⟩ := List.any_eq_true.mp z
    exact h (List.mem_map.mpr ⟨p, hp, of_decide_eq_true e⟩)
  unfold putK
  rw [if_neg ha, List.map_append]
  rfl
theorem NmD.put {NS : List Str} {kvs : List (Key × V)} (h : NmD NS kvs) {x : Str} (hx : x ∈ NS) (v : V) : NmD NS (putK kvs (.inr x) v) := by
  by_cases c : (Sum.inr x : Key) ∈ kvs.map (·.1)
  · refine ⟨?_, fun k hk => ?_⟩
    · rw [keys_in v c]
      exact h.nd
    · rw [keys_in v c] at hk
      exact h.ns k hk
  · refine ⟨?_, fun k hk => ?_⟩
    · rw [keys_out v c]
      refine List.nodup_append.mpr ⟨h.nd, by simp, fun a ha b hb e => ?_⟩
      rw [List.mem_singleton] at hb
      exact c (by rw [← hb, ← e]; exact ha)
    · rw [keys_out v c] at hk
      rcases List.mem_append.mp hk with hk | hk
      · exact h.ns k hk
      · exact ⟨x, hx, List.mem_singleton.mp hk⟩
theorem NmD.nil {NS : List Str} : NmD NS [] := ⟨List.nodup_nil, fun k h => by cases h⟩
theorem NmD.merge {NS : List Str} : ∀ {more kvs : List (Key × V)}, NmD NS kvs → (∀ kv ∈ more, ∃ x ∈ NS, kv.1 = Sum.inr x) → NmD NS (mergeK kvs more)
  | [], kvs, h, _ => h
  | kv :: r, kvs, h, m => by
    obtain ⟨x, hx, e⟩ := m kv List.mem_cons_self
    show NmD NS (mergeK (putK kvs kv.1 kv.2) r)
    rw [e]
    exact NmD.merge (h.put hx _) fun k hk => m k (List.mem_cons_of_mem _ hk)
theorem merge_app : ∀ {more kvs : List (Key × V)}, ((kvs ++ more).map (·.1)).Nodup → mergeK kvs more = kvs ++ more
  | [], kvs, _ => by rw [List.append_nil]; rfl
  | kv :: r, kvs, h => by
    show mergeK (putK kvs kv.1 kv.2) r = _
    have hn : valV kvs kv.1 = none := by
      cases e : valV kvs kv.1 with
      | none => rfl
      | some v =>
        exfalso
        have z : (kvs.any fun p => decide (p.1 = kv.1)) = true := by rw [valV_any, e]; rfl
        obtain ⟨p, hp, e⟩ := List.any_eq_true.mp z
        rw [List.map_append] at h
        exact (List.nodup_append.mp h).2.2 p.1 (List.mem_map.mpr ⟨p, hp, rfl⟩) kv.1 (by simp) (of_decide_eq_true e)
    rw [putK_new _ hn, merge_app (by rw [List.append_assoc]; exact h), List.append_assoc]
    rfl
theorem NmD.same {NS : List Str} {kvs : List (Key × V)} (h : NmD NS kvs) : mergeK [] kvs = kvs := merge_app (more := kvs) (kvs := []) h.nd
section
variable {P : Program} {w : World} {K : PySem.W.Frag} {mg : Str → Option Value} {base : Heap}
theorem upOk {CX : CXT} {j k : Nat} {f : Addr} {fd : FuncData} {ps : List Str} {sp : Sp} (F : FnOk P w K mg base CX j f fd ps sp) (h : j ≤ k) : FnOk P w K mg base CX k f fd ps sp :=
  ⟨F.len, fun A outer s H args us vs Q E hr => F.run A outer s H args us vs Q E (hr.mono h)⟩
theorem Dd.of2 {N : Addr → Prop} {H : Hp} {x : Str} {a : Dt} {v : V} (h : Dd N H (.tup [.str x, a]) v) : ∃ p u, v = .ref p ∧ H p = some (.tup [.str x, u]) ∧ Dd N H a u := by
  cases h with
  | tup e t =>
  cases t with
  | cons t1 t =>
  cases t with
  | cons t2 t =>
  cases t
  cases t1
  exact ⟨_, _, rfl, e, t2⟩
theorem Dd.of3 {N : Addr → Prop} {H : Hp} {x : Str} {a b : Dt} {v : V} (h : Dd N H (.tup [.str x, a, b]) v) : ∃ p u u', v = .ref p ∧ H p = some (.tup [.str x, u, u']) ∧ Dd N H a u ∧ Dd N H b u' := by
  cases h with
  | tup e t =>
  cases t with
  | cons t1 t =>
  cases t with
  | cons t2 t =>
  cases t with
  | cons t3 t =>
  cases t
  cases t1
  exact ⟨_, _, _, rfl, e, t2, t3⟩
theorem Dd.of4 {N : Addr → Prop} {H : Hp} {x : Str} {a b c : Dt} {v : V} (h : Dd N H (.tup [.str x, a, b, c]) v) : ∃ p u u' u'', v = .ref p ∧ H p = some (.tup [.str x, u, u', u'']) ∧ Dd N H a u ∧ Dd N H b u' ∧ Dd N H c u'' := by
  cases h with
  | tup e t =>
  cases t with
  | cons t1 t =>
  cases t with
  | cons t2 t =>
  cases t with
  | cons t3 t =>
  cases t with
  | cons t4 t =>
  cases t
  cases t1
  exact ⟨_, _, _, _, rfl, e, t2, t3, t4⟩
end
def Okd (P : Program) (w : World) (K : PySem.W.Frag) (mg : Str → Option Value) (base : Heap) (CX : CXT) (k : Nat) (nm : Str) (ps : List Str) (sp : Sp) : Prop := ∃ f fd, FnOk P w K mg base CX k f fd ps sp ∧ Binds K fd ps [] ∧ mg nm = some (.ref f) ∧ PySem.W.keepIn K (.ref f) = true
def Dfn (K : PySem.W.Frag) (mg : Str → Option Value) (nm : Str) (st : Stmt) (ps : List Str) : Prop := ∃ f fd, Fun K nm nm st f fd ∧ Binds K fd ps [] ∧ mg nm = some (.ref f)
def Rdn (K : PySem.W.Frag) (dA : Addr) (x nm : Str) (st : Stmt) (ps : List Str) : Prop := ∃ f fd, Fun K nm nm st f fd ∧ Binds K fd ps [] ∧ PySem.W.nsIn K dA x = some (some (.ref f))
def Rok (P : Program) (w : World) (K : PySem.W.Frag) (mg : Str → Option Value) (base : Heap) (CX : CXT) (k : Nat) (dA : Addr) (x : Str) (ps : List Str) (sp : Sp) : Prop := ∃ f fd, FnOk P w K mg base CX k f fd ps sp ∧ Binds K fd ps [] ∧ PySem.W.nsIn K dA x = some (some (.ref f)) ∧ PySem.W.keepIn K (.ref f) = true
section
variable {P : Program} {w : World} {K : PySem.W.Frag} {mg : Str → Option Value} {base : Heap}
theorem Okd.up {CX : CXT} {j k : Nat} {nm : Str} {ps : List Str} {sp : Sp} (h : Okd P w K mg base CX j nm ps sp) (l : j ≤ k) : Okd P w K mg base CX k nm ps sp := by
  obtain ⟨f, fd, F, b, g, kp⟩ := h
  exact ⟨f, fd, upOk F l, b, g, kp⟩
theorem Rok.up {CX : CXT} {j k : Nat} {dA : Addr} {x : Str} {ps : List Str} {sp : Sp} (h : Rok P w K mg base CX j dA x ps sp) (l : j ≤ k) : Rok P w K mg base CX k dA x ps sp := by
  obtain ⟨f, fd, F, b, g, kp⟩ := h
  exact ⟨f, fd, upOk F l, b, g, kp⟩
theorem Dfn.ok {CX : CXT} {k : Nat} {nm : Str} {st : Stmt} {ps : List Str} {sp : Sp} (d : Dfn K mg nm st ps) (h : ∀ f fd, Fun K nm nm st f fd → FnOk P w K mg base CX k f fd ps sp) : Okd P w K mg base CX k nm ps sp := by
  obtain ⟨f, fd, F, b, g⟩ := d
  exact ⟨f, fd, h f fd F, b, g, F.kp⟩
theorem Rdn.ok {CX : CXT} {k : Nat} {dA : Addr} {x nm : Str} {st : Stmt} {ps : List Str} {sp : Sp} (d : Rdn K dA x nm st ps) (h : ∀ f fd, Fun K nm nm st f fd → FnOk P w K mg base CX k f fd ps sp) : Rok P w K mg base CX k dA x ps sp := by
  obtain ⟨f, fd, F, b, g⟩ := d
  exact ⟨f, fd, h f fd F, b, g, F.kp⟩
end
end Kq
/-! terms as trees, and their kinds -/
namespace Kq
open PySem PySem.Spec PyProof.Rows L2 Kf Kg Kv Kk Ku
def Kd.dt : Kd → Dt
  | .opn x => .tup [.str "open", .str x]
  | .num => .tup [.str "num"]
  | .tru => .tup [.str "truth"]
  | .pair a b => .tup [.str "pair", a.dt, b.dt]
  | .eith a b => .tup [.str "either", a.dt, b.dt]
  | .lst a => .tup [.str "list", a.dt]
  | .fn a b => .tup [.str "fun", a.dt, b.dt]
theorem rp_of {K : PySem.W.Frag} {N : Addr → Prop} {H : Hp} : ∀ {k : Kd} {v : V}, Dd N H k.dt v → Rp K H k v := by
  intro k
  induction k with
  | opn x =>
    intro v h
    obtain ⟨p, u, rfl, e, h1⟩ := Dd.of2 h
    cases h1
    exact ⟨p, rfl, .inl e⟩
  | num =>
    intro v h
    cases h with
    | tup e t =>
    cases t with
    | cons t1 t =>
    cases t
    cases t1
    exact ⟨_, rfl, .inl e⟩
  | tru =>
    intro v h
    cases h with
    | tup e t =>
    cases t with
    | cons t1 t =>
    cases t
    cases t1
    exact ⟨_, rfl, .inl e⟩
  | pair a b i j =>
    intro v h
    obtain ⟨p, u, u', rfl, e, h1, h2⟩ := Dd.of3 h
    exact ⟨p, u, u', rfl, .inl e, i h1, j h2⟩
  | eith a b i j =>
    intro v h
    obtain ⟨p, u, u', rfl, e, h1, h2⟩ := Dd.of3 h
    exact ⟨p, u, u', rfl, .inl e, i h1, j h2⟩
  | lst a i =>
    intro v h
    obtain ⟨p, u, rfl, e, h1⟩ := Dd.of2 h
    exact ⟨p, u, rfl, .inl e, i h1⟩
  | fn a b i j =>
    intro v h
    obtain ⟨p, u, u', rfl, e, h1, h2⟩ := Dd.of3 h
    exact ⟨p, u, u', rfl, .inl e, i h1, j h2⟩
inductive Tm where
  | name (x : Str)
  | fn (x : Str) (k : Kd) (t : Tm)
  | call (a b : Tm)
  | num (i : Int)
  | plus (a b : Tm)
  | less (a b : Tm)
  | tru (b : Bool)
  | iff (a b c : Tm)
  | pair (a b : Tm)
  | fst (a : Tm)
  | snd (a : Tm)
  | left (a : Tm) (k : Kd)
  | right (k : Kd) (a : Tm)
  | case (a : Tm) (x : Str) (b : Tm) (y : Str) (c : Tm)
  | none (k : Kd)
  | more (a b : Tm)
  | fold (a b : Tm) (x y : Str) (t : Tm)
  | built (k : Kd) (o x y : Str) (t : Tm)
  | alike (a b : Tm)
  | fault (k : Kd)
  | rounds (m : Int) (a : Tm) (x : Str) (t : Tm)
  | told (f : Str) (fs : List (Str × Kd))
def Tm.dt : Tm → Dt
  | .name x => .tup [.str "name", .str x]
  | .fn x k t => .tup [.str "fun", .str x, k.dt, t.dt]
  | .call a b => .tup [.str "call", a.dt, b.dt]
  | .num i => .tup [.str "num", .int i]
  | .plus a b => .tup [.str "plus", a.dt, b.dt]
  | .less a b => .tup [.str "less", a.dt, b.dt]
  | .tru b => .tup [.str "truth", .bl b]
  | .iff a b c => .tup [.str "if", a.dt, b.dt, c.dt]
  | .pair a b => .tup [.str "pair", a.dt, b.dt]
  | .fst a => .tup [.str "first", a.dt]
  | .snd a => .tup [.str "second", a.dt]
  | .left a k => .tup [.str "left", a.dt, k.dt]
  | .right k a => .tup [.str "right", k.dt, a.dt]
  | .case a x b y c => .tup [.str "case", a.dt, .str x, b.dt, .str y, c.dt]
  | .none k => .tup [.str "none", k.dt]
  | .more a b => .tup [.str "more", a.dt, b.dt]
  | .fold a b x y t => .tup [.str "fold", a.dt, b.dt, .str x, .str y, t.dt]
  | .built k o x y t => .tup [.str "built", k.dt, .str o, .str x, .str y, t.dt]
  | .alike a b => .tup [.str "alike", a.dt, b.dt]
  | .fault k => .tup [.str "fault", k.dt]
  | .rounds m a x t => .tup [.str "rounds", .int m, a.dt, .str x, t.dt]
  | .told f fs => .tup [.str "told", .str f, .tup (fs.map fun p => .tup [.str p.1, p.2.dt])]
def Tm.dp : Tm → Nat
  | .fn _ _ t => t.dp + 1
  | .call a b => max a.dp b.dp + 1
  | .plus a b => max a.dp b.dp + 1
  | .less a b => max a.dp b.dp + 1
  | .iff a b c => max (max a.dp b.dp) c.dp + 1
  | .pair a b => max a.dp b.dp + 1
  | .fst a => a.dp + 1
  | .snd a => a.dp + 1
  | .left a _ => a.dp + 1
  | .right _ a => a.dp + 1
  | .case a _ b _ c => max (max a.dp b.dp) c.dp + 1
  | .more a b => max a.dp b.dp + 1
  | .fold a b _ _ t => max (max a.dp b.dp) t.dp + 1
  | .built _ _ _ _ t => t.dp + 1
  | .alike a b => max a.dp b.dp + 1
  | .rounds _ a _ t => max a.dp t.dp + 1
  | _ => 0
/-- kinds of names -/
abbrev Ek := Str → Option Kd
def Ek.put (e : Ek) (x : Str) (k : Kd) : Ek := fun y => if y = x then some k else e y
def Ek.none : Ek := fun _ => Option.none
namespace Kd
def fnOf : Kd → Option (Kd × Kd)
  | .fn a b => some (a, b)
  | _ => Option.none
def prOf : Kd → Option (Kd × Kd)
  | .pair a b => some (a, b)
  | _ => Option.none
def eiOf : Kd → Option (Kd × Kd)
  | .eith a b => some (a, b)
  | _ => Option.none
def lsOf : Kd → Option Kd
  | .lst a => some a
  | _ => Option.none
def opOf : Kd → Option Str
  | .opn x => some x
  | _ => Option.none
def nmOf : Kd → Option Kd
  | .num => some .num
  | _ => Option.none
def trOf : Kd → Option Kd
  | .tru => some .tru
  | _ => Option.none
def daOf (k : Kd) : Option Kd := if k.isFn then Option.none else some k
end Kd
/-- an own name is met -/
def met (lk : List Str) (e : Ek) (o : Str) (k : Kd) : Prop := o ∈ lk ∨ o ∈ k.opens ∨ ∃ z q, e z = some q ∧ o ∈ q.opens
open Classical in
noncomputable def chk (lk : List Str) : Tm → Ek → Option Kd
  | .name x, e => e x
  | .fn x k t, e => (chk lk t (e.put x k)).map (Kd.fn k)
  | .call a b, e => ((chk lk a e).bind Kd.fnOf).bind fun p => (chk lk b e).bind fun y => if p.1 = y then some p.2 else Option.none
  | .num _, _ => some .num
  | .plus a b, e => ((chk lk a e).bind Kd.nmOf).bind fun _ => (chk lk b e).bind Kd.nmOf
  | .less a b, e => ((chk lk a e).bind Kd.nmOf).bind fun _ => ((chk lk b e).bind Kd.nmOf).bind fun _ => some .tru
  | .tru _, _ => some .tru
  | .iff a b c, e => ((chk lk a e).bind Kd.trOf).bind fun _ => (chk lk b e).bind fun y => (chk lk c e).bind fun z => if y = z then some y else Option.none
  | .pair a b, e => ((chk lk a e).bind Kd.daOf).bind fun y => ((chk lk b e).bind Kd.daOf).map fun z => .pair y z
  | .fst a, e => ((chk lk a e).bind Kd.prOf).map (·.1)
  | .snd a, e => ((chk lk a e).bind Kd.prOf).map (·.2)
  | .left a k, e => ((chk lk a e).bind Kd.daOf).map fun y => .eith y k
  | .right k a, e => ((chk lk a e).bind Kd.daOf).map fun y => .eith k y
  | .case a x b y c, e => ((chk lk a e).bind Kd.eiOf).bind fun s => (chk lk b (e.put x s.1)).bind fun p => (chk lk c (e.put y s.2)).bind fun q => if p = q then some p else Option.none
  | .none k, _ => some (.lst k)
  | .more a b, e => (chk lk a e).bind fun i => (chk lk b e).bind fun r => if Kd.lst i = r then some (.lst i) else Option.none
  | .fold a b x y t, e => ((chk lk a e).bind Kd.lsOf).bind fun i => ((chk lk b e).bind Kd.daOf).bind fun d => (chk lk t ((e.put x i).put y d)).bind fun r => if d = r then some d else Option.none
  | .built k o x y t, e => if met lk e o k then Option.none else (chk lk t ((e.put x (.fn k (.fn (.opn o) (.opn o)))).put y (.opn o))).bind fun r => if Kd.opn o = r then some (.lst k) else Option.none
  | .alike a b, e => ((chk lk a e).bind Kd.opOf).bind fun n => (chk lk b e).bind fun r => if Kd.opn n = r then (if n ∈ lk then some .tru else Option.none) else Option.none
  | .fault k, _ => some k
  | .rounds _ a x t, e => ((chk lk a e).bind Kd.daOf).bind fun d => ((chk lk t (e.put x d)).bind Kd.eiOf).bind fun s => if d = s.1 then some s.2 else Option.none
  | .told _ _, _ => Option.none
/-- no great kind -/
structure Gk (NO : List Str) (k : Kd) : Prop where
  dp : k.dp ≤ 50
  sz : k.size ≤ 1000
  op : ∀ x ∈ k.opens, x ∈ NO
theorem Kd.size_pr (a b : Kd) : (Kd.pair a b).size = a.size + b.size + 1 := by
  show (a.nodes ++ b.nodes).length + 1 = _
  rw [List.length_append]
  rfl
theorem Kd.size_ei (a b : Kd) : (Kd.eith a b).size = a.size + b.size + 1 := by
  show (a.nodes ++ b.nodes).length + 1 = _
  rw [List.length_append]
  rfl
theorem Kd.size_ls (a : Kd) : (Kd.lst a).size = a.size + 1 := rfl
theorem Gk.fn1 {NO : List Str} {a b : Kd} (h : Gk NO (.fn a b)) : Gk NO a := ⟨by have := h.dp; rw [Kd.dp] at this; omega, by have := h.sz; rw [Kd.size_fn] at this; omega, fun x hx => h.op x (List.mem_append_left _ hx)⟩
theorem Gk.fn2 {NO : List Str} {a b : Kd} (h : Gk NO (.fn a b)) : Gk NO b := ⟨by have := h.dp; rw [Kd.dp] at this; omega, by have := h.sz; rw [Kd.size_fn] at this; omega, fun x hx => h.op x (List.mem_append_right _ hx)⟩
theorem Gk.pr1 {NO : List Str} {a b : Kd} (h : Gk NO (.pair a b)) : Gk NO a := ⟨by have := h.dp; rw [Kd.dp] at this; omega, by have := h.sz; rw [Kd.size_pr] at this; omega, fun x hx => h.op x (List.mem_append_left _ hx)⟩
theorem Gk.pr2 {NO : List Str} {a b : Kd} (h : Gk NO (.pair a b)) : Gk NO b := ⟨by have := h.dp; rw [Kd.dp] at this; omega, by have := h.sz; rw [Kd.size_pr] at this; omega, fun x hx => h.op x (List.mem_append_right _ hx)⟩
theorem Gk.ei1 {NO : List Str} {a b : Kd} (h : Gk NO (.eith a b)) : Gk NO a := ⟨by have := h.dp; rw [Kd.dp] at this; omega, by have := h.sz; rw [Kd.size_ei] at this; omega, fun x hx => h.op x (List.mem_append_left _ hx)⟩
theorem Gk.ei2 {NO : List Str} {a b : Kd} (h : Gk NO (.eith a b)) : Gk NO b := ⟨by have := h.dp; rw [Kd.dp] at this; omega, by have := h.sz; rw [Kd.size_ei] at this; omega, fun x hx => h.op x (List.mem_append_right _ hx)⟩
theorem Gk.ls {NO : List Str} {a : Kd} (h : Gk NO (.lst a)) : Gk NO a := ⟨by have := h.dp; rw [Kd.dp] at this; omega, by have := h.sz; rw [Kd.size_ls] at this; omega, h.op⟩
theorem Gk.num {NO : List Str} : Gk NO .num := ⟨by decide, by decide, fun x hx => by cases hx⟩
theorem Gk.tru {NO : List Str} : Gk NO .tru := ⟨by decide, by decide, fun x hx => by cases hx⟩
/-- no great kinds, names known, where a term is gone through -/
def Sml (lk NS NO : List Str) : Tm → Ek → Prop
  | .fn x k t, e => x ∈ NS ∧ Gk NO k ∧ Sml lk NS NO t (e.put x k) ∧ ∀ r, chk lk t (e.put x k) = some r → Gk NO (.fn k r)
  | .call a b, e => Sml lk NS NO a e ∧ ((chk lk a e).bind Kd.fnOf ≠ Option.none → Sml lk NS NO b e)
  | .plus a b, e => Sml lk NS NO a e ∧ ((chk lk a e).bind Kd.nmOf ≠ Option.none → Sml lk NS NO b e)
  | .less a b, e => Sml lk NS NO a e ∧ ((chk lk a e).bind Kd.nmOf ≠ Option.none → Sml lk NS NO b e)
  | .iff a b c, e => Sml lk NS NO a e ∧ Sml lk NS NO b e ∧ Sml lk NS NO c e
  | .pair a b, e => Sml lk NS NO a e ∧ Sml lk NS NO b e ∧ ∀ p q, chk lk a e = some p → chk lk b e = some q → Gk NO (.pair p q)
  | .fst a, e => Sml lk NS NO a e
  | .snd a, e => Sml lk NS NO a e
  | .left a k, e => Gk NO k ∧ Sml lk NS NO a e ∧ ∀ p, chk lk a e = some p → Gk NO (.eith p k)
  | .right k a, e => Gk NO k ∧ Sml lk NS NO a e ∧ ∀ p, chk lk a e = some p → Gk NO (.eith k p)
  | .case a x b y c, e => x ∈ NS ∧ y ∈ NS ∧ Sml lk NS NO a e ∧ ∀ l r, chk lk a e = some (.eith l r) → Sml lk NS NO b (e.put x l) ∧ Sml lk NS NO c (e.put y r)
  | .none k, _ => Gk NO (.lst k)
  | .more a b, e => Sml lk NS NO a e ∧ Sml lk NS NO b e ∧ ∀ p, chk lk a e = some p → Gk NO (.lst p)
  | .fold a b x y t, e => x ∈ NS ∧ y ∈ NS ∧ Sml lk NS NO a e ∧ Sml lk NS NO b e ∧ ∀ i d, chk lk a e = some (.lst i) → chk lk b e = some d → Sml lk NS NO t ((e.put x i).put y d)
  | .built k o x y t, e => x ∈ NS ∧ y ∈ NS ∧ o ∈ NO ∧ Gk NO (.lst k) ∧ Gk NO (.fn k (.fn (.opn o) (.opn o))) ∧ (¬ met lk e o k → Sml lk NS NO t ((e.put x (.fn k (.fn (.opn o) (.opn o)))).put y (.opn o)))
  | .alike a b, e => Sml lk NS NO a e ∧ Sml lk NS NO b e
  | .fault k, _ => Gk NO k
  | .name x, _ => x.length ≤ 100
  | .told _ _, _ => False
  | .rounds _ a x t, e => x ∈ NS ∧ Sml lk NS NO a e ∧ ∀ d, chk lk a e = some d → Sml lk NS NO t (e.put x d)
  | _, _ => True
theorem sqT_same {K : PySem.W.Frag} {H G : Hp} {a : Addr} {xs : List V} (h : SqT K H a xs) (s : Same H G) : SqT K G a xs := by
  rcases h with h | h
  · rcases h with h | ⟨o, h⟩
    · exact .inl (.inl (s _ _ h))
    · exact .inl (.inr ⟨o, s _ _ h⟩)
  · exact .inr h
theorem put_gk {NO : List Str} {e : Ek} (h : ∀ y q, e y = some q → Gk NO q) {x : Str} {k : Kd} (hk : Gk NO k) : ∀ y q, (e.put x k) y = some q → Gk NO q := fun y q hy => by
  unfold Ek.put at hy
  split at hy
  · cases hy
    exact hk
  · exact h y q hy
theorem fnOf_eq {o : Option Kd} {p : Kd × Kd} (h : o.bind Kd.fnOf = some p) : o = some (.fn p.1 p.2) := by
  cases o with
  | none => cases h
  | some k => cases k <;> cases h; rfl
theorem prOf_eq {o : Option Kd} {p : Kd × Kd} (h : o.bind Kd.prOf = some p) : o = some (.pair p.1 p.2) := by
  cases o with
  | none => cases h
  | some k => cases k <;> cases h; rfl
theorem eiOf_eq {o : Option Kd} {p : Kd × Kd} (h : o.bind Kd.eiOf = some p) : o = some (.eith p.1 p.2) := by
  cases o with
  | none => cases h
  | some k => cases k <;> cases h; rfl
theorem lsOf_eq {o : Option Kd} {p : Kd} (h : o.bind Kd.lsOf = some p) : o = some (.lst p) := by
  cases o with
  | none => cases h
  | some k => cases k <;> cases h; rfl
theorem nmOf_eq {o : Option Kd} {p : Kd} (h : o.bind Kd.nmOf = some p) : o = some .num ∧ p = .num := by
  cases o with
  | none => cases h
  | some k => cases k <;> cases h; exact ⟨rfl, rfl⟩
theorem daOf_eq {o : Option Kd} {p : Kd} (h : o.bind Kd.daOf = some p) : o = some p ∧ p.isFn = false := by
  cases o with
  | none => cases h
  | some k =>
    have h : (if k.isFn = true then Option.none else some k) = some p := h
    by_cases c : k.isFn = true
    · rw [if_pos c] at h
      cases h
    · rw [if_neg c] at h
      cases h
      exact ⟨rfl, by simpa using c⟩
theorem if_eq {α : Type} {c : Prop} [Decidable c] {a b : α} (h : (if c then some a else Option.none) = some b) : c ∧ a = b := by
  by_cases z : c
  · rw [if_pos z] at h
    exact ⟨z, Option.some.inj h⟩
  · rw [if_neg z] at h
    cases h
/-- what is told is not great -/
theorem Sml.gk {lk NS NO : List Str} : ∀ {t : Tm} {e : Ek} {k : Kd}, Sml lk NS NO t e → (∀ y q, e y = some q → Gk NO q) → chk lk t e = some k → Gk NO k := by
  intro t
  induction t with
  | name x => exact fun s g h => g _ _ h
  | fn x k t i =>
    intro e r s g h
    obtain ⟨_, gk, st, hr⟩ := s
    rw [chk] at h
    obtain ⟨q, hq, rfl⟩ := Option.map_eq_some_iff.mp h
    exact hr q hq
  | call a b i j =>
    intro e r s g h
    rw [chk] at h
    obtain ⟨p, hp, h⟩ := Option.bind_eq_some_iff.mp h
    obtain ⟨y, hy, h⟩ := Option.bind_eq_some_iff.mp h
    rw [← (if_eq h).2]
    exact (i s.1 g (fnOf_eq hp)).fn2
  | num => intro e r s g h; rw [chk] at h; cases h; exact .num
  | plus a b i j =>
    intro e r s g h
    rw [chk] at h
    obtain ⟨p, hp, h⟩ := Option.bind_eq_some_iff.mp h
    rw [(nmOf_eq h).2]
    exact .num
  | less a b i j =>
    intro e r s g h
    rw [chk] at h
    obtain ⟨p, hp, h⟩ := Option.bind_eq_some_iff.mp h
    obtain ⟨q, hq, h⟩ := Option.bind_eq_some_iff.mp h
    cases h
    exact .tru
  | tru => intro e r s g h; rw [chk] at h; cases h; exact .tru
  | iff a b c i j l =>
    intro e r s g h
    rw [chk] at h
    obtain ⟨p, hp, h⟩ := Option.bind_eq_some_iff.mp h
    obtain ⟨y, hy, h⟩ := Option.bind_eq_some_iff.mp h
    obtain ⟨z, hz, h⟩ := Option.bind_eq_some_iff.mp h
    rw [← (if_eq h).2]
    exact j s.2.1 g hy
  | pair a b i j =>
    intro e r s g h
    rw [chk] at h
    obtain ⟨p, hp, h⟩ := Option.bind_eq_some_iff.mp h
    obtain ⟨q, hq, rfl⟩ := Option.map_eq_some_iff.mp h
    exact s.2.2 p q (daOf_eq hp).1 (daOf_eq hq).1
  | fst a i =>
    intro e r s g h
    rw [chk] at h
    obtain ⟨q, hq, rfl⟩ := Option.map_eq_some_iff.mp h
    exact (i s g (prOf_eq hq)).pr1
  | snd a i =>
    intro e r s g h
    rw [chk] at h
    obtain ⟨q, hq, rfl⟩ := Option.map_eq_some_iff.mp h
    exact (i s g (prOf_eq hq)).pr2
  | left a k i =>
    intro e r s g h
    rw [chk] at h
    obtain ⟨q, hq, rfl⟩ := Option.map_eq_some_iff.mp h
    exact s.2.2 q (daOf_eq hq).1
  | right k a i =>
    intro e r s g h
    rw [chk] at h
    obtain ⟨q, hq, rfl⟩ := Option.map_eq_some_iff.mp h
    exact s.2.2 q (daOf_eq hq).1
  | case a x b y c i j l =>
    intro e r s g h
    rw [chk] at h
    obtain ⟨p, hp, h⟩ := Option.bind_eq_some_iff.mp h
    obtain ⟨q, hq, h⟩ := Option.bind_eq_some_iff.mp h
    obtain ⟨z, hz, h⟩ := Option.bind_eq_some_iff.mp h
    rw [← (if_eq h).2]
    have hp := eiOf_eq hp
    obtain ⟨s1, s2⟩ := s.2.2.2 _ _ hp
    exact j s1 (put_gk g (i s.2.2.1 g hp).ei1) hq
  | none k => intro e r s g h; rw [chk] at h; cases h; exact s
  | more a b i j =>
    intro e r s g h
    rw [chk] at h
    obtain ⟨p, hp, h⟩ := Option.bind_eq_some_iff.mp h
    obtain ⟨q, hq, h⟩ := Option.bind_eq_some_iff.mp h
    rw [← (if_eq h).2]
    exact s.2.2 p hp
  | fold a b x y t i j l =>
    intro e r s g h
    rw [chk] at h
    obtain ⟨p, hp, h⟩ := Option.bind_eq_some_iff.mp h
    obtain ⟨q, hq, h⟩ := Option.bind_eq_some_iff.mp h
    obtain ⟨z, hz, h⟩ := Option.bind_eq_some_iff.mp h
    rw [← (if_eq h).2]
    exact j s.2.2.2.1 g (daOf_eq hq).1
  | built k o x y t i =>
    intro e r s g h
    rw [chk] at h
    by_cases c : met lk e o k
    · rw [if_pos c] at h
      cases h
    · rw [if_neg c] at h
      obtain ⟨q, hq, h⟩ := Option.bind_eq_some_iff.mp h
      rw [← (if_eq h).2]
      exact s.2.2.2.1
  | alike a b i j =>
    intro e r s g h
    rw [chk] at h
    obtain ⟨p, hp, h⟩ := Option.bind_eq_some_iff.mp h
    obtain ⟨q, hq, h⟩ := Option.bind_eq_some_iff.mp h
    split at h
    · rw [← (if_eq h).2]
      exact .tru
    · cases h
  | fault k => intro e r s g h; rw [chk] at h; cases h; exact s
  | rounds m a x t i j =>
    intro e r s g h
    rw [chk] at h
    obtain ⟨p, hp, h⟩ := Option.bind_eq_some_iff.mp h
    obtain ⟨q, hq, h⟩ := Option.bind_eq_some_iff.mp h
    rw [← (if_eq h).2]
    have hp := (daOf_eq hp).1
    exact (j (s.2.2 _ hp) (put_gk g (i s.2.1 g hp)) (eiOf_eq hq)).ei2
  | told f fs => intro e r s g h; rw [chk] at h; cases h
/-- kinds of names stand at d -/
def Ec (K : PySem.W.Frag) (NS NO : List Str) (H : Hp) (e : Ek) (d : Addr) : Prop := ∃ kvs, H d = some (.dK kvs) ∧ NmD NS kvs ∧ (∀ y, e y = Option.none → valV kvs (Sum.inr y) = Option.none) ∧ ∀ y k, e y = some k → Gk NO k ∧ ∃ v, valV kvs (Sum.inr y) = some v ∧ Rp K H k v
/-- what is settled stands at s -/
def Se (K : PySem.W.Frag) (H : Hp) (lk : List Str) (s : Addr) : Prop := ∃ (a : Addr) (b : V), H s = some (.tup [.ref a, b]) ∧ H a = some (.tup (lk.map V.str)) ∧ True
/-- all but the names' dict stays -/
def Ss (st : Addr) (H G : Hp) : Prop := ∀ b o, b ≠ st → H b = some o → G b = some o
theorem Ss.trans {st : Addr} {H G F : Hp} (a : Ss st H G) (b : Ss st G F) : Ss st H F := fun x o n e => b x o n (a x o n e)
theorem Ss.of {st : Addr} {H G : Hp} (s : Same H G) : Ss st H G := fun b o _ e => s b o e
def Ko (K : PySem.W.Frag) (cN d : Addr) : Option Kd → Hp → VK → XK → Prop
  | some k, H, Q, _ => ∀ (u : V) (G : Hp), Same H G → Rp K G k u → Q u G
  | Option.none, H, _, E => ∀ G : Hp, Ss d H G → E (.ref cN) none G
section
variable {K : PySem.W.Frag} {NS NO lk : List Str} {H G : Hp} {e : Ek} {d s cN : Addr}
theorem Ec.same (h : Ec K NS NO H e d) (sm : Same H G) : Ec K NS NO G e d := by
  obtain ⟨kvs, h1, h2, h3, h4⟩ := h
  refine ⟨kvs, sm _ _ h1, h2, h3, fun y k hy => ?_⟩
  obtain ⟨g, v, e1, e2⟩ := h4 y k hy
  exact ⟨g, v, e1, e2.tk (.of sm)⟩
theorem Se.same (h : Se K H lk s) (sm : Same H G) : Se K G lk s := by
  obtain ⟨a, b, h1, h2, h3⟩ := h
  exact ⟨a, b, sm _ _ h1, sm _ _ h2, trivial⟩
theorem Ko.same {o : Option Kd} {Q : VK} {E : XK} (q : Ko K cN d o H Q E) (sm : Same H G) : Ko K cN d o G Q E := by
  cases o with
  | none => exact fun F s1 => q F (Ss.trans (.of sm) s1)
  | some k => exact fun u F s1 r => q u F (sm.trans s1) r
theorem Ko.mk {o : Option Kd} {Q : VK} {E : XK} (h1 : ∀ k, o = some k → ∀ (u : V) (G : Hp), Same H G → Rp K G k u → Q u G) (h2 : o = Option.none → ∀ G : Hp, Ss d H G → E (.ref cN) none G) : Ko K cN d o H Q E := by
  cases o with
  | none => exact h2 rfl
  | some k => exact h1 k rfl
theorem Ko.ok {o : Option Kd} {k : Kd} {Q : VK} {E : XK} (q : Ko K cN d o H Q E) (e : o = some k) {u : V} {G : Hp} (s : Same H G) (r : Rp K G k u) : Q u G := by
  subst e
  exact q u G s r
theorem Ko.no {o : Option Kd} {Q : VK} {E : XK} (q : Ko K cN d o H Q E) (e : o = Option.none) {G : Hp} (s : Ss d H G) : E (.ref cN) none G := by
  subst e
  exact q G s
theorem Ec.gk (h : Ec K NS NO H e d) {y : Str} {k : Kd} (hy : e y = some k) : Gk NO k := by
  obtain ⟨kvs, h1, h2, h3, h4⟩ := h
  exact (h4 y k hy).1
end
end Kq
/-! names put to kinds; need, need_same -/
namespace Kq
open PySem PySem.Spec PyProof.Rows L2 Kf Kg Kv Kk Ku
def puts (e : Ek) (xs : List (Str × Kd × V)) : Ek := xs.foldl (fun e x => e.put x.1 x.2.1) e
def RE (P : Kd → V → Prop) (kvs : List (Key × V)) (e : Ek) : Prop := (∀ y, e y = none → valV kvs (Sum.inr y) = none) ∧ ∀ y k, e y = some k → ∃ v, valV kvs (Sum.inr y) = some v ∧ P k v
theorem RE.mg {P : Kd → V → Prop} : ∀ {xs : List (Str × Kd × V)} {acc : List (Key × V)} {e : Ek}, (∀ x ∈ xs, P x.2.1 x.2.2) → RE P acc e → RE P (mergeK acc (xs.map fun x => (Sum.inr x.1, x.2.2))) (puts e xs)
  | [], _, _, _, h => h
  | x :: xs, acc, e, hx, h => by
    refine RE.mg (xs := xs) (fun y hy => hx y (List.mem_cons_of_mem _ hy)) ⟨fun y hy => ?_, fun y k hy => ?_⟩
    · have hy : (if y = x.1 then some x.2.1 else e y) = none := hy
      rw [valV_put]
      show (if Sum.inr y = Sum.inr x.1 then some x.2.2 else valV acc (Sum.inr y)) = none
      by_cases c : y = x.1
      · rw [if_pos c] at hy
        cases hy
      · rw [if_neg c] at hy
        rw [if_neg (fun z => c (Sum.inr.inj z))]
        exact h.1 y hy
    · have hy : (if y = x.1 then some x.2.1 else e y) = some k := hy
      rw [valV_put]
      show ∃ v, (if Sum.inr y = Sum.inr x.1 then some x.2.2 else valV acc (Sum.inr y)) = some v ∧ P k v
      by_cases c : y = x.1
      · rw [if_pos c] at hy
        cases hy
        rw [if_pos (by rw [c])]
        exact ⟨_, rfl, hx x List.mem_cons_self⟩
      · rw [if_neg c] at hy
        rw [if_neg (fun z => c (Sum.inr.inj z))]
        exact h.2 y k hy
end Kq
/-! need, need_same, data_at, formed_at -/
/-! the rules -/
namespace Kq
open PySem PySem.Spec PyProof.Rows L2 Kf Kg Kv Kk Ku
/-- a global tuple of one word -/
structure GTu (K : PySem.W.Frag) (mg : Str → Option Value) (x w : Str) (o : Addr) : Prop where
  mgN : mg x = some (.ref o)
  tup : ∀ H : Hp, SqT K H o [.str w]
theorem GTu.num {K : PySem.W.Frag} {mg : Str → Option Value} {x : Str} {o : Addr} (g : GTu K mg x "num" o) (H : Hp) : Rp K H .num (.ref o) := ⟨o, rfl, .inr g.tup⟩
theorem GTu.tru {K : PySem.W.Frag} {mg : Str → Option Value} {x : Str} {o : Addr} (g : GTu K mg x "truth" o) (H : Hp) : Rp K H .tru (.ref o) := ⟨o, rfl, .inr g.tup⟩
end Kq
/-! the rules -/
namespace Kq
open PySem PySem.Spec PyProof.Rows L2 Kf Kg Kv Kk Ku
theorem flat_strs (xs : List Str) : (xs.map V.str).all flatV = true := by
  rw [List.all_eq_true]
  intro x hx
  obtain ⟨y, _, rfl⟩ := List.mem_map.mp hx
  rfl
theorem inV_strs (x : Str) (xs : List Str) : inV (V.str x) (xs.map V.str) = true ↔ x ∈ xs := by
  unfold inV
  rw [List.any_eq_true]
  constructor
  · rintro ⟨y, hy, e⟩
    obtain ⟨z, hz, rfl⟩ := List.mem_map.mp hy
    have e : z = x := by simpa [eqV] using e
    rw [← e]
    exact hz
  · intro h
    exact ⟨V.str x, List.mem_map.mpr ⟨x, h, rfl⟩, by simp [eqV]⟩
theorem Mut.dK {kvs : List (Key × V)} : Mut (some (.dK kvs)) := trivial
end Kq
/-! all of the rules; kind_at -/
/-! kind_of, whole -/
/-! names of one letter unlike; pick -/
namespace Kq
open PySem PySem.Spec PyProof.Rows L2 Kf Kg Kv Kk Ku
abbrev tNames : Stmt := tp 10
abbrev tPick : Stmt := tp 9
abbrev nNames : List Str := ["_law_deck_here", "_law_many", "_law_letters", "_law_k", "_law_word", "_law_at", "_law_found", "_law_sign"]
def nmAt (ks : List Nat) (a j : Nat) : Str := Txt.join (Str.ofString "") ((ks.set a ((ks.getD a 0 + j + 1) % 26)).map sg)
theorem nmAt_inj {ks : List Nat} {a i j : Nat} (ha : a < ks.length) (hi : i < 26) (hj : j < 26) (h : nmAt ks a i = nmAt ks a j) : i = j := by
  have e : (ks.set a ((ks.getD a 0 + i + 1) % 26)).map (97 + ·) = (ks.set a ((ks.getD a 0 + j + 1) % 26)).map (97 + ·) := by
    rw [← join_cps, ← join_cps]
    exact congrArg (fun s : Str => s.cps.toList) h
  have e2 := congrArg (fun l => l[a]?) e
  simp only [List.getElem?_map, List.getElem?_set_self ha, Option.map_some] at e2
  have e3 := Option.some.inj e2
  omega
section
variable {P : Program} {w : World} {K : PySem.W.Frag} {mg : Str → Option Value} {base : Heap}
theorem scNames : FnScope nNames ["_law_deck_here", "_law_many"] (defScope tNames) := ⟨rfl, rfl, rfl, by decide +kernel, rfl, by decide +kernel, by decide +kernel⟩
def spNames : Sp := fun vs H Q _ => ∃ (d c : Addr) (m : Int), vs = [.ref d, .int m] ∧ Dk H d c ∧ 0 ≤ m ∧ m ≤ 26 ∧
  ∀ (l : Addr) (xs : List Str) (G : Hp), Kp d c H G → Dk G d c → H l = none → G l = some (.lst (xs.map V.str)) → xs.length = m.toNat → (∀ x ∈ xs, Nm x) → xs.Nodup → (∃ n, ∀ x ∈ xs, x.cps.toList.length = n) → Q (.ref l) G
theorem okNames {f fD : Addr} {fd fdD : FuncData} {k : Nat} (F : Fun K "_law_names" "_law_names" tNames f fd) (GD : FnOk P w K mg base CX0 (k + 1) fD fdD ["_law_deck_here", "_law_most"] spDraw) (bD : Binds K fdD ["_law_deck_here", "_law_most"] []) (gD : mg "_law_draw" = some (.ref fD)) (kD : PySem.W.keepIn K (.ref fD) = true)
    (mn : mg "len" = none) (mr : mg "range" = none) : FnOk P w K mg base CX0 (k + 2) f fd ["_law_deck_here", "_law_many"] spNames := by
  refine F.ok scNames (fun vs H Q E h => ?_) (fun cdv A outer s H vs Q E hr h => ?_)
  · obtain ⟨d, c, m, rfl, _⟩ := h
    rfl
  obtain ⟨d, c, m, rfl, dk, m0, m1, q⟩ := h
  refine ⟨_, pss_cons (ps_set (i := 2) scNames.nd rfl (.inr rfl) pe_str)
    (pss_cons (ps_setLc (i := 4) (own := [("_law_k", 3)]) (g := gName 3) (by rfl) scNames.nd rfl rfl (sw_true rfl rfl rfl (by decide +kernel)) (pi_range1 (by rfl) mr (pa_cons (pe_op op_add pe_int (pe_call GD hr (by rfl) gD kD bD .nil pass0 (pa_cons (pv 0) (pa_cons pe_int pa_nil)))) pa_nil)) (blkOk_by (own := [("_law_k", 3)]) (N := nNames) (sc := defScope tNames) (by decide +kernel))
        (fun _ _ _ _ _ => pg_name (i := 3) scNames.nd rfl (.inl rfl)) (fun _ _ _ _ _ => pts_nil)
        (fun _ _ _ _ _ => pe_call GD hr (by rfl) gD kD bD .nil pass0 (pa_cons (pv 0) (pa_cons pe_int pa_nil))))
    (pss_cons (ps_set (i := 5) scNames.nd rfl (.inl rfl) (pe_call GD hr (by rfl) gD kD bD .nil pass0 (pa_cons (pv 0) (pa_cons (pe_callB call_len_seq (by rfl) mn PySem.boot_len (pa_cons (pv 4) pa_nil)) pa_nil))))
    (pss_cons (ps_set (i := 6) scNames.nd rfl (.inl rfl) (pe_lst pa_nil))
    (pss_cons (ps_for PassesOwn.never rfl (pi_range1 (by rfl) mr (pa_cons (pv 1) pa_nil)) (pg_name (i := 3) scNames.nd rfl (.inl rfl))
      (pss_cons (ps_asg (pe_op op_mod (pe_op op_add (pe_ix ix_list (pv 4) (pv 5) (fun _ _ => rfl)) pe_int) pe_int) (pg_sub (pv 4) (pv 5) set_list))
      (pss_one (ps_expr (pe_bm PySem.F.plainAttrs_list PySem.F.slot_list_append PySem.F.type_list_append mt_append (pv 6) (pa_cons (pe_joinK K rfl pe_str
        (pe_lc (own := [("_law_sign", 7)]) (g := gName 7) (by rfl) scNames.nd (pi_list (pv 4)) (blkOk_by (own := [("_law_sign", 7)]) (N := nNames) (sc := defScope tNames) (by decide +kernel))
          (fun _ _ _ _ _ => pg_name (i := 7) scNames.nd rfl (.inl rfl)) (fun _ _ _ _ _ => pts_nil) (fun _ _ _ _ _ => pe_ix ix_str (pv 2) (pv 7) (fun _ _ => rfl)))) pa_nil))))))
    (pss_one (ps_ret (pv 6))))))), ?_⟩
  refine ⟨_, rfl, d, c, 8, rfl, dk, by decide, by decide, fun mm G1 mm0 mm1 kp1 dk1 => ⟨_, _, rfl, rfl, ?_⟩⟩
  refine ⟨1 + mm, rfl, by omega, by omega, fun D nD => ?_⟩
  have offD := dk1.off nD
  have hD : H D = none := kp1.free dk1 nD
  refine lc_range (lo := 0) (n := (1 + mm).toNat) (fun i G => Kp d c H G ∧ Dk G d c ∧ ∃ ks : List Nat, ks.length = i ∧ (∀ k ∈ ks, k < 26) ∧ G D = some (.lst (ks.map fun k : Nat => V.int (k : Int)))) ?_ (fun i G hi z => ?_) (fun G z => ?_)
  · exact ⟨kp1.mk hD, dk1.put offD.1 offD.2, [], rfl, fun k z => (nomatch z), upd_same⟩
  · obtain ⟨kpi, dki, ks, lk, hk, gD'⟩ := z
    refine ⟨rfl, _, rfl, d, c, 26, rfl, dki, by decide, by decide, fun r G2 r0 r1 kp2 dk2 => ?_⟩
    have er : r = ((r.toNat : Nat) : Int) := by omega
    refine ⟨_, kp2 D _ offD.1 offD.2 gD', ?_, (kpi.trans kp2).mk hD, dk2.put offD.1 offD.2, ks ++ [r.toNat], ?_, fun k hk' => ?_, ?_⟩
    · rw [List.length_map, lk]
      exact small1000 (by omega)
    · rw [List.length_append, lk]
      rfl
    · rcases List.mem_append.mp hk' with z | z
      · exact hk k z
      · rw [List.mem_singleton.mp z]
        omega
    · rw [upd_same, List.map_append]
      show _ = some (HO.lst (_ ++ [V.int ((r.toNat : Nat) : Int)]))
      rw [← er]
  obtain ⟨kpi, dki, ks, lk, hk, gD'⟩ := z
  refine ⟨_, rfl, _, rfl, D, _, rfl, .inl (SqL.of gD'), d, c, _, rfl, dki, by rw [List.length_map]; omega, by rw [List.length_map]; omega, fun r G2 r0 r1 kp2 dk2 => ?_⟩
  rw [List.length_map] at r1
  have gD2 := kp2 D _ offD.1 offD.2 gD'
  refine ⟨Nat.zero_le _, fun L nL => ?_⟩
  have offL := dk2.off nL
  have LD : L ≠ D := (ne_of_none gD2 nL).symm
  have kpa := kpi.trans kp2
  have hL : H L = none := kpa.free dk2 nL
  have er : r = ((r.toNat : Nat) : Int) := by omega
  have lr : r.toNat < ks.length := by omega
  have l8 : ks.length ≤ 8 := by omega
  refine ⟨_, rfl, m, rfl, by omega, by omega, ?_⟩
  refine for_range (lo := 0) (n := m.toNat) (fun i σ G => (∃ y3, σ = [some (.ref d), some (.int m), some (.str lets), y3, some (.ref D), some (.int r), some (.ref L), none]) ∧ Kp d c H G ∧ Dk G d c ∧
      G D = some (.lst ((ks.set r.toNat ((ks.getD r.toNat 0 + i) % 26)).map fun k : Nat => V.int (k : Int))) ∧ G L = some (.lst (((List.range i).map (nmAt ks r.toNat)).map V.str))) ?_ (fun i σ G hi z => ?_) (fun σ G z => ?_)
  · refine ⟨⟨none, rfl⟩, kpa.mk hL, dk2.put offL.1 offL.2, ?_, upd_same⟩
    rw [upd_ne LD.symm, gD2]
    have h26 : (ks.getD r.toNat 0 + 0) % 26 = ks[r.toNat] := by
      have e1 : ks.getD r.toNat 0 = ks[r.toNat] := by simp [List.getD, List.getElem?_eq_getElem lr]
      have := hk _ (List.getElem_mem lr)
      rw [e1]
      omega
    rw [h26, List.set_getElem_self]
  · obtain ⟨⟨y3, rfl⟩, kpG, dkG, gDG, gLG⟩ := z
    generalize hks : ks.set r.toNat ((ks.getD r.toNat 0 + i) % 26) = ki at gDG
    have lki : ki.length = ks.length := by rw [← hks, List.length_set]
    have kat : ki[r.toNat]? = some ((ks.getD r.toNat 0 + i) % 26) := by rw [← hks, List.getElem?_set_self lr]
    have gat : atI (ki.map fun k : Nat => V.int (k : Int)) r = some (V.int (((ks.getD r.toNat 0 + i) % 26 : Nat) : Int)) := by
      have z := atI_nat (xs := ki.map fun k : Nat => V.int (k : Int)) (j := r.toNat) (v := V.int (((ks.getD r.toNat 0 + i) % 26 : Nat) : Int)) (by rw [List.getElem?_map, kat]; rfl)
      rw [← er] at z
      exact z
    have ix : ixN (ki.map fun k : Nat => V.int (k : Int)).length r = some r.toNat := by
      have z := ixNat (n := (ki.map fun k : Nat => V.int (k : Int)).length) (j := r.toNat) (by rw [List.length_map, lki]; exact lr)
      rw [← er] at z
      exact z
    refine ⟨_, rfl, _, rfl, D, _, _, _, rfl, rfl, SqL.of gDG, gat, _, _, rfl, rfl, _, _, rfl, rfl, (by show (0 : Int) < 26; decide), _, rfl, _, rfl, D, _, _, r.toNat, rfl, rfl, gDG, ix, ?_⟩
    have ev : (V.int ((((ks.getD r.toNat 0 + i) % 26 : Nat) : Int) + 1) = V.int ((((ks.getD r.toNat 0 + i) % 26 : Nat) : Int) + 1)) := rfl
    have en : ((((ks.getD r.toNat 0 + i) % 26 : Nat) : Int) + 1) % 26 = (((ks.getD r.toNat 0 + i + 1) % 26 : Nat) : Int) := by omega
    have eset : (ki.map fun k : Nat => V.int (k : Int)).set r.toNat (V.int (((((ks.getD r.toNat 0 + i) % 26 : Nat) : Int) + 1) % 26)) = (ks.set r.toNat ((ks.getD r.toNat 0 + i + 1) % 26)).map fun k : Nat => V.int (k : Int) := by
      rw [en, ← hks, ← List.map_set (f := fun k : Nat => V.int (k : Int)), List.set_set]
    rw [eset]
    generalize hk2 : ks.set r.toNat ((ks.getD r.toNat 0 + i + 1) % 26) = k2
    have lk2 : k2.length = ks.length := by rw [← hk2, List.length_set]
    have hk26 : ∀ k ∈ k2, k < 26 := fun k hk' => by
      rw [← hk2] at hk'
      rcases List.mem_or_eq_of_mem_set hk' with z | z
      · exact hk k z
      · rw [z]
        exact Nat.mod_lt _ (by decide)
    have gL2 : (upd G D (.lst (k2.map fun k : Nat => V.int (k : Int)))) L = some (.lst (((List.range i).map (nmAt ks r.toNat)).map V.str)) := by rw [upd_ne LD]; exact gLG
    have gDn : (upd G D (.lst (k2.map fun k : Nat => V.int (k : Int)))) D = some (.lst (k2.map fun k : Nat => V.int (k : Int))) := upd_same
    have kp3 : Kp d c H (upd G D (.lst (k2.map fun k : Nat => V.int (k : Int)))) := kpG.mk hD
    have dk3 := dkG.put (o := .lst (k2.map fun k : Nat => V.int (k : Int))) offD.1 offD.2
    generalize upd G D (.lst (k2.map fun k : Nat => V.int (k : Int))) = G3 at gL2 gDn kp3 dk3
    refine ⟨_, rfl, .inl ⟨rfl, _, SqL.of gL2⟩, ⟨_, rfl⟩, _, rfl, D, rfl, ⟨_, SqL.of gDn⟩, fun J nJ => ?_⟩
    have JD : D ≠ J := ne_of_none gDn nJ
    have JL : L ≠ J := ne_of_none gL2 nJ
    have offJ := dk3.off nJ
    have hJ : H J = none := kp3.free dk3 nJ
    refine lc_list (xs := k2.map fun k : Nat => V.int (k : Int)) (fun i G => Same G3 G ∧ G J = some (.lst (((k2.take i).map sg).map V.str))) ⟨newS nJ, upd_same⟩ (fun i G _ z => SqL.of (z.1 _ _ gDn)) (fun i' x G hx z => ?_) (fun G z => ?_)
    · obtain ⟨sG, gJ⟩ := z
      rw [List.getElem?_map] at hx
      cases hu : k2[i']? with
      | none => rw [hu] at hx; cases hx
      | some kk =>
        rw [hu] at hx
        have ex : V.int (kk : Int) = x := Option.some.inj hx
        subst ex
        have hkk := hk26 kk (List.mem_of_getElem? hu)
        have li : i' < k2.length := (List.getElem?_eq_some_iff.mp hu).1
        have tk : k2.take (i' + 1) = k2.take i' ++ [kk] := by rw [List.take_add_one, hu]; rfl
        have lg := lets_get (r := ((kk : Nat) : Int)) (by omega) (by omega)
        rw [Int.toNat_natCast] at lg
        refine ⟨rfl, _, rfl, _, rfl, lets, _, _, rfl, rfl, lets_len, lg, _, gJ, ?_, smk sG nJ, ?_⟩
        · rw [List.length_map, List.length_map, List.length_take]
          exact small1000 (by omega)
        · rw [upd_same, tk, List.map_append, List.map_append]
          rfl
    · obtain ⟨sG, gJ⟩ := z
      rw [List.length_map, List.take_length] at gJ
      refine ⟨_, J, k2.map sg, rfl, rfl, .inl (SqL.of gJ), ?_, L, _, _, rfl, rfl, sG _ _ gL2, ?_, ?_⟩
      · rw [sg_len, List.length_map]
        show k2.length + k2.length * 0 ≤ _
        omega
      · rw [List.length_map, List.length_map, List.length_range]
        exact small1000 (by omega)
      · refine ⟨⟨_, rfl⟩, (kp3.trans (Kp.of sG)).mk hL, (dk3.same sG).put offL.1 offL.2, ?_, ?_⟩
        · rw [upd_ne LD.symm]
          exact sG _ _ gDn
        · rw [upd_same, List.range_succ, List.map_append, List.map_append]
          show _ = some (HO.lst (_ ++ [V.str (Txt.join (Str.ofString "") ((ks.set r.toNat ((ks.getD r.toNat 0 + i + 1) % 26)).map sg))]))
          rw [hk2]
  · obtain ⟨⟨y3, rfl⟩, kpG, dkG, gDG, gLG⟩ := z
    refine ⟨_, rfl, q L _ G kpG dkG hL gLG (by rw [List.length_map, List.length_range]) (fun x hx => ?_) (nodupR _ fun i j hi hj e => nmAt_inj lr (by omega) (by omega) e) ⟨ks.length, fun x hx => ?_⟩⟩
    rotate_left
    · obtain ⟨j, _, rfl⟩ := List.mem_map.mp hx
      unfold nmAt
      rw [join_cps, List.length_map, List.length_set]
    obtain ⟨j, _, rfl⟩ := List.mem_map.mp hx
    refine join_nm (fun k hk' => ?_) (by rw [List.length_set]; omega) (by rw [List.length_set]; omega)
    rcases List.mem_or_eq_of_mem_set hk' with z | z
    · exact hk k z
    · rw [z]
      exact Nat.mod_lt _ (by decide)
/-! _law_pick -/
theorem scPick : FnScope ["_law_deck_here", "_law_some"] ["_law_deck_here", "_law_some"] (defScope tPick) := ⟨rfl, rfl, rfl, by decide +kernel, rfl, by decide +kernel, by decide +kernel⟩
abbrev psPick : List Str := ["_law_deck_here", "_law_some"]
def spPick : Sp := fun vs H Q _ => ∃ (d c a : Addr) (us : List V), vs = [.ref d, .ref a] ∧ Dk H d c ∧ H a = some (.lst us) ∧ a ≠ d ∧ a ≠ c ∧ 1 ≤ us.length ∧ us.length ≤ 100 ∧ ∀ (v : V) (G : Hp), Kp d c H G → Dk G d c → v ∈ us → Q v G
theorem okPick {f fD : Addr} {fd fdD : FuncData} {k : Nat} (F : Fun K "_law_pick" "_law_pick" tPick f fd) (GD : FnOk P w K mg base CX0 (k + 1) fD fdD ["_law_deck_here", "_law_most"] spDraw) (bD : Binds K fdD ["_law_deck_here", "_law_most"] []) (gD : mg "_law_draw" = some (.ref fD)) (kD : PySem.W.keepIn K (.ref fD) = true)
    (mn : mg "len" = none) : FnOk P w K mg base CX0 (k + 2) f fd psPick spPick := by
  refine F.ok scPick (fun vs H Q E h => ?_) (fun cdv A outer s H vs Q E hr h => ?_)
  · obtain ⟨d, c, a, us, rfl, _⟩ := h
    rfl
  obtain ⟨d, c, a, us, rfl, dk, ha, ad, ac, l1, l2, q⟩ := h
  refine ⟨_, pss_one (ps_ret (pe_ix ix_list (pv 1) (pe_call GD hr (by rfl) gD kD bD .nil pass0 (pa_cons (pv 0) (pa_cons (pe_callB call_len_seq (by rfl) mn PySem.boot_len (pa_cons (pv 1) pa_nil)) pa_nil))) (fun _ _ => rfl))), ?_⟩
  refine ⟨_, rfl, _, rfl, _, rfl, a, _, rfl, .inl (SqL.of ha), d, c, _, rfl, dk, by omega, by omega, fun r G r0 r1 kp dk2 => ?_⟩
  have lr : r.toNat < us.length := by omega
  have er : r = ((r.toNat : Nat) : Int) := by omega
  have gat : atI us r = some us[r.toNat] := by
    have z := atI_nat (xs := us) (j := r.toNat) (List.getElem?_eq_getElem lr)
    rw [← er] at z
    exact z
  exact ⟨a, _, _, _, rfl, rfl, SqL.of (kp a _ ad ac ha), gat, q _ G kp dk2 (List.getElem_mem lr)⟩
end
end Kq
/-! _law_has -/
namespace Kq
open PySem PySem.Spec PyProof.Rows L2 Kf Kg Kv Kk Ku
def Kok (t : Kd) : Prop := (∀ x ∈ t.opens, Nm x) ∧ t.dp ≤ 50
def Kd.dts : Kd → List Dt
  | .opn x => [.str x]
  | .num => []
  | .tru => []
  | .pair a b => [a.dt, b.dt]
  | .eith a b => [a.dt, b.dt]
  | .lst a => [a.dt]
  | .fn a b => [a.dt, b.dt]
theorem dt_eq (t : Kd) : t.dt = .tup (.str t.word :: t.dts) := by cases t <;> rfl
theorem Dd.seeT {N : Addr → Prop} {H : Hp} {x : Dt} {xs : List Dt} {v : V} (h : Dd N H (.tup (x :: xs)) v) : ∃ p u us, v = .ref p ∧ H p = some (.tup (u :: us)) ∧ Dd N H x u ∧ DdL N H xs us := by
  cases h with
  | tup e t =>
  cases t with
  | cons t1 t => exact ⟨_, _, _, rfl, e, t1, t⟩
end Kq
/-! terms are terms; what kinds they have -/
namespace Kq
open PySem PySem.Spec PyProof.Rows L2 Kf Kg Kv Kk Ku
def Kd.isDat : Kd → Bool
  | .opn _ => true
  | .num => true
  | .tru => true
  | .pair a b => a.isDat && b.isDat
  | .eith a b => a.isDat && b.isDat
  | .lst a => a.isDat
  | .fn _ _ => false
def Kd.isFst : Kd → Bool
  | .fn a b => a.isDat && b.isFst
  | k => k.isDat
/-- a data kind of names -/
def Dk1 (k : Kd) : Prop := k.isDat = true ∧ ∀ x ∈ k.opens, Nm x
def Ak1 (k : Kd) : Prop := k.isFst = true ∧ ∀ x ∈ k.opens, Nm x
/-- terms by their form -/
def Tm.wf : Tm → Prop
  | .name x => Nm x
  | .fn x k b => Nm x ∧ Ak1 k ∧ b.wf
  | .call a b => a.wf ∧ b.wf
  | .num i => 0 ≤ i ∧ i < 10 ^ 7
  | .plus a b => a.wf ∧ b.wf
  | .less a b => a.wf ∧ b.wf
  | .tru i => True
  | .iff a b c => a.wf ∧ b.wf ∧ c.wf
  | .pair a b => a.wf ∧ b.wf
  | .fst a => a.wf
  | .snd a => a.wf
  | .left a k => a.wf ∧ Dk1 k
  | .right k a => Dk1 k ∧ a.wf
  | .case a x b y c => a.wf ∧ Nm x ∧ b.wf ∧ Nm y ∧ c.wf
  | .none k => Dk1 k
  | .more a b => a.wf ∧ b.wf
  | .fold a b x y c => a.wf ∧ b.wf ∧ Nm x ∧ Nm y ∧ c.wf ∧ x ≠ y
  | .built k o x y b => Dk1 k ∧ Nm o ∧ Nm x ∧ Nm y ∧ b.wf ∧ x ≠ y
  | .alike a b => a.wf ∧ b.wf
  | .fault k => Dk1 k
  | .rounds m a x b => (1 ≤ m ∧ m ≤ 30) ∧ a.wf ∧ Nm x ∧ b.wf
  | .told x fs => Nm x ∧ filD (.tup (fs.map fun p => .tup [.str p.1, p.2.dt])) = true
end Kq
/-! what kind a term has, and that none is great, at once -/
namespace Kq
open PySem PySem.Spec PyProof.Rows L2 Kf Kg Kv Kk Ku
theorem Ek.put_eq (e : Ek) (x : Str) (k : Kd) : (e.put x k) x = some k := if_pos rfl
theorem Ek.put_ne {e : Ek} {x y : Str} {k : Kd} (h : y ≠ x) : (e.put x k) y = e y := if_neg h
/-- small kinds -/
structure Ks1 (NO : List Str) (s d : Nat) (k : Kd) : Prop where
  sz : k.size ≤ s
  dp : k.dp ≤ d
  op : ∀ x ∈ k.opens, x ∈ NO
section
variable {NO NS lk : List Str} {s d s' d' : Nat} {a b k : Kd}
theorem Ks1.fn (h : Ks1 NO s d a) (g : Ks1 NO s' d' b) : Ks1 NO (s + s' + 1) (max d d' + 1) (.fn a b) := ⟨by rw [Kd.size_fn]; have := h.sz; have := g.sz; omega, by rw [Kd.dp]; have := h.dp; have := g.dp; omega, fun x hx => (List.mem_append.mp hx).elim (h.op x) (g.op x)⟩
theorem Ks1.pr (h : Ks1 NO s d a) (g : Ks1 NO s' d' b) : Ks1 NO (s + s' + 1) (max d d' + 1) (.pair a b) := ⟨by rw [Kd.size_pr]; have := h.sz; have := g.sz; omega, by rw [Kd.dp]; have := h.dp; have := g.dp; omega, fun x hx => (List.mem_append.mp hx).elim (h.op x) (g.op x)⟩
theorem Ks1.ei (h : Ks1 NO s d a) (g : Ks1 NO s' d' b) : Ks1 NO (s + s' + 1) (max d d' + 1) (.eith a b) := ⟨by rw [Kd.size_ei]; have := h.sz; have := g.sz; omega, by rw [Kd.dp]; have := h.dp; have := g.dp; omega, fun x hx => (List.mem_append.mp hx).elim (h.op x) (g.op x)⟩
theorem Ks1.ls (h : Ks1 NO s d a) : Ks1 NO (s + 1) (d + 1) (.lst a) := ⟨by rw [Kd.size_ls]; have := h.sz; omega, by rw [Kd.dp]; have := h.dp; omega, h.op⟩
theorem Ks1.num : Ks1 NO 1 0 .num := ⟨by decide, by decide, fun x h => by cases h⟩
theorem Ks1.tru : Ks1 NO 1 0 .tru := ⟨by decide, by decide, fun x h => by cases h⟩
theorem Ks1.opn {x : Str} (h : x ∈ NO) : Ks1 NO 1 0 (.opn x) := ⟨Nat.le_refl _, Nat.le_refl _, fun y hy => by rw [List.mem_singleton.mp hy]; exact h⟩
theorem Ks1.up (h : Ks1 NO s d a) (hs : s ≤ s') (hd : d ≤ d') : Ks1 NO s' d' a := ⟨Nat.le_trans h.sz hs, Nat.le_trans h.dp hd, h.op⟩
theorem Ks1.gk (h : Ks1 NO s d a) (hs : s ≤ 1000) (hd : d ≤ 50) : Gk NO a := ⟨Nat.le_trans h.dp hd, Nat.le_trans h.sz hs, h.op⟩
end
def Ck (lk NS NO : List Str) (t : Tm) (e : Ek) (o : Option Kd) : Prop := Sml lk NS NO t e ∧ chk lk t e = o
namespace Ck
variable {lk NS NO : List Str} {e : Ek}
theorem name {x : Str} {o : Option Kd} (h : e x = o) (hx : x.length ≤ 100) : Ck lk NS NO (.name x) e o := ⟨hx, by rw [chk]; exact h⟩
theorem num {i : Int} : Ck lk NS NO (.num i) e (some .num) := ⟨trivial, by rw [chk]⟩
theorem tru {i : Bool} : Ck lk NS NO (.tru i) e (some .tru) := ⟨trivial, by rw [chk]⟩
theorem fault {k : Kd} (h : Gk NO k) : Ck lk NS NO (.fault k) e (some k) := ⟨h, by rw [chk]⟩
theorem fn {x : Str} {k : Kd} {t : Tm} {o : Option Kd} (hx : x ∈ NS) (hk : Gk NO k) (h : Ck lk NS NO t (e.put x k) o) (hg : ∀ r, o = some r → Gk NO (.fn k r)) : Ck lk NS NO (.fn x k t) e (o.map (Kd.fn k)) :=
  ⟨⟨hx, hk, h.1, fun r hr => hg r (by rw [← h.2]; exact hr)⟩, by rw [chk, h.2]⟩
theorem call {a b : Tm} {x r : Kd} (h : Ck lk NS NO a e (some (.fn x r))) (g : Ck lk NS NO b e (some x)) : Ck lk NS NO (.call a b) e (some r) :=
  ⟨⟨h.1, fun _ => g.1⟩, by rw [chk, h.2]; show Option.bind (chk lk b e) _ = _; rw [g.2]; exact if_pos rfl⟩
theorem fold {a b t : Tm} {x y : Str} {i d : Kd} (hx : x ∈ NS) (hy : y ∈ NS) (h : Ck lk NS NO a e (some (.lst i))) (g : Ck lk NS NO b e (some d)) (hd : d.isFn = false) (f : Ck lk NS NO t ((e.put x i).put y d) (some d)) : Ck lk NS NO (.fold a b x y t) e (some d) := by
  refine ⟨⟨hx, hy, h.1, g.1, fun i' d' h1 h2 => ?_⟩, ?_⟩
  · rw [h.2] at h1
    rw [g.2] at h2
    cases h1
    cases h2
    exact f.1
  · rw [chk, h.2]
    show Option.bind ((chk lk b e).bind Kd.daOf) _ = _
    rw [g.2, show (some d).bind Kd.daOf = some d by show (if d.isFn = true then none else some d) = _; rw [if_neg (by rw [hd]; decide)]]
    show Option.bind (chk lk t ((e.put x i).put y d)) _ = _
    rw [f.2]
    exact if_pos rfl
abbrev bE (e : Ek) (k : Kd) (o x y : Str) : Ek := (e.put x (.fn k (.fn (.opn o) (.opn o)))).put y (.opn o)
theorem built {k : Kd} {o x y : Str} {t : Tm} (hx : x ∈ NS) (hy : y ∈ NS) (ho : o ∈ NO) (g1 : Gk NO (.lst k)) (g2 : Gk NO (.fn k (.fn (.opn o) (.opn o)))) (nm : ¬ met lk e o k) (h : Ck lk NS NO t (bE e k o x y) (some (.opn o))) : Ck lk NS NO (.built k o x y t) e (some (.lst k)) :=
  ⟨⟨hx, hy, ho, g1, g2, fun _ => h.1⟩, by rw [chk, if_neg nm]; show Option.bind (chk lk t (bE e k o x y)) _ = _; rw [h.2]; exact if_pos rfl⟩
end Ck
/-! funs of names, one within the other -/
def putAll (e : Ek) (fs : List (Str × Kd)) : Ek := fs.foldl (fun e f => e.put f.1 f.2) e
theorem putAll_mem : ∀ {fs : List (Str × Kd)} {e : Ek} {z : Str} {q : Kd}, putAll e fs z = some q → e z = some q ∨ ∃ f ∈ fs, f.1 = z ∧ f.2 = q
  | [], _, _, _, h => .inl h
  | f :: fs, e, z, q, h => by
    rcases putAll_mem (fs := fs) (e := e.put f.1 f.2) h with h | ⟨g, hg, h1⟩
    · by_cases c : z = f.1
      · rw [c, Ek.put_eq] at h
        exact .inr ⟨f, List.mem_cons_self, c.symm, Option.some.inj h⟩
      · rw [Ek.put_ne c] at h
        exact .inl h
    · exact .inr ⟨g, List.mem_cons_of_mem _ hg, h1⟩
/-! the law's terms -/
section
variable {o t c n x y i : Str} {NS NO lk : List Str} {k : Kd} {e E : Ek}
/-- the names of the first built, and what is outside -/
abbrev E1 (E : Ek) (k : Kd) (o c n : Str) : Ek := Ck.bE E k o c n
end
end Kq
/-! the law's term, whole: its kind, its form, how great -/
namespace Kq
open PySem PySem.Spec PyProof.Rows L2 Kf Kg Kv Kk Ku
def Tm.nd : Tm → Nat
  | .name _ => 1
  | .fn _ k t => k.size + t.nd + 1
  | .call a b => a.nd + b.nd + 1
  | .num _ => 1
  | .plus a b => a.nd + b.nd + 1
  | .less a b => a.nd + b.nd + 1
  | .tru _ => 1
  | .iff a b c => a.nd + b.nd + c.nd + 1
  | .pair a b => a.nd + b.nd + 1
  | .fst a => a.nd + 1
  | .snd a => a.nd + 1
  | .left a k => a.nd + k.size + 1
  | .right k a => a.nd + k.size + 1
  | .case a _ b _ c => a.nd + b.nd + c.nd + 1
  | .none k => k.size + 1
  | .more a b => a.nd + b.nd + 1
  | .fold a b _ _ t => a.nd + b.nd + t.nd + 1
  | .built k _ _ _ t => k.size + t.nd + 1
  | .alike a b => a.nd + b.nd + 1
  | .fault k => k.size + 1
  | .rounds _ a _ t => a.nd + t.nd + 1
  | .told f fs => (Tm.told f fs).dt.wt
theorem nm8 {x : Str} (h : Nm x) : x.length ≤ 8 := by
  have := h.few
  show x.cps.size ≤ 8
  rw [← Array.length_toList]
  exact this
theorem wlen1 : ("open" : Str).length = 4 ∧ ("num" : Str).length = 3 ∧ ("truth" : Str).length = 5 ∧ ("pair" : Str).length = 4 ∧ ("either" : Str).length = 6 ∧ ("list" : Str).length = 4 ∧ ("fun" : Str).length = 3 ∧ ("name" : Str).length = 4 ∧ ("call" : Str).length = 4 ∧ ("plus" : Str).length = 4 ∧ ("less" : Str).length = 4 ∧ ("if" : Str).length = 2 ∧ ("first" : Str).length = 5 ∧ ("second" : Str).length = 6 ∧ ("left" : Str).length = 4 ∧ ("right" : Str).length = 5 ∧ ("case" : Str).length = 4 ∧ ("none" : Str).length = 4 ∧ ("more" : Str).length = 4 ∧ ("fold" : Str).length = 4 ∧ ("built" : Str).length = 5 ∧ ("alike" : Str).length = 5 ∧ ("fault" : Str).length = 5 ∧ ("rounds" : Str).length = 6 := by decide +kernel
theorem wtK : ∀ {k : Kd}, (∀ x ∈ k.opens, Nm x) → k.dt.wt ≤ 200 * k.size := by
  obtain ⟨w1, w2, w3, w4, w5, w6, w7, _⟩ := wlen1
  intro k
  induction k with
  | opn x =>
    intro h
    have := nm8 (h x List.mem_cons_self)
    show (Dt.tup [.str "open", .str x]).wt ≤ 200 * 1
    simp only [Dt.wt, Dt.wts, w1]
    omega
  | num => intro h; show (Dt.tup [.str "num"]).wt ≤ 200 * 1; simp only [Dt.wt, Dt.wts, w2]; omega
  | tru => intro h; show (Dt.tup [.str "truth"]).wt ≤ 200 * 1; simp only [Dt.wt, Dt.wts, w3]; omega
  | pair a b i j =>
    intro h
    have h1 := i fun x hx => h x (List.mem_append_left _ hx)
    have h2 := j fun x hx => h x (List.mem_append_right _ hx)
    rw [Kd.size_pr]
    show (Dt.tup [.str "pair", a.dt, b.dt]).wt ≤ _
    simp only [Dt.wt, Dt.wts, w4]
    omega
  | eith a b i j =>
    intro h
    have h1 := i fun x hx => h x (List.mem_append_left _ hx)
    have h2 := j fun x hx => h x (List.mem_append_right _ hx)
    rw [Kd.size_ei]
    show (Dt.tup [.str "either", a.dt, b.dt]).wt ≤ _
    simp only [Dt.wt, Dt.wts, w5]
    omega
  | lst a i =>
    intro h
    have h1 := i h
    rw [Kd.size_ls]
    show (Dt.tup [.str "list", a.dt]).wt ≤ _
    simp only [Dt.wt, Dt.wts, w6]
    omega
  | fn a b i j =>
    intro h
    have h1 := i fun x hx => h x (List.mem_append_left _ hx)
    have h2 := j fun x hx => h x (List.mem_append_right _ hx)
    rw [Kd.size_fn]
    show (Dt.tup [.str "fun", a.dt, b.dt]).wt ≤ _
    simp only [Dt.wt, Dt.wts, w7]
    omega
theorem wtT : ∀ {t : Tm}, t.wf → t.dt.wt ≤ 1000 * t.nd := by
  obtain ⟨w1, w2, w3, w4, w5, w6, w7, w8, w9, w10, w11, w12, w13, w14, w15, w16, w17, w18, w19, w20, w21, w22, w23, w24⟩ := wlen1
  intro t
  induction t with
  | name x =>
    intro h
    have hx := h
    have qx := nm8 hx
    simp only [Tm.dt, Tm.nd, Dt.wt, Dt.wts, w1, w2, w3, w4, w5, w6, w7, w8, w9, w10, w11, w12, w13, w14, w15, w16, w17, w18, w19, w20, w21, w22, w23, w24]
    omega
  | fn x k b ihb =>
    intro h
    obtain ⟨hx, hk, hb⟩ := h
    have qx := nm8 hx
    have qk := wtK hk.2
    have qb := ihb hb
    simp only [Tm.dt, Tm.nd, Dt.wt, Dt.wts, w1, w2, w3, w4, w5, w6, w7, w8, w9, w10, w11, w12, w13, w14, w15, w16, w17, w18, w19, w20, w21, w22, w23, w24]
    omega
  | call a b iha ihb =>
    intro h
    obtain ⟨ha, hb⟩ := h
    have qa := iha ha
    have qb := ihb hb
    simp only [Tm.dt, Tm.nd, Dt.wt, Dt.wts, w1, w2, w3, w4, w5, w6, w7, w8, w9, w10, w11, w12, w13, w14, w15, w16, w17, w18, w19, w20, w21, w22, w23, w24]
    omega
  | num i =>
    intro h
    have hi := h
    simp only [Tm.dt, Tm.nd, Dt.wt, Dt.wts, w1, w2, w3, w4, w5, w6, w7, w8, w9, w10, w11, w12, w13, w14, w15, w16, w17, w18, w19, w20, w21, w22, w23, w24]
    omega
  | plus a b iha ihb =>
    intro h
    obtain ⟨ha, hb⟩ := h
    have qa := iha ha
    have qb := ihb hb
    simp only [Tm.dt, Tm.nd, Dt.wt, Dt.wts, w1, w2, w3, w4, w5, w6, w7, w8, w9, w10, w11, w12, w13, w14, w15, w16, w17, w18, w19, w20, w21, w22, w23, w24]
    omega
  | less a b iha ihb =>
    intro h
    obtain ⟨ha, hb⟩ := h
    have qa := iha ha
    have qb := ihb hb
    simp only [Tm.dt, Tm.nd, Dt.wt, Dt.wts, w1, w2, w3, w4, w5, w6, w7, w8, w9, w10, w11, w12, w13, w14, w15, w16, w17, w18, w19, w20, w21, w22, w23, w24]
    omega
  | tru i =>
    intro h
    simp only [Tm.dt, Tm.nd, Dt.wt, Dt.wts, w1, w2, w3, w4, w5, w6, w7, w8, w9, w10, w11, w12, w13, w14, w15, w16, w17, w18, w19, w20, w21, w22, w23, w24]
    omega
  | iff a b c iha ihb ihc =>
    intro h
    obtain ⟨ha, hb, hc⟩ := h
    have qa := iha ha
    have qb := ihb hb
    have qc := ihc hc
    simp only [Tm.dt, Tm.nd, Dt.wt, Dt.wts, w1, w2, w3, w4, w5, w6, w7, w8, w9, w10, w11, w12, w13, w14, w15, w16, w17, w18, w19, w20, w21, w22, w23, w24]
    omega
  | pair a b iha ihb =>
    intro h
    obtain ⟨ha, hb⟩ := h
    have qa := iha ha
    have qb := ihb hb
    simp only [Tm.dt, Tm.nd, Dt.wt, Dt.wts, w1, w2, w3, w4, w5, w6, w7, w8, w9, w10, w11, w12, w13, w14, w15, w16, w17, w18, w19, w20, w21, w22, w23, w24]
    omega
  | fst a iha =>
    intro h
    have ha := h
    have qa := iha ha
    simp only [Tm.dt, Tm.nd, Dt.wt, Dt.wts, w1, w2, w3, w4, w5, w6, w7, w8, w9, w10, w11, w12, w13, w14, w15, w16, w17, w18, w19, w20, w21, w22, w23, w24]
    omega
  | snd a iha =>
    intro h
    have ha := h
    have qa := iha ha
    simp only [Tm.dt, Tm.nd, Dt.wt, Dt.wts, w1, w2, w3, w4, w5, w6, w7, w8, w9, w10, w11, w12, w13, w14, w15, w16, w17, w18, w19, w20, w21, w22, w23, w24]
    omega
  | left a k iha =>
    intro h
    obtain ⟨ha, hk⟩ := h
    have qa := iha ha
    have qk := wtK hk.2
    simp only [Tm.dt, Tm.nd, Dt.wt, Dt.wts, w1, w2, w3, w4, w5, w6, w7, w8, w9, w10, w11, w12, w13, w14, w15, w16, w17, w18, w19, w20, w21, w22, w23, w24]
    omega
  | right k a iha =>
    intro h
    obtain ⟨hk, ha⟩ := h
    have qk := wtK hk.2
    have qa := iha ha
    simp only [Tm.dt, Tm.nd, Dt.wt, Dt.wts, w1, w2, w3, w4, w5, w6, w7, w8, w9, w10, w11, w12, w13, w14, w15, w16, w17, w18, w19, w20, w21, w22, w23, w24]
    omega
  | case a x b y c iha ihb ihc =>
    intro h
    obtain ⟨ha, hx, hb, hy, hc⟩ := h
    have qa := iha ha
    have qx := nm8 hx
    have qb := ihb hb
    have qy := nm8 hy
    have qc := ihc hc
    simp only [Tm.dt, Tm.nd, Dt.wt, Dt.wts, w1, w2, w3, w4, w5, w6, w7, w8, w9, w10, w11, w12, w13, w14, w15, w16, w17, w18, w19, w20, w21, w22, w23, w24]
    omega
  | none k =>
    intro h
    have hk := h
    have qk := wtK hk.2
    simp only [Tm.dt, Tm.nd, Dt.wt, Dt.wts, w1, w2, w3, w4, w5, w6, w7, w8, w9, w10, w11, w12, w13, w14, w15, w16, w17, w18, w19, w20, w21, w22, w23, w24]
    omega
  | more a b iha ihb =>
    intro h
    obtain ⟨ha, hb⟩ := h
    have qa := iha ha
    have qb := ihb hb
    simp only [Tm.dt, Tm.nd, Dt.wt, Dt.wts, w1, w2, w3, w4, w5, w6, w7, w8, w9, w10, w11, w12, w13, w14, w15, w16, w17, w18, w19, w20, w21, w22, w23, w24]
    omega
  | fold a b x y c iha ihb ihc =>
    intro h
    obtain ⟨ha, hb, hx, hy, hc, _⟩ := h
    have qa := iha ha
    have qb := ihb hb
    have qx := nm8 hx
    have qy := nm8 hy
    have qc := ihc hc
    simp only [Tm.dt, Tm.nd, Dt.wt, Dt.wts, w1, w2, w3, w4, w5, w6, w7, w8, w9, w10, w11, w12, w13, w14, w15, w16, w17, w18, w19, w20, w21, w22, w23, w24]
    omega
  | built k o x y b ihb =>
    intro h
    obtain ⟨hk, ho, hx, hy, hb, _⟩ := h
    have qk := wtK hk.2
    have qo := nm8 ho
    have qx := nm8 hx
    have qy := nm8 hy
    have qb := ihb hb
    simp only [Tm.dt, Tm.nd, Dt.wt, Dt.wts, w1, w2, w3, w4, w5, w6, w7, w8, w9, w10, w11, w12, w13, w14, w15, w16, w17, w18, w19, w20, w21, w22, w23, w24]
    omega
  | alike a b iha ihb =>
    intro h
    obtain ⟨ha, hb⟩ := h
    have qa := iha ha
    have qb := ihb hb
    simp only [Tm.dt, Tm.nd, Dt.wt, Dt.wts, w1, w2, w3, w4, w5, w6, w7, w8, w9, w10, w11, w12, w13, w14, w15, w16, w17, w18, w19, w20, w21, w22, w23, w24]
    omega
  | fault k =>
    intro h
    have hk := h
    have qk := wtK hk.2
    simp only [Tm.dt, Tm.nd, Dt.wt, Dt.wts, w1, w2, w3, w4, w5, w6, w7, w8, w9, w10, w11, w12, w13, w14, w15, w16, w17, w18, w19, w20, w21, w22, w23, w24]
    omega
  | rounds m a x b iha ihb =>
    intro h
    obtain ⟨hm, ha, hx, hb⟩ := h
    have qa := iha ha
    have qx := nm8 hx
    have qb := ihb hb
    simp only [Tm.dt, Tm.nd, Dt.wt, Dt.wts, w1, w2, w3, w4, w5, w6, w7, w8, w9, w10, w11, w12, w13, w14, w15, w16, w17, w18, w19, w20, w21, w22, w23, w24]
    omega
  | told x fs =>
    intro h
    show (Tm.told x fs).dt.wt ≤ 1000 * (Tm.told x fs).dt.wt
    omega
end Kq
/-! kinds drawn -/
namespace Kq
open PySem PySem.Spec PyProof.Rows L2 Kf Kg Kv Kk Ku
def Rp0 (H : Hp) : Kd → V → Prop
  | .opn x, v => ∃ a, v = .ref a ∧ H a = some (.tup [.str "open", .str x])
  | .num, v => ∃ a, v = .ref a ∧ H a = some (.tup [.str "num"])
  | .tru, v => ∃ a, v = .ref a ∧ H a = some (.tup [.str "truth"])
  | .pair s t, v => ∃ a x y, v = .ref a ∧ H a = some (.tup [.str "pair", x, y]) ∧ Rp0 H s x ∧ Rp0 H t y
  | .eith s t, v => ∃ a x y, v = .ref a ∧ H a = some (.tup [.str "either", x, y]) ∧ Rp0 H s x ∧ Rp0 H t y
  | .lst s, v => ∃ a x, v = .ref a ∧ H a = some (.tup [.str "list", x]) ∧ Rp0 H s x
  | .fn s t, v => ∃ a x y, v = .ref a ∧ H a = some (.tup [.str "fun", x, y]) ∧ Rp0 H s x ∧ Rp0 H t y
def RpL0 (H : Hp) : List Kd → List V → Prop
  | [], [] => True
  | t :: ts, v :: vs => Rp0 H t v ∧ RpL0 H ts vs
  | _, _ => False
theorem Rp0.tk {H G : Hp} (k : Tk H G) : ∀ {t : Kd} {v : V}, Rp0 H t v → Rp0 G t v := by
  intro t
  induction t with
  | opn x => exact fun ⟨a, e, h⟩ => ⟨a, e, k _ _ h⟩
  | num => exact fun ⟨a, e, h⟩ => ⟨a, e, k _ _ h⟩
  | tru => exact fun ⟨a, e, h⟩ => ⟨a, e, k _ _ h⟩
  | pair s t i j => exact fun ⟨a, x, y, e, h, p, q⟩ => ⟨a, x, y, e, k _ _ h, i p, j q⟩
  | eith s t i j => exact fun ⟨a, x, y, e, h, p, q⟩ => ⟨a, x, y, e, k _ _ h, i p, j q⟩
  | lst s i => exact fun ⟨a, x, e, h, p⟩ => ⟨a, x, e, k _ _ h, i p⟩
  | fn s t i j => exact fun ⟨a, x, y, e, h, p, q⟩ => ⟨a, x, y, e, k _ _ h, i p, j q⟩
theorem RpL0.tk {H G : Hp} (k : Tk H G) : ∀ {ts : List Kd} {vs : List V}, RpL0 H ts vs → RpL0 G ts vs
  | [], [], _ => trivial
  | _ :: _, _ :: _, h => ⟨h.1.tk k, RpL0.tk k h.2⟩
  | [], _ :: _, h => h.elim
  | _ :: _, [], h => h.elim
theorem RpL0.len {H : Hp} : ∀ {ts : List Kd} {vs : List V}, RpL0 H ts vs → ts.length = vs.length
  | [], [], _ => rfl
  | _ :: _, _ :: _, h => congrArg (· + 1) (RpL0.len h.2)
  | [], _ :: _, h => h.elim
  | _ :: _, [], h => h.elim
theorem RpL0.app {H : Hp} : ∀ {ts us : List Kd} {vs ws : List V}, RpL0 H ts vs → RpL0 H us ws → RpL0 H (ts ++ us) (vs ++ ws)
  | [], _, [], _, _, h => h
  | _ :: _, _, _ :: _, _, h, k => ⟨h.1, RpL0.app h.2 k⟩
  | [], _, _ :: _, _, h, _ => h.elim
  | _ :: _, _, [], _, h, _ => h.elim
theorem RpL0.get {H : Hp} : ∀ {ts : List Kd} {vs : List V} {i : Nat} {v : V}, RpL0 H ts vs → vs[i]? = some v → ∃ t, ts[i]? = some t ∧ Rp0 H t v
  | [], [], i, v, _, e => by simp at e
  | t :: _, w :: _, 0, v, h, e => ⟨t, rfl, by rw [← show w = v from Option.some.inj e]; exact h.1⟩
  | _ :: ts, _ :: vs, i + 1, v, h, e => RpL0.get (ts := ts) (vs := vs) (i := i) h.2 e
  | [], _ :: _, _, _, h, _ => h.elim
  | _ :: _, [], _, _, h, _ => h.elim
/-- the tuple at v: the word, and the rest -/
theorem Rp0.see {H : Hp} {t : Kd} {v : V} (h : Rp0 H t v) : ∃ a vs, v = .ref a ∧ H a = some (.tup (.str t.word :: vs)) ∧ ((t.isOp = false ∧ RpL0 H t.kids vs) ∨ ∃ x, t = .opn x ∧ vs = [.str x]) := by
  cases t with
  | opn x =>
    obtain ⟨a, e, g⟩ := h
    exact ⟨a, _, e, g, .inr ⟨x, rfl, rfl⟩⟩
  | num =>
    obtain ⟨a, e, g⟩ := h
    exact ⟨a, [], e, g, .inl ⟨rfl, trivial⟩⟩
  | tru =>
    obtain ⟨a, e, g⟩ := h
    exact ⟨a, [], e, g, .inl ⟨rfl, trivial⟩⟩
  | pair s t =>
    obtain ⟨a, x, y, e, g, p, q⟩ := h
    exact ⟨a, _, e, g, .inl ⟨rfl, p, q, trivial⟩⟩
  | eith s t =>
    obtain ⟨a, x, y, e, g, p, q⟩ := h
    exact ⟨a, _, e, g, .inl ⟨rfl, p, q, trivial⟩⟩
  | lst s =>
    obtain ⟨a, x, e, g, p⟩ := h
    exact ⟨a, _, e, g, .inl ⟨rfl, p, trivial⟩⟩
  | fn s t =>
    obtain ⟨a, x, y, e, g, p, q⟩ := h
    exact ⟨a, _, e, g, .inl ⟨rfl, p, q, trivial⟩⟩
def sb : Nat → Nat
  | 0 => 1
  | n + 1 => 2 * sb n + 1
theorem sb_pos (n : Nat) : 1 ≤ sb n := by
  cases n with
  | zero => exact Nat.le_refl _
  | succ n =>
    show 1 ≤ 2 * sb n + 1
    omega
/-- a first kind of so many arguments -/
def Hk (n : Nat) (t : Kd) : Prop := t.isFst = true ∧ t.args.length ≤ n
theorem Kd.dat_fn {k : Kd} (h : k.isDat = true) : k.isFn = false := by
  cases k with
  | fn a b => cases h
  | _ => rfl
theorem Hk.dat {n : Nat} {t : Kd} (h : t.isDat = true) : Hk n t := by
  cases t with
  | fn a b => cases h
  | _ => exact ⟨h, Nat.zero_le _⟩
theorem Hk.fn {n : Nat} {a t : Kd} (h : a.isDat = true) (g : Hk n t) : Hk (n + 1) (.fn a t) := ⟨Bool.and_eq_true_iff.mpr ⟨h, g.1⟩, Nat.succ_le_succ g.2⟩
theorem Hk.up {n m : Nat} {t : Kd} (g : Hk n t) (h : n ≤ m) : Hk m t := ⟨g.1, Nat.le_trans g.2 h⟩
/-- a told kind with its arguments no deeper than so -/
def Kd.tdk (d : Nat) : Kd → Prop
  | .fn a b => (Hk 2 a ∧ a.dp ≤ d) ∧ b.tdk d
  | k => k.isDat = true ∧ k.dp ≤ d
def Kd.mu : Kd → Nat
  | .fn _ b => b.mu + 1
  | k => k.dp
theorem Kd.tdk_dat {d : Nat} {k : Kd} (h : k.isDat = true) (l : k.dp ≤ d) : k.tdk d := by
  cases k with
  | fn a b => cases h
  | _ => exact ⟨h, l⟩
theorem Kd.mu_dat {k : Kd} (h : k.isDat = true) : k.mu = k.dp := by
  cases k with
  | fn a b => cases h
  | _ => rfl
theorem Kd.tdk_of {d : Nat} {k : Kd} (h : k.tdk d) (n : k.isFn = false) : k.isDat = true ∧ k.dp ≤ d := by
  cases k with
  | fn a b => cases n
  | _ => exact h
structure Dta (g : Nat) (xs : List Str) (t : Kd) : Prop where
  da : t.isDat = true
  dp : t.dp ≤ g
  sz : t.size ≤ sb g
  op : ∀ x ∈ t.opens, x ∈ xs
abbrev tLData : Stmt := tp 11
abbrev psLData : List Str := ["_law_deck_here", "_law_opens", "_law_deep", "_law_small"]
abbrev nLData : List Str := ["_law_deck_here", "_law_opens", "_law_deep", "_law_small", "_law_way", "_law_first"]
namespace Kd
theorem size2 (a b : Kd) : (pair a b).size = a.size + b.size + 1 ∧ (eith a b).size = a.size + b.size + 1 ∧ (lst a).size = a.size + 1 := by
  refine ⟨?_, ?_, rfl⟩
  · show (a.nodes ++ b.nodes).length + 1 = _
    rw [List.length_append]
    rfl
  · show (a.nodes ++ b.nodes).length + 1 = _
    rw [List.length_append]
    rfl
end Kd
section
variable {P : Program} {w : World} {K : PySem.W.Frag} {mg : Str → Option Value} {base : Heap}
theorem scLData : FnScope nLData psLData (defScope tLData) := ⟨rfl, rfl, rfl, by decide +kernel, rfl, by decide +kernel, by decide +kernel⟩
def spLData (n : Nat) : Sp := fun vs H Q _ => ∃ (d c o : Addr) (xs : List Str) (g : Nat) (b : Bool), vs = [.ref d, .ref o, .int (g : Int), .bl b] ∧ g + 1 ≤ n ∧ Dk H d c ∧ H o = some (.lst (xs.map V.str)) ∧ o ≠ d ∧ o ≠ c ∧ xs.length ≤ 26 ∧ (∀ x ∈ xs, Nm x) ∧
  ∀ (v : V) (t : Kd) (G : Hp), Kp d c H G → Dk G d c → Rp0 G t v → Dta g xs t → Q v G
theorem okLData1 {f fD fP : Addr} {fd fdD fdP : FuncData} {n : Nat} (F : Fun K "_law_data" "_law_data" tLData f fd) (bF : Binds K fd psLData []) (gF : mg "_law_data" = some (.ref f))
    (GD : FnOk P w K mg base CX0 (n + 2) fD fdD ["_law_deck_here", "_law_most"] spDraw) (bD : Binds K fdD ["_law_deck_here", "_law_most"] []) (gD : mg "_law_draw" = some (.ref fD)) (kD : PySem.W.keepIn K (.ref fD) = true)
    (GP : FnOk P w K mg base CX0 (n + 2) fP fdP psPick spPick) (bP : Binds K fdP psPick []) (gP : mg "_law_pick" = some (.ref fP)) (kP : PySem.W.keepIn K (.ref fP) = true) (mi : mg "int" = none)
    (GI : FnOk P w K mg base CX0 (n + 2) f fd psLData (spLData n)) : FnOk P w K mg base CX0 (n + 3) f fd psLData (spLData (n + 1)) := by
  refine F.ok scLData (fun vs H Q E h => ?_) (fun cdv A outer s H vs Q E hr h => ?_)
  · obtain ⟨d, c, o, xs, g, b, rfl, _⟩ := h
    rfl
  obtain ⟨d, c, o, xs, g, b, rfl, hg, dk, ho, od, oc, lx, hx, q⟩ := h
  refine ⟨_, pss_cons (ps_set (i := 4) scLData.nd rfl (.inl rfl) (pe_call GD hr (by rfl) gD kD bD .nil pass0 (pa_cons (pv 0) (pa_cons (pe_ix ix_list (pe_lst (pa_cons pe_int (pa_cons pe_int pa_nil))) (pe_callTy call_int1 (by rfl) mi (by decide +kernel) (pa_cons (pv 3) pa_nil)) (fun _ _ => rfl)) pa_nil))))
    (C8.pss_cut (ps_if (PW.pt (pw_and (pt_cmpR op_lt (pv 4) pe_int (nomark _)) (pw_and1 (pt_cmpR (op_neD hr.units) (pv 1) (pe_lst pa_nil) (nomark _)))))
      (pss_one (ps_ret (pe_tup (pa_cons pe_str (pa_cons (pe_call GP hr (by rfl) gP kP bP .nil pass0 (pa_cons (pv 0) (pa_cons (pv 1) pa_nil))) pa_nil))))) pss_nil)
    (pss_cons (ps_if (PW.pt (pw_or (pt_cmpR op_eq (pv 2) pe_int (nomark _)) (pw_or1 (pt_cmpR op_lt (pv 4) pe_int (nomark _)))))
      (pss_one (ps_ret (pe_call GP hr (by rfl) gP kP bP .nil pass0 (pa_cons (pv 0) (pa_cons (pe_lst (pa_cons (pe_tup (pa_cons pe_str pa_nil)) (pa_cons (pe_ix ix_list (pe_lst (pa_cons (pe_tup (pa_cons pe_str pa_nil)) (pa_cons (pe_tup (pa_cons pe_str pa_nil)) pa_nil))) (pe_callTy call_int1 (by rfl) mi (by decide +kernel) (pa_cons (pv 3) pa_nil)) (fun _ _ => rfl)) pa_nil))) pa_nil))))) pss_nil)
    (pss_cons (ps_if (pt_cmpR op_gt (pv 4) pe_int (nomark _))
      (pss_one (ps_ret (pe_tup (pa_cons pe_str (pa_cons (pe_call GI hr (by rfl) gF F.kp bF .nil pass0 (pa_cons (pv 0) (pa_cons (pv 1) (pa_cons (pe_op op_sub (pv 2) pe_int) (pa_cons (pv 3) pa_nil))))) pa_nil))))) pss_nil)
    (pss_cons (ps_set (i := 5) scLData.nd rfl (.inl rfl) (pe_call GI hr (by rfl) gF F.kp bF .nil pass0 (pa_cons (pv 0) (pa_cons (pv 1) (pa_cons (pe_op op_sub (pv 2) pe_int) (pa_cons (pv 3) pa_nil))))))
    (pss_one (ps_ret (pe_tup (pa_cons (pe_ix ix_list (pe_lst (pa_cons pe_str (pa_cons pe_str pa_nil))) (pe_op op_sub (pv 4) pe_int) (fun _ _ => rfl)) (pa_cons (pv 5) (pa_cons (pe_call GI hr (by rfl) gF F.kp bF .nil pass0 (pa_cons (pv 0) (pa_cons (pv 1) (pa_cons (pe_op op_sub (pv 2) pe_int) (pa_cons (pv 3) pa_nil))))) pa_nil)))))))))), ?_⟩
  obtain ⟨mm, em, mm0, mm1⟩ : ∃ mm : Int, atI [V.int 10, V.int 8] (if b then (1 : Int) else 0) = some (.int mm) ∧ 0 < mm ∧ mm < 1000 := by
    cases b
    · exact ⟨10, rfl, by decide, by decide⟩
    · exact ⟨8, rfl, by decide, by decide⟩
  refine ⟨_, rfl, (by show 2 ≤ sizeLine; decide), fun l0 nl0 => ⟨_, rfl, .inr ⟨b, rfl, l0, _, _, _, rfl, rfl, SqL.of upd_same, em, d, c, mm, rfl, dk.same (newS nl0), mm0, Int.lt_trans mm1 (by decide), fun way G1 w0 w1 kp1' dk1 => ?_⟩⟩⟩
  have kp1 : Kp d c H G1 := (Kp.of (newS nl0)).trans kp1'
  have ho1 := kp1 o _ od oc ho
  refine ⟨fun σ G => σ = [some (.ref d), some (.ref o), some (.int g), some (.bl b), some (.int way), none] ∧ Kp d c H G ∧ Dk G d c ∧ G o = some (.lst (xs.map V.str)), ?_, ?b2⟩
  refine ⟨_, rfl, _, _, rfl, rfl, _, rfl, ?_⟩
  refine ite2 (fun _ => ⟨_, rfl, Nat.zero_le _, fun e ne => ⟨.list (xs.map PyData.str), .list [], .lst (SqL.of (newS ne _ _ ho1)) (dpStrs K _ xs), .lst (SqL.of upd_same) .nil, shStrs hx, rfl, _, rfl, ite2 (fun c1 => ?b1) (fun _ => ⟨rfl, kp1.trans (Kp.of (newS ne)), dk1.same (newS ne), newS ne _ _ ho1⟩)⟩⟩) (fun _ => iteF ⟨rfl, kp1, dk1, ho1⟩)
  case b1 =>
    have ho2 := newS (o := .lst []) ne _ _ ho1
    have dk2 := dk1.same (newS (o := .lst []) ne)
    have kp2 : Kp d c H (upd G1 e (.lst [])) := kp1.trans (Kp.of (newS ne))
    rw [eqvNil] at c1
    have l0 : 0 < xs.length := by
      cases xs with
      | nil => cases c1
      | cons x r => exact Nat.succ_pos _
    refine ⟨_, rfl, _, rfl, d, c, o, _, rfl, dk2, ho2, od, oc, by rw [List.length_map]; omega, by rw [List.length_map]; omega, fun v G3 kp3 dk3 hv => ?_⟩
    obtain ⟨x, hxm, rfl⟩ := List.mem_map.mp hv
    refine ⟨(by show 2 ≤ sizeLine; decide), fun p np => ?_⟩
    refine q (.ref p) (.opn x) _ ((kp2.trans kp3).trans (Kp.of (newS np))) (dk3.same (newS np)) ⟨p, rfl, upd_same⟩ ⟨rfl, Nat.zero_le _, sb_pos g, fun y hy => ?_⟩
    rw [List.mem_singleton.mp hy]
    exact hxm
  case b2 =>
    rintro σ G ⟨rfl, kp, dkG, hoG⟩
    refine ⟨_, rfl, rfl, _, rfl, (fun h3 => ite2 (fun _ => iteT h3) (fun hdeep => ⟨_, rfl, _, _, rfl, rfl, _, rfl, ite2 (fun _ => h3) (fun hw6 => ?deep)⟩)) ?leaf⟩
    case leaf =>
      refine ⟨_, rfl, (by show 1 ≤ sizeLine; decide), fun p1 n1 => ⟨(by show 1 ≤ sizeLine; decide), fun p2 n2 => ⟨(by show 1 ≤ sizeLine; decide), fun p3 n3 => ⟨(by show 2 ≤ sizeLine; decide), fun l1 nl1 => ?_⟩⟩⟩⟩
      have s1 := newS (o := .tup [.str "truth"]) n1
      have s2 := newS (o := .tup [.str "num"]) n2
      have s3 := newS (o := .tup [.str "truth"]) n3
      have s4 := newS (o := .lst [V.ref p2, .ref p3]) nl1
      have s14 := s1.trans (s2.trans (s3.trans s4))
      have g1 := s4 _ _ (s3 _ _ (s2 p1 _ upd_same))
      have g2 := s4 _ _ (s3 p2 _ upd_same)
      have g3 := s4 p3 _ upd_same
      obtain ⟨v, ev, tv, rvv, dtv⟩ : ∃ v, atI [V.ref p2, V.ref p3] (if b then (1 : Int) else 0) = some v ∧ ∃ t, Rp0 (upd (upd (upd (upd G p1 (.tup [.str "truth"])) p2 (.tup [.str "num"])) p3 (.tup [.str "truth"])) l1 (.lst [V.ref p2, .ref p3])) t v ∧ (t = .num ∨ t = .tru) := by
        cases b
        · exact ⟨.ref p2, rfl, .num, ⟨p2, rfl, g2⟩, .inl rfl⟩
        · exact ⟨.ref p3, rfl, .tru, ⟨p3, rfl, g3⟩, .inr rfl⟩
      refine ⟨_, rfl, .inr ⟨b, rfl, l1, _, _, v, rfl, rfl, SqL.of upd_same, ev, (by show 2 ≤ sizeLine; decide), fun l2 nl2 => ?_⟩⟩
      have s5 := newS (o := .lst [V.ref p1, v]) nl2
      have off := (dkG.same s14).off nl2
      refine ⟨d, c, l2, _, rfl, dkG.same (s14.trans s5), upd_same, off.1, off.2, by show 1 ≤ 2; decide, by show 2 ≤ 100; decide, fun u G3 kp3 dk3 hu => ?_⟩
      have kpf := (kp.trans (Kp.of (s14.trans s5))).trans kp3
      have tk := (Tk.of s5).trans (Tk.kp kp3 (dkG.same (s14.trans s5)))
      rcases List.mem_cons.mp hu with e | hu
      · rw [e]
        exact q _ .tru _ kpf dk3 ⟨p1, rfl, tk _ _ g1⟩ ⟨rfl, Nat.zero_le _, sb_pos g, fun x z => (nomatch z)⟩
      · rw [List.mem_singleton.mp hu]
        rcases dtv with e | e
        · rw [e] at rvv
          exact q _ .num _ kpf dk3 (rvv.tk tk) ⟨rfl, Nat.zero_le _, sb_pos g, fun x z => (nomatch z)⟩
        · rw [e] at rvv
          exact q _ .tru _ kpf dk3 (rvv.tk tk) ⟨rfl, Nat.zero_le _, sb_pos g, fun x z => (nomatch z)⟩
    case deep =>
      obtain ⟨j, rfl⟩ : ∃ j, g = j + 1 := by
        cases g with
        | zero => exact absurd (decide_eq_true rfl) hdeep
        | succ j => exact ⟨j, rfl⟩
      have ej : ((j + 1 : Nat) : Int) - 1 = ((j : Nat) : Int) := by omega
      have eL : [V.ref d, V.ref o, V.int (((j + 1 : Nat) : Int) - 1), V.bl b] = [V.ref d, V.ref o, V.int ((j : Nat) : Int), V.bl b] := by rw [ej]
      have w6 : ¬ way < 6 := fun z => hw6 (decide_eq_true z)
      refine ⟨_, rfl, _, _, rfl, rfl, _, rfl, ite2 (fun _ => ?_) (fun hw7 => ?_)⟩
      · refine ⟨_, rfl, _, rfl, _, rfl, _, _, rfl, rfl, _, rfl, d, c, o, xs, j, b, eL, by omega, dkG, hoG, od, oc, lx, hx, fun va a G3 kp3 dk3 ra da => ?_⟩
        refine ⟨(by show 2 ≤ sizeLine; decide), fun p np => ?_⟩
        have s := newS (o := .tup [.str "list", va]) np
        refine q _ (.lst a) _ ((kp.trans kp3).trans (Kp.of s)) (dk3.same s) ⟨p, va, rfl, upd_same, ra.tk (Tk.of s)⟩ ⟨da.da, ?_, ?_, da.op⟩
        · have := da.dp
          show a.dp + 1 ≤ j + 1
          omega
        · have := da.sz
          rw [(Kd.size2 a a).2.2]
          show _ ≤ 2 * sb j + 1
          omega
      · have w7 : ¬ 7 < way := fun z => hw7 (decide_eq_true z)
        obtain ⟨wd, mk, ew, m0, m1, m2, m3, m4⟩ : ∃ (wd : Str) (mk : Kd → Kd → Kd), atI [V.str "pair", V.str "either"] (way - 6) = some (.str wd) ∧ (∀ a b F x y pp, F pp = some (.tup [.str wd, x, y]) → Rp0 F a x → Rp0 F b y → Rp0 F (mk a b) (.ref pp)) ∧
            (∀ a b, a.isDat = true → b.isDat = true → (mk a b).isDat = true) ∧ (∀ a b, (mk a b).dp = max a.dp b.dp + 1) ∧ (∀ a b, (mk a b).size = a.size + b.size + 1) ∧ (∀ a b, (mk a b).opens = a.opens ++ b.opens) := by
          have er : way = 6 ∨ way = 7 := by omega
          rcases er with rfl | rfl
          · exact ⟨"pair", .pair, rfl, fun a b F x y pp h1 h2 h3 => ⟨pp, x, y, rfl, h1, h2, h3⟩, fun _ _ h g => Bool.and_eq_true_iff.mpr ⟨h, g⟩, fun _ _ => rfl, fun a b => (Kd.size2 a b).1, fun _ _ => rfl⟩
          · exact ⟨"either", .eith, rfl, fun a b F x y pp h1 h2 h3 => ⟨pp, x, y, rfl, h1, h2, h3⟩, fun _ _ h g => Bool.and_eq_true_iff.mpr ⟨h, g⟩, fun _ _ => rfl, fun a b => (Kd.size2 a b).2.1, fun _ _ => rfl⟩
        refine ⟨_, rfl, _, rfl, _, rfl, _, _, rfl, rfl, _, rfl, d, c, o, xs, j, b, eL, by omega, dkG, hoG, od, oc, lx, hx, fun va a G3 kp3 dk3 ra da => ?_⟩
        refine ⟨(by show 2 ≤ sizeLine; decide), fun l nl => ⟨_, rfl, _, _, rfl, rfl, l, _, _, _, rfl, rfl, SqL.of upd_same, ew, ?_⟩⟩
        have sl := newS (o := .lst [V.str "pair", V.str "either"]) nl
        have ho3 := kp3 o _ od oc hoG
        refine ⟨_, rfl, _, rfl, _, rfl, _, rfl, _, _, rfl, rfl, _, rfl, d, c, o, xs, j, b, eL, by omega, dk3.same sl, sl _ _ ho3, od, oc, lx, hx, fun vb b' G4 kp4 dk4 rb db => ?_⟩
        refine ⟨(by show 3 ≤ sizeLine; decide), fun p np => ?_⟩
        have s := newS (o := .tup [.str wd, va, vb]) np
        refine q _ (mk a b') _ ((((kp.trans kp3).trans (Kp.of sl)).trans kp4).trans (Kp.of s)) (dk4.same s) (m0 a b' _ _ _ p upd_same (((ra.tk (Tk.of sl)).tk (Tk.kp kp4 (dk3.same sl))).tk (Tk.of s)) (rb.tk (Tk.of s))) ⟨m1 a b' da.da db.da, ?_, ?_, fun x hx' => ?_⟩
        · have := da.dp
          have := db.dp
          rw [m2]
          omega
        · have := da.sz
          have := db.sz
          rw [m3]
          show _ ≤ 2 * sb j + 1
          omega
        · rw [m4] at hx'
          rcases List.mem_append.mp hx' with z | z
          · exact da.op x z
          · exact db.op x z
theorem okLData {f fD fP : Addr} {fd fdD fdP : FuncData} (F : Fun K "_law_data" "_law_data" tLData f fd) (bF : Binds K fd psLData []) (gF : mg "_law_data" = some (.ref f))
    (FD : Fun K "_law_draw" "_law_draw" tDraw fD fdD) (bD : Binds K fdD ["_law_deck_here", "_law_most"] []) (gD : mg "_law_draw" = some (.ref fD)) (FP : Fun K "_law_pick" "_law_pick" tPick fP fdP) (bP : Binds K fdP psPick []) (gP : mg "_law_pick" = some (.ref fP)) (mi : mg "int" = none) (mn : mg "len" = none) :
    ∀ n, FnOk P w K mg base CX0 (n + 2) f fd psLData (spLData n)
  | 0 => noFn fun vs H Q E h => by
    obtain ⟨d, c, o, xs, g, b, _, hg, _⟩ := h
    omega
  | n + 1 => okLData1 F bF gF (okDraw FD) bD gD FD.kp (okPick FP (okDraw FD) bD gD FD.kp mn) bP gP FP.kp mi (okLData F bF gF FD bD gD FP bP gP mi mn n)
end
end Kq
namespace Kq
open PySem PySem.Spec PyProof.Rows L2 Kf Kg Kv Kk Ku
structure Bd (d z : Nat) (xs : List Str) (t : Kd) : Prop where
  dp : t.dp ≤ d
  sz : t.size ≤ z
  op : ∀ x ∈ t.opens, x ∈ xs
theorem Bd.fn {d z d' z' : Nat} {xs : List Str} {a b : Kd} (ha : Bd d' z' xs a) (hb : Bd d z xs b) (hd : d' ≤ d) : Bd (d + 1) (z + (z' + 1)) xs (.fn a b) := by
  refine ⟨?_, ?_, fun x hx => ?_⟩
  · have := ha.dp
    have := hb.dp
    show max a.dp b.dp + 1 ≤ _
    omega
  · have := ha.sz
    have := hb.sz
    rw [Kd.size_fn]
    omega
  · rcases List.mem_append.mp (show x ∈ a.opens ++ b.opens from hx) with z | z
    · exact ha.op x z
    · exact hb.op x z
theorem Bd.mono {d z d' z' : Nat} {xs : List Str} {t : Kd} (h : Bd d z xs t) (hd : d ≤ d') (hz : z ≤ z') : Bd d' z' xs t := ⟨by have := h.dp; omega, by have := h.sz; omega, h.op⟩
abbrev tLArgs : Stmt := tp 12
end Kq
/-! drawn terms: shapes with holes, what fills them -/
namespace Kq
open PySem PySem.Spec PyProof.Rows L2 Kf Kg Kv Kk Ku
theorem rp0_dd {H : Hp} : ∀ {k : Kd} {v : V}, Rp0 H k v → Dd Non H k.dt v := by
  intro k
  induction k with
  | opn x => intro v h; obtain ⟨a, rfl, e⟩ := h; exact .tup e (.cons (.str _) (.cons (.str _) .nil))
  | num => intro v h; obtain ⟨a, rfl, e⟩ := h; exact .tup e (.cons (.str _) .nil)
  | tru => intro v h; obtain ⟨a, rfl, e⟩ := h; exact .tup e (.cons (.str _) .nil)
  | pair a b i j => intro v h; obtain ⟨p, x, y, rfl, e, h1, h2⟩ := h; exact .tup e (.cons (.str _) (.cons (i h1) (.cons (j h2) .nil)))
  | eith a b i j => intro v h; obtain ⟨p, x, y, rfl, e, h1, h2⟩ := h; exact .tup e (.cons (.str _) (.cons (i h1) (.cons (j h2) .nil)))
  | lst a i => intro v h; obtain ⟨p, x, rfl, e, h1⟩ := h; exact .tup e (.cons (.str _) (.cons (i h1) .nil))
  | fn a b i j => intro v h; obtain ⟨p, x, y, rfl, e, h1, h2⟩ := h; exact .tup e (.cons (.str _) (.cons (i h1) (.cons (j h2) .nil)))
theorem dd_rp0 {H : Hp} : ∀ {k : Kd} {v : V}, Dd Non H k.dt v → Rp0 H k v := by
  intro k
  induction k with
  | opn x =>
    intro v h
    obtain ⟨p, u, rfl, e, h1⟩ := Dd.of2 h
    cases h1
    exact ⟨p, rfl, e⟩
  | num => intro v h; cases h with | tup e t => cases t with | cons t1 t => cases t; cases t1; exact ⟨_, rfl, e⟩
  | tru => intro v h; cases h with | tup e t => cases t with | cons t1 t => cases t; cases t1; exact ⟨_, rfl, e⟩
  | pair a b i j =>
    intro v h
    obtain ⟨p, u, u', rfl, e, h1, h2⟩ := Dd.of3 h
    exact ⟨p, u, u', rfl, e, i h1, j h2⟩
  | eith a b i j =>
    intro v h
    obtain ⟨p, u, u', rfl, e, h1, h2⟩ := Dd.of3 h
    exact ⟨p, u, u', rfl, e, i h1, j h2⟩
  | lst a i =>
    intro v h
    obtain ⟨p, u, rfl, e, h1⟩ := Dd.of2 h
    exact ⟨p, u, rfl, e, i h1⟩
  | fn a b i j =>
    intro v h
    obtain ⟨p, u, u', rfl, e, h1, h2⟩ := Dd.of3 h
    exact ⟨p, u, u', rfl, e, i h1, j h2⟩
/-- shapes: an atom, a tuple, a hole of a kind with names bound -/
inductive Sd where
  | at (d : Dt)
  | tup (l : List Sd)
  | hole (k : Kd) (bs : List (Str × Kd))
/-- what fills a shape, by what a hole may be filled with -/
inductive Fil (Gd : List (Str × Kd) → Kd → Tm → Prop) : Sd → Dt → Prop
  | at {d : Dt} : Fil Gd (.at d) d
  | nil : Fil Gd (.tup []) (.tup [])
  | cons {s : Sd} {d : Dt} {l : List Sd} {r : List Dt} : Fil Gd s d → Fil Gd (.tup l) (.tup r) → Fil Gd (.tup (s :: l)) (.tup (d :: r))
  | hole {k : Kd} {bs : List (Str × Kd)} {t : Tm} : Gd bs k t → Fil Gd (.hole k bs) t.dt
/-- a kind's shape -/
def Kd.sd : Kd → Sd
  | .opn x => .tup [.at (.str "open"), .at (.str x)]
  | .num => .tup [.at (.str "num")]
  | .tru => .tup [.at (.str "truth")]
  | .pair a b => .tup [.at (.str "pair"), a.sd, b.sd]
  | .eith a b => .tup [.at (.str "either"), a.sd, b.sd]
  | .lst a => .tup [.at (.str "list"), a.sd]
  | .fn a b => .tup [.at (.str "fun"), a.sd, b.sd]
section
variable {Gd : List (Str × Kd) → Kd → Tm → Prop}
theorem Fil.at_ {d r : Dt} (h : Fil Gd (.at d) r) : r = d := by cases h; rfl
theorem Fil.tup_ {s : Sd} {l : List Sd} {r : Dt} (h : Fil Gd (.tup (s :: l)) r) : ∃ d rs, r = .tup (d :: rs) ∧ Fil Gd s d ∧ Fil Gd (.tup l) (.tup rs) := by
  cases h with
  | cons a b => exact ⟨_, _, rfl, a, b⟩
theorem Fil.nil_ {r : List Dt} (h : Fil Gd (.tup []) (.tup r)) : r = [] := by cases h; rfl
theorem Fil.hole_ {k : Kd} {bs : List (Str × Kd)} {r : Dt} (h : Fil Gd (.hole k bs) r) : ∃ t, r = Tm.dt t ∧ Gd bs k t := by
  cases h with
  | hole a => exact ⟨_, rfl, a⟩
/-- three, two, one parts behind the word -/
theorem Fil.of1 {w : Str} {s1 : Sd} {r : Dt} (h : Fil Gd (.tup [.at (.str w), s1]) r) : ∃ x1, r = .tup [.str w, x1] ∧ Fil Gd s1 x1 := by
  obtain ⟨d0, r0, rfl, a0, b0⟩ := h.tup_
  cases a0.at_
  obtain ⟨d1, r1, e1, a1, b1⟩ := b0.tup_
  cases e1
  cases b1.nil_
  exact ⟨_, rfl, a1⟩
theorem Fil.of2 {w : Str} {s1 s2 : Sd} {r : Dt} (h : Fil Gd (.tup [.at (.str w), s1, s2]) r) : ∃ x1 x2, r = .tup [.str w, x1, x2] ∧ Fil Gd s1 x1 ∧ Fil Gd s2 x2 := by
  obtain ⟨d0, r0, rfl, a0, b0⟩ := h.tup_
  cases a0.at_
  obtain ⟨d1, r1, e1, a1, b1⟩ := b0.tup_
  cases e1
  obtain ⟨d2, r2, e2, a2, b2⟩ := b1.tup_
  cases e2
  cases b2.nil_
  exact ⟨_, _, rfl, a1, a2⟩
theorem Fil.of3 {w : Str} {s1 s2 s3 : Sd} {r : Dt} (h : Fil Gd (.tup [.at (.str w), s1, s2, s3]) r) : ∃ x1 x2 x3, r = .tup [.str w, x1, x2, x3] ∧ Fil Gd s1 x1 ∧ Fil Gd s2 x2 ∧ Fil Gd s3 x3 := by
  obtain ⟨d0, r0, rfl, a0, b0⟩ := h.tup_
  cases a0.at_
  obtain ⟨d1, r1, e1, a1, b1⟩ := b0.tup_
  cases e1
  obtain ⟨d2, r2, e2, a2, b2⟩ := b1.tup_
  cases e2
  obtain ⟨d3, r3, e3, a3, b3⟩ := b2.tup_
  cases e3
  cases b3.nil_
  exact ⟨_, _, _, rfl, a1, a2, a3⟩
theorem Fil.of4 {w : Str} {s1 s2 s3 s4 : Sd} {r : Dt} (h : Fil Gd (.tup [.at (.str w), s1, s2, s3, s4]) r) : ∃ x1 x2 x3 x4, r = .tup [.str w, x1, x2, x3, x4] ∧ Fil Gd s1 x1 ∧ Fil Gd s2 x2 ∧ Fil Gd s3 x3 ∧ Fil Gd s4 x4 := by
  obtain ⟨d0, r0, rfl, a0, b0⟩ := h.tup_
  cases a0.at_
  obtain ⟨d1, r1, e1, a1, b1⟩ := b0.tup_
  cases e1
  obtain ⟨d2, r2, e2, a2, b2⟩ := b1.tup_
  cases e2
  obtain ⟨d3, r3, e3, a3, b3⟩ := b2.tup_
  cases e3
  obtain ⟨d4, r4, e4, a4, b4⟩ := b3.tup_
  cases e4
  cases b4.nil_
  exact ⟨_, _, _, _, rfl, a1, a2, a3, a4⟩
theorem Fil.of5 {w : Str} {s1 s2 s3 s4 s5 : Sd} {r : Dt} (h : Fil Gd (.tup [.at (.str w), s1, s2, s3, s4, s5]) r) : ∃ x1 x2 x3 x4 x5, r = .tup [.str w, x1, x2, x3, x4, x5] ∧ Fil Gd s1 x1 ∧ Fil Gd s2 x2 ∧ Fil Gd s3 x3 ∧ Fil Gd s4 x4 ∧ Fil Gd s5 x5 := by
  obtain ⟨d0, r0, rfl, a0, b0⟩ := h.tup_
  cases a0.at_
  obtain ⟨d1, r1, e1, a1, b1⟩ := b0.tup_
  cases e1
  obtain ⟨d2, r2, e2, a2, b2⟩ := b1.tup_
  cases e2
  obtain ⟨d3, r3, e3, a3, b3⟩ := b2.tup_
  cases e3
  obtain ⟨d4, r4, e4, a4, b4⟩ := b3.tup_
  cases e4
  obtain ⟨d5, r5, e5, a5, b5⟩ := b4.tup_
  cases e5
  cases b5.nil_
  exact ⟨_, _, _, _, _, rfl, a1, a2, a3, a4, a5⟩
theorem Fil.of0 {w : Str} {r : Dt} (h : Fil Gd (.tup [.at (.str w)]) r) : r = .tup [.str w] := by
  obtain ⟨d, rs, rfl, a, b⟩ := h.tup_
  cases a.at_
  cases b.nil_
  rfl
/-- kinds fill themselves -/
theorem Fil.kd : ∀ {k : Kd} {r : Dt}, Fil Gd k.sd r → r = k.dt := by
  intro k
  induction k with
  | opn x =>
    intro r h
    obtain ⟨a, rfl, h1⟩ := h.of1
    rw [h1.at_]
    rfl
  | num => exact fun h => h.of0
  | tru => exact fun h => h.of0
  | pair p q i j =>
    intro r h
    obtain ⟨a, b, rfl, h1, h2⟩ := h.of2
    rw [i h1, j h2]
    rfl
  | eith p q i j =>
    intro r h
    obtain ⟨a, b, rfl, h1, h2⟩ := h.of2
    rw [i h1, j h2]
    rfl
  | lst p i =>
    intro r h
    obtain ⟨a, rfl, h1⟩ := h.of1
    rw [i h1]
    rfl
  | fn p q i j =>
    intro r h
    obtain ⟨a, b, rfl, h1, h2⟩ := h.of2
    rw [i h1, j h2]
    rfl
end
end Kq
/-! terms of a kind, word by word -/
namespace Kq
open PySem PySem.Spec PyProof.Rows L2 Kf Kg Kv Kk Ku
namespace Ck
variable {lk NS NO : List Str} {e : Ek} {a b c : Tm} {k k1 k2 : Kd}
theorem plus (h : Ck lk NS NO a e (some .num)) (g : Ck lk NS NO b e (some .num)) : Ck lk NS NO (.plus a b) e (some .num) := ⟨⟨h.1, fun _ => g.1⟩, by rw [chk, h.2, g.2]; rfl⟩
theorem less (h : Ck lk NS NO a e (some .num)) (g : Ck lk NS NO b e (some .num)) : Ck lk NS NO (.less a b) e (some .tru) := ⟨⟨h.1, fun _ => g.1⟩, by rw [chk, h.2, g.2]; rfl⟩
theorem iff (h : Ck lk NS NO a e (some .tru)) (g : Ck lk NS NO b e (some k)) (i : Ck lk NS NO c e (some k)) : Ck lk NS NO (.iff a b c) e (some k) := ⟨⟨h.1, g.1, i.1⟩, by rw [chk, h.2, g.2, i.2]; exact if_pos rfl⟩
theorem dOf {k : Kd} (h : k.isFn = false) : (some k).bind Kd.daOf = some k := by
  show (if k.isFn = true then none else some k) = _
  rw [if_neg (by rw [h]; decide)]
theorem pair (h : Ck lk NS NO a e (some k1)) (g : Ck lk NS NO b e (some k2)) (n1 : k1.isFn = false) (n2 : k2.isFn = false) (gk : Gk NO (.pair k1 k2)) : Ck lk NS NO (.pair a b) e (some (.pair k1 k2)) :=
  ⟨⟨h.1, g.1, fun p q hp hq => by rw [h.2] at hp; rw [g.2] at hq; cases hp; cases hq; exact gk⟩, by rw [chk, h.2, g.2, dOf n1, dOf n2]; rfl⟩
theorem fst (h : Ck lk NS NO a e (some (.pair k1 k2))) : Ck lk NS NO (.fst a) e (some k1) := ⟨h.1, by rw [chk, h.2]; rfl⟩
theorem snd (h : Ck lk NS NO a e (some (.pair k1 k2))) : Ck lk NS NO (.snd a) e (some k2) := ⟨h.1, by rw [chk, h.2]; rfl⟩
theorem left (h : Ck lk NS NO a e (some k1)) (n1 : k1.isFn = false) (g2 : Gk NO k2) (gk : Gk NO (.eith k1 k2)) : Ck lk NS NO (.left a k2) e (some (.eith k1 k2)) :=
  ⟨⟨g2, h.1, fun p hp => by rw [h.2] at hp; cases hp; exact gk⟩, by rw [chk, h.2, dOf n1]; rfl⟩
theorem right (h : Ck lk NS NO a e (some k2)) (n2 : k2.isFn = false) (g1 : Gk NO k1) (gk : Gk NO (.eith k1 k2)) : Ck lk NS NO (.right k1 a) e (some (.eith k1 k2)) :=
  ⟨⟨g1, h.1, fun p hp => by rw [h.2] at hp; cases hp; exact gk⟩, by rw [chk, h.2, dOf n2]; rfl⟩
theorem non (h : Gk NO (.lst k)) : Ck lk NS NO (.none k) e (some (.lst k)) := ⟨h, by rw [chk]⟩
theorem more (h : Ck lk NS NO a e (some k)) (g : Ck lk NS NO b e (some (.lst k))) (gk : Gk NO (.lst k)) : Ck lk NS NO (.more a b) e (some (.lst k)) :=
  ⟨⟨h.1, g.1, fun p hp => by rw [h.2] at hp; cases hp; exact gk⟩, by rw [chk, h.2, g.2]; exact if_pos rfl⟩
theorem alike {z : Str} (h : Ck lk NS NO a e (some (.opn z))) (g : Ck lk NS NO b e (some (.opn z))) (hz : z ∈ lk) : Ck lk NS NO (.alike a b) e (some .tru) :=
  ⟨⟨h.1, g.1⟩, by
    rw [chk, h.2, g.2]
    show (if Kd.opn z = Kd.opn z then (if z ∈ lk then some Kd.tru else none) else none) = _
    rw [if_pos rfl]
    exact if_pos hz⟩
theorem case {p q : Str} {t u : Tm} {l r : Kd} (hp : p ∈ NS) (hq : q ∈ NS) (h : Ck lk NS NO a e (some (.eith l r))) (g : Ck lk NS NO t (e.put p l) (some k)) (i : Ck lk NS NO u (e.put q r) (some k)) : Ck lk NS NO (.case a p t q u) e (some k) := by
  refine ⟨⟨hp, hq, h.1, fun l' r' hl => ?_⟩, ?_⟩
  · rw [h.2] at hl
    cases hl
    exact ⟨g.1, i.1⟩
  rw [chk, h.2]
  show Option.bind (chk lk t (e.put p l)) _ = _
  rw [g.2]
  show Option.bind (chk lk u (e.put q r)) _ = _
  rw [i.2]
  exact if_pos rfl
theorem rounds {p : Str} {t : Tm} {m : Int} (hp : p ∈ NS) (h : Ck lk NS NO a e (some k1)) (n1 : k1.isFn = false) (g : Ck lk NS NO t (e.put p k1) (some (.eith k1 k))) : Ck lk NS NO (.rounds m a p t) e (some k) := by
  refine ⟨⟨hp, h.1, fun d hd => ?_⟩, ?_⟩
  · rw [h.2] at hd
    cases hd
    exact g.1
  rw [chk, h.2, dOf n1]
  show Option.bind (Option.bind (chk lk t (e.put p k1)) Kd.eiOf) _ = _
  rw [g.2]
  exact if_pos rfl
end Ck
theorem putAll_app (e : Ek) (fs gs : List (Str × Kd)) : putAll e (fs ++ gs) = putAll (putAll e fs) gs := List.foldl_append
/-- a term of a kind, where names have these kinds, by any names looked at between these -/
def Good (op lo NS NO : List Str) (E : List (Str × Kd)) (k : Kd) (t : Tm) : Prop := t.wf ∧ ∀ lk, (∀ z ∈ lo, z ∈ lk) → (∀ z ∈ lk, z ∈ op) → Ck lk NS NO t (putAll Ek.none E) (some k)
/-- a kind that may be drawn within -/
structure Kw (NO : List Str) (k : Kd) : Prop where
  ks : Ks1 NO 470 44 k
  nm : ∀ z ∈ k.opens, Nm z
  fs : k.isFst = true
namespace Kw
variable {NO : List Str} {k a b : Kd}
theorem gk (h : Kw NO k) : Gk NO k := h.ks.gk (by decide) (by decide)
theorem ak (h : Kw NO k) : Ak1 k := ⟨h.fs, h.nm⟩
theorem gl (h : Kw NO k) : Gk NO (.lst k) := h.ks.ls.gk (by decide) (by decide)
theorem gp (h : Kw NO a) (g : Kw NO b) : Gk NO (.pair a b) := (h.ks.pr g.ks).gk (by decide) (by decide)
theorem ge (h : Kw NO a) (g : Kw NO b) : Gk NO (.eith a b) := (h.ks.ei g.ks).gk (by decide) (by decide)
theorem gf (h : Kw NO a) (g : Kw NO b) : Gk NO (.fn a b) := (h.ks.fn g.ks).gk (by decide) (by decide)
end Kw
/-- how many terms -/
def Tm.tn : Tm → Nat
  | .fn _ _ t => t.tn + 1
  | .call a b => a.tn + b.tn + 1
  | .plus a b => a.tn + b.tn + 1
  | .less a b => a.tn + b.tn + 1
  | .iff a b c => a.tn + b.tn + c.tn + 1
  | .pair a b => a.tn + b.tn + 1
  | .fst a => a.tn + 1
  | .snd a => a.tn + 1
  | .left a _ => a.tn + 1
  | .right _ a => a.tn + 1
  | .case a _ b _ c => a.tn + b.tn + c.tn + 1
  | .more a b => a.tn + b.tn + 1
  | .fold a b _ _ t => a.tn + b.tn + t.tn + 1
  | .built _ _ _ _ t => t.tn + 1
  | .alike a b => a.tn + b.tn + 1
  | .rounds _ a _ t => a.tn + t.tn + 1
  | _ => 1
/-- a term of a kind, no deeper than so; where X stands, no greater than its kind -/
def GX (op lo NS NO : List Str) (X : Bool) (D : Nat) (E : List (Str × Kd)) (k : Kd) (t : Tm) : Prop := Good op lo NS NO E k t ∧ t.dp ≤ D ∧ (X = true → t.tn ≤ k.size ∧ t.dp ≤ k.mu)
theorem GX.up {op lo NS NO : List Str} {X X' : Bool} {D D' : Nat} {E : List (Str × Kd)} {k : Kd} {t : Tm} (h : GX op lo NS NO X D E k t) (d : D ≤ D') (x : X' = true → X = true) : GX op lo NS NO X' D' E k t := ⟨h.1, Nat.le_trans h.2.1 d, fun z => h.2.2 (x z)⟩
theorem GX.upE {op lo NS NO : List Str} {X : Bool} {D D' : Nat} {E : List (Str × Kd)} {k : Kd} {r : Dt} (h : ∃ t, r = Tm.dt t ∧ GX op lo NS NO X D E k t) (d : D ≤ D') : ∃ t, r = Tm.dt t ∧ GX op lo NS NO X D' E k t := by
  obtain ⟨t, e, g⟩ := h
  exact ⟨t, e, g.up d id⟩
theorem wdat {NO : List Str} {k : Kd} (w : Kw NO k) (n : k.isFn = false) : k.isDat = true := by
  have f := w.fs
  cases k with
  | fn a b => cases n
  | _ => exact f
section
variable {X : Bool} {D : Nat} {op lo NS NO : List Str} {E : List (Str × Kd)} {k : Kd} {r : Dt}
abbrev Gd (op lo NS NO : List Str) (X : Bool) (D : Nat) (E : List (Str × Kd)) : List (Str × Kd) → Kd → Tm → Prop := fun bs k t => GX op lo NS NO X D (E ++ bs) k t
theorem Good.e0 {t : Tm} (h : Good op lo NS NO (E ++ []) k t) : Good op lo NS NO E k t := by rw [List.append_nil] at h; exact h
theorem Good.b1 {t : Tm} {x : Str} {q : Kd} (h : Good op lo NS NO (E ++ [(x, q)]) k t) : t.wf ∧ ∀ lk, (∀ z ∈ lo, z ∈ lk) → (∀ z ∈ lk, z ∈ op) → Ck lk NS NO t ((putAll Ek.none E).put x q) (some k) := ⟨h.1, fun lk a b => by have z := h.2 lk a b; rw [putAll_app] at z; exact z⟩
theorem Good.b2 {t : Tm} {x y : Str} {q q' : Kd} (h : Good op lo NS NO (E ++ [(x, q), (y, q')]) k t) : t.wf ∧ ∀ lk, (∀ z ∈ lo, z ∈ lk) → (∀ z ∈ lk, z ∈ op) → Ck lk NS NO t (((putAll Ek.none E).put x q).put y q') (some k) := ⟨h.1, fun lk a b => by have z := h.2 lk a b; rw [putAll_app] at z; exact z⟩
theorem sh_if (hX : X = false) (h : Fil (Gd op lo NS NO X D E) (.tup [.at (.str "if"), .hole .tru [], .hole k [], .hole k []]) r) : ∃ t, r = Tm.dt t ∧ GX op lo NS NO X (D + 1) E k t := by
  obtain ⟨_, _, _, rfl, h1, h2, h3⟩ := h.of3
  obtain ⟨t1, rfl, g1, e1, x1⟩ := h1.hole_
  obtain ⟨t2, rfl, g2, e2, x2⟩ := h2.hole_
  obtain ⟨t3, rfl, g3, e3, x3⟩ := h3.hole_
  refine ⟨.iff t1 t2 t3, rfl, ⟨⟨g1.1, g2.1, g3.1⟩, fun lk a b => Ck.iff (g1.e0.2 lk a b) (g2.e0.2 lk a b) (g3.e0.2 lk a b)⟩, ?_, fun hx0 => by rw [hX] at hx0; cases hx0⟩
  · simp only [Tm.dp]; omega
theorem sh_plus (hX : X = false) (h : Fil (Gd op lo NS NO X D E) (.tup [.at (.str "plus"), .hole .num [], .hole .num []]) r) : ∃ t, r = Tm.dt t ∧ GX op lo NS NO X (D + 1) E .num t := by
  obtain ⟨_, _, rfl, h1, h2⟩ := h.of2
  obtain ⟨t1, rfl, g1, e1, x1⟩ := h1.hole_
  obtain ⟨t2, rfl, g2, e2, x2⟩ := h2.hole_
  refine ⟨.plus t1 t2, rfl, ⟨⟨g1.1, g2.1⟩, fun lk a b => Ck.plus (g1.e0.2 lk a b) (g2.e0.2 lk a b)⟩, ?_, fun hx0 => by rw [hX] at hx0; cases hx0⟩
  · simp only [Tm.dp]; omega
theorem sh_less (hX : X = false) (h : Fil (Gd op lo NS NO X D E) (.tup [.at (.str "less"), .hole .num [], .hole .num []]) r) : ∃ t, r = Tm.dt t ∧ GX op lo NS NO X (D + 1) E .tru t := by
  obtain ⟨_, _, rfl, h1, h2⟩ := h.of2
  obtain ⟨t1, rfl, g1, e1, x1⟩ := h1.hole_
  obtain ⟨t2, rfl, g2, e2, x2⟩ := h2.hole_
  refine ⟨.less t1 t2, rfl, ⟨⟨g1.1, g2.1⟩, fun lk a b => Ck.less (g1.e0.2 lk a b) (g2.e0.2 lk a b)⟩, ?_, fun hx0 => by rw [hX] at hx0; cases hx0⟩
  · simp only [Tm.dp]; omega
theorem sh_alike (hX : X = false) {z : Str} (hz : z ∈ lo) (h : Fil (Gd op lo NS NO X D E) (.tup [.at (.str "alike"), .hole (.opn z) [], .hole (.opn z) []]) r) : ∃ t, r = Tm.dt t ∧ GX op lo NS NO X (D + 1) E .tru t := by
  obtain ⟨_, _, rfl, h1, h2⟩ := h.of2
  obtain ⟨t1, rfl, g1, e1, x1⟩ := h1.hole_
  obtain ⟨t2, rfl, g2, e2, x2⟩ := h2.hole_
  refine ⟨.alike t1 t2, rfl, ⟨⟨g1.1, g2.1⟩, fun lk a b => Ck.alike (g1.e0.2 lk a b) (g2.e0.2 lk a b) (a z hz)⟩, ?_, fun hx0 => by rw [hX] at hx0; cases hx0⟩
  · simp only [Tm.dp]; omega
theorem sh_pair {k1 k2 : Kd} (w1 : Kw NO k1) (w2 : Kw NO k2) (n1 : k1.isFn = false) (n2 : k2.isFn = false) (h : Fil (Gd op lo NS NO X D E) (.tup [.at (.str "pair"), .hole k1 [], .hole k2 []]) r) : ∃ t, r = Tm.dt t ∧ GX op lo NS NO X (D + 1) E (.pair k1 k2) t := by
  obtain ⟨_, _, rfl, h1, h2⟩ := h.of2
  obtain ⟨t1, rfl, g1, e1, x1⟩ := h1.hole_
  obtain ⟨t2, rfl, g2, e2, x2⟩ := h2.hole_
  refine ⟨.pair t1 t2, rfl, ⟨⟨g1.1, g2.1⟩, fun lk a b => Ck.pair (g1.e0.2 lk a b) (g2.e0.2 lk a b) n1 n2 (w1.gp w2)⟩, ?_, fun hx0 => ⟨?_, ?_⟩⟩
  · simp only [Tm.dp]; omega
  · have q1 := x1 hx0; have q2 := x2 hx0; simp only [Tm.tn, Kd.size_pr, Kd.size_ei, Kd.size_ls, Kd.size_fn]; omega
  · have q1 := x1 hx0; have q2 := x2 hx0; rw [Kd.mu_dat (wdat w1 n1)] at q1; rw [Kd.mu_dat (wdat w2 n2)] at q2; simp only [Tm.dp, Kd.mu, Kd.dp]; omega
theorem sh_fst (hX : X = false) {k2 : Kd} (h : Fil (Gd op lo NS NO X D E) (.tup [.at (.str "first"), .hole (.pair k k2) []]) r) : ∃ t, r = Tm.dt t ∧ GX op lo NS NO X (D + 1) E k t := by
  obtain ⟨_, rfl, h1⟩ := h.of1
  obtain ⟨t1, rfl, g1, e1, x1⟩ := h1.hole_
  refine ⟨.fst t1, rfl, ⟨g1.1, fun lk a b => Ck.fst (g1.e0.2 lk a b)⟩, ?_, fun hx0 => by rw [hX] at hx0; cases hx0⟩
  · simp only [Tm.dp]; omega
theorem sh_snd (hX : X = false) {k1 : Kd} (h : Fil (Gd op lo NS NO X D E) (.tup [.at (.str "second"), .hole (.pair k1 k) []]) r) : ∃ t, r = Tm.dt t ∧ GX op lo NS NO X (D + 1) E k t := by
  obtain ⟨_, rfl, h1⟩ := h.of1
  obtain ⟨t1, rfl, g1, e1, x1⟩ := h1.hole_
  refine ⟨.snd t1, rfl, ⟨g1.1, fun lk a b => Ck.snd (g1.e0.2 lk a b)⟩, ?_, fun hx0 => by rw [hX] at hx0; cases hx0⟩
  · simp only [Tm.dp]; omega
theorem dk1 {k : Kd} (w : Kw NO k) (n : k.isFn = false) : Dk1 k := by
  refine ⟨?_, w.nm⟩
  have f := w.fs
  cases k with
  | fn a b => cases n
  | _ => exact f
theorem sh_left {k1 k2 : Kd} (w1 : Kw NO k1) (w2 : Kw NO k2) (n1 : k1.isFn = false) (n2 : k2.isFn = false) (h : Fil (Gd op lo NS NO X D E) (.tup [.at (.str "left"), .hole k1 [], k2.sd]) r) : ∃ t, r = Tm.dt t ∧ GX op lo NS NO X (D + 1) E (.eith k1 k2) t := by
  obtain ⟨_, _, rfl, h1, h2⟩ := h.of2
  obtain ⟨t1, rfl, g1, e1, x1⟩ := h1.hole_
  rw [h2.kd]
  refine ⟨.left t1 k2, rfl, ⟨⟨g1.1, dk1 w2 n2⟩, fun lk a b => Ck.left (g1.e0.2 lk a b) n1 w2.gk (w1.ge w2)⟩, ?_, fun hx0 => ⟨?_, ?_⟩⟩
  · simp only [Tm.dp]; omega
  · have q1 := x1 hx0; simp only [Tm.tn, Kd.size_pr, Kd.size_ei, Kd.size_ls, Kd.size_fn]; omega
  · have q1 := x1 hx0; rw [Kd.mu_dat (wdat w1 n1)] at q1; simp only [Tm.dp, Kd.mu, Kd.dp]; omega
theorem sh_right {k1 k2 : Kd} (w1 : Kw NO k1) (w2 : Kw NO k2) (n1 : k1.isFn = false) (n2 : k2.isFn = false) (h : Fil (Gd op lo NS NO X D E) (.tup [.at (.str "right"), k1.sd, .hole k2 []]) r) : ∃ t, r = Tm.dt t ∧ GX op lo NS NO X (D + 1) E (.eith k1 k2) t := by
  obtain ⟨_, _, rfl, h1, h2⟩ := h.of2
  obtain ⟨t1, rfl, g1, e1, x1⟩ := h2.hole_
  rw [h1.kd]
  refine ⟨.right k1 t1, rfl, ⟨⟨dk1 w1 n1, g1.1⟩, fun lk a b => Ck.right (g1.e0.2 lk a b) n2 w1.gk (w1.ge w2)⟩, ?_, fun hx0 => ⟨?_, ?_⟩⟩
  · simp only [Tm.dp]; omega
  · have q1 := x1 hx0; simp only [Tm.tn, Kd.size_pr, Kd.size_ei, Kd.size_ls, Kd.size_fn]; omega
  · have q1 := x1 hx0; rw [Kd.mu_dat (wdat w2 n2)] at q1; simp only [Tm.dp, Kd.mu, Kd.dp]; omega
theorem sh_none {k1 : Kd} (w1 : Kw NO k1) (n1 : k1.isFn = false) (h : Fil (Gd op lo NS NO X D E) (.tup [.at (.str "none"), k1.sd]) r) : ∃ t, r = Tm.dt t ∧ GX op lo NS NO X (D + 1) E (.lst k1) t := by
  obtain ⟨_, rfl, h1⟩ := h.of1
  rw [h1.kd]
  refine ⟨.none k1, rfl, ⟨dk1 w1 n1, fun lk a b => Ck.non w1.gl⟩, ?_, fun hx0 => ⟨?_, ?_⟩⟩
  · simp only [Tm.dp]; omega
  · simp only [Tm.tn, Kd.size_pr, Kd.size_ei, Kd.size_ls, Kd.size_fn]; omega
  · exact Nat.zero_le _
theorem sh_more (hX : X = false) {k1 : Kd} (w1 : Kw NO k1) (h : Fil (Gd op lo NS NO X D E) (.tup [.at (.str "more"), .hole k1 [], .hole (.lst k1) []]) r) : ∃ t, r = Tm.dt t ∧ GX op lo NS NO X (D + 1) E (.lst k1) t := by
  obtain ⟨_, _, rfl, h1, h2⟩ := h.of2
  obtain ⟨t1, rfl, g1, e1, x1⟩ := h1.hole_
  obtain ⟨t2, rfl, g2, e2, x2⟩ := h2.hole_
  refine ⟨.more t1 t2, rfl, ⟨⟨g1.1, g2.1⟩, fun lk a b => Ck.more (g1.e0.2 lk a b) (g2.e0.2 lk a b) w1.gl⟩, ?_, fun hx0 => by rw [hX] at hx0; cases hx0⟩
  · simp only [Tm.dp]; omega
theorem sh_fault (w : Kw NO k) (n : k.isFn = false) (h : Fil (Gd op lo NS NO X D E) (.tup [.at (.str "fault"), k.sd]) r) : ∃ t, r = Tm.dt t ∧ GX op lo NS NO X (D + 1) E k t := by
  obtain ⟨_, rfl, h1⟩ := h.of1
  rw [h1.kd]
  refine ⟨.fault k, rfl, ⟨dk1 w n, fun lk a b => Ck.fault w.gk⟩, ?_, fun hx0 => ⟨?_, ?_⟩⟩
  · simp only [Tm.dp]; omega
  · simp only [Tm.tn, Kd.size_pr, Kd.size_ei, Kd.size_ls, Kd.size_fn]; exact Kd.size_pos _
  · exact Nat.zero_le _
theorem sh_fun {x : Str} {k1 k2 : Kd} (hx : x ∈ NS) (nx : Nm x) (w1 : Kw NO k1) (w2 : Kw NO k2) (h : Fil (Gd op lo NS NO X D E) (.tup [.at (.str "fun"), .at (.str x), k1.sd, .hole k2 [(x, k1)]]) r) : ∃ t, r = Tm.dt t ∧ GX op lo NS NO X (D + 1) E (.fn k1 k2) t := by
  obtain ⟨_, _, _, rfl, h1, h2, h3⟩ := h.of3
  obtain ⟨t1, rfl, g1, e1, x1⟩ := h3.hole_
  rw [h1.at_, h2.kd]
  refine ⟨.fn x k1 t1, rfl, ⟨⟨nx, w1.ak, g1.1⟩, fun lk a b => Ck.fn hx w1.gk (g1.b1.2 lk a b) fun r hr => by cases hr; exact w1.gf w2⟩, ?_, fun hx0 => ⟨?_, ?_⟩⟩
  · simp only [Tm.dp]; omega
  · have q1 := x1 hx0; simp only [Tm.tn, Kd.size_pr, Kd.size_ei, Kd.size_ls, Kd.size_fn]; omega
  · have q1 := x1 hx0; simp only [Tm.dp, Kd.mu]; omega
theorem sh_case (hX : X = false) {x y : Str} {l q : Kd} (hx : x ∈ NS) (nx : Nm x) (hy : y ∈ NS) (ny : Nm y) (h : Fil (Gd op lo NS NO X D E) (.tup [.at (.str "case"), .hole (.eith l q) [], .at (.str x), .hole k [(x, l)], .at (.str y), .hole k [(y, q)]]) r) : ∃ t, r = Tm.dt t ∧ GX op lo NS NO X (D + 1) E k t := by
  obtain ⟨_, _, _, _, _, rfl, h1, h2, h3, h4, h5⟩ := h.of5
  obtain ⟨t1, rfl, g1, e1, x1⟩ := h1.hole_
  obtain ⟨t2, rfl, g2, e2, x2⟩ := h3.hole_
  obtain ⟨t3, rfl, g3, e3, x3⟩ := h5.hole_
  rw [h2.at_, h4.at_]
  refine ⟨.case t1 x t2 y t3, rfl, ⟨⟨g1.1, nx, g2.1, ny, g3.1⟩, fun lk a b => Ck.case hx hy (g1.e0.2 lk a b) (g2.b1.2 lk a b) (g3.b1.2 lk a b)⟩, ?_, fun hx0 => by rw [hX] at hx0; cases hx0⟩
  · simp only [Tm.dp]; omega
theorem sh_fold (hX : X = false) {x y : Str} {i : Kd} (hx : x ∈ NS) (nx : Nm x) (hy : y ∈ NS) (ny : Nm y) (ne : x ≠ y) (n : k.isFn = false) (h : Fil (Gd op lo NS NO X D E) (.tup [.at (.str "fold"), .hole (.lst i) [], .hole k [], .at (.str x), .at (.str y), .hole k [(x, i), (y, k)]]) r) : ∃ t, r = Tm.dt t ∧ GX op lo NS NO X (D + 1) E k t := by
  obtain ⟨_, _, _, _, _, rfl, h1, h2, h3, h4, h5⟩ := h.of5
  obtain ⟨t1, rfl, g1, e1, x1⟩ := h1.hole_
  obtain ⟨t2, rfl, g2, e2, x2⟩ := h2.hole_
  obtain ⟨t3, rfl, g3, e3, x3⟩ := h5.hole_
  rw [h3.at_, h4.at_]
  refine ⟨.fold t1 t2 x y t3, rfl, ⟨⟨g1.1, g2.1, nx, ny, g3.1, ne⟩, fun lk a b => Ck.fold hx hy (g1.e0.2 lk a b) (g2.e0.2 lk a b) n (g3.b2.2 lk a b)⟩, ?_, fun hx0 => by rw [hX] at hx0; cases hx0⟩
  · simp only [Tm.dp]; omega
theorem sh_rounds (hX : X = false) {x : Str} {k1 : Kd} {m : Int} (hm : 1 ≤ m ∧ m ≤ 30) (hx : x ∈ NS) (nx : Nm x) (n1 : k1.isFn = false) (h : Fil (Gd op lo NS NO X D E) (.tup [.at (.str "rounds"), .at (.int m), .hole k1 [], .at (.str x), .hole (.eith k1 k) [(x, k1)]]) r) : ∃ t, r = Tm.dt t ∧ GX op lo NS NO X (D + 1) E k t := by
  obtain ⟨_, _, _, _, rfl, h1, h2, h3, h4⟩ := h.of4
  obtain ⟨t1, rfl, g1, e1, x1⟩ := h2.hole_
  obtain ⟨t2, rfl, g2, e2, x2⟩ := h4.hole_
  rw [h1.at_, h3.at_]
  refine ⟨.rounds m t1 x t2, rfl, ⟨⟨hm, g1.1, nx, g2.1⟩, fun lk a b => Ck.rounds hx (g1.e0.2 lk a b) n1 (g2.b1.2 lk a b)⟩, ?_, fun hx0 => by rw [hX] at hx0; cases hx0⟩
  · simp only [Tm.dp]; omega
theorem sh_call (hX : X = false) {x : Str} {k1 : Kd} (hx : x ∈ NS) (nx : Nm x) (w1 : Kw NO k1) (w : Kw NO k) (h : Fil (Gd op lo NS NO X D E) (.tup [.at (.str "call"), .tup [.at (.str "fun"), .at (.str x), k1.sd, .hole k [(x, k1)]], .hole k1 []]) r) : ∃ t, r = Tm.dt t ∧ GX op lo NS NO X (D + 2) E k t := by
  obtain ⟨_, _, rfl, h1, h2⟩ := h.of2
  obtain ⟨t1, rfl, g1, e1, x1⟩ := sh_fun hx nx w1 w h1
  obtain ⟨t2, rfl, g2, e2, x2⟩ := h2.hole_
  refine ⟨.call t1 t2, rfl, ⟨⟨g1.1, g2.1⟩, fun lk a b => Ck.call (g1.2 lk a b) (g2.e0.2 lk a b)⟩, ?_, fun hx0 => by rw [hX] at hx0; cases hx0⟩
  · simp only [Tm.dp]; omega
theorem sh_built (hX : X = false) {c n o : Str} {i : Kd} (hc : c ∈ NS) (nc : Nm c) (hn : n ∈ NS) (nn : Nm n) (ne : c ≠ n) (ho : o ∈ NO) (no : Nm o) (w : Kw NO i) (n1 : i.isFn = false) (oop : o ∉ op) (oi : o ∉ i.opens) (oE : ∀ z q, putAll Ek.none E z = some q → o ∉ q.opens)
    (h : Fil (Gd op lo NS NO X D E) (.tup [.at (.str "built"), i.sd, .at (.str o), .at (.str c), .at (.str n), .hole (.opn o) [(c, .fn i (.fn (.opn o) (.opn o))), (n, .opn o)]]) r) : ∃ t, r = Tm.dt t ∧ GX op lo NS NO X (D + 1) E (.lst i) t := by
  obtain ⟨_, _, _, _, _, rfl, h1, h2, h3, h4, h5⟩ := h.of5
  obtain ⟨t1, rfl, g1, e1, x1⟩ := h5.hole_
  rw [h1.kd, h2.at_, h3.at_, h4.at_]
  have U : Ks1 NO 1 0 (.opn o) := Ks1.opn ho
  refine ⟨.built i o c n t1, rfl, ⟨⟨dk1 w n1, no, nc, nn, g1.1, ne⟩, fun lk a b => Ck.built hc hn ho w.gl ((w.ks.fn (U.fn U)).gk (by decide) (by decide)) (fun z => by
    rcases z with z | z | ⟨y, q, hy, z⟩
    · exact oop (b o z)
    · exact oi z
    · exact oE y q hy z) (g1.b2.2 lk a b)⟩, ?_, fun hx0 => by rw [hX] at hx0; cases hx0⟩
  · simp only [Tm.dp]; omega
end
end Kq
/-! _law_arguments -/
namespace Kq
open PySem PySem.Spec PyProof.Rows L2 Kf Kg Kv Kk Ku
section
variable {P : Program} {w : World} {K : PySem.W.Frag} {mg : Str → Option Value} {base : Heap}
theorem scLArgs : FnScope ["_law_kind", "_law_found"] ["_law_kind"] (defScope tLArgs) := ⟨rfl, rfl, rfl, by decide +kernel, rfl, by decide +kernel, by decide +kernel⟩
def spLArgs : Sp := fun vs H Q _ => ∃ (v : V) (t : Kd), vs = [v] ∧ Rp0 H t v ∧ t.size ≤ 900 ∧ ∀ (p l : Addr) (us : List V) (u : V) (G : Hp), Same H G → G p = some (.tup [.ref l, u]) → G l = some (.lst us) → RpL0 G t.args us → Rp0 G t.res u → Q (.ref p) G
theorem okLArgs {f : Addr} {fd : FuncData} {k : Nat} (F : Fun K "_law_arguments" "_law_arguments" tLArgs f fd) : FnOk P w K mg base CX0 (k + 1) f fd ["_law_kind"] spLArgs := by
  refine F.ok scLArgs (fun vs H Q E h => ?_) (fun cdv A outer s H vs Q E hr h => ?_)
  · obtain ⟨v, t, rfl, _⟩ := h
    rfl
  obtain ⟨v, t, rfl, r, hz, q⟩ := h
  refine ⟨_, pss_cons (ps_set (i := 1) scLArgs.nd rfl (.inl rfl) (pe_lst pa_nil))
    (pss_cons (ps_while PassesOwn.never (pt_cmpR op_eq (pe_ix ix_tup (pv 0) pe_int (fun _ _ => rfl)) pe_str (nomark _))
      (pss_cons (ps_expr (pe_bm PySem.F.plainAttrs_list PySem.F.slot_list_append PySem.F.type_list_append mt_append (pv 1) (pa_cons (pe_ix ix_tup (pv 0) pe_int (fun _ _ => rfl)) pa_nil)))
      (pss_one (ps_set (i := 0) scLArgs.nd rfl (.inl rfl) (pe_ix ix_tup (pv 0) pe_int (fun _ _ => rfl))))))
    (pss_one (ps_ret (pe_tup (pa_cons (pv 1) (pa_cons (pv 0) pa_nil)))))), ?_⟩
  refine ⟨Nat.zero_le _, fun pa npa => ?_⟩
  refine ⟨fun m σ G => ∃ ts c us cv, m = c.size ∧ σ = [some cv, some (.ref pa)] ∧ Same H G ∧ G pa = some (.lst us) ∧ RpL0 G ts us ∧ Rp0 G c cv ∧ ts ++ c.args = t.args ∧ c.res = t.res,
    ⟨_, [], t, [], v, rfl, rfl, newS npa, upd_same, trivial, r.tk (Tk.of (newS npa)), rfl, rfl⟩, fun m σ G z => ?_⟩
  obtain ⟨ts, c, us, cv, rfl, rfl, sG, gp, rt, rc, ea, er⟩ := z
  obtain ⟨a0, us0, rfl, ha0, _⟩ := rc.see
  refine ⟨_, rfl, a0, _, _, _, rfl, rfl, SqT.of ha0, atI_nat (j := 0) rfl, rfl, _, rfl, ?_⟩
  rw [Kd.isFn_word]
  refine ite2 (fun e => ?_) (fun e => ?_)
  · cases c with
    | fn a b =>
      obtain ⟨ca, x, y, eca, hc, ra, rb⟩ := rc
      cases eca
      refine ⟨fun σ' G' => ∃ m', m' < (Kd.fn a b).size ∧ ∃ ts c us cv, m' = c.size ∧ σ' = [some cv, some (.ref pa)] ∧ Same H G' ∧ G' pa = some (.lst us) ∧ RpL0 G' ts us ∧ Rp0 G' c cv ∧ ts ++ c.args = t.args ∧ c.res = t.res, fun σ' G' z => z, ?_⟩
      have le : ts.length ≤ t.args.length := by
        rw [← ea, List.length_append]
        exact Nat.le_add_right _ _
      have l1 := rt.len
      have l2 := Kd.args_le t
      refine ⟨_, rfl, .inl ⟨rfl, _, SqL.of gp⟩, _, rfl, a0, _, _, x, rfl, rfl, SqT.of hc, atI_nat (j := 1) rfl, pa, _, _, rfl, rfl, gp, small1000 (by omega), ?_⟩
      have t1 : Tk G (upd G pa (.lst (us ++ [x]))) := Tk.rfl.put (fun _ z => by rw [gp] at z; cases z)
      refine ⟨_, rfl, a0, _, _, y, rfl, rfl, SqT.of (t1 _ _ hc), atI_nat (j := 2) rfl, ?_⟩
      refine ⟨_, ?_, ts ++ [a], b, us ++ [x], y, rfl, rfl, smk sG npa, upd_same, RpL0.app (us := [a]) (ws := [x]) (rt.tk t1) ⟨ra.tk t1, trivial⟩, rb.tk t1, ?_, er⟩
      · rw [Kd.size_fn]
        omega
      · rw [← ea, List.append_assoc]
        rfl
    | _ => cases e
  · have e0 : c.args = [] ∧ c.res = c := by
      cases c with
      | fn a b => exact absurd rfl e
      | _ => exact ⟨rfl, rfl⟩
    rw [e0.1, List.append_nil] at ea
    rw [e0.2] at er
    refine ⟨_, rfl, _, rfl, (by show 2 ≤ sizeLine; decide), fun p np => ?_⟩
    have s := newS (o := .tup [.ref pa, .ref a0]) np
    exact q p pa us _ _ (sG.trans s) upd_same (s _ _ gp) (by rw [← ea]; exact rt.tk (Tk.of s)) (by rw [← er]; exact rc.tk (Tk.of s))
end
end Kq
/-! shapes as data -/
namespace Kq
open PySem PySem.Spec PyProof.Rows L2 Kf Kg Kv Kk Ku
mutual
def Sd.dt : Sd → Dt
  | .at d => d
  | .tup l => .tup (Sd.dts l)
  | .hole k bs => .tup [.str "hole", k.dt, .tup (bs.map fun p => .tup [.str p.1, p.2.dt])]
def Sd.dts : List Sd → List Dt
  | [] => []
  | s :: l => s.dt :: Sd.dts l
end
mutual
/-- a tuple's first part is a word, no 'hole' -/
def Sd.ok : Sd → Prop
  | .at d => d.isTup = false
  | .tup l => (∃ w r, l = .at (.str w) :: r ∧ w ≠ "hole" ∧ PyData.strOk w = true) ∧ Sd.oks l
  | .hole _ _ => True
def Sd.oks : List Sd → Prop
  | [] => True
  | s :: l => s.ok ∧ Sd.oks l
end
mutual
def Sd.ht : Sd → Nat
  | .at _ => 0
  | .tup l => Sd.hts l + 1
  | .hole _ _ => 0
def Sd.hts : List Sd → Nat
  | [] => 0
  | s :: l => max s.ht (Sd.hts l)
end
theorem Sd.dts_eq : ∀ l : List Sd, Sd.dts l = l.map Sd.dt
  | [] => rfl
  | s :: l => by rw [Sd.dts, Sd.dts_eq l]; rfl
theorem Sd.oks_mem : ∀ {l : List Sd}, Sd.oks l → ∀ s ∈ l, s.ok
  | [], _, s, h => by cases h
  | a :: l, h, s, hs => by
    rw [Sd.oks] at h
    rcases List.mem_cons.mp hs with rfl | hs
    · exact h.1
    · exact Sd.oks_mem h.2 s hs
theorem Sd.hts_mem : ∀ {l : List Sd}, ∀ s ∈ l, s.ht ≤ Sd.hts l
  | [], s, h => by cases h
  | a :: l, s, hs => by
    rw [Sd.hts]
    rcases List.mem_cons.mp hs with rfl | hs
    · exact Nat.le_max_left _ _
    · exact Nat.le_trans (Sd.hts_mem s hs) (Nat.le_max_right _ _)
/-- what fills a row of shapes -/
inductive FilL (Gd : List (Str × Kd) → Kd → Tm → Prop) : List Sd → List Dt → Prop
  | nil : FilL Gd [] []
  | cons {s : Sd} {d : Dt} {l : List Sd} {r : List Dt} : Fil Gd s d → FilL Gd l r → FilL Gd (s :: l) (d :: r)
theorem FilL.fil {Gd : List (Str × Kd) → Kd → Tm → Prop} : ∀ {l : List Sd} {r : List Dt}, FilL Gd l r → Fil Gd (.tup l) (.tup r)
  | _, _, .nil => .nil
  | _, _, .cons a b => .cons a b.fil
theorem FilL.app {Gd : List (Str × Kd) → Kd → Tm → Prop} : ∀ {l l' : List Sd} {r r' : List Dt}, FilL Gd l r → FilL Gd l' r' → FilL Gd (l ++ l') (r ++ r')
  | _, _, _, _, .nil, h => h
  | _, _, _, _, .cons a b, h => .cons a (b.app h)
end Kq
/-! _law_filled -/
namespace Kq
open PySem PySem.Spec PyProof.Rows L2 Kf Kg Kv Kk Ku
@[elab_as_elim] theorem tupG {H : Hp} {p : Addr} {vs : List V} {ds : List Dt} {motive : Hp → Prop} (np : H p = none) (dl : DdL Non H ds vs) (q : ∀ G, Same H G → Dd Non G (.tup ds) (.ref p) → motive G) : motive (upd H p (.tup vs)) := q _ (newS np) (.tup upd_same (dl.same (newS np)))
@[elab_as_elim] theorem objG {H : Hp} {p : Addr} {o : HO} {motive : Hp → Prop} (np : H p = none) (q : ∀ G, Same H G → G p = some o → motive G) : motive (upd H p o) := q _ (newS np) upd_same
@[elab_as_elim] theorem lstG {H : Hp} {p : Addr} {vs : List V} {motive : Hp → Prop} (np : H p = none) (q : ∀ G, Same H G → G p = some (.lst vs) → motive G) : motive (upd H p (.lst vs)) := q _ (newS np) upd_same
theorem Paired.appP {α' β' : Type} {R : α' → β' → Prop} {xs us : List α'} {ys vs : List β'} (h : Paired R xs ys) (k : Paired R us vs) : Paired R (xs ++ us) (ys ++ vs) := by
  induction h with
  | nil => exact k
  | cons h t ih => exact .cons h ih
theorem Paired.atP {α' β' : Type} {R : α' → β' → Prop} : ∀ {xs : List α'} {ys : List β'} {i : Nat} {y : β'}, Paired R xs ys → ys[i]? = some y → ∃ x, xs[i]? = some x ∧ R x y
  | _, _, i, y, .nil, e => by simp at e
  | _, _, 0, y, .cons (a := a) (b := b) h t, e => ⟨a, rfl, by rw [← show b = y from Option.some.inj e]; exact h⟩
  | _, _, i + 1, y, .cons h t, e => Paired.atP (i := i) t e
theorem Kn.tk {H G : Hp} (k : Tk H G) : Kv.Kn Non H G := ⟨k, fun _ _ n _ => n.elim, fun _ _ n _ => n.elim⟩
theorem _root_.Kg.TbS.kp {T : List Addr} {H G : Hp} {d c : Addr} (t : TbS T H) (k : Kp d c H G) (dk : Dk H d c) : TbS T G := fun p hp => by
  obtain ⟨ps, h1, h2⟩ := t p hp
  obtain ⟨_, ⟨a, b, e⟩, ⟨ns, f, _⟩⟩ := dk
  exact ⟨ps, k p _ (fun z => by rw [z, e] at h1; cases h1) (fun z => by rw [z, f] at h1; cases h1) h1, h2⟩
/-- a name with its kind -/
def PRd (G : Hp) (f : Str × Kd) (u : V) : Prop := ∃ (q : Addr) (v : V), u = .ref q ∧ G q = some (.tup [.str f.1, v]) ∧ Dd Non G f.2.dt v
theorem PRd.tk {G F : Hp} {f : Str × Kd} {u : V} (h : PRd G f u) (k : Tk G F) : PRd F f u := by
  obtain ⟨q, v, e, g, d⟩ := h
  exact ⟨q, v, e, k _ _ g, d.kn (Kn.tk k)⟩
theorem prd_bs {H : Hp} : ∀ {bs : List (Str × Kd)} {us : List V}, DdL Non H (bs.map fun p => Dt.tup [.str p.1, p.2.dt]) us → Paired (PRd H) bs us
  | [], _, h => by cases h; exact .nil
  | b :: bs, _, h => by
    cases h with
    | cons h1 h2 =>
      refine .cons ?_ (prd_bs h2)
      cases h1 with
      | tup e t =>
        cases t with | cons a t => cases t with | cons b t => cases t; cases a; exact ⟨_, _, rfl, e, b⟩
mutual
def Sd.all (p : Kd → List (Str × Kd) → Prop) : Sd → Prop
  | .at _ => True
  | .tup l => Sd.alls p l
  | .hole k bs => p k bs
def Sd.alls (p : Kd → List (Str × Kd) → Prop) : List Sd → Prop
  | [] => True
  | s :: l => s.all p ∧ Sd.alls p l
end
theorem Sd.alls_mem {p : Kd → List (Str × Kd) → Prop} : ∀ {l : List Sd}, Sd.alls p l → ∀ s ∈ l, s.all p
  | [], _, s, h => by cases h
  | a :: l, h, s, hs => by
    rw [Sd.alls] at h
    rcases List.mem_cons.mp hs with rfl | hs
    · exact h.1
    · exact Sd.alls_mem h.2 s hs
theorem FilL.len {Gd : List (Str × Kd) → Kd → Tm → Prop} : ∀ {l : List Sd} {r : List Dt}, FilL Gd l r → l.length = r.length
  | _, _, .nil => rfl
  | _, _, .cons _ b => congrArg (· + 1) b.len
mutual
/-- no long shapes -/
def Sd.few : Sd → Prop
  | .tup l => l.length ≤ 200 ∧ Sd.fews l
  | _ => True
def Sd.fews : List Sd → Prop
  | [] => True
  | s :: l => s.few ∧ Sd.fews l
end
theorem Sd.fews_mem : ∀ {l : List Sd}, Sd.fews l → ∀ s ∈ l, s.few
  | [], _, s, h => by cases h
  | a :: l, h, s, hs => by
    rw [Sd.fews] at h
    rcases List.mem_cons.mp hs with rfl | hs
    · exact h.1
    · exact Sd.fews_mem h.2 s hs
theorem shW {w : Str} (h : PyData.strOk w = true) : SeqAt.shaped (.tuple [.str w]) = true := by
  have e1 : (PyData.tuple [.str w]).canLay0 = true := by simp [PyData.canLay0, PyData.canLayAll0, h]
  unfold SeqAt.shaped
  rw [e1, Bool.true_and]
  refine decide_eq_true ?_
  simp only [PyData.depth, PyData.depthAll]
  decide
theorem eqvW {w w' : Str} : PyData.eqv (.tuple [.str w]) (.tuple [.str w']) = true ↔ w = w' := by
  simp [PyData.eqv, PyData.eqvAll]
section
variable {P : Program} {w : World} {K : PySem.W.Frag} {mg : Str → Option Value} {base : Heap} {NS NO lk : List Str} {cN : Addr}
abbrev tFil : Stmt := tp 16
abbrev nFil : List Str := ["_law_deck_here", "_law_tools_here", "_law_known", "_law_shape", "_law_deep", "_law_part"]
abbrev psFil : List Str := ["_law_deck_here", "_law_tools_here", "_law_known", "_law_shape", "_law_deep"]
theorem scFil : FnScope nFil psFil (defScope tFil) := ⟨rfl, rfl, rfl, by decide +kernel, rfl, by decide +kernel, by decide +kernel⟩
/-- a def that is called where no repr is under way -/
def OkdG (P : Program) (w : World) (K : PySem.W.Frag) (mg : Str → Option Value) (base : Heap) (cx : CXT) (k : Nat) (nm : Str) (ps : List Str) (sp : Sp) : Prop := ∃ (f : Addr) (fd : FuncData), FnG P w K mg base cx k f fd ps sp ∧ Binds K fd ps [] ∧ mg nm = some (.ref f) ∧ PySem.W.keepIn K (.ref f) = true
def spMake (d c tl : Addr) (J : Hp → Prop) (GdE : List (Str × Kd) → Kd → Tm → Prop) (Cd : List (Str × Kd) → Kd → Int → Prop) : Sp := fun vs H Q _ => ∃ (kl : Addr) (E : List (Str × Kd)) (us : List V) (kv : V) (k : Kd) (i : Int), vs = [.ref d, .ref tl, .ref kl, kv, .int i] ∧ Dk H d c ∧ J H ∧ H kl = some (.lst us) ∧ kl ≠ d ∧ kl ≠ c ∧ Paired (PRd H) E us ∧ Dd Non H k.dt kv ∧ Cd E k i ∧
  ∀ (v : V) (t : Tm) (G : Hp), Kp d c H G → Dk G d c → Dd Non G t.dt v → GdE E k t → Q v G
def spFil (d c tl : Addr) (J : Hp → Prop) (GdE : List (Str × Kd) → Kd → Tm → Prop) (Cd : List (Str × Kd) → Kd → Int → Prop) (n : Nat) : Sp := fun vs H Q _ => ∃ (kl : Addr) (E : List (Str × Kd)) (us : List V) (v : V) (s : Sd) (i : Int), vs = [.ref d, .ref tl, .ref kl, v, .int i] ∧ s.ht < n ∧ s.ok ∧ s.few ∧ Dk H d c ∧ J H ∧ H kl = some (.lst us) ∧ kl ≠ d ∧ kl ≠ c ∧ Paired (PRd H) E us ∧ E.length ≤ 500 ∧ Dd Non H s.dt v ∧ s.all (fun k bs => Cd (E ++ bs) k i ∧ bs.length ≤ 100) ∧
  ∀ (r : Dt) (v : V) (G : Hp), Kp d c H G → Dk G d c → Dd Non G r v → Fil (fun bs k t => GdE (E ++ bs) k t) s r → Q v G
theorem okFil {f : Addr} {fd : FuncData} {k n : Nat} {d c tl : Addr} {J : Hp → Prop} {GdE : List (Str × Kd) → Kd → Tm → Prop} {Cd : List (Str × Kd) → Kd → Int → Prop} (F : Fun K "_law_filled" "_law_filled" tFil f fd) (sJ : ∀ H G, Dk H d c → Kp d c H G → J H → J G) (m_list : mg "list" = none)
    (DF : OkdG P w K mg base CX0 (k) "_law_filled" ["_law_deck_here", "_law_tools_here", "_law_known", "_law_shape", "_law_deep"] (spFil d c tl J GdE Cd n))
    (DM : OkdG P w K mg base CX0 (k) "_law_make" ["_law_deck_here", "_law_tools_here", "_law_known", "_law_kind", "_law_deep"] (spMake d c tl J GdE Cd))
    (m_isinstance : mg "isinstance" = none)
    (m_list : mg "list" = none)
    (m_tuple : mg "tuple" = none) : FnG P w K mg base CX0 (k + 1) f fd psFil (spFil d c tl J GdE Cd (n + 1)) := by
  obtain ⟨fF, fdF, GF, bF, gF, kF⟩ := DF
  obtain ⟨fM, fdM, GM, bM, gM, kM⟩ := DM
  refine okG F scFil (fun vs H Q E h => ?_) (fun cdv A outer s H vs Q E still hr h => ?_)
  · obtain ⟨kl, E, us, v, s, i, rfl, _⟩ := h
    rfl
  obtain ⟨kl, E, us, v, s, i, rfl, hn, ok, few, dk, hJ, gl, od, oc, pE, lE, dd, al, q⟩ := h
  refine ⟨_, pss_cons (ps_if (pt_not (pt_val (pe_callB (isiK K rfl) (by rfl) m_isinstance PyProof.Rows.boot_isinstance (pa_cons (pv 3) (pa_cons (pe_bltn (v := .ty "tuple") (by rfl) m_tuple PyProof.Rows.boot_tuple rfl) pa_nil))))) (pss_one (ps_ret (pv 3))) pss_nil)
    (pss_cons (ps_if (pt_cmpR (op_eqD hr.units) (pe_slice sl_tupA (pv 3) po_none (po_some pe_int)) (pe_tup (pa_cons pe_str pa_nil)) (nomark _)) (pss_one (ps_ret (pe_callG GM still hr (by rfl) gM kM bM .nil pass0 (pa_cons (pv 0) (pa_cons (pv 1) (pa_cons (pe_op op_cat (pv 2) (pe_callTy call_list_of (by rfl) m_list PyProof.Rows.boot_list (pa_cons (pe_ix ix_tup (pv 3) pe_int (fun _ _ => rfl)) pa_nil))) (pa_cons (pe_ix ix_tup (pv 3) pe_int (fun _ _ => rfl)) (pa_cons (pv 4) pa_nil)))))))) pss_nil)
    (pss_one (ps_ret (pe_callTy call_tuple_of (by rfl) m_tuple PyProof.Rows.boot_tuple (pa_cons (pe_lc (own := [("_law_part", 5)]) (g := gName 5) (by rfl) scFil.nd (pi_tup (pv 3)) (blkOk_by (own := [("_law_part", 5)]) (N := nFil) (sc := defScope tFil) (by decide +kernel)) (fun _ _ _ _ _ => (pg_name (i := 5) scFil.nd rfl (.inl rfl))) (fun _ _ _ _ _ => pts_nil) (fun _ _ _ _ _ => (pe_callG GF still hr (by rfl) gF kF bF .nil pass0 (pa_cons (pv 0) (pa_cons (pv 1) (pa_cons (pv 2) (pa_cons (pv 5) (pa_cons (pv 4) pa_nil)))))))) pa_nil))))), ?_⟩
  refine ⟨_, rfl, _, _, _, _, s.dt.isTup, rfl, .ty "tuple", dd.ty, kTup K s.dt, _, rfl, ?_⟩
  cases s with
  | «at» x =>
    have ok : x.isTup = false := ok
    show (if (!x.isTup) = true then _ else _)
    rw [ok]
    exact iteT ⟨_, rfl, q x v H Kp.rfl dk dd .at⟩
  | hole k0 bs =>
    obtain ⟨al, lb⟩ := al
    refine iteF ?_
    obtain ⟨p, kv, bv, rfl, gp, dk0, dbs⟩ : ∃ p kv bv, v = .ref p ∧ H p = some (.tup [.str "hole", kv, .ref bv]) ∧ Dd Non H k0.dt kv ∧ Dd Non H (.tup (bs.map fun p => .tup [.str p.1, p.2.dt])) (.ref bv) := by
      cases dd with
      | tup e t =>
        cases t with | cons a t => cases t with | cons b t => cases t with | cons c0 t =>
          cases t
          cases a
          cases c0 with
          | tup e2 t2 => exact ⟨_, _, _, rfl, e, b, .tup e2 t2⟩
    obtain ⟨ws, gb, dws⟩ : ∃ ws, H bv = some (.tup ws) ∧ DdL Non H (bs.map fun p => Dt.tup [.str p.1, p.2.dt]) ws := by
      cases dbs with
      | tup e t => exact ⟨_, e, t⟩
    have pb := prd_bs dws
    have e0 : (PyData.eqv (.tuple [.str "hole"]) (.tuple [.str "hole"])) = true := eqvW.mpr rfl
    have shH := shW (w := "hole") (by decide +kernel)
    refine ⟨_, rfl, 1, rfl, p, _, rfl, SqT.of gp, (fun hw => absurd hw (by show ¬ (HT.sIx 3 0 none = 0 ∧ HT.sIx 3 3 (some 1) = 3); decide)), (fun hw p0 np0 => ?_)⟩
    rw [show (1 : Int) = ((1 : Nat) : Int) from rfl, cutTo (by show 1 ≤ 3; decide)]
    refine objG np0 fun G1 s1 g1 => ?_
    have g1 : G1 p0 = some (.tup [.str "hole"]) := g1
    refine ⟨(by show 1 ≤ sizeLine; decide), fun p2 np2 => objG np2 fun G2 s2 g2 => ?_⟩
    refine ⟨_, _, Dp.tup (SqT.of (s2 _ _ g1)) (.cons (.str _) .nil), Dp.tup (SqT.of g2) (.cons (.str _) .nil), shH, shH, _, rfl, ?_⟩
    rw [e0]
    have s12 := s1.trans s2
    have gp2 := s12 _ _ gp
    have gb2 := s12 _ _ gb
    have gl2 := s12 _ _ gl
    have dk2 := dk.same s12
    refine iteT ⟨_, rfl, _, rfl, _, rfl, _, rfl, p, _, _, _, rfl, rfl, SqT.of gp2, atI_nat (j := 2) rfl, bv, ws, rfl, .inr (SqT.of gb2), fun lb nb => ?_⟩
    refine lstG nb fun G3 s3 g3 => ?_
    have lws := pb.length
    have lus := pE.length
    refine ⟨_, _, _, _, rfl, rfl, s3 _ _ gl2, g3, sz (by omega), fun pk nk => ?_⟩
    have ok' := (dk2.same s3).off nk
    refine lstG nk fun G4 s4 g4 => ?_
    have sA := s12.trans (s3.trans s4)
    refine ⟨_, rfl, p, _, _, _, rfl, rfl, SqT.of (sA _ _ gp), atI_nat (j := 1) rfl, _, rfl, pk, E ++ bs, us ++ ws, kv, k0, i, rfl, dk.same sA, sJ _ _ dk (Kp.of sA) hJ, g4, ok'.1, ok'.2, Paired.appP (Paired.mapP pE fun _ _ h => h.tk (Tk.of sA)) (Paired.mapP pb fun _ _ h => h.tk (Tk.of sA)), dk0.same sA, al, fun v t G kG dG dt gd => q t.dt v G ((Kp.of sA).trans kG) dG dt (.hole gd)⟩
  | tup l =>
    rw [Sd.ok] at ok
    rw [Sd.all] at al
    rw [Sd.ht] at hn
    rw [Sd.dt] at dd
    rw [Sd.few] at few
    obtain ⟨ll, few⟩ := few
    obtain ⟨⟨w0, r0, el, nh, sw⟩, oks⟩ := ok
    refine iteF ?_
    obtain ⟨p, us', rfl, gp, dus⟩ : ∃ p us', v = .ref p ∧ H p = some (.tup us') ∧ DdL Non H (Sd.dts l) us' := by
      cases dd with
      | tup e t => exact ⟨_, _, rfl, e, t⟩
    obtain ⟨us2, hu0⟩ : ∃ us2, us' = .str w0 :: us2 := by
      rw [el, Sd.dts] at dus
      cases dus with
      | cons a b =>
        rw [Sd.dt] at a
        cases a
        exact ⟨_, rfl⟩
    have lus' : us'.length ≤ 200 := by rw [← dus.len, Sd.dts_eq, List.length_map]; exact ll
    have e0 : (PyData.eqv (.tuple [.str w0]) (.tuple [.str "hole"])) = false := by
      rw [Bool.eq_false_iff]
      exact fun z => nh (eqvW.mp z)
    have shH := shW (w := "hole") (by decide +kernel)
    refine ⟨_, rfl, 1, rfl, p, _, rfl, SqT.of gp, (fun hw => ?_), (fun hw p0 np0 => ?_)⟩
    · have h2 := hw.2
      rw [show HT.sIx us'.length us'.length (some 1) = min 1 us'.length from HT.sIx_nat _ _ 1] at h2
      have e1 : us' = [.str w0] := by
        cases us2 with
        | nil => exact hu0
        | cons a b =>
          rw [hu0, List.length_cons, List.length_cons] at h2
          omega
      refine ⟨(by show 1 ≤ sizeLine; decide), fun p2 np2 => objG np2 fun G2 s2 g2 => ?_⟩
      have sA := (Same.refl H).trans s2
      refine ⟨_, _, Dp.tup (SqT.of (s2 _ _ (by rw [← e1]; exact gp))) (.cons (.str _) .nil), Dp.tup (SqT.of g2) (.cons (.str _) .nil), shW sw, shH, _, rfl, ?_⟩
      rw [e0]
      have gp2 := sA _ _ gp
      have gl2 := sA _ _ gl
      have dk2 := dk.same sA
      have dus2 := dus.same sA
      have pE2 := Paired.mapP pE fun _ _ h => h.tk (Tk.of sA)
      have hJ2 := sJ _ _ dk (Kp.of sA) hJ
      refine iteF ⟨_, rfl, p, rfl, ⟨_, SqT.of gp2⟩, fun D nD => ?_⟩
      have oD := dk2.off nD
      refine lc_tup (K := K) (a := p) (xs := us') (fun j F => Kp d c G2 F ∧ Dk F d c ∧ ∃ ws rs, F D = some (.lst ws) ∧ DdL Non F rs ws ∧ FilL (fun bs k t => GdE (E ++ bs) k t) (l.take j) rs) ⟨Kp.of (newS nD), dk2.same (newS nD), [], [], upd_same, .nil, .nil⟩ (fun j F _ z => SqT.of (Tk.kp z.1 dk2 _ _ gp2)) (fun j x F hx z => ?_) (fun F z => ?_)
      · obtain ⟨kF, dF, ws, rs, gD, dw, fl⟩ := z
        have d3 := dus2.kn (Kn.tk (Tk.kp kF dk2))
        obtain ⟨y, hy, dy⟩ := d3.get hx
        rw [Sd.dts_eq, List.getElem?_map] at hy
        obtain ⟨s0, hs0, rfl⟩ := Option.map_eq_some_iff.mp hy
        have m0 := List.mem_of_getElem? hs0
        have etk : l.take (j + 1) = l.take j ++ [s0] := by rw [List.take_add_one, hs0]; rfl
        have hh := Sd.hts_mem s0 m0
        have lj := (List.getElem?_eq_some_iff.mp hs0).1
        have lw := dw.len
        have lf := fl.len
        rw [List.length_take] at lf
        refine ⟨rfl, _, rfl, _, rfl, _, rfl, _, rfl, _, rfl, kl, E, us, x, s0, i, rfl, by omega, Sd.oks_mem oks s0 m0, Sd.fews_mem few s0 m0, dF, sJ _ _ dk2 kF hJ2, kF _ _ od oc gl2, od, oc, Paired.mapP pE2 (fun _ _ h => h.tk (Tk.kp kF dk2)), lE, dy, Sd.alls_mem al s0 m0, fun r v G kG dG dr fr => ?_⟩
        have gD2 := kG _ _ oD.1 oD.2 gD
        have kn := Kn.tk (Tk.kp kG dF)
        have kn2 : Kn Non G (upd G D (.lst (ws ++ [v]))) := Kn.rfl.put (fun z => z) fun _ z => by rw [gD2] at z; cases z
        refine ⟨ws, gD2, small1000 (by omega), (kF.trans kG).mk nD, dG.put oD.1 oD.2, ws ++ [v], rs ++ [r], upd_same, ((dw.kn kn).kn kn2).app (.cons (dr.kn kn2) .nil), ?_⟩
        rw [etk]
        exact fl.app (.cons fr .nil)
      obtain ⟨kF, dF, ws, rs, gD, dw, fl⟩ := z
      rw [show us'.length = l.length by rw [← dus.len, Sd.dts_eq, List.length_map], List.take_length] at fl
      refine ⟨D, _, rfl, .inl ⟨SqL.of gD, fun m nm => objG nm fun G5 s5 g5 => ?_⟩⟩
      exact q (.tup rs) _ G5 ((Kp.of sA).trans (kF.trans (.of s5))) (dF.same s5) (.tup g5 (dw.same s5)) fl.fil
    · rw [show cutV us' none (some 1) = [.str w0] by rw [hu0, show (1 : Int) = ((1 : Nat) : Int) from rfl, cutTo (by rw [List.length_cons]; omega)]; rfl]
      refine objG np0 fun G1 s1 g1 => ?_
      refine ⟨(by show 1 ≤ sizeLine; decide), fun p2 np2 => objG np2 fun G2 s2 g2 => ?_⟩
      have sA := (s1).trans s2
      refine ⟨_, _, Dp.tup (SqT.of (s2 _ _ (g1))) (.cons (.str _) .nil), Dp.tup (SqT.of g2) (.cons (.str _) .nil), shW sw, shH, _, rfl, ?_⟩
      rw [e0]
      have gp2 := sA _ _ gp
      have gl2 := sA _ _ gl
      have dk2 := dk.same sA
      have dus2 := dus.same sA
      have pE2 := Paired.mapP pE fun _ _ h => h.tk (Tk.of sA)
      have hJ2 := sJ _ _ dk (Kp.of sA) hJ
      refine iteF ⟨_, rfl, p, rfl, ⟨_, SqT.of gp2⟩, fun D nD => ?_⟩
      have oD := dk2.off nD
      refine lc_tup (K := K) (a := p) (xs := us') (fun j F => Kp d c G2 F ∧ Dk F d c ∧ ∃ ws rs, F D = some (.lst ws) ∧ DdL Non F rs ws ∧ FilL (fun bs k t => GdE (E ++ bs) k t) (l.take j) rs) ⟨Kp.of (newS nD), dk2.same (newS nD), [], [], upd_same, .nil, .nil⟩ (fun j F _ z => SqT.of (Tk.kp z.1 dk2 _ _ gp2)) (fun j x F hx z => ?_) (fun F z => ?_)
      · obtain ⟨kF, dF, ws, rs, gD, dw, fl⟩ := z
        have d3 := dus2.kn (Kn.tk (Tk.kp kF dk2))
        obtain ⟨y, hy, dy⟩ := d3.get hx
        rw [Sd.dts_eq, List.getElem?_map] at hy
        obtain ⟨s0, hs0, rfl⟩ := Option.map_eq_some_iff.mp hy
        have m0 := List.mem_of_getElem? hs0
        have etk : l.take (j + 1) = l.take j ++ [s0] := by rw [List.take_add_one, hs0]; rfl
        have hh := Sd.hts_mem s0 m0
        have lj := (List.getElem?_eq_some_iff.mp hs0).1
        have lw := dw.len
        have lf := fl.len
        rw [List.length_take] at lf
        refine ⟨rfl, _, rfl, _, rfl, _, rfl, _, rfl, _, rfl, kl, E, us, x, s0, i, rfl, by omega, Sd.oks_mem oks s0 m0, Sd.fews_mem few s0 m0, dF, sJ _ _ dk2 kF hJ2, kF _ _ od oc gl2, od, oc, Paired.mapP pE2 (fun _ _ h => h.tk (Tk.kp kF dk2)), lE, dy, Sd.alls_mem al s0 m0, fun r v G kG dG dr fr => ?_⟩
        have gD2 := kG _ _ oD.1 oD.2 gD
        have kn := Kn.tk (Tk.kp kG dF)
        have kn2 : Kn Non G (upd G D (.lst (ws ++ [v]))) := Kn.rfl.put (fun z => z) fun _ z => by rw [gD2] at z; cases z
        refine ⟨ws, gD2, small1000 (by omega), (kF.trans kG).mk nD, dG.put oD.1 oD.2, ws ++ [v], rs ++ [r], upd_same, ((dw.kn kn).kn kn2).app (.cons (dr.kn kn2) .nil), ?_⟩
        rw [etk]
        exact fl.app (.cons fr .nil)
      obtain ⟨kF, dF, ws, rs, gD, dw, fl⟩ := z
      rw [show us'.length = l.length by rw [← dus.len, Sd.dts_eq, List.length_map], List.take_length] at fl
      refine ⟨D, _, rfl, .inl ⟨SqL.of gD, fun m nm => objG nm fun G5 s5 g5 => ?_⟩⟩
      exact q (.tup rs) _ G5 ((Kp.of sA).trans (kF.trans (.of s5))) (dF.same s5) (.tup g5 (dw.same s5)) fl.fil
end
end Kq
/-! what shapes are for a kind, by how deep -/
namespace Kq
open PySem PySem.Spec PyProof.Rows L2 Kf Kg Kv Kk Ku
/-- how great a known kind, a wanted kind may be, how deep data kinds -/
def ub (i : Int) : Nat := if 6 ≤ i then 1 else if i = 5 then 34 else if i = 4 then 36 else if i = 3 then 71 else if i = 2 then 108 else if i = 1 then 180 else 467
def wb (i : Int) : Nat := if 6 ≤ i then 31 else if i = 5 then 33 else if i = 4 then 68 else if i = 3 then 105 else if i = 2 then 177 else if i = 1 then 286 else 467
def db (i : Int) : Nat := if 6 ≤ i then 2 else if i = 5 then 3 else if i = 4 then 4 else if i = 3 then 5 else if i = 2 then 6 else if i = 1 then 7 else 8
section
variable {i : Int}
theorem ub_up : ub i ≤ ub (i - 1) := by unfold ub; (repeat' split) <;> omega
theorem wb_up : wb i ≤ wb (i - 1) := by unfold wb; (repeat' split) <;> omega
theorem db_up : db i ≤ db (i - 1) := by unfold db; (repeat' split) <;> omega
theorem wb_ub (h : i ≤ 6) : wb i ≤ ub (i - 1) := by unfold ub wb; (repeat' split) <;> omega
theorem ub_wb : ub i ≤ wb (i - 1) := by unfold ub wb; (repeat' split) <;> omega
theorem wb_u3 (h : i ≤ 6) (h0 : 0 < i) : wb i + 3 ≤ ub (i - 1) := by unfold ub wb; (repeat' split) <;> omega
theorem wu_wb (h : i ≤ 6) (h0 : 0 < i) : wb i + ub i + 1 ≤ wb (i - 1) := by unfold ub wb; (repeat' split) <;> omega
theorem db_1 (h : i ≤ 6) (h0 : 0 < i) : db i + 1 ≤ db (i - 1) := by unfold db; (repeat' split) <;> omega
theorem ub_le : ub i ≤ 467 := by unfold ub; (repeat' split) <;> omega
theorem wb_le : wb i ≤ 467 := by unfold wb; (repeat' split) <;> omega
theorem db_le : db i ≤ 8 := by unfold db; (repeat' split) <;> omega
theorem ub_1 : 1 ≤ ub i := by unfold ub; (repeat' split) <;> omega
theorem wb_55 : 31 ≤ wb i := by unfold wb; (repeat' split) <;> omega
theorem db_3 : 2 ≤ db i := by unfold db; (repeat' split) <;> omega
end
theorem Kd.tdk_up {d e : Nat} (h : d ≤ e) : ∀ {k : Kd}, k.tdk d → k.tdk e := by
  intro k
  induction k with
  | fn a b i j => exact fun z => ⟨⟨z.1.1, Nat.le_trans z.1.2 h⟩, j z.2⟩
  | _ => exact fun z => ⟨z.1, Nat.le_trans z.2 h⟩
theorem Kd.fst_dat {k : Kd} (h : k.isDat = true) : k.isFst = true := by
  cases k with
  | fn a b => cases h
  | _ => exact h
/-- a wanted kind -/
structure Wn (NO : List Str) (i : Int) (k : Kd) : Prop where
  sz : k.size ≤ wb i
  op : ∀ x ∈ k.opens, x ∈ NO
  nm : ∀ x ∈ k.opens, Nm x
  td : k.tdk (db i)
  dp : k.dp ≤ 8
  mu : k.mu ≤ 8
/-- a known kind -/
structure Kn1 (NO : List Str) (i : Int) (k : Kd) : Prop where
  sz : k.size ≤ ub i
  op : ∀ x ∈ k.opens, x ∈ NO
  nm : ∀ x ∈ k.opens, Nm x
  hk : Hk 2 k
  dp : k.dp ≤ db i
section
variable {NO : List Str} {i : Int} {k a b : Kd}
theorem Kn1.kw (h : Kn1 NO i k) : Kw NO k := ⟨⟨by have := h.sz; have := @ub_le i; omega, by have := h.dp; have := @db_le i; omega, h.op⟩, h.nm, h.hk.1⟩
theorem Wn.ks (h : Wn NO i k) : Ks1 NO 470 44 k := ⟨by have := h.sz; have := @wb_le i; omega, by have := h.dp; omega, h.op⟩
theorem Wn.kw (h : Wn NO i k) (n : k.isFn = false) : Kw NO k := ⟨h.ks, h.nm, Kd.fst_dat (Kd.tdk_of h.td n).1⟩
theorem Kn1.up (h : Kn1 NO i k) : Kn1 NO (i - 1) k := ⟨Nat.le_trans h.sz ub_up, h.op, h.nm, h.hk, Nat.le_trans h.dp db_up⟩
theorem Wn.up (h : Wn NO i k) : Wn NO (i - 1) k := ⟨Nat.le_trans h.sz wb_up, h.op, h.nm, Kd.tdk_up db_up h.td, h.dp, h.mu⟩
theorem Wn.dat (h : Wn NO i k) (n : k.isFn = false) : k.isDat = true ∧ k.dp ≤ db i := Kd.tdk_of h.td n
/-- a data kind that is wanted -/
theorem Wn.of {i : Int} (hd : k.isDat = true) (hs : k.size ≤ wb i) (ho : ∀ x ∈ k.opens, x ∈ NO) (hn : ∀ x ∈ k.opens, Nm x) (hp : k.dp ≤ db i) : Wn NO i k :=
  ⟨hs, ho, hn, Kd.tdk_dat hd hp, Nat.le_trans hp db_le, by rw [Kd.mu_dat hd]; exact Nat.le_trans (Nat.le_trans hp db_le) (by decide)⟩
theorem Kn1.of {i : Int} (hd : k.isDat = true) (hs : k.size ≤ ub i) (ho : ∀ x ∈ k.opens, x ∈ NO) (hn : ∀ x ∈ k.opens, Nm x) (hp : k.dp ≤ db i) : Kn1 NO i k := ⟨hs, ho, hn, Hk.dat hd, hp⟩
theorem Wn.kn (h : Wn NO i k) (n : k.isFn = false) (i4 : i ≤ 6) : Kn1 NO (i - 1) k := .of (h.dat n).1 (Nat.le_trans h.sz (wb_ub i4)) h.op h.nm (Nat.le_trans (h.dat n).2 db_up)
theorem Kn1.wn (h : Kn1 NO i k) (n : k.isFn = false) : Wn NO (i - 1) k := by
  have d : k.isDat = true := by
    have := h.hk.1
    cases k with
    | fn a b => cases n
    | _ => exact this
  exact .of d (Nat.le_trans h.sz ub_wb) h.op h.nm (Nat.le_trans h.dp db_up)
theorem Kn1.isDat (h : Kn1 NO i k) (n : k.isFn = false) : k.isDat = true := by
  have := h.hk.1
  cases k with
  | fn a b => cases n
  | _ => exact this
theorem Wn.fn2 (h : Wn NO i (.fn a b)) : Wn NO (i - 1) b := by
  have s := h.sz
  rw [Kd.size_fn] at s
  have dp := h.dp
  rw [Kd.dp] at dp
  have m := h.mu
  rw [Kd.mu] at m
  exact ⟨by have := @wb_up i; omega, fun x hx => h.op x (List.mem_append_right _ hx), fun x hx => h.nm x (List.mem_append_right _ hx), Kd.tdk_up db_up h.td.2, by omega, by omega⟩
theorem Wn.fn1 (h : Wn NO i (.fn a b)) (i4 : i ≤ 6) : Kn1 NO (i - 1) a := by
  have s := h.sz
  rw [Kd.size_fn] at s
  exact ⟨by have := wb_ub i4; omega, fun x hx => h.op x (List.mem_append_left _ hx), fun x hx => h.nm x (List.mem_append_left _ hx), h.td.1.1, Nat.le_trans h.td.1.2 db_up⟩
theorem Wn.pr1 (h : Wn NO i (.pair a b)) : Wn NO (i - 1) a := by
  obtain ⟨d, p⟩ := h.dat rfl
  obtain ⟨d1, d2⟩ := Bool.and_eq_true_iff.mp d
  have s := h.sz
  rw [Kd.size_pr] at s
  rw [Kd.dp] at p
  exact .of d1 (by have := @wb_up i; omega) (fun x hx => h.op x (List.mem_append_left _ hx)) (fun x hx => h.nm x (List.mem_append_left _ hx)) (by have := @db_up i; omega)
theorem Wn.pr2 (h : Wn NO i (.pair a b)) : Wn NO (i - 1) b := by
  obtain ⟨d, p⟩ := h.dat rfl
  obtain ⟨d1, d2⟩ := Bool.and_eq_true_iff.mp d
  have s := h.sz
  rw [Kd.size_pr] at s
  rw [Kd.dp] at p
  exact .of d2 (by have := @wb_up i; omega) (fun x hx => h.op x (List.mem_append_right _ hx)) (fun x hx => h.nm x (List.mem_append_right _ hx)) (by have := @db_up i; omega)
theorem Wn.ei1 (h : Wn NO i (.eith a b)) : Wn NO (i - 1) a := by
  obtain ⟨d, p⟩ := h.dat rfl
  obtain ⟨d1, d2⟩ := Bool.and_eq_true_iff.mp d
  have s := h.sz
  rw [Kd.size_ei] at s
  rw [Kd.dp] at p
  exact .of d1 (by have := @wb_up i; omega) (fun x hx => h.op x (List.mem_append_left _ hx)) (fun x hx => h.nm x (List.mem_append_left _ hx)) (by have := @db_up i; omega)
theorem Wn.ei2 (h : Wn NO i (.eith a b)) : Wn NO (i - 1) b := by
  obtain ⟨d, p⟩ := h.dat rfl
  obtain ⟨d1, d2⟩ := Bool.and_eq_true_iff.mp d
  have s := h.sz
  rw [Kd.size_ei] at s
  rw [Kd.dp] at p
  exact .of d2 (by have := @wb_up i; omega) (fun x hx => h.op x (List.mem_append_right _ hx)) (fun x hx => h.nm x (List.mem_append_right _ hx)) (by have := @db_up i; omega)
theorem Wn.ls (h : Wn NO i (.lst a)) : Wn NO (i - 1) a := by
  obtain ⟨d, p⟩ := h.dat rfl
  have s := h.sz
  rw [Kd.size_ls] at s
  rw [Kd.dp] at p
  exact .of d (by have := @wb_up i; omega) h.op h.nm (by have := @db_up i; omega)
theorem Wn.num : Wn NO i .num := .of rfl (by have := @wb_55 i; show 1 ≤ _; omega) (fun x h => by cases h) (fun x h => by cases h) (Nat.zero_le _)
theorem Wn.tru : Wn NO i .tru := .of rfl (by have := @wb_55 i; show 1 ≤ _; omega) (fun x h => by cases h) (fun x h => by cases h) (Nat.zero_le _)
theorem Wn.notFn (h : Wn NO i (.pair a b)) : a.isFn = false ∧ b.isFn = false := by
  obtain ⟨d, p⟩ := h.dat rfl
  obtain ⟨d1, d2⟩ := Bool.and_eq_true_iff.mp d
  exact ⟨Kd.dat_fn d1, Kd.dat_fn d2⟩
theorem Wn.notFnE (h : Wn NO i (.eith a b)) : a.isFn = false ∧ b.isFn = false := by
  obtain ⟨d, p⟩ := h.dat rfl
  obtain ⟨d1, d2⟩ := Bool.and_eq_true_iff.mp d
  exact ⟨Kd.dat_fn d1, Kd.dat_fn d2⟩
theorem Wn.notFnL (h : Wn NO i (.lst a)) : a.isFn = false := Kd.dat_fn (h.dat rfl).1
end
/-! kinds in shapes -/
theorem Kd.sd_dt : ∀ k : Kd, k.sd.dt = k.dt := by
  intro k
  induction k with
  | opn x => rfl
  | num => rfl
  | tru => rfl
  | pair a b i j => show Dt.tup [.str "pair", a.sd.dt, b.sd.dt] = _; rw [i, j]; rfl
  | eith a b i j => show Dt.tup [.str "either", a.sd.dt, b.sd.dt] = _; rw [i, j]; rfl
  | lst a i => show Dt.tup [.str "list", a.sd.dt] = _; rw [i]; rfl
  | fn a b i j => show Dt.tup [.str "fun", a.sd.dt, b.sd.dt] = _; rw [i, j]; rfl
theorem wdOk {w : Str} {r : List Sd} (h : w ≠ "hole") (g : PyData.strOk w = true) : ∃ w' r', Sd.at (.str w) :: r = .at (.str w') :: r' ∧ w' ≠ "hole" ∧ PyData.strOk w' = true := ⟨w, r, rfl, h, g⟩
theorem Kd.sd_ok : ∀ k : Kd, k.sd.ok := by
  intro k
  induction k with
  | opn x => exact ⟨wdOk (by decide +kernel) (by decide +kernel), rfl, rfl, trivial⟩
  | num => exact ⟨wdOk (by decide +kernel) (by decide +kernel), rfl, trivial⟩
  | tru => exact ⟨wdOk (by decide +kernel) (by decide +kernel), rfl, trivial⟩
  | pair a b i j => exact ⟨wdOk (by decide +kernel) (by decide +kernel), rfl, i, j, trivial⟩
  | eith a b i j => exact ⟨wdOk (by decide +kernel) (by decide +kernel), rfl, i, j, trivial⟩
  | lst a i => exact ⟨wdOk (by decide +kernel) (by decide +kernel), rfl, i, trivial⟩
  | fn a b i j => exact ⟨wdOk (by decide +kernel) (by decide +kernel), rfl, i, j, trivial⟩
theorem Kd.sd_few : ∀ k : Kd, k.sd.few := by
  intro k
  induction k with
  | opn x => exact ⟨by show 2 ≤ 200; decide, trivial, trivial, trivial⟩
  | num => exact ⟨by show 1 ≤ 200; decide, trivial, trivial⟩
  | tru => exact ⟨by show 1 ≤ 200; decide, trivial, trivial⟩
  | pair a b i j => exact ⟨by show 3 ≤ 200; decide, trivial, i, j, trivial⟩
  | eith a b i j => exact ⟨by show 3 ≤ 200; decide, trivial, i, j, trivial⟩
  | lst a i => exact ⟨by show 2 ≤ 200; decide, trivial, i, trivial⟩
  | fn a b i j => exact ⟨by show 3 ≤ 200; decide, trivial, i, j, trivial⟩
theorem Kd.sd_ht : ∀ k : Kd, k.sd.ht ≤ k.dp + 1 := by
  intro k
  induction k with
  | opn x => exact Nat.le_refl _
  | num => exact Nat.le_refl _
  | tru => exact Nat.le_refl _
  | pair a b i j => show max 0 (max a.sd.ht (max b.sd.ht 0)) + 1 ≤ max a.dp b.dp + 1 + 1; omega
  | eith a b i j => show max 0 (max a.sd.ht (max b.sd.ht 0)) + 1 ≤ max a.dp b.dp + 1 + 1; omega
  | lst a i => show max 0 (max a.sd.ht 0) + 1 ≤ a.dp + 1 + 1; omega
  | fn a b i j => show max 0 (max a.sd.ht (max b.sd.ht 0)) + 1 ≤ max a.dp b.dp + 1 + 1; omega
theorem Kd.sd_all (p : Kd → List (Str × Kd) → Prop) : ∀ k : Kd, k.sd.all p := by
  intro k
  induction k with
  | opn x => exact ⟨trivial, trivial, trivial⟩
  | num => exact ⟨trivial, trivial⟩
  | tru => exact ⟨trivial, trivial⟩
  | pair a b i j => exact ⟨trivial, i, j, trivial⟩
  | eith a b i j => exact ⟨trivial, i, j, trivial⟩
  | lst a i => exact ⟨trivial, i, trivial⟩
  | fn a b i j => exact ⟨trivial, i, j, trivial⟩
mutual
theorem Sd.all_imp {p q : Kd → List (Str × Kd) → Prop} (h : ∀ k bs, p k bs → q k bs) : ∀ s : Sd, s.all p → s.all q
  | .at _, _ => trivial
  | .tup l, z => Sd.alls_imp h l z
  | .hole k bs, z => h k bs z
theorem Sd.alls_imp {p q : Kd → List (Str × Kd) → Prop} (h : ∀ k bs, p k bs → q k bs) : ∀ l : List Sd, Sd.alls p l → Sd.alls q l
  | [], _ => trivial
  | s :: l, z => ⟨Sd.all_imp h s z.1, Sd.alls_imp h l z.2⟩
end
theorem Fil.imp {P Q : List (Str × Kd) → Kd → Tm → Prop} (h : ∀ bs k t, P bs k t → Q bs k t) {s : Sd} {r : Dt} (f : Fil P s r) : Fil Q s r := by
  induction f with
  | «at» => exact .at
  | nil => exact .nil
  | cons a b i j => exact .cons i j
  | hole a => exact .hole (h _ _ _ a)
theorem nX {X : Bool} (h : X = true → false = true) : X = false := by
  cases X with
  | false => rfl
  | true => cases h rfl
/-! the names -/
structure Tl (op lo NS NO : List Str) (o c n : Str) (ns : List Str) : Prop where
  nS : ∀ x ∈ ns, x ∈ NS ∧ Nm x
  nd : ns.Nodup
  len : ns.length = 3
  oN : o ∈ NO
  om : Nm o
  oo : o ∉ op
  cn : c ≠ n
  cs : c.length < 9 → c ∈ NS ∧ Nm c ∧ n ∈ NS ∧ Nm n
  lo : ∀ z ∈ lo, z ∈ op
  ns8 : ∀ x ∈ NS, x.length ≤ 100
  cl : c.length ≤ 100
/-- what is known, what is wanted -/
structure Inv1 (NS NO : List Str) (o c : Str) (i : Int) (E : List (Str × Kd)) (k : Kd) : Prop where
  wk : Wn NO i k
  ee : ∀ f ∈ E, f.1 ∈ NS ∧ Nm f.1 ∧ Kn1 NO i f.2
  ow : c ∈ E.map (·.1) ∨ (o ∉ k.opens ∧ ∀ f ∈ E, o ∉ f.2.opens)
  ln : (E.length : Int) ≤ 2 * (6 - i)
  i4 : i ≤ 6
/-- a shape of terms of a kind -/
structure Shp (op lo NS NO : List Str) (o c : Str) (i : Int) (E : List (Str × Kd)) (k : Kd) (z : Bool) (h : Nat) (s : Sd) : Prop where
  ok : s.ok
  few : s.few
  ht : s.ht ≤ h
  all : s.all fun k' bs => (bs.length ≤ 2 ∧ Inv1 NS NO o c (i - 1) (E ++ bs) k') ∧ (z = true → k'.mu < k.mu)
  fil : ∀ (X : Bool) (D : Nat) (r : Dt), (X = true → z = true) → Fil (Gd op lo NS NO X D E) s r → ∃ t, r = Tm.dt t ∧ GX op lo NS NO X (D + h) E k t
section
variable {op lo NS NO ns : List Str} {o c n : Str} {i : Int} {E : List (Str × Kd)} {k a b : Kd} {z : Bool} {h : Nat} {s : Sd}
theorem Shp.weak (S : Shp op lo NS NO o c i E k z h s) {h' : Nat} (g : h ≤ h') : Shp op lo NS NO o c i E k false h' s := ⟨S.ok, S.few, Nat.le_trans S.ht g, Sd.all_imp (fun k bs z => ⟨z.1, fun h => by cases h⟩) _ S.all, fun X D r hx hr => GX.upE (S.fil X D r (fun q => by cases hx q) hr) (Nat.add_le_add_left g D)⟩
theorem Shp.up (S : Shp op lo NS NO o c i E k z h s) {h' : Nat} (g : h ≤ h') : Shp op lo NS NO o c i E k z h' s := ⟨S.ok, S.few, Nat.le_trans S.ht g, S.all, fun X D r hx hr => GX.upE (S.fil X D r hx hr) (Nat.add_le_add_left g D)⟩
/-- the next ones, names bound or not -/
theorem Inv1.next0 {k' : Kd} (I : Inv1 NS NO o c i E k) (w : Wn NO (i - 1) k') (ho : c ∈ E.map (·.1) ∨ o ∉ k'.opens) : Inv1 NS NO o c (i - 1) (E ++ []) k' := by
  rw [List.append_nil]
  refine ⟨w, fun f hf => ⟨(I.ee f hf).1, (I.ee f hf).2.1, (I.ee f hf).2.2.up⟩, ?_, by have := I.ln; omega, by have := I.i4; omega⟩
  rcases I.ow with g | g
  · exact .inl g
  · exact ho.imp id fun u => ⟨u, g.2⟩
theorem Inv1.next1 {k' q : Kd} {x : Str} (I : Inv1 NS NO o c i E k) (hx : x ∈ NS ∧ Nm x) (hq : Kn1 NO (i - 1) q) (w : Wn NO (i - 1) k') (ho : c ∈ E.map (·.1) ∨ (o ∉ k'.opens ∧ o ∉ q.opens)) : Inv1 NS NO o c (i - 1) (E ++ [(x, q)]) k' := by
  refine ⟨w, fun f hf => ?_, ?_, by have := I.ln; rw [List.length_append]; simp only [List.length_cons, List.length_nil]; omega, by have := I.i4; omega⟩
  · rcases List.mem_append.mp hf with hf | hf
    · exact ⟨(I.ee f hf).1, (I.ee f hf).2.1, (I.ee f hf).2.2.up⟩
    · rw [List.mem_singleton.mp hf]
      exact ⟨hx.1, hx.2, hq⟩
  · rw [List.map_append]
    rcases I.ow with g | g
    · exact .inl (List.mem_append_left _ g)
    · rcases ho with u | u
      · exact .inl (List.mem_append_left _ u)
      · refine .inr ⟨u.1, fun f hf => ?_⟩
        rcases List.mem_append.mp hf with hf | hf
        · exact g.2 f hf
        · rw [List.mem_singleton.mp hf]
          exact u.2
theorem Inv1.next2 {k' q q' : Kd} {x y : Str} (I : Inv1 NS NO o c i E k) (hx : x ∈ NS ∧ Nm x) (hq : Kn1 NO (i - 1) q) (hy : y ∈ NS ∧ Nm y) (hq' : Kn1 NO (i - 1) q') (w : Wn NO (i - 1) k') (ho : (c ∈ E.map (·.1) ∨ x = c) ∨ (o ∉ k'.opens ∧ o ∉ q.opens ∧ o ∉ q'.opens)) : Inv1 NS NO o c (i - 1) (E ++ [(x, q), (y, q')]) k' := by
  refine ⟨w, fun f hf => ?_, ?_, by have := I.ln; rw [List.length_append]; simp only [List.length_cons, List.length_nil]; omega, by have := I.i4; omega⟩
  · rcases List.mem_append.mp hf with hf | hf
    · exact ⟨(I.ee f hf).1, (I.ee f hf).2.1, (I.ee f hf).2.2.up⟩
    · rcases List.mem_cons.mp hf with e | hf
      · rw [e]
        exact ⟨hx.1, hx.2, hq⟩
      · rw [List.mem_singleton.mp hf]
        exact ⟨hy.1, hy.2, hq'⟩
  · rw [List.map_append]
    rcases ho with u | u
    · rcases u with u | u
      · exact .inl (List.mem_append_left _ u)
      · exact .inl (List.mem_append_right _ (by rw [← u]; exact List.mem_cons_self))
    · rcases I.ow with g | g
      · exact .inl (List.mem_append_left _ g)
      · refine .inr ⟨u.1, fun f hf => ?_⟩
        rcases List.mem_append.mp hf with hf | hf
        · exact g.2 f hf
        · rcases List.mem_cons.mp hf with e | hf
          · rw [e]
            exact u.2.1
          · rw [List.mem_singleton.mp hf]
            exact u.2.2
theorem Inv1.oK (I : Inv1 NS NO o c i E k) : c ∈ E.map (·.1) ∨ o ∉ k.opens := I.ow.imp id And.left
theorem Inv1.oE (I : Inv1 NS NO o c i E k) {f : Str × Kd} (hf : f ∈ E) : c ∈ E.map (·.1) ∨ o ∉ f.2.opens := I.ow.imp id fun u => u.2 f hf
end
end Kq
/-! each shape -/
namespace Kq
open PySem PySem.Spec PyProof.Rows L2 Kf Kg Kv Kk Ku
theorem mrg {p a b q : Prop} (h : p ∨ a) (g : p ∨ b) (f : a → b → q) : p ∨ q := h.elim .inl fun u => g.elim .inl fun v => .inr (f u v)
section
variable {op lo NS NO ns : List Str} {o c n : Str} {i : Int} {E : List (Str × Kd)} {k a b : Kd}
theorem sh_fun2 {X : Bool} {D : Nat} {r : Dt} {x : Str} {k1 k2 : Kd} (hx : x ∈ NS) (nx : Nm x) (w1 : Kw NO k1) (gk : Gk NO (.fn k1 k2)) (h : Fil (Gd op lo NS NO X D E) (.tup [.at (.str "fun"), .at (.str x), k1.sd, .hole k2 [(x, k1)]]) r) : ∃ t, r = Tm.dt t ∧ GX op lo NS NO X (D + 1) E (.fn k1 k2) t := by
  obtain ⟨_, _, _, rfl, h1, h2, h3⟩ := h.of3
  obtain ⟨t1, rfl, g1, e1, x1⟩ := h3.hole_
  rw [h1.at_, h2.kd]
  refine ⟨.fn x k1 t1, rfl, ⟨⟨nx, w1.ak, g1.1⟩, fun lk a b => Ck.fn hx w1.gk (g1.b1.2 lk a b) fun r hr => by cases hr; exact gk⟩, ?_, fun hx0 => ⟨?_, ?_⟩⟩
  · simp only [Tm.dp]; omega
  · have q1 := x1 hx0; simp only [Tm.tn, Kd.size_fn]; omega
  · have q1 := x1 hx0; simp only [Tm.dp, Kd.mu]; omega
theorem s_fun {x : Str} (T : Tl op lo NS NO o c n ns) (hx : x ∈ ns) (I : Inv1 NS NO o c i E (.fn a b)) : Shp op lo NS NO o c i E (.fn a b) true 10 (.tup [.at (.str "fun"), .at (.str x), Kd.sd (a), .hole (b) [(x, a)]]) := by
  have hn := T.nS x hx
  exact ⟨⟨wdOk (by decide +kernel) (by decide +kernel), rfl, rfl, Kd.sd_ok _, trivial, trivial⟩, ⟨by show 4 ≤ 200; decide, trivial, trivial, Kd.sd_few _, trivial, trivial⟩, (by show max 0 (max (0) (max ((Kd.sd (a)).ht) (max (0) (0)))) + 1 ≤ _; have := Kd.sd_ht (a); have := (I.wk.fn1 I.i4).dp; have := @db_le (i - 1); omega), ⟨trivial, trivial, Kd.sd_all _ _, ⟨⟨by show 1 ≤ 2; decide, I.next1 hn (I.wk.fn1 I.i4) I.wk.fn2 (I.oK.imp id fun u => ⟨fun w => u (List.mem_append_right _ w), fun w => u (List.mem_append_left _ w)⟩)⟩, fun _ => Nat.lt_succ_self _⟩, trivial⟩, fun X D r hx0 hr => GX.upE (sh_fun2 hn.1 hn.2 (I.wk.fn1 I.i4).kw (I.wk.ks.gk (by decide) (by decide)) hr) (by omega)⟩
theorem s_num {m : Int} (hm : 0 ≤ m ∧ m < 10 ^ 7) : Shp op lo NS NO o c i E (.num) true 1 (.tup [.at (.str "num"), .at (.int m)]) := by
  exact ⟨⟨wdOk (by decide +kernel) (by decide +kernel), rfl, rfl, trivial⟩, ⟨by show 2 ≤ 200; decide, trivial, trivial, trivial⟩, (by show max 0 (max (0) (0)) + 1 ≤ _; omega), ⟨trivial, trivial, trivial⟩, fun X D r hx0 hr => by obtain ⟨x, rfl, h⟩ := hr.of1; rw [h.at_]; exact ⟨.num m, rfl, ⟨hm, fun lk _ _ => Ck.num⟩, Nat.zero_le _, fun _ => ⟨Kd.size_pos _, Nat.zero_le _⟩⟩⟩
theorem s_plus (I : Inv1 NS NO o c i E (.num)) : Shp op lo NS NO o c i E (.num) false 1 (.tup [.at (.str "plus"), .hole (.num) [], .hole (.num) []]) := by
  exact ⟨⟨wdOk (by decide +kernel) (by decide +kernel), rfl, trivial, trivial, trivial⟩, ⟨by show 3 ≤ 200; decide, trivial, trivial, trivial, trivial⟩, (by show max 0 (max (0) (max (0) (0))) + 1 ≤ _; omega), ⟨trivial, ⟨⟨by show 0 ≤ 2; decide, I.next0 .num (.inr fun w => by cases w)⟩, fun h => by cases h⟩, ⟨⟨by show 0 ≤ 2; decide, I.next0 .num (.inr fun w => by cases w)⟩, fun h => by cases h⟩, trivial⟩, fun X D r hx0 hr => GX.upE (sh_plus (nX hx0) hr) (by omega)⟩
theorem s_tru {v : Bool} : Shp op lo NS NO o c i E (.tru) true 1 (.tup [.at (.str "truth"), .at (.bl v)]) := by
  exact ⟨⟨wdOk (by decide +kernel) (by decide +kernel), rfl, rfl, trivial⟩, ⟨by show 2 ≤ 200; decide, trivial, trivial, trivial⟩, (by show max 0 (max (0) (0)) + 1 ≤ _; omega), ⟨trivial, trivial, trivial⟩, fun X D r hx0 hr => by obtain ⟨x, rfl, h⟩ := hr.of1; rw [h.at_]; exact ⟨.tru v, rfl, ⟨trivial, fun lk _ _ => Ck.tru⟩, Nat.zero_le _, fun _ => ⟨Kd.size_pos _, Nat.zero_le _⟩⟩⟩
theorem s_less (I : Inv1 NS NO o c i E (.tru)) : Shp op lo NS NO o c i E (.tru) false 1 (.tup [.at (.str "less"), .hole (.num) [], .hole (.num) []]) := by
  exact ⟨⟨wdOk (by decide +kernel) (by decide +kernel), rfl, trivial, trivial, trivial⟩, ⟨by show 3 ≤ 200; decide, trivial, trivial, trivial, trivial⟩, (by show max 0 (max (0) (max (0) (0))) + 1 ≤ _; omega), ⟨trivial, ⟨⟨by show 0 ≤ 2; decide, I.next0 .num (.inr fun w => by cases w)⟩, fun h => by cases h⟩, ⟨⟨by show 0 ≤ 2; decide, I.next0 .num (.inr fun w => by cases w)⟩, fun h => by cases h⟩, trivial⟩, fun X D r hx0 hr => GX.upE (sh_less (nX hx0) hr) (by omega)⟩
theorem s_alike {z x : Str} (hz : z ∈ lo) (hf : (x, .opn z) ∈ E) (I : Inv1 NS NO o c i E (.tru)) : Shp op lo NS NO o c i E (.tru) false 1 (.tup [.at (.str "alike"), .hole (.opn z) [], .hole (.opn z) []]) := by
  exact ⟨⟨wdOk (by decide +kernel) (by decide +kernel), rfl, trivial, trivial, trivial⟩, ⟨by show 3 ≤ 200; decide, trivial, trivial, trivial, trivial⟩, (by show max 0 (max (0) (max (0) (0))) + 1 ≤ _; omega), ⟨trivial, ⟨⟨by show 0 ≤ 2; decide, I.next0 ((I.ee _ hf).2.2.wn rfl) (I.oE hf)⟩, fun h => by cases h⟩, ⟨⟨by show 0 ≤ 2; decide, I.next0 ((I.ee _ hf).2.2.wn rfl) (I.oE hf)⟩, fun h => by cases h⟩, trivial⟩, fun X D r hx0 hr => GX.upE (sh_alike (nX hx0) hz hr) (by omega)⟩
theorem s_pair (I : Inv1 NS NO o c i E (.pair a b)) : Shp op lo NS NO o c i E (.pair a b) true 1 (.tup [.at (.str "pair"), .hole (a) [], .hole (b) []]) := by
  obtain ⟨n1, n2⟩ := I.wk.notFn
  obtain ⟨da, db⟩ := Bool.and_eq_true_iff.mp (I.wk.dat rfl).1
  exact ⟨⟨wdOk (by decide +kernel) (by decide +kernel), rfl, trivial, trivial, trivial⟩, ⟨by show 3 ≤ 200; decide, trivial, trivial, trivial, trivial⟩, (by show max 0 (max (0) (max (0) (0))) + 1 ≤ _; omega), ⟨trivial, ⟨⟨by show 0 ≤ 2; decide, I.next0 I.wk.pr1 (I.oK.imp id fun u w => u (List.mem_append_left _ w))⟩, fun _ => by rw [Kd.mu_dat da]; show _ < max a.dp b.dp + 1; omega⟩, ⟨⟨by show 0 ≤ 2; decide, I.next0 I.wk.pr2 (I.oK.imp id fun u w => u (List.mem_append_right _ w))⟩, fun _ => by rw [Kd.mu_dat db]; show _ < max a.dp b.dp + 1; omega⟩, trivial⟩, fun X D r hx0 hr => GX.upE (sh_pair (I.wk.pr1.kw n1) (I.wk.pr2.kw n2) n1 n2 hr) (by omega)⟩
theorem s_left (I : Inv1 NS NO o c i E (.eith a b)) : Shp op lo NS NO o c i E (.eith a b) true 10 (.tup [.at (.str "left"), .hole (a) [], Kd.sd (b)]) := by
  obtain ⟨n1, n2⟩ := I.wk.notFnE
  obtain ⟨da, db⟩ := Bool.and_eq_true_iff.mp (I.wk.dat rfl).1
  have dp := (I.wk.dat rfl).2
  rw [Kd.dp] at dp
  exact ⟨⟨wdOk (by decide +kernel) (by decide +kernel), rfl, trivial, Kd.sd_ok _, trivial⟩, ⟨by show 3 ≤ 200; decide, trivial, trivial, Kd.sd_few _, trivial⟩, (by show max 0 (max (0) (max ((Kd.sd (b)).ht) (0))) + 1 ≤ _; have := Kd.sd_ht (b); have := @db_le i; omega), ⟨trivial, ⟨⟨by show 0 ≤ 2; decide, I.next0 I.wk.ei1 (I.oK.imp id fun u w => u (List.mem_append_left _ w))⟩, fun _ => by rw [Kd.mu_dat da]; show _ < max a.dp b.dp + 1; omega⟩, Kd.sd_all _ _, trivial⟩, fun X D r hx0 hr => GX.upE (sh_left (I.wk.ei1.kw n1) (I.wk.ei2.kw n2) n1 n2 hr) (by omega)⟩
theorem s_right (I : Inv1 NS NO o c i E (.eith a b)) : Shp op lo NS NO o c i E (.eith a b) true 10 (.tup [.at (.str "right"), Kd.sd (a), .hole (b) []]) := by
  obtain ⟨n1, n2⟩ := I.wk.notFnE
  obtain ⟨da, db⟩ := Bool.and_eq_true_iff.mp (I.wk.dat rfl).1
  have dp := (I.wk.dat rfl).2
  rw [Kd.dp] at dp
  exact ⟨⟨wdOk (by decide +kernel) (by decide +kernel), rfl, Kd.sd_ok _, trivial, trivial⟩, ⟨by show 3 ≤ 200; decide, trivial, Kd.sd_few _, trivial, trivial⟩, (by show max 0 (max ((Kd.sd (a)).ht) (max (0) (0))) + 1 ≤ _; have := Kd.sd_ht (a); have := @db_le i; omega), ⟨trivial, Kd.sd_all _ _, ⟨⟨by show 0 ≤ 2; decide, I.next0 I.wk.ei2 (I.oK.imp id fun u w => u (List.mem_append_right _ w))⟩, fun _ => by rw [Kd.mu_dat db]; show _ < max a.dp b.dp + 1; omega⟩, trivial⟩, fun X D r hx0 hr => GX.upE (sh_right (I.wk.ei1.kw n1) (I.wk.ei2.kw n2) n1 n2 hr) (by omega)⟩
theorem s_none (I : Inv1 NS NO o c i E (.lst a)) : Shp op lo NS NO o c i E (.lst a) true 10 (.tup [.at (.str "none"), Kd.sd (a)]) := by
  have n1 := I.wk.notFnL
  have dp := (I.wk.dat rfl).2
  rw [Kd.dp] at dp
  exact ⟨⟨wdOk (by decide +kernel) (by decide +kernel), rfl, Kd.sd_ok _, trivial⟩, ⟨by show 2 ≤ 200; decide, trivial, Kd.sd_few _, trivial⟩, (by show max 0 (max ((Kd.sd (a)).ht) (0)) + 1 ≤ _; have := Kd.sd_ht (a); have := @db_le i; omega), ⟨trivial, Kd.sd_all _ _, trivial⟩, fun X D r hx0 hr => GX.upE (sh_none (I.wk.ls.kw n1) n1 hr) (by omega)⟩
theorem s_more (I : Inv1 NS NO o c i E (.lst a)) : Shp op lo NS NO o c i E (.lst a) false 1 (.tup [.at (.str "more"), .hole (a) [], .hole (.lst a) []]) := by
  have n1 := I.wk.notFnL
  have dp := (I.wk.dat rfl).2
  rw [Kd.dp] at dp
  exact ⟨⟨wdOk (by decide +kernel) (by decide +kernel), rfl, trivial, trivial, trivial⟩, ⟨by show 3 ≤ 200; decide, trivial, trivial, trivial, trivial⟩, (by show max 0 (max (0) (max (0) (0))) + 1 ≤ _; omega), ⟨trivial, ⟨⟨by show 0 ≤ 2; decide, I.next0 I.wk.ls I.oK⟩, fun h => by cases h⟩, ⟨⟨by show 0 ≤ 2; decide, I.next0 I.wk.up I.oK⟩, fun h => by cases h⟩, trivial⟩, fun X D r hx0 hr => GX.upE (sh_more (nX hx0) (I.wk.ls.kw n1) hr) (by omega)⟩
theorem s_fault (nf : k.isFn = false) (I : Inv1 NS NO o c i E (k)) : Shp op lo NS NO o c i E (k) true 10 (.tup [.at (.str "fault"), Kd.sd (k)]) := by
  have dp := (I.wk.dat nf).2
  exact ⟨⟨wdOk (by decide +kernel) (by decide +kernel), rfl, Kd.sd_ok _, trivial⟩, ⟨by show 2 ≤ 200; decide, trivial, Kd.sd_few _, trivial⟩, (by show max 0 (max ((Kd.sd (k)).ht) (0)) + 1 ≤ _; have := Kd.sd_ht (k); have := @db_le i; omega), ⟨trivial, Kd.sd_all _ _, trivial⟩, fun X D r hx0 hr => GX.upE (sh_fault (I.wk.kw nf) nf hr) (by omega)⟩
theorem s_name {z : Str} (hz : putAll Ek.none E z = some k) (nz : Nm z) (lz : z.length ≤ 100) : Shp op lo NS NO o c i E (k) true 1 (.tup [.at (.str "name"), .at (.str z)]) := by
  exact ⟨⟨wdOk (by decide +kernel) (by decide +kernel), rfl, rfl, trivial⟩, ⟨by show 2 ≤ 200; decide, trivial, trivial, trivial⟩, (by show max 0 (max (0) (0)) + 1 ≤ _; omega), ⟨trivial, trivial, trivial⟩, fun X D r hx0 hr => by obtain ⟨x, rfl, h⟩ := hr.of1; rw [h.at_]; exact ⟨.name z, rfl, ⟨nz, fun lk _ _ => Ck.name hz lz⟩, Nat.zero_le _, fun _ => ⟨Kd.size_pos _, Nat.zero_le _⟩⟩⟩
theorem s_capp {h : Nat} {s : Sd} {k0 : Kd} (I : Inv1 NS NO o c i E k0) (S : Shp op lo NS NO o c i E (.fn a k) false h s) (w : Wn NO (i - 1) a) (ho : c ∈ E.map (·.1) ∨ o ∉ a.opens) : Shp op lo NS NO o c i E k false (h + 1) (.tup [.at (.str "call"), s, .hole a []]) := by
  refine ⟨⟨wdOk (by decide +kernel) (by decide +kernel), rfl, S.ok, trivial, trivial⟩, ⟨by show 3 ≤ 200; decide, trivial, S.few, trivial, trivial⟩, (by have := S.ht; show max 0 (max s.ht (max 0 0)) + 1 ≤ _; omega), ⟨trivial, Sd.all_imp (fun k bs z => ⟨z.1, fun h => by cases h⟩) _ S.all, ⟨⟨by show 0 ≤ 2; decide, I.next0 w ho⟩, fun h => by cases h⟩, trivial⟩, fun X D r hx0 hr => ?_⟩
  obtain ⟨_, _, rfl, h1, h2⟩ := hr.of2
  obtain ⟨t1, rfl, g1, e1, x1⟩ := S.fil X D _ hx0 h1
  obtain ⟨t2, rfl, g2, e2, x2⟩ := h2.hole_
  refine ⟨.call t1 t2, rfl, ⟨⟨g1.1, g2.1⟩, fun lk a b => Ck.call (g1.2 lk a b) (g2.e0.2 lk a b)⟩, ?_, fun q => by cases hx0 q⟩
  simp only [Tm.dp]
  omega
theorem s_if (I : Inv1 NS NO o c i E (k)) : Shp op lo NS NO o c i E (k) false 1 (.tup [.at (.str "if"), .hole (.tru) [], .hole (k) [], .hole (k) []]) := by
  exact ⟨⟨wdOk (by decide +kernel) (by decide +kernel), rfl, trivial, trivial, trivial, trivial⟩, ⟨by show 4 ≤ 200; decide, trivial, trivial, trivial, trivial, trivial⟩, (by show max 0 (max (0) (max (0) (max (0) (0)))) + 1 ≤ _; omega), ⟨trivial, ⟨⟨by show 0 ≤ 2; decide, I.next0 .tru (.inr fun w => by cases w)⟩, fun h => by cases h⟩, ⟨⟨by show 0 ≤ 2; decide, I.next0 I.wk.up I.oK⟩, fun h => by cases h⟩, ⟨⟨by show 0 ≤ 2; decide, I.next0 I.wk.up I.oK⟩, fun h => by cases h⟩, trivial⟩, fun X D r hx0 hr => GX.upE (sh_if (nX hx0) hr) (by omega)⟩
theorem s_fst (w : Wn NO (i - 1) (.pair k b)) (ho : c ∈ E.map (·.1) ∨ o ∉ Kd.opens (.pair k b)) (I : Inv1 NS NO o c i E (k)) : Shp op lo NS NO o c i E (k) false 1 (.tup [.at (.str "first"), .hole (.pair k b) []]) := by
  exact ⟨⟨wdOk (by decide +kernel) (by decide +kernel), rfl, trivial, trivial⟩, ⟨by show 2 ≤ 200; decide, trivial, trivial, trivial⟩, (by show max 0 (max (0) (0)) + 1 ≤ _; omega), ⟨trivial, ⟨⟨by show 0 ≤ 2; decide, I.next0 w ho⟩, fun h => by cases h⟩, trivial⟩, fun X D r hx0 hr => GX.upE (sh_fst (nX hx0) hr) (by omega)⟩
theorem s_snd (w : Wn NO (i - 1) (.pair a k)) (ho : c ∈ E.map (·.1) ∨ o ∉ Kd.opens (.pair a k)) (I : Inv1 NS NO o c i E (k)) : Shp op lo NS NO o c i E (k) false 1 (.tup [.at (.str "second"), .hole (.pair a k) []]) := by
  exact ⟨⟨wdOk (by decide +kernel) (by decide +kernel), rfl, trivial, trivial⟩, ⟨by show 2 ≤ 200; decide, trivial, trivial, trivial⟩, (by show max 0 (max (0) (0)) + 1 ≤ _; omega), ⟨trivial, ⟨⟨by show 0 ≤ 2; decide, I.next0 w ho⟩, fun h => by cases h⟩, trivial⟩, fun X D r hx0 hr => GX.upE (sh_snd (nX hx0) hr) (by omega)⟩
theorem s_case {x y : Str} (T : Tl op lo NS NO o c n ns) (hx : x ∈ ns) (hy : y ∈ ns) (w : Wn NO (i - 1) (.eith a b)) (ka : Kn1 NO (i - 1) a) (kb : Kn1 NO (i - 1) b) (ho : c ∈ E.map (·.1) ∨ o ∉ Kd.opens (.eith a b)) (I : Inv1 NS NO o c i E (k)) : Shp op lo NS NO o c i E (k) false 1 (.tup [.at (.str "case"), .hole (.eith a b) [], .at (.str x), .hole (k) [(x, a)], .at (.str y), .hole (k) [(y, b)]]) := by
  exact ⟨⟨wdOk (by decide +kernel) (by decide +kernel), rfl, trivial, rfl, trivial, rfl, trivial, trivial⟩, ⟨by show 6 ≤ 200; decide, trivial, trivial, trivial, trivial, trivial, trivial, trivial⟩, (by show max 0 (max (0) (max (0) (max (0) (max (0) (max (0) (0)))))) + 1 ≤ _; omega), ⟨trivial, ⟨⟨by show 0 ≤ 2; decide, I.next0 w ho⟩, fun h => by cases h⟩, trivial, ⟨⟨by show 1 ≤ 2; decide, I.next1 (T.nS x hx) ka I.wk.up (mrg I.oK ho fun u v => ⟨u, fun w => v (List.mem_append_left _ w)⟩)⟩, fun h => by cases h⟩, trivial, ⟨⟨by show 1 ≤ 2; decide, I.next1 (T.nS y hy) kb I.wk.up (mrg I.oK ho fun u v => ⟨u, fun w => v (List.mem_append_right _ w)⟩)⟩, fun h => by cases h⟩, trivial⟩, fun X D r hx0 hr => GX.upE (sh_case (nX hx0) (T.nS x hx).1 (T.nS x hx).2 (T.nS y hy).1 (T.nS y hy).2 hr) (by omega)⟩
theorem s_fold {x y : Str} (T : Tl op lo NS NO o c n ns) (hx : x ∈ ns) (hy : y ∈ ns) (ne : x ≠ y) (nf : k.isFn = false) (w : Wn NO (i - 1) (.lst a)) (ka : Kn1 NO (i - 1) a) (ho : c ∈ E.map (·.1) ∨ o ∉ Kd.opens (a)) (I : Inv1 NS NO o c i E (k)) : Shp op lo NS NO o c i E (k) false 1 (.tup [.at (.str "fold"), .hole (.lst a) [], .hole (k) [], .at (.str x), .at (.str y), .hole (k) [(x, a), (y, k)]]) := by
  exact ⟨⟨wdOk (by decide +kernel) (by decide +kernel), rfl, trivial, trivial, rfl, rfl, trivial, trivial⟩, ⟨by show 6 ≤ 200; decide, trivial, trivial, trivial, trivial, trivial, trivial, trivial⟩, (by show max 0 (max (0) (max (0) (max (0) (max (0) (max (0) (0)))))) + 1 ≤ _; omega), ⟨trivial, ⟨⟨by show 0 ≤ 2; decide, I.next0 w ho⟩, fun h => by cases h⟩, ⟨⟨by show 0 ≤ 2; decide, I.next0 I.wk.up I.oK⟩, fun h => by cases h⟩, trivial, trivial, ⟨⟨by show 2 ≤ 2; decide, I.next2 (T.nS x hx) ka (T.nS y hy) (I.wk.kn nf I.i4) I.wk.up ((mrg I.oK ho fun u v => (⟨u, v, u⟩ : o ∉ k.opens ∧ o ∉ a.opens ∧ o ∉ k.opens)).imp .inl id)⟩, fun h => by cases h⟩, trivial⟩, fun X D r hx0 hr => GX.upE (sh_fold (nX hx0) (T.nS x hx).1 (T.nS x hx).2 (T.nS y hy).1 (T.nS y hy).2 ne nf hr) (by omega)⟩
theorem s_rounds {x : Str} {m : Int} (T : Tl op lo NS NO o c n ns) (hx : x ∈ ns) (hm : 1 ≤ m ∧ m ≤ 30) (na : a.isFn = false) (w : Wn NO (i - 1) a) (ka : Kn1 NO (i - 1) a) (w2 : Wn NO (i - 1) (.eith a k)) (ho : c ∈ E.map (·.1) ∨ o ∉ Kd.opens (a)) (I : Inv1 NS NO o c i E (k)) : Shp op lo NS NO o c i E (k) false 1 (.tup [.at (.str "rounds"), .at (.int m), .hole (a) [], .at (.str x), .hole (.eith a k) [(x, a)]]) := by
  exact ⟨⟨wdOk (by decide +kernel) (by decide +kernel), rfl, rfl, trivial, rfl, trivial, trivial⟩, ⟨by show 5 ≤ 200; decide, trivial, trivial, trivial, trivial, trivial, trivial⟩, (by show max 0 (max (0) (max (0) (max (0) (max (0) (0))))) + 1 ≤ _; omega), ⟨trivial, trivial, ⟨⟨by show 0 ≤ 2; decide, I.next0 w ho⟩, fun h => by cases h⟩, trivial, ⟨⟨by show 1 ≤ 2; decide, I.next1 (T.nS x hx) ka w2 (mrg I.oK ho fun u v => ⟨fun w => (List.mem_append.mp w).elim v u, v⟩)⟩, fun h => by cases h⟩, trivial⟩, fun X D r hx0 hr => GX.upE (sh_rounds (nX hx0) hm (T.nS x hx).1 (T.nS x hx).2 na hr) (by omega)⟩
theorem s_call {x : Str} (T : Tl op lo NS NO o c n ns) (hx : x ∈ ns) (nf : k.isFn = false) (w : Wn NO (i - 1) a) (ka : Kn1 NO (i - 1) a) (ho : c ∈ E.map (·.1) ∨ o ∉ Kd.opens (a)) (I : Inv1 NS NO o c i E (k)) : Shp op lo NS NO o c i E (k) false 11 (.tup [.at (.str "call"), .tup [.at (.str "fun"), .at (.str x), Kd.sd a, .hole k [(x, a)]], .hole (a) []]) := by
  exact ⟨⟨wdOk (by decide +kernel) (by decide +kernel), rfl, ⟨wdOk (by decide +kernel) (by decide +kernel), rfl, rfl, Kd.sd_ok _, trivial, trivial⟩, trivial, trivial⟩, ⟨by show 3 ≤ 200; decide, trivial, ⟨by show 4 ≤ 200; decide, trivial, trivial, Kd.sd_few _, trivial, trivial⟩, trivial, trivial⟩, (by show max 0 (max ((max 0 (max (0) (max ((Kd.sd (a)).ht) (max (0) (0)))) + 1)) (max (0) (0))) + 1 ≤ _; have := Kd.sd_ht (a); have := ka.dp; have := @db_le (i - 1); omega), ⟨trivial, ⟨trivial, trivial, Kd.sd_all _ _, ⟨⟨by show 1 ≤ 2; decide, I.next1 (T.nS x hx) ka I.wk.up (mrg I.oK ho fun u v => ⟨u, v⟩)⟩, fun h => by cases h⟩, trivial⟩, ⟨⟨by show 0 ≤ 2; decide, I.next0 w ho⟩, fun h => by cases h⟩, trivial⟩, fun X D r hx0 hr => GX.upE (sh_call (nX hx0) (T.nS x hx).1 (T.nS x hx).2 ka.kw (I.wk.kw nf) hr) (by omega)⟩
theorem s_built (T : Tl op lo NS NO o c n ns) (h0 : 0 < i) (lc : c.length < 9) (nc : c ∉ E.map (·.1)) (I : Inv1 NS NO o c i E (.lst a)) : Shp op lo NS NO o c i E (.lst a) false 10 (.tup [.at (.str "built"), Kd.sd (a), .at (.str o), .at (.str c), .at (.str n), .hole (.opn o) [(c, .fn a (.fn (.opn o) (.opn o))), (n, .opn o)]]) := by
  have n1 := I.wk.notFnL
  have dp := (I.wk.dat rfl).2
  rw [Kd.dp] at dp
  obtain ⟨q1, q2, q3, q4⟩ := T.cs lc
  have ow := I.ow.resolve_left nc
  have da := (I.wk.dat rfl).1
  have sz := I.wk.sz
  rw [Kd.size_ls] at sz
  have wu := wb_u3 I.i4 h0
  have oN : ∀ x ∈ [o], x ∈ NO := fun x hx => by rw [List.mem_singleton.mp hx]; exact T.oN
  have oM : ∀ x ∈ [o], Nm x := fun x hx => by rw [List.mem_singleton.mp hx]; exact T.om
  have d3 := @db_3 (i - 1)
  have du := @db_up i
  have ko : Kn1 NO (i - 1) (.opn o) := .of rfl (by have := @ub_1 (i - 1); show 1 ≤ _; omega) oN oM (Nat.zero_le _)
  have wo : Wn NO (i - 1) (.opn o) := .of rfl (by have := @wb_55 (i - 1); show 1 ≤ _; omega) oN oM (Nat.zero_le _)
  have kc : Kn1 NO (i - 1) (.fn a (.fn (.opn o) (.opn o))) := by
    refine ⟨?_, fun x hx => ?_, fun x hx => ?_, Hk.fn da (Hk.fn rfl (Hk.dat rfl)), ?_⟩
    · rw [Kd.size_fn, Kd.size_fn]
      show a.size + (1 + 1 + 1) + 1 ≤ _
      omega
    · rcases List.mem_append.mp hx with w | w
      · exact I.wk.op x w
      · exact (List.mem_append.mp w).elim (oN x) (oN x)
    · rcases List.mem_append.mp hx with w | w
      · exact I.wk.nm x w
      · exact (List.mem_append.mp w).elim (oM x) (oM x)
    · show max a.dp (max 0 0 + 1) + 1 ≤ _
      omega
  exact ⟨⟨wdOk (by decide +kernel) (by decide +kernel), rfl, Kd.sd_ok _, rfl, rfl, rfl, trivial, trivial⟩, ⟨by show 6 ≤ 200; decide, trivial, Kd.sd_few _, trivial, trivial, trivial, trivial, trivial⟩, (by show max 0 (max ((Kd.sd (a)).ht) (max (0) (max (0) (max (0) (max (0) (0)))))) + 1 ≤ _; have := Kd.sd_ht (a); have := @db_le i; omega), ⟨trivial, Kd.sd_all _ _, trivial, trivial, trivial, ⟨⟨by show 2 ≤ 2; decide, I.next2 ⟨q1, q2⟩ kc ⟨q3, q4⟩ ko wo (.inl (.inr rfl))⟩, fun h => by cases h⟩, trivial⟩, fun X D r hx0 hr => GX.upE (sh_built (nX hx0) q1 q2 q3 q4 T.cn T.oN T.om (I.wk.ls.kw n1) n1 T.oo ow.1 (fun z q hz => (putAll_mem hz).elim (fun u => by cases u) fun ⟨f, hf, _, e⟩ => by rw [← e]; exact ow.2 f hf) hr) (by omega)⟩
end
end Kq
/-! dict(l) of a list of pairs as a dict that stays, dict(zip(a, b)), comprehensions over items -/
namespace Kt
open PySem PySem.Spec PyProof.Rows L2
section
variable {X : Cx}
/-- dict(l) of a list of pairs: the object is known -/
theorem call_dictPF (hcalm : X.calm = true) : CallR X (.type "dict") (fun xs H Q => ∃ (a : Addr) (ps : List Addr) (kvs : List (Key × V)), xs = [.ref a] ∧ SqL X.K H a (ps.map V.ref) ∧ Paired (fun p kv => SqT X.K H p [kV kv.1, kv.2]) ps kvs ∧
    ∀ p o, H p = none → Q (.ref p) (upd H p (.frz o (.dK (mergeK [] kvs))))) := by
  intro pins s σ H xs us Q I r q
  obtain ⟨a, ps, kvs, ex, hq, hp, q⟩ := q
  subst ex
  obtain ⟨u, eu, rx⟩ := vals1 r
  subst eu
  cases rx
  obtain ⟨its, rv, pl, hz⟩ := I.list hq
  have ei := refs_at rv
  subst ei
  rw [List.length_map] at hz
  obtain ⟨prs, raws, rel, hl, hl2, hpr⟩ := raws_of I hp
  have PA := PairArg.list (prog := X.prog) (w := X.w) a (ps.map Value.ref).toArray (fun j => (ps[j]?).getD 0) raws
  refine PySem.call_dict_pairs (knd := mixKind X.prog X.w) (kvs := prs) PA (I.ok.hd hcalm) ⟨?_, by simp [hl2], fun j k v e => ?_⟩ ⟨by rw [hl, hl2], fun i key v e => ?_⟩ (by rw [hl2]; exact hz) fun h' tk hd' k => ?_
  · obtain ⟨o, n, h1, h2, h3, h4⟩ := pl
    exact ⟨o, n, h1, h2, h3, h4⟩
  · obtain ⟨b, kk, e1, e2, e3, e4⟩ := hpr j k v e
    refine ⟨by simp [e1], .inl ?_⟩
    show s.heap.IsTuple ((ps[j]?).getD 0) #[k, v]
    rw [e1]
    exact e2
  · obtain ⟨b, kk, e1, e2, e3, e4⟩ := hpr i key v e
    exact ⟨kk, e3, e4⟩
  · have hm : (s.heap.objs.size == sysModules) = false := beq_eq_false_iff_ne.mpr (Nat.ne_of_gt I.big)
    have hlen : (mergeK [] kvs).length ≤ sizeLine := by
      refine Nat.le_trans (length_mergeK kvs []) ?_
      rw [List.length_nil, Nat.zero_add, rel.length, hl]
      exact hz
    obtain ⟨o, ho⟩ : ∃ o, h'.get? s.heap.objs.size = some o := by
      obtain ⟨o, _, _, h1, _⟩ := hd'
      exact ⟨o, h1⟩
    exact ⟨.ref s.heap.objs.size, upd H s.heap.objs.size (.frz o (.dK (mergeK [] kvs))), I.laid (t' := tk) (fun b o e => k b o (by simp) e) (Nat.le_refl _) (show ObjOk X.prog X.w _ _ _ (.frz o (.dK (mergeK [] kvs))) from ⟨ho, hlen, hm, merged [] prs, KV.merge rel .nil, hd'⟩), rfl, q _ _ (I.hok.fresh (Nat.le_refl _))⟩
end
/-- a comprehension over the items of a dict that stays -/
theorem lc_items {d : Addr} {o : Obj} {kvs : List (Key × V)} {g : TG} {tt : TT} {te : TE} {vs : List Nat} {σ : L2.St} {H1 : Hp} {D : Addr} {Qd : Hp → Prop} (Pv : Nat → Hp → Prop) (h0 : Pv 0 (upd H1 D (.lst [])))
    (hl : ∀ i H, i ≤ kvs.length → Pv i H → H d = some (.frz o (.dK kvs)))
    (hs : ∀ (i : Nat) (k : Key) (v : V) (T : Addr) (H : Hp), kvs[i]? = some (k, v) → Pv i H → H T = none →
      g (.ref T) (wipe σ vs) (upd H T (.tup [kV k, v])) fun σ2 H2 => wipe σ2 vs = wipe σ vs ∧ tt σ2 H2 fun b H3 => if b = true then te σ2 H3 fun y H4 => ∃ acc, H4 D = some (.lst acc) ∧ acc.length < sizeLine ∧ Pv (i + 1) (upd H4 D (.lst (acc ++ [y]))) else Pv (i + 1) H3)
    (hd : ∀ H, Pv kvs.length H → Qd H) :
    ∃ W : Nat → Nat → Hp → Prop, (∃ m, W 0 m (upd H1 D (.lst []))) ∧ ∀ (i m : Nat) (H : Hp), W i m H → (Iti d o kvs).stop i H ∧ Qd H ∨ (Iti d o kvs).go i H ∧ ∃ Nx : Hp → Prop, (∀ H', Nx H' → ∃ m', m' < m ∧ W (i + 1) m' H') ∧
      ∀ (x : V) (H' : Hp), (Iti d o kvs).yld i H x H' → g x (wipe σ vs) H' fun σ2 H2 => wipe σ2 vs = wipe σ vs ∧ tt σ2 H2 fun b H3 => if b = true then te σ2 H3 fun y H4 => ∃ acc, H4 D = some (.lst acc) ∧ acc.length < sizeLine ∧ Nx (upd H4 D (.lst (acc ++ [y]))) else Nx H3 := by
  refine ⟨fun i m H => m = kvs.length - i ∧ i ≤ kvs.length ∧ Pv i H, ⟨kvs.length, rfl, Nat.zero_le _, h0⟩, fun i m H z => ?_⟩
  obtain ⟨rfl, hi, p⟩ := z
  have q := hl i H hi p
  by_cases hlt : i < kvs.length
  · refine .inr ⟨⟨q, hlt⟩, Pv (i + 1), fun H' p' => ⟨kvs.length - (i + 1), by omega, rfl, hlt, p'⟩, fun x H' y => ?_⟩
    obtain ⟨T, k, v, e1, rfl, e2, rfl⟩ := y
    exact hs i k v T H e1 p e2
  · have e : i = kvs.length := by omega
    subst e
    exact .inl ⟨⟨q, Nat.le_refl _⟩, hd H p⟩
end Kt
/-! list(d.values()) -/
namespace Kt
open PySem PySem.Spec PyProof.Rows L2
def tListVals (td : TE) : TE := fun σ H Q => td σ H fun x H1 => ∃ a kvs, x = V.ref a ∧ Rd H1 a (.dK kvs) ∧ ∀ l, H1 l = none → Q (.ref l) (upd H1 l (.lst (kvs.map (·.2))))
theorem vals_of_at : ∀ {xs : List V} {us : List Value}, us.length = xs.length → (∀ (i : Nat) (u : Value), us[i]? = some u → ∃ x, xs[i]? = some x ∧ RelV x u) → Vals xs us
  | [], [], _, _ => .nil
  | [], _ :: _, h, _ => by simp at h
  | _ :: _, [], h, _ => by simp at h
  | x :: xs, u :: us, h, q => by
    obtain ⟨y, e, r⟩ := q 0 u rfl
    cases e
    exact .cons r (vals_of_at (by simpa using h) fun i w hw => by simpa using q (i + 1) w (by simpa using hw))
section
variable {X : Cx} {o : Expr} {p pos apos mpos : Pos} {td : TE}
theorem pe_listVals (hc : X.calm = true) (hg : Gl X "list") (hm : X.mg "list" = none) (hd : PE X o td) (hbase : attributeBase o "values" X.env (eval o X.env) = eval o X.env := by rfl) (hline : (apos.endLine == mpos.line) = true := by rfl)
    (hse : starEach [Expr.Call (.Attribute o "values" apos) [] [] mpos] X.env = (false, eval (Expr.Call (.Attribute o "values" apos) [] [] mpos) X.env) :: starEach [] X.env := by rfl) :
    PE X (.Call (.Name "list" p) [.Call (.Attribute o "values" apos) [] [] mpos] [] pos) (tListVals td) := by
  refine ⟨fun pins s σ H Q I h => ?_⟩
  refine Call_ (ld_blt I hg hm PyProof.Rows.boot_list (PyProof.Rows.callWith_type1 (args_cons (wpAny_Call_method0_late hbase hline (thn (hd.run pins s σ H _ I h) fun v s1 ⟨x, H1, I1, r1, a, kvs, ex, ha, q⟩ => ?_)) hse) hse rfl))
  subst ex
  obtain rfl : v = Value.ref a := r1
  obtain ⟨hlk, hsys, vs, rel, dof⟩ := dk_rd I1.hok ha
  obtain ⟨ep, dat⟩ := dof.dictAt
  have dat' := dat
  obtain ⟨ob, es, ho, ex, hdat, hko, hpr, hnd⟩ := dat'
  refine ⟨"dict", "dict.values", F.plainAttrs_dict, F.slot_dict_values, F.type_dict_values, ⟨ob, ho, ex.1⟩, fun b e => ?_, Calls.callWith_builtin rfl (PySem.evalArgs_none ?_)⟩
  · cases e
    exact ⟨ob, ho, ex.2.1⟩
  refine call_meetsIn F.slot_dict_values ⟨ob, ho, ex.1⟩ F.entry_dict_values (F.args_dict_values_1 _) (meets_dict_values (mixKind X.prog X.w) a hsys) ⟨⟨vs, dof⟩, args_nil ?_⟩
  have k1 : ∀ b u, s1.heap.get? b = some u → (s1.heap.push { cls := .type "dict_values", data := .fields #[.ref a] }).get? b = some u := fun b u e => Heap.get?_push_of_some _ e
  have dat1 : (s1.heap.push { cls := .type "dict_values", data := .fields #[.ref a] }).DictAt (mixKind X.prog X.w) a vs ep := dat.keep k1
  have hlv : kvs.length = vs.length := KV.length rel
  have hlt : a < s1.heap.objs.size := Heap.lt_size ho
  refine PySem.W.kdl_call (s := { s1 with heap := s1.heap.push { cls := .type "dict_values", data := .fields #[.ref a] } }) (PySem.W.kdl_values (r := s1.heap.objs.size) (d := a) (ep := ep) (kvs := vs)) (I1.ok.hd hc) ⟨⟨_, Heap.get?_push_size _ rfl, rfl, rfl⟩, dat1⟩ (by omega) fun h' tk acc' c' hk hS hI => ?_
  have hsz : (s1.heap.push { cls := .type "dict_values", data := .fields #[.ref a] }).objs.size = s1.heap.objs.size + 1 := Heap.size_push _ _
  have hle : s1.heap.objs.size ≤ (s1.heap.push { cls := .type "dict_values", data := .fields #[.ref a] }).objs.size := by omega
  refine ⟨.ref _, upd H1 _ (.lst (kvs.map (·.2))), I1.laid (t' := tk) (fun b u e => hk b u (k1 b u e)) hle ?_, rfl, q _ (I1.hok.fresh hle)⟩
  refine ⟨by rw [List.length_map]; omega, acc'.toList, c', ?_, by simpa using hS⟩
  refine vals_of_at (by rw [Array.length_toList, hI.1, List.length_map]; omega) fun i u hu => ?_
  obtain ⟨k, hk2⟩ := hI.2 i u (by simpa using hu)
  obtain ⟨x, h1, h2⟩ := KV.at' rel hk2
  exact ⟨x, by rw [List.getElem?_map, h1]; rfl, h2⟩
end
end Kt
/-! what is known, as a dict -/
namespace Kq
open PySem PySem.Spec PyProof.Rows L2 Kf Kg Kv Kk Ku
theorem wEq {a b : Str} : decide (V.str a = V.str b) = true ↔ a = b := by
  rw [decide_eq_true_iff]
  exact ⟨fun z => by injection z, fun z => by rw [z]⟩
theorem eqK {a b : Kd} (oa : Kok a) : PyData.eqv (toD a) (toD b) = true ↔ a = b := eqv_iff (shT oa.1 oa.2).2
theorem shK {a : Kd} (oa : Kok a) : SeqAt.shaped (toD a) = true := (shT oa.1 oa.2).1
theorem dpK (K : PySem.W.Frag) {H : Hp} {a : Kd} {v : V} (d : Dd Non H a.dt v) : Dp K H v (toD a) := dpT K (rp_of d)
theorem wEi {k : Kd} (h : k.word = "either") : ∃ a b, k = .eith a b := by cases k <;> first | exact ⟨_, _, rfl⟩ | exact absurd h (by rw [Kd.word]; decide +kernel)
theorem wPr {k : Kd} (h : k.word = "pair") : ∃ a b, k = .pair a b := by cases k <;> first | exact ⟨_, _, rfl⟩ | exact absurd h (by rw [Kd.word]; decide +kernel)
theorem wLs {k : Kd} (h : k.word = "list") : ∃ a, k = .lst a := by cases k <;> first | exact ⟨_, rfl⟩ | exact absurd h (by rw [Kd.word]; decide +kernel)
theorem ddTwo {N : Addr → Prop} {H : Hp} {a b : Dt} {us : List V} (h : DdL N H [a, b] us) : ∃ u v, us = [u, v] ∧ Dd N H a u ∧ Dd N H b v := by
  cases h with | cons h1 h2 => cases h2 with | cons h3 h4 => cases h4; exact ⟨_, _, rfl, h1, h3⟩
theorem ddOne {N : Addr → Prop} {H : Hp} {a : Dt} {us : List V} (h : DdL N H [a] us) : ∃ u, us = [u] ∧ Dd N H a u := by
  cases h with | cons h1 h2 => cases h2; exact ⟨_, rfl, h1⟩
theorem Wn.kok {NO : List Str} {i : Int} {k : Kd} (h : Wn NO i k) : Kok k := ⟨h.nm, by have := h.dp; omega⟩
theorem Kn1.kok {NO : List Str} {i : Int} {k : Kd} (h : Kn1 NO i k) : Kok k := ⟨h.nm, by have := h.dp; have := @db_le i; omega⟩
/-- a name with its kind, in a dict -/
def EkR (G : Hp) (f : Str × Kd) (kv : Key × V) : Prop := kv.1 = .inr f.1 ∧ Dd Non G f.2.dt kv.2
theorem ep_args {K : PySem.W.Frag} {G : Hp} : ∀ {E : List (Str × Kd)} {us : List V}, Paired (PRd G) E us → ∃ (ps : List Addr) (kvs : List (Key × V)), us = ps.map V.ref ∧ Paired (fun p kv => SqT K G p [kV kv.1, kv.2]) ps kvs ∧ Paired (EkR G) E kvs
  | _, _, .nil => ⟨[], [], rfl, .nil, .nil⟩
  | _, _, .cons (a := f) h t => by
    obtain ⟨ps, kvs, e, p, q⟩ := ep_args (K := K) t
    obtain ⟨a, v, e2, g, d⟩ := h
    exact ⟨a :: ps, (.inr f.1, v) :: kvs, by rw [e, e2]; rfl, .cons (SqT.of g) p, .cons ⟨rfl, d⟩ q⟩
/-- each of these is told of by e -/
def AllE (G : Hp) (e : Ek) (E0 : List (Str × Kd)) (kvs : List (Key × V)) : Prop := ∀ q ∈ kvs, ∃ z k, q.1 = .inr z ∧ Dd Non G k.dt q.2 ∧ e z = some k ∧ (z, k) ∈ E0
theorem AllE.put {G : Hp} {e : Ek} {E0 : List (Str × Kd)} {kvs : List (Key × V)} {x : Str} {k : Kd} {v : V} (h : AllE G e E0 kvs) (d : Dd Non G k.dt v) (m : (x, k) ∈ E0) : AllE G (e.put x k) E0 (putK kvs (.inr x) v) := by
  intro q hq
  rw [putK] at hq
  split at hq
  · obtain ⟨p, hp, rfl⟩ := List.mem_map.mp hq
    by_cases c : p.1 = .inr x
    · rw [if_pos c]
      exact ⟨x, k, c, d, Ek.put_eq _ _ _, m⟩
    · rw [if_neg c]
      obtain ⟨z, k', e1, d', e2, m'⟩ := h p hp
      exact ⟨z, k', e1, d', by rw [Ek.put_ne (fun w => c (by rw [e1, w]))]; exact e2, m'⟩
  · rename_i hn
    rcases List.mem_append.mp hq with h' | h'
    · obtain ⟨z, k', e1, d', e2, m'⟩ := h q h'
      refine ⟨z, k', e1, d', ?_, m'⟩
      rw [Ek.put_ne (fun w => hn (List.any_eq_true.mpr ⟨q, h', ?_⟩))]
      · exact e2
      · rw [e1, w]
        exact decide_eq_true rfl
    · rw [List.mem_singleton.mp h']
      exact ⟨x, k, rfl, d, Ek.put_eq _ _ _, m⟩
theorem AllE.merge {G : Hp} {E0 : List (Str × Kd)} : ∀ {E : List (Str × Kd)} {kvs : List (Key × V)} {acc : List (Key × V)} {e : Ek}, Paired (EkR G) E kvs → (∀ f ∈ E, f ∈ E0) → AllE G e E0 acc → AllE G (putAll e E) E0 (mergeK acc kvs)
  | _, _, _, _, .nil, _, h => h
  | f :: E, kv :: kvs, acc, e, .cons h t, m, a => by
    obtain ⟨k0, v⟩ := kv
    obtain ⟨rfl, d⟩ := h
    exact AllE.merge (E := E) (kvs := kvs) t (fun g hg => m g (List.mem_cons_of_mem _ hg)) (a.put d (m f List.mem_cons_self))
theorem AllE.of {G : Hp} {E : List (Str × Kd)} {kvs : List (Key × V)} (h : Paired (EkR G) E kvs) : AllE G (putAll Ek.none E) E (mergeK [] kvs) := AllE.merge h (fun _ z => z) fun q hq => by cases hq
theorem AllE.same {G F : Hp} {e : Ek} {E : List (Str × Kd)} {kvs : List (Key × V)} (h : AllE G e E kvs) (s : Same G F) : AllE F e E kvs := fun q hq => by
  obtain ⟨z, k, a, b, c, d⟩ := h q hq
  exact ⟨z, k, a, b.same s, c, d⟩
theorem AllE.kn {G F : Hp} {e : Ek} {E : List (Str × Kd)} {kvs : List (Key × V)} (h : AllE G e E kvs) (s : Kv.Kn Non G F) : AllE F e E kvs := fun q hq => by
  obtain ⟨z, k, a, b, c, d⟩ := h q hq
  exact ⟨z, k, a, b.kn s, c, d⟩
theorem merge_le (kvs : List (Key × V)) : (mergeK [] kvs).length ≤ kvs.length := by
  have z := length_mergeK kvs []
  rw [List.length_nil, Nat.zero_add] at z
  exact z
/-- which names are there -/
theorem merge_has {G : Hp} {z : Str} : ∀ {E : List (Str × Kd)} {kvs : List (Key × V)} {acc : List (Key × V)}, Paired (EkR G) E kvs → (valV (mergeK acc kvs) (.inr z) = none ↔ valV acc (.inr z) = none ∧ z ∉ E.map (·.1))
  | _, _, acc, .nil => ⟨fun h => ⟨h, fun w => by cases w⟩, fun h => h.1⟩
  | f :: E, kv :: kvs, acc, .cons h t => by
    obtain ⟨k0, v⟩ := kv
    obtain ⟨rfl, d⟩ := h
    rw [show mergeK acc ((.inr f.1, v) :: kvs) = mergeK (putK acc (.inr f.1) v) kvs from rfl, merge_has t, valV_put, List.map_cons, List.mem_cons, not_or]
    by_cases c : z = f.1
    · rw [if_pos (by rw [c])]
      exact ⟨fun w => (by cases w.1), fun w => absurd c w.2.1⟩
    · rw [if_neg (fun w => c (Sum.inr.inj w))]
      exact ⟨fun w => ⟨w.1, c, w.2⟩, fun w => ⟨w.1, w.2.2⟩⟩
theorem merge_hasE {G : Hp} {z : Str} {E : List (Str × Kd)} {kvs : List (Key × V)} (h : Paired (EkR G) E kvs) : valV (mergeK [] kvs) (.inr z) = none ↔ z ∉ E.map (·.1) := by
  rw [merge_has h]
  exact ⟨fun w => w.2, fun w => ⟨rfl, w⟩⟩
/-- shapes, as they stand -/
theorem shapes_get {H : Hp} {ss : List Sd} {ws : List V} (h : DdL Non H (ss.map Sd.dt) ws) {v : V} (m : v ∈ ws) : ∃ s ∈ ss, Dd Non H s.dt v := by
  obtain ⟨j, hj⟩ := List.getElem?_of_mem m
  obtain ⟨y, hy, dy⟩ := h.get hj
  rw [List.getElem?_map] at hy
  obtain ⟨s, hs, rfl⟩ := Option.map_eq_some_iff.mp hy
  exact ⟨s, List.mem_of_getElem? hs, dy⟩
theorem rpl_dd {H : Hp} : ∀ {ts : List Kd} {us : List V}, RpL0 H ts us → DdL Non H (ts.map Kd.dt) us
  | [], [], _ => .nil
  | _ :: _, _ :: _, h => .cons (rp0_dd h.1) (rpl_dd h.2)
  | [], _ :: _, h => h.elim
  | _ :: _, [], h => h.elim
theorem dpAllK (K : PySem.W.Frag) {H : Hp} : ∀ {ts : List Kd} {us : List V}, DdL Non H (ts.map Kd.dt) us → DpAll K H us (ts.map toD)
  | [], _, h => by cases h; exact .nil
  | _ :: _, _, h => by
    cases h with
    | cons a b => exact .cons (dpK K a) (dpAllK K b)
theorem Kd.args_mem {k : Kd} : ∀ {a : Kd}, a ∈ k.args → a.size < k.size ∧ (∀ x ∈ a.opens, x ∈ k.opens) ∧ a.dp ≤ k.dp ∧ (k.isFst = true → a.isDat = true) := by
  induction k with
  | fn p q i j =>
    intro a h
    rcases List.mem_cons.mp h with rfl | h
    · exact ⟨by rw [Kd.size_fn]; omega, fun x hx => List.mem_append_left _ hx, by rw [Kd.dp]; omega, fun w => (Bool.and_eq_true_iff.mp w).1⟩
    · obtain ⟨h1, h2, h3, h4⟩ := j h
      exact ⟨by rw [Kd.size_fn]; omega, fun x hx => List.mem_append_right _ (h2 x hx), by rw [Kd.dp]; omega, fun w => h4 (Bool.and_eq_true_iff.mp w).2⟩
  | _ => intro a h; cases h
theorem Kn1.arg {NO : List Str} {i : Int} {k a : Kd} (h : Kn1 NO i k) (m : a ∈ k.args) : Wn NO (i - 1) a := by
  obtain ⟨h1, h2, h3, h4⟩ := Kd.args_mem m
  exact .of (h4 h.hk.1) (by have := h.sz; have := @ub_wb i; omega) (fun x hx => h.op x (h2 x hx)) (fun x hx => h.nm x (h2 x hx)) (by have := h.dp; have := @db_up i; omega)
/-- how a kind is led to -/
theorem Kd.led (k : Kd) : Kd.ledTo k.args k.res = k := by
  induction k with
  | fn a b i j => show Kd.fn a (Kd.ledTo b.args b.res) = _; rw [j]
  | _ => rfl
theorem Kd.res_le {k : Kd} : (∀ x ∈ k.res.opens, x ∈ k.opens) ∧ k.res.dp ≤ k.dp := by
  induction k with
  | fn a b i j => exact ⟨fun x hx => List.mem_append_right _ (j.1 x hx), by show b.res.dp ≤ max a.dp b.dp + 1; have := j.2; omega⟩
  | _ => exact ⟨fun _ h => h, Nat.le_refl _⟩
section
variable {P : Program} {w : World} {K : PySem.W.Frag} {mg : Str → Option Value} {base : Heap} {NS NO lk : List Str} {cN : Addr}
abbrev tCalls : Stmt := tp 15
abbrev nCalls : List Str := ["_law_known", "_law_kind", "_law_found", "_law_name", "_law_one", "_law_some", "_law_result", "_law_term_here", "_law_each"]
abbrev psCalls : List Str := ["_law_known", "_law_kind"]
theorem scCalls : FnScope nCalls psCalls (defScope tCalls) := ⟨rfl, rfl, rfl, by decide +kernel, rfl, by decide +kernel, by decide +kernel⟩
def spCalls (op lo NS NO : List Str) (oo cc : Str) : Sp := fun vs H Q _ => ∃ (kl : Addr) (E : List (Str × Kd)) (us : List V) (kv : V) (k k0 : Kd) (i : Int), vs = [.ref kl, kv] ∧ H kl = some (.lst us) ∧ Paired (PRd H) E us ∧ Dd Non H k.dt kv ∧ E.length ≤ 60 ∧ Inv1 NS NO oo cc i E k ∧
  ∀ (l : Addr) (ws : List V) (ss : List Sd) (G : Hp), Same H G → H l = none → G l = some (.lst ws) → DdL Non G (ss.map Sd.dt) ws → (∀ s ∈ ss, Shp op lo NS NO oo cc i E k false 3 s) → ss.length ≤ 60 → Q (.ref l) G
theorem okCalls {f : Addr} {fd : FuncData} {k : Nat} {op lo : List Str} {oo cc : Str} (F : Fun K "_law_call_shapes" "_law_call_shapes" tCalls f fd)
    (DA : Okd P w K mg base CX0 (k) "_law_arguments" ["_law_kind"] spLArgs)
    (m_dict : mg "dict" = none) : FnOk P w K mg base CX0 (k + 1) f fd psCalls (spCalls op lo NS NO oo cc) := by
  obtain ⟨fA, fdA, GA, bA, gA, kA⟩ := DA
  refine F.ok scCalls (fun vs H Q E h => ?_) (fun cdv A outer s H vs Q E hr h => ?_)
  · obtain ⟨kl, E, us, kv, k, k0, i, rfl, _⟩ := h
    rfl
  obtain ⟨kl, E, us, kv, k, k0, i, rfl, gl, pE, dk, lE, I, q⟩ := h
  refine ⟨_, pss_cons (ps_set (i := 2) scCalls.nd rfl (.inl rfl) (pe_lst pa_nil))
    (pss_cons (ps_for PassesOwn.never rfl (pi_items (pe_callTy (Kt.call_dictPF rfl) (by rfl) m_dict PyProof.Rows.boot_dict (pa_cons (pv 0) pa_nil))) (pg_tup rfl (pgs_cons (pg_name (i := 3) scCalls.nd rfl (.inl rfl)) (pgs_cons (pg_name (i := 4) scCalls.nd rfl (.inl rfl)) pgs_nil)))
      (pss_cons (ps_asg (pe_call GA hr (by rfl) gA kA bA .nil pass0 (pa_cons (pv 4) pa_nil)) (pg_tup rfl (pgs_cons (pg_name (i := 5) scCalls.nd rfl (.inl rfl)) (pgs_cons (pg_name (i := 6) scCalls.nd rfl (.inl rfl)) pgs_nil))))
    (pss_one (ps_if (PW.pt (pw_and (pt_cmpR (op_neD hr.units) (pv 5) (pe_lst pa_nil) (nomark _)) (pw_and1 (pt_cmpR (op_eqD hr.units) (pv 6) (pv 1) (nomark _))))) (pss_cons (ps_set (i := 7) scCalls.nd rfl (.inl rfl) (pe_tup (pa_cons pe_str (pa_cons (pv 3) pa_nil))))
    (pss_cons (ps_for PassesOwn.never rfl (pi_list (pv 5)) (pg_name (i := 8) scCalls.nd rfl (.inl rfl))
      (pss_one (ps_set (i := 7) scCalls.nd rfl (.inl rfl) (pe_tup (pa_cons pe_str (pa_cons (pv 7) (pa_cons (pe_tup (pa_cons pe_str (pa_cons (pv 8) (pa_cons (pe_tup pa_nil) pa_nil)))) pa_nil)))))))
    (pss_one (ps_expr (pe_bm PySem.F.plainAttrs_list PySem.F.slot_list_append PySem.F.type_list_append mt_append (pv 2) (pa_cons (pv 7) pa_nil)))))) pss_nil))))
    (pss_one (ps_ret (pv 2)))), ?_⟩
  obtain ⟨ps, kvs, rfl, args, ek⟩ := ep_args (K := K) pE
  have all0 := AllE.of ek
  have lk := ek.length
  have lm := merge_le kvs
  have lps := args.length
  refine ⟨Nat.zero_le _, fun pa npa => lstG npa fun G1 s1 g1 => ?_⟩
  refine ⟨_, rfl, kl, ps, kvs, rfl, SqL.of (s1 _ _ gl), Paired.mapP args (fun _ _ z => sqT_same z s1), fun pD oD nD => objG nD fun G2 s2 g2 => ⟨pD, oD, _, rfl, g2, ?_⟩⟩
  have hpD : pa ≠ pD := ne_of_none g1 nD
  refine for_it walk_items (fun j σ G => ∃ (y3 y4 y5 y6 y7 y8 : Option V) (ws : List V) (ss : List Sd), σ = [some (.ref kl), some kv, some (.ref pa), y3, y4, y5, y6, y7, y8] ∧ Same H G ∧ G pD = some (.frz oD (.dK (mergeK [] kvs))) ∧ G pa = some (.lst ws) ∧ DdL Non G (ss.map Sd.dt) ws ∧ (∀ s ∈ ss, Shp op lo NS NO oo cc i E k false 3 s) ∧ ss.length ≤ j) ?_ (fun j σ G _ z => ?_) (fun j x σ G G' hj z y => ?_) (fun σ G z => ?_)
  · exact ⟨_, _, _, _, _, _, [], [], rfl, s1.trans s2, g2, s2 _ _ g1, .nil, fun s hs => (by cases hs), Nat.le_refl _⟩
  · obtain ⟨y3, y4, y5, y6, y7, y8, ws, ss, rfl, sG, gD, gA, dw, hs, ls⟩ := z
    exact gD
  · obtain ⟨y3, y4, y5, y6, y7, y8, ws, ss, rfl, sG, gD, gA, dw, hs, ls⟩ := z
    obtain ⟨T, ky, vl, rfl, nT, rfl, e1, e2⟩ := y
    obtain ⟨qq, hq, rfl⟩ := Option.map_eq_some_iff.mp e1
    have e2 : ((mergeK [] kvs)[j]?).map Prod.snd = some vl := e2
    rw [hq] at e2
    cases e2
    obtain ⟨z, kz, ez, dz, pz, mz⟩ := all0 qq (List.mem_of_getElem? hq)
    rw [ez]
    have sT := newS (o := .tup [kV (.inr z), qq.2]) nT
    have kn : Kn1 NO i kz := (I.ee _ mz).2.2
    obtain ⟨nS, nN, _⟩ := I.ee _ mz
    have dz' := (dz.same sG).same sT
    refine ⟨T, _, rfl, SqT.of upd_same, rfl, _, _, rfl, _, _, rfl, rfl, _, rfl, qq.2, kz, rfl, dd_rp0 dz', by have := kn.sz; have := @ub_le i; omega, fun pr la us1 u1 G3 s3 gp gla rl ru => ⟨pr, _, rfl, SqT.of gp, rfl, _, _, rfl, _, _, rfl, rfl, _, rfl, Nat.zero_le _, fun e ne => objG ne fun G4 s4 g4 => ?_⟩⟩
    have sA := sT.trans (s3.trans s4)
    have da := (rpl_dd rl).same s4
    refine ⟨.list (kz.args.map toD), .list [], .lst (SqL.of (s4 _ _ gla)) (dpAllK K da), .lst (SqL.of g4) .nil, (shTs fun t ht => ⟨(kn.arg ht).nm, by have := (kn.arg ht).dp; omega⟩).1, rfl, _, rfl, ite2 (fun c1 => ?_) (fun c1 => iteF ?no)⟩
    case no => exact ⟨_, _, _, _, _, _, ws, ss, rfl, sG.trans sA, sA _ _ gD, sA _ _ gA, dw.same sA, hs, by omega⟩
    have dk4 := ((dk.same sG).same sA)
    have dr := (rp0_dd ru).same s4
    have kres : Kok kz.res := by
      have hh := kn.kok
      exact ⟨fun x hx => hh.1 x (Kd.res_le.1 x hx), Nat.le_trans Kd.res_le.2 hh.2⟩
    refine ⟨_, rfl, _, rfl, _, _, dpK K dr, dpK K dk4, shK kres, shK I.wk.kok, _, rfl, ite2 (fun c2 => ?_) (fun c2 => ?no2)⟩
    case no2 => exact ⟨_, _, _, _, _, _, ws, ss, rfl, sG.trans sA, sA _ _ gD, sA _ _ gA, dw.same sA, hs, by omega⟩
    have er : kz.res = k := (eqK kres).mp c2
    refine ⟨_, rfl, (by show 2 ≤ sizeLine; decide), fun p5 n5 => tupG n5 (.cons (.str _) (.cons (.str _) .nil)) fun G5 s5 d5 => ?_⟩
    have sB := sA.trans s5
    have nN : Nm z := nN
    have nz8 : z.length ≤ 100 := Nat.le_trans (nm8 nN) (by decide)
    refine ⟨_, rfl, la, rfl, ⟨_, SqL.of (s5 _ _ (s4 _ _ gla))⟩, ?_⟩
    refine for_it (walk_list (xs := us1)) (fun m σ F => ∃ (y8 : Option V) (v : V) (s0 : Sd), σ = [some (.ref kl), some kv, some (.ref pa), some (.str z), some qq.2, some (.ref la), some u1, some v, y8] ∧ Same G5 F ∧ Dd Non F s0.dt v ∧ Shp op lo NS NO oo cc i E (Kd.ledTo (kz.args.drop m) kz.res) false (1 + m) s0) ?_ (fun m σ F _ z => ?_) (fun m x σ F F' hm z y => ?_) (fun σ F z => ?_)
    · exact ⟨_, _, .tup [.at (.str "name"), .at (.str z)], rfl, .refl _, d5, (s_name (by rw [List.drop_zero, Kd.led]; exact pz) nN nz8).weak (Nat.le_refl _)⟩
    · obtain ⟨y8, v, s0, rfl, sF, dv, S⟩ := z
      exact SqL.of (sF _ _ (s5 _ _ (s4 _ _ gla)))
    · obtain ⟨y8, v, s0, rfl, sF, dv, S⟩ := z
      obtain ⟨rfl, hx⟩ := y
      obtain ⟨yd, hy, dy⟩ := ((da.same s5).same sF).get hx
      rw [List.getElem?_map] at hy
      obtain ⟨a, ha, rfl⟩ := Option.map_eq_some_iff.mp hy
      have ma := List.mem_of_getElem? ha
      have ed : kz.args.drop m = a :: kz.args.drop (m + 1) := by
        obtain ⟨hl, he⟩ := List.getElem?_eq_some_iff.mp ha
        rw [← he]
        exact List.drop_eq_getElem_cons hl
      rw [ed] at S
      refine ⟨_, rfl, _, rfl, (by show 0 ≤ sizeLine; decide), fun p6 n6 => tupG n6 .nil fun G6 s6 d6 => ⟨(by show 3 ≤ sizeLine; decide), fun p7 n7 => tupG n7 (.cons (.str _) (.cons (dy.same s6) (.cons d6 .nil))) fun G7 s7 d7 => ⟨(by show 3 ≤ sizeLine; decide), fun p8 n8 => tupG n8 (.cons (.str _) (.cons ((dv.same s6).same s7) (.cons d7 .nil))) fun G8 s8 d8 => ?_⟩⟩⟩
      exact ⟨_, _, .tup [.at (.str "call"), s0, .hole a []], rfl, sF.trans (s6.trans (s7.trans s8)), d8, (s_capp I S (kn.arg ma) ((I.oE mz).imp id fun u w => u ((Kd.args_mem ma).2.1 _ w))).up (by omega)⟩
    · obtain ⟨y8, v, s0, rfl, sF, dv, S⟩ := z
      have ll : us1.length = kz.args.length := by
        have := rl.len
        omega
      rw [ll, List.drop_length] at S
      have S : Shp op lo NS NO oo cc i E k false (1 + kz.args.length) s0 := by
        rw [← er]
        exact S
      have sC := sB.trans sF
      have gA' := sC _ _ gA
      have lw := dw.len
      rw [List.length_map] at lw
      refine ⟨_, rfl, .inl ⟨rfl, _, SqL.of gA'⟩, _, rfl, pa, _, _, rfl, rfl, gA', small1000 (by omega), ?_⟩
      have k1 : Kv.Kn Non F (upd F pa (.lst (ws ++ [v]))) := Kn.rfl.put (fun z => z) fun _ z => by rw [gA'] at z; cases z
      refine ⟨_, _, _, _, _, _, ws ++ [v], ss ++ [s0], rfl, smk (sG.trans sC) npa, ?_, upd_same, ?_, fun s hs' => ?_, ?_⟩
      · rw [upd_ne (fun w => hpD w.symm)]
        exact sC _ _ gD
      · rw [List.map_append]
        exact ((dw.same sC).kn k1).app (.cons (dv.kn k1) .nil)
      · rcases List.mem_append.mp hs' with w | w
        · exact hs s w
        · rw [List.mem_singleton.mp w]
          exact S.up (by have := kn.hk.2; omega)
      · rw [List.length_append]
        show ss.length + 1 ≤ _
        omega
  · obtain ⟨y3, y4, y5, y6, y7, y8, ws, ss, rfl, sG, gD, gA, dw, hs, ls⟩ := z
    exact ⟨_, rfl, q pa ws ss G sG npa gA dw hs (by omega)⟩
end
end Kq
/-! tools; _law_own_shapes -/
namespace Kq
open PySem PySem.Spec PyProof.Rows L2 Kf Kg Kv Kk Ku
theorem sdK {H : Hp} {k : Kd} {v : V} (d : Dd Non H k.dt v) : Dd Non H k.sd.dt v := by rw [Kd.sd_dt]; exact d
/-- the tools, as they stand -/
structure TlA (d c tl ao al an aw : Addr) (op lo ns ws : List Str) (o : Str) (fl : Int) (H : Hp) : Prop where
  ht : H tl = some (.dK [(.inr "opens", .ref ao), (.inr "looked", .ref al), (.inr "names", .ref an), (.inr "own", .str o), (.inr "faults", .int fl), (.inr "words", .ref aw)])
  ho : H ao = some (.lst (op.map V.str))
  hl : H al = some (.lst (lo.map V.str))
  hn : H an = some (.lst (ns.map V.str))
  hw : H aw = some (.lst (ws.map V.str))
  nt : tl ≠ d ∧ tl ≠ c
  no : ao ≠ d ∧ ao ≠ c
  nl : al ≠ d ∧ al ≠ c
  nn : an ≠ d ∧ an ≠ c
  nw : aw ≠ d ∧ aw ≠ c
namespace TlA
variable {d c tl ao al an aw : Addr} {op lo ns ws : List Str} {o : Str} {fl : Int} {H G : Hp}
theorem same (J : TlA d c tl ao al an aw op lo ns ws o fl H) (s : Same H G) : TlA d c tl ao al an aw op lo ns ws o fl G := ⟨s _ _ J.ht, s _ _ J.ho, s _ _ J.hl, s _ _ J.hn, s _ _ J.hw, J.nt, J.no, J.nl, J.nn, J.nw⟩
theorem kp (J : TlA d c tl ao al an aw op lo ns ws o fl H) (k : Kp d c H G) : TlA d c tl ao al an aw op lo ns ws o fl G := ⟨k _ _ J.nt.1 J.nt.2 J.ht, k _ _ J.no.1 J.no.2 J.ho, k _ _ J.nl.1 J.nl.2 J.hl, k _ _ J.nn.1 J.nn.2 J.hn, k _ _ J.nw.1 J.nw.2 J.hw, J.nt, J.no, J.nl, J.nn, J.nw⟩
theorem gN (J : TlA d c tl ao al an aw op lo ns ws o fl H) : DGet H tl (.str "names") (some (.ref an)) := DGet.k (k := .inr "names") J.ht
theorem gL (J : TlA d c tl ao al an aw op lo ns ws o fl H) : DGet H tl (.str "looked") (some (.ref al)) := DGet.k (k := .inr "looked") J.ht
theorem gO (J : TlA d c tl ao al an aw op lo ns ws o fl H) : DGet H tl (.str "own") (some (.str o)) := DGet.k (k := .inr "own") J.ht
theorem gF (J : TlA d c tl ao al an aw op lo ns ws o fl H) : DGet H tl (.str "faults") (some (.int fl)) := DGet.k (k := .inr "faults") J.ht
theorem gW (J : TlA d c tl ao al an aw op lo ns ws o fl H) : DGet H tl (.str "words") (some (.ref aw)) := DGet.k (k := .inr "words") J.ht
end TlA
theorem freeS {H G : Hp} {p : Addr} (s : Same H G) (h : G p = none) : H p = none := by
  cases z : H p with
  | none => rfl
  | some o => rw [s _ _ z] at h; cases h
theorem seeK {H : Hp} {k : Kd} {v : V} (d : Dd Non H k.dt v) : ∃ p us, v = .ref p ∧ H p = some (.tup (.str k.word :: us)) ∧ DdL Non H k.dts us := by
  rw [dt_eq] at d
  obtain ⟨p, u, us, rfl, g, d1, d2⟩ := Dd.seeT d
  cases d1
  exact ⟨p, us, rfl, g, d2⟩
theorem wOp {k : Kd} (h : k.word = "open") : ∃ a, k = .opn a := by cases k <;> first | exact ⟨_, rfl⟩ | exact absurd h (by rw [Kd.word]; decide +kernel)
section
variable {P : Program} {w : World} {K : PySem.W.Frag} {mg : Str → Option Value} {base : Heap} {NS NO lk : List Str} {cN : Addr}
abbrev tOwn : Stmt := tp 13
abbrev nOwn : List Str := ["_law_deck_here", "_law_tools_here", "_law_known", "_law_kind", "_law_x", "_law_some", "_law_n", "_law_found", "_law_name", "_law_one"]
abbrev psOwn : List Str := ["_law_deck_here", "_law_tools_here", "_law_known", "_law_kind"]
theorem scOwn : FnScope nOwn psOwn (defScope tOwn) := ⟨rfl, rfl, rfl, by decide +kernel, rfl, by decide +kernel, by decide +kernel⟩
def spOwn (d c tl ao al an aw : Addr) (op lo ns wds NS NO : List Str) (oo cc nn : Str) (fl : Int) : Sp := fun vs H Q _ => ∃ (kl : Addr) (E : List (Str × Kd)) (us : List V) (kv : V) (k : Kd) (i : Int), vs = [.ref d, .ref tl, .ref kl, kv] ∧ Dk H d c ∧ TlA d c tl ao al an aw op lo ns wds oo fl H ∧ H kl = some (.lst us) ∧ kl ≠ d ∧ kl ≠ c ∧ Paired (PRd H) E us ∧ Dd Non H k.dt kv ∧ E.length ≤ 60 ∧ Inv1 NS NO oo cc i E k ∧ Tl op lo NS NO oo cc nn ns ∧
  ∀ (l : Addr) (ws : List V) (s0 : Sd) (ss : List Sd) (G : Hp), Kp d c H G → Dk G d c → l ≠ d → l ≠ c → G l = some (.lst ws) → DdL Non G ((s0 :: ss).map Sd.dt) ws → Shp op lo NS NO oo cc i E k true 10 s0 → (∀ s ∈ ss, Shp op lo NS NO oo cc i E k false 10 s) → ss.length ≤ 61 → Q (.ref l) G
theorem okOwn {f d c tl ao al an aw : Addr} {fd : FuncData} {k : Nat} {op lo ns wds : List Str} {oo cc nn : Str} {fl : Int} (F : Fun K "_law_own_shapes" "_law_own_shapes" tOwn f fd)
    (DD : Okd P w K mg base CX0 (k) "_law_draw" ["_law_deck_here", "_law_most"] spDraw)
    (DP : Okd P w K mg base CX0 (k) "_law_pick" ["_law_deck_here", "_law_some"] spPick)
    (m_dict : mg "dict" = none) : FnOk P w K mg base CX0 (k + 1) f fd psOwn (spOwn d c tl ao al an aw op lo ns wds NS NO oo cc nn fl) := by
  obtain ⟨fD, fdD, GD, bD, gD, kD⟩ := DD
  obtain ⟨fP, fdP, GP, bP, gP, kP⟩ := DP
  refine F.ok scOwn (fun vs H Q E h => ?_) (fun cdv A outer s H vs Q E hr h => ?_)
  · obtain ⟨kl, E, us, kv, k, i, rfl, _⟩ := h
    rfl
  obtain ⟨kl, E, us, kv, k, i, rfl, dk, J, gl, od, oc, pE, dd, lE, I, T, q⟩ := h
  refine ⟨_, pss_cons (ps_set (i := 4) scOwn.nd rfl (.inl rfl) (pe_call GP hr (by rfl) gP kP bP .nil pass0 (pa_cons (pv 0) (pa_cons (pe_dget (hu_of hr) (pv 1) pe_str (fun _ _ => rfl)) pa_nil))))
    (pss_cons (ps_if (pt_cmpR op_eq (pe_ix ix_tup (pv 3) pe_int (fun _ _ => rfl)) pe_str (nomark _)) (pss_one (ps_ret (pe_lst (pa_cons (pe_tup (pa_cons pe_str (pa_cons (pv 4) (pa_cons (pe_ix ix_tup (pv 3) pe_int (fun _ _ => rfl)) (pa_cons (pe_tup (pa_cons pe_str (pa_cons (pe_ix ix_tup (pv 3) pe_int (fun _ _ => rfl)) (pa_cons (pe_tup (pa_cons (pe_tup (pa_cons (pv 4) (pa_cons (pe_ix ix_tup (pv 3) pe_int (fun _ _ => rfl)) pa_nil))) pa_nil)) pa_nil)))) pa_nil))))) pa_nil)))) pss_nil)
    (pss_cons (ps_if (pt_cmpR op_eq (pe_ix ix_tup (pv 3) pe_int (fun _ _ => rfl)) pe_str (nomark _)) (pss_cons (ps_set (i := 5) scOwn.nd rfl (.inl rfl) (pe_call GP hr (by rfl) gP kP bP .nil pass0 (pa_cons (pv 0) (pa_cons (pe_lst (pa_cons pe_int (pa_cons pe_int (pa_cons pe_int (pa_cons pe_int (pa_cons (pe_call GD hr (by rfl) gD kD bD .nil pass0 (pa_cons (pv 0) (pa_cons (pe_op op_add (pe_op op_pow pe_int pe_int) pe_int) pa_nil))) pa_nil)))))) pa_nil))))
    (pss_one (ps_ret (pe_lst (pa_cons (pe_tup (pa_cons pe_str (pa_cons (pv 5) pa_nil))) (pa_cons (pe_tup (pa_cons pe_str (pa_cons (pe_tup (pa_cons pe_str (pa_cons (pv 3) (pa_cons (pe_tup pa_nil) pa_nil)))) (pa_cons (pe_tup (pa_cons pe_str (pa_cons (pv 3) (pa_cons (pe_tup pa_nil) pa_nil)))) pa_nil)))) pa_nil)))))) pss_nil)
    (pss_cons (ps_if (pt_cmpR op_eq (pe_ix ix_tup (pv 3) pe_int (fun _ _ => rfl)) pe_str (nomark _)) (pss_cons (ps_set (i := 6) scOwn.nd rfl (.inl rfl) (pe_tup (pa_cons pe_str (pa_cons (pe_tup (pa_cons pe_str pa_nil)) (pa_cons (pe_tup pa_nil) pa_nil)))))
    (pss_cons (ps_set (i := 7) scOwn.nd rfl (.inl rfl) (pe_lst (pa_cons (pe_tup (pa_cons pe_str (pa_cons (pe_cmpR op_eq (pe_call GD hr (by rfl) gD kD bD .nil pass0 (pa_cons (pv 0) (pa_cons pe_int pa_nil))) pe_int (nomark _)) pa_nil))) (pa_cons (pe_tup (pa_cons pe_str (pa_cons (pv 6) (pa_cons (pv 6) pa_nil)))) pa_nil))))
    (pss_cons (ps_for PassesOwn.never rfl (pi_items (pe_callTy (Kt.call_dictPF rfl) (by rfl) m_dict PyProof.Rows.boot_dict (pa_cons (pv 2) pa_nil))) (pg_tup rfl (pgs_cons (pg_name (i := 8) scOwn.nd rfl (.inl rfl)) (pgs_cons (pg_name (i := 9) scOwn.nd rfl (.inl rfl)) pgs_nil)))
      (pss_one (ps_if (PW.pt (pw_and (pt_cmpR op_eq (pe_ix ix_tup (pv 9) pe_int (fun _ _ => rfl)) pe_str (nomark _)) (pw_and1 (pt_cmpR op_in_seq (pe_ix ix_tup (pv 9) pe_int (fun _ _ => rfl)) (pe_dget (hu_of hr) (pv 1) pe_str (fun _ _ => rfl)) rfl)))) (pss_one (ps_expr (pe_bm PySem.F.plainAttrs_list PySem.F.slot_list_append PySem.F.type_list_append mt_append (pv 7) (pa_cons (pe_tup (pa_cons pe_str (pa_cons (pe_tup (pa_cons pe_str (pa_cons (pv 9) (pa_cons (pe_tup pa_nil) pa_nil)))) (pa_cons (pe_tup (pa_cons pe_str (pa_cons (pv 9) (pa_cons (pe_tup pa_nil) pa_nil)))) pa_nil)))) pa_nil)))) pss_nil)))
    (pss_one (ps_ret (pv 7)))))) pss_nil)
    (pss_cons (ps_if (pt_cmpR op_eq (pe_ix ix_tup (pv 3) pe_int (fun _ _ => rfl)) pe_str (nomark _)) (pss_one (ps_ret (pe_lst (pa_cons (pe_tup (pa_cons pe_str (pa_cons (pe_tup (pa_cons pe_str (pa_cons (pe_ix ix_tup (pv 3) pe_int (fun _ _ => rfl)) (pa_cons (pe_tup pa_nil) pa_nil)))) (pa_cons (pe_tup (pa_cons pe_str (pa_cons (pe_ix ix_tup (pv 3) pe_int (fun _ _ => rfl)) (pa_cons (pe_tup pa_nil) pa_nil)))) pa_nil)))) pa_nil)))) pss_nil)
    (pss_cons (ps_if (pt_cmpR op_eq (pe_ix ix_tup (pv 3) pe_int (fun _ _ => rfl)) pe_str (nomark _)) (pss_one (ps_ret (pe_lst (pa_cons (pe_tup (pa_cons pe_str (pa_cons (pe_tup (pa_cons pe_str (pa_cons (pe_ix ix_tup (pv 3) pe_int (fun _ _ => rfl)) (pa_cons (pe_tup pa_nil) pa_nil)))) (pa_cons (pe_ix ix_tup (pv 3) pe_int (fun _ _ => rfl)) pa_nil)))) (pa_cons (pe_tup (pa_cons pe_str (pa_cons (pe_ix ix_tup (pv 3) pe_int (fun _ _ => rfl)) (pa_cons (pe_tup (pa_cons pe_str (pa_cons (pe_ix ix_tup (pv 3) pe_int (fun _ _ => rfl)) (pa_cons (pe_tup pa_nil) pa_nil)))) pa_nil)))) pa_nil))))) pss_nil)
    (pss_cons (ps_if (pt_cmpR op_eq (pe_ix ix_tup (pv 3) pe_int (fun _ _ => rfl)) pe_str (nomark _)) (pss_one (ps_ret (pe_lst (pa_cons (pe_tup (pa_cons pe_str (pa_cons (pe_ix ix_tup (pv 3) pe_int (fun _ _ => rfl)) pa_nil))) (pa_cons (pe_tup (pa_cons pe_str (pa_cons (pe_tup (pa_cons pe_str (pa_cons (pe_ix ix_tup (pv 3) pe_int (fun _ _ => rfl)) (pa_cons (pe_tup pa_nil) pa_nil)))) (pa_cons (pe_tup (pa_cons pe_str (pa_cons (pv 3) (pa_cons (pe_tup pa_nil) pa_nil)))) pa_nil)))) pa_nil))))) pss_nil)
    (pss_one (ps_ret (pe_lst (pa_cons (pe_tup (pa_cons pe_str (pa_cons (pv 3) pa_nil))) pa_nil)))))))))), ?_⟩
  have kp0 : Kp d c H H := Kp.rfl
  have lns : (ns.map V.str).length = 3 := by rw [List.length_map, T.len]
  refine ⟨_, rfl, _, rfl, tl, .ref an, rfl, J.gN, d, c, an, _, rfl, dk, J.hn, J.nn.1, J.nn.2, (by omega), (by omega), fun vx K1 kp1 e1 hvx => ?_⟩
  obtain ⟨x, hx, rfl⟩ := List.mem_map.mp hvx
  replace J := J.kp kp1
  replace gl := kp1 _ _ (And.intro od oc).1 (And.intro od oc).2 gl
  replace pE := Paired.mapP pE fun _ _ h => h.tk (Tk.kp kp1 dk)
  replace dd := dd.kn (Kn.tk (Tk.kp kp1 dk))
  replace kp0 := kp0.trans kp1
  replace dk := e1
  cases k with
  | fn a b =>
    obtain ⟨pk, u1, u2, rfl, gk, da, db⟩ := Dd.of3 dd
    refine ⟨_, rfl, pk, _, _, _, rfl, rfl, SqT.of gk, atI_nat (j := 0) rfl, rfl, _, rfl, ite2 (fun _ => ?_) (fun z => absurd (show decide (V.str "fun" = V.str "fun") = true by decide +kernel) z)⟩
    refine ⟨_, rfl, _, rfl, pk, _, _, _, rfl, rfl, SqT.of gk, atI_nat (j := 1) rfl, _, rfl, pk, _, _, _, rfl, rfl, SqT.of gk, atI_nat (j := 2) rfl, _, rfl, _, rfl, pk, _, _, _, rfl, rfl, SqT.of gk, atI_nat (j := 1) rfl, (by show 2 ≤ sizeLine; decide), fun pr1 nr1 => tupG nr1 (.cons (.str _) (.cons da .nil)) fun Gr1 sr1 dr1 => ?_⟩
    have dr1 : Dd Non Gr1 (.tup [.str x, Kd.dt (a)]) (.ref pr1) := dr1
    replace dk := dk.same sr1
    replace J := J.same sr1
    replace gl := sr1 _ _ gl
    replace pE := Paired.mapP pE fun _ _ h => h.tk (Tk.of sr1)
    replace dd := dd.same sr1
    replace kp0 := kp0.trans (.of sr1)
    replace gk := sr1 _ _ gk
    replace da := da.same sr1
    replace db := db.same sr1
    refine ⟨(by show 1 ≤ sizeLine; decide), fun pr2 nr2 => tupG nr2 (.cons dr1 .nil) fun Gr2 sr2 dr2 => ?_⟩
    have dr2 : Dd Non Gr2 (.tup (([(x, a)] : List (Str × Kd)).map fun p => Dt.tup [.str p.1, p.2.dt])) (.ref pr2) := dr2
    replace dk := dk.same sr2
    replace J := J.same sr2
    replace gl := sr2 _ _ gl
    replace pE := Paired.mapP pE fun _ _ h => h.tk (Tk.of sr2)
    replace dd := dd.same sr2
    replace kp0 := kp0.trans (.of sr2)
    replace gk := sr2 _ _ gk
    replace da := da.same sr2
    replace db := db.same sr2
    replace dr1 := dr1.same sr2
    refine ⟨(by show 3 ≤ sizeLine; decide), fun pr3 nr3 => tupG nr3 (.cons (.str _) (.cons db (.cons dr2 .nil))) fun Gr3 sr3 dr3 => ?_⟩
    have dr3 : Dd Non Gr3 (Sd.dt (.hole (b) [(x, a)])) (.ref pr3) := dr3
    replace dk := dk.same sr3
    replace J := J.same sr3
    replace gl := sr3 _ _ gl
    replace pE := Paired.mapP pE fun _ _ h => h.tk (Tk.of sr3)
    replace dd := dd.same sr3
    replace kp0 := kp0.trans (.of sr3)
    replace gk := sr3 _ _ gk
    replace da := da.same sr3
    replace db := db.same sr3
    replace dr1 := dr1.same sr3
    replace dr2 := dr2.same sr3
    refine ⟨(by show 4 ≤ sizeLine; decide), fun pr4 nr4 => tupG nr4 (.cons (.str _) (.cons (.str _) (.cons (sdK da) (.cons dr3 .nil)))) fun Gr4 sr4 dr4 => ?_⟩
    have dr4 : Dd Non Gr4 (Sd.dt (.tup [.at (.str "fun"), .at (.str x), Kd.sd (a), (.hole (b) [(x, a)])])) (.ref pr4) := dr4
    replace dk := dk.same sr4
    replace J := J.same sr4
    replace gl := sr4 _ _ gl
    replace pE := Paired.mapP pE fun _ _ h => h.tk (Tk.of sr4)
    replace dd := dd.same sr4
    replace kp0 := kp0.trans (.of sr4)
    replace gk := sr4 _ _ gk
    replace da := da.same sr4
    replace db := db.same sr4
    replace dr1 := dr1.same sr4
    replace dr2 := dr2.same sr4
    replace dr3 := dr3.same sr4
    refine ⟨(by show 1 ≤ sizeLine; decide), fun pr5 nr5 => ?_⟩
    have or5 := dk.off nr5
    refine lstG nr5 fun Gr5 sr5 gr5 => ?_
    have gr5 : Gr5 pr5 = some (.lst [.ref pr4]) := gr5
    replace dk := dk.same sr5
    replace J := J.same sr5
    replace gl := sr5 _ _ gl
    replace pE := Paired.mapP pE fun _ _ h => h.tk (Tk.of sr5)
    replace dd := dd.same sr5
    replace kp0 := kp0.trans (.of sr5)
    replace gk := sr5 _ _ gk
    replace da := da.same sr5
    replace db := db.same sr5
    replace dr1 := dr1.same sr5
    replace dr2 := dr2.same sr5
    replace dr3 := dr3.same sr5
    replace dr4 := dr4.same sr5
    exact q _ _ (.tup [.at (.str "fun"), .at (.str x), Kd.sd (a), (.hole (b) [(x, a)])]) [] _ kp0 dk or5.1 or5.2 gr5 (.cons dr4 .nil) (s_fun T hx I) (fun s hs => by cases hs) (by show 0 ≤ 61; decide)
  | num  =>
    obtain ⟨pk, rfl, gk⟩ := dd_rp0 dd
    refine ⟨_, rfl, pk, _, _, _, rfl, rfl, SqT.of gk, atI_nat (j := 0) rfl, rfl, _, rfl, ite2 (fun z => absurd z (show ¬ decide (V.str "num" = V.str "fun") = true by decide +kernel)) (fun _ => ?_)⟩
    refine ⟨_, rfl, pk, _, _, _, rfl, rfl, SqT.of gk, atI_nat (j := 0) rfl, rfl, _, rfl, ite2 (fun _ => ?_) (fun z => absurd (show decide (V.str "num" = V.str "num") = true by decide +kernel) z)⟩
    refine ⟨_, rfl, _, rfl, _, _, rfl, rfl, ⟨by decide, by decide, by decide⟩, _, _, rfl, rfl, d, c, _, rfl, dk, (by decide), (by decide), fun r0 K2 h20 h21 kp2 e2 => ?_⟩
    replace J := J.kp kp2
    replace gl := kp2 _ _ (And.intro od oc).1 (And.intro od oc).2 gl
    replace pE := Paired.mapP pE fun _ _ h => h.tk (Tk.kp kp2 dk)
    replace dd := dd.kn (Kn.tk (Tk.kp kp2 dk))
    replace kp0 := kp0.trans kp2
    replace gk := Tk.kp kp2 dk _ _ gk
    replace dk := e2
    refine ⟨(by show 5 ≤ sizeLine; decide), fun pr6 nr6 => ?_⟩
    have or6 := dk.off nr6
    refine lstG nr6 fun Gr6 sr6 gr6 => ?_
    have gr6 : Gr6 pr6 = some (.lst [.int 0, .int 1, .int 2, .int 7, .int r0]) := gr6
    replace dk := dk.same sr6
    replace J := J.same sr6
    replace gl := sr6 _ _ gl
    replace pE := Paired.mapP pE fun _ _ h => h.tk (Tk.of sr6)
    replace dd := dd.same sr6
    replace kp0 := kp0.trans (.of sr6)
    replace gk := sr6 _ _ gk
    refine ⟨d, c, pr6, _, rfl, dk, gr6, or6.1, or6.2, (by show 1 ≤ 5; decide), (by show 5 ≤ 100; decide), fun vm K3 kp3 e3 hvm => ?_⟩
    replace J := J.kp kp3
    replace gl := kp3 _ _ (And.intro od oc).1 (And.intro od oc).2 gl
    replace pE := Paired.mapP pE fun _ _ h => h.tk (Tk.kp kp3 dk)
    replace dd := dd.kn (Kn.tk (Tk.kp kp3 dk))
    replace kp0 := kp0.trans kp3
    replace gk := Tk.kp kp3 dk _ _ gk
    replace gr6 := kp3 _ _ or6.1 or6.2 gr6
    replace dk := e3
    obtain ⟨m, rfl, hm⟩ : ∃ m : Int, vm = .int m ∧ (0 ≤ m ∧ m < 10 ^ 7) := by
      simp only [List.mem_cons, List.not_mem_nil, or_false] at hvm
      rcases hvm with e | e | e | e | e
      · exact ⟨_, e, by decide⟩
      · exact ⟨_, e, by decide⟩
      · exact ⟨_, e, by decide⟩
      · exact ⟨_, e, by decide⟩
      · exact ⟨_, e, h20, Int.lt_trans h21 (by decide)⟩
    refine ⟨_, rfl, (by show 2 ≤ sizeLine; decide), fun pr7 nr7 => tupG nr7 (.cons (.str _) (.cons (.int _) .nil)) fun Gr7 sr7 dr7 => ?_⟩
    have dr7 : Dd Non Gr7 (Sd.dt (.tup [.at (.str "num"), .at (.int m)])) (.ref pr7) := dr7
    replace dk := dk.same sr7
    replace J := J.same sr7
    replace gl := sr7 _ _ gl
    replace pE := Paired.mapP pE fun _ _ h => h.tk (Tk.of sr7)
    replace dd := dd.same sr7
    replace kp0 := kp0.trans (.of sr7)
    replace gk := sr7 _ _ gk
    replace gr6 := sr7 _ _ gr6
    refine ⟨_, rfl, (by show 0 ≤ sizeLine; decide), fun pr8 nr8 => tupG nr8 .nil fun Gr8 sr8 dr8 => ?_⟩
    have dr8 : Dd Non Gr8 (.tup (([] : List (Str × Kd)).map fun p => Dt.tup [.str p.1, p.2.dt])) (.ref pr8) := dr8
    replace dk := dk.same sr8
    replace J := J.same sr8
    replace gl := sr8 _ _ gl
    replace pE := Paired.mapP pE fun _ _ h => h.tk (Tk.of sr8)
    replace dd := dd.same sr8
    replace kp0 := kp0.trans (.of sr8)
    replace gk := sr8 _ _ gk
    replace gr6 := sr8 _ _ gr6
    replace dr7 := dr7.same sr8
    refine ⟨(by show 3 ≤ sizeLine; decide), fun pr9 nr9 => tupG nr9 (.cons (.str _) (.cons dd (.cons dr8 .nil))) fun Gr9 sr9 dr9 => ?_⟩
    have dr9 : Dd Non Gr9 (Sd.dt (.hole (Kd.num) [])) (.ref pr9) := dr9
    replace dk := dk.same sr9
    replace J := J.same sr9
    replace gl := sr9 _ _ gl
    replace pE := Paired.mapP pE fun _ _ h => h.tk (Tk.of sr9)
    replace dd := dd.same sr9
    replace kp0 := kp0.trans (.of sr9)
    replace gk := sr9 _ _ gk
    replace gr6 := sr9 _ _ gr6
    replace dr7 := dr7.same sr9
    replace dr8 := dr8.same sr9
    refine ⟨_, rfl, (by show 0 ≤ sizeLine; decide), fun pr10 nr10 => tupG nr10 .nil fun Gr10 sr10 dr10 => ?_⟩
    have dr10 : Dd Non Gr10 (.tup (([] : List (Str × Kd)).map fun p => Dt.tup [.str p.1, p.2.dt])) (.ref pr10) := dr10
    replace dk := dk.same sr10
    replace J := J.same sr10
    replace gl := sr10 _ _ gl
    replace pE := Paired.mapP pE fun _ _ h => h.tk (Tk.of sr10)
    replace dd := dd.same sr10
    replace kp0 := kp0.trans (.of sr10)
    replace gk := sr10 _ _ gk
    replace gr6 := sr10 _ _ gr6
    replace dr7 := dr7.same sr10
    replace dr8 := dr8.same sr10
    replace dr9 := dr9.same sr10
    refine ⟨(by show 3 ≤ sizeLine; decide), fun pr11 nr11 => tupG nr11 (.cons (.str _) (.cons dd (.cons dr10 .nil))) fun Gr11 sr11 dr11 => ?_⟩
    have dr11 : Dd Non Gr11 (Sd.dt (.hole (Kd.num) [])) (.ref pr11) := dr11
    replace dk := dk.same sr11
    replace J := J.same sr11
    replace gl := sr11 _ _ gl
    replace pE := Paired.mapP pE fun _ _ h => h.tk (Tk.of sr11)
    replace dd := dd.same sr11
    replace kp0 := kp0.trans (.of sr11)
    replace gk := sr11 _ _ gk
    replace gr6 := sr11 _ _ gr6
    replace dr7 := dr7.same sr11
    replace dr8 := dr8.same sr11
    replace dr9 := dr9.same sr11
    replace dr10 := dr10.same sr11
    refine ⟨(by show 3 ≤ sizeLine; decide), fun pr12 nr12 => tupG nr12 (.cons (.str _) (.cons dr9 (.cons dr11 .nil))) fun Gr12 sr12 dr12 => ?_⟩
    have dr12 : Dd Non Gr12 (Sd.dt (.tup [.at (.str "plus"), (.hole (Kd.num) []), (.hole (Kd.num) [])])) (.ref pr12) := dr12
    replace dk := dk.same sr12
    replace J := J.same sr12
    replace gl := sr12 _ _ gl
    replace pE := Paired.mapP pE fun _ _ h => h.tk (Tk.of sr12)
    replace dd := dd.same sr12
    replace kp0 := kp0.trans (.of sr12)
    replace gk := sr12 _ _ gk
    replace gr6 := sr12 _ _ gr6
    replace dr7 := dr7.same sr12
    replace dr8 := dr8.same sr12
    replace dr9 := dr9.same sr12
    replace dr10 := dr10.same sr12
    replace dr11 := dr11.same sr12
    refine ⟨(by show 2 ≤ sizeLine; decide), fun pr13 nr13 => ?_⟩
    have or13 := dk.off nr13
    refine lstG nr13 fun Gr13 sr13 gr13 => ?_
    have gr13 : Gr13 pr13 = some (.lst [.ref pr7, .ref pr12]) := gr13
    replace dk := dk.same sr13
    replace J := J.same sr13
    replace gl := sr13 _ _ gl
    replace pE := Paired.mapP pE fun _ _ h => h.tk (Tk.of sr13)
    replace dd := dd.same sr13
    replace kp0 := kp0.trans (.of sr13)
    replace gk := sr13 _ _ gk
    replace gr6 := sr13 _ _ gr6
    replace dr7 := dr7.same sr13
    replace dr8 := dr8.same sr13
    replace dr9 := dr9.same sr13
    replace dr10 := dr10.same sr13
    replace dr11 := dr11.same sr13
    replace dr12 := dr12.same sr13
    exact q _ _ (.tup [.at (.str "num"), .at (.int m)]) [(.tup [.at (.str "plus"), (.hole (Kd.num) []), (.hole (Kd.num) [])])] _ kp0 dk or13.1 or13.2 gr13 (.cons dr7 (.cons dr12 .nil)) ((s_num hm).up (by decide)) (fun s hs => by rw [List.mem_singleton.mp hs]; exact (s_plus I).weak (by decide)) (by show 1 ≤ 61; decide)
  | tru  =>
    obtain ⟨pk, rfl, gk⟩ := dd_rp0 dd
    refine ⟨_, rfl, pk, _, _, _, rfl, rfl, SqT.of gk, atI_nat (j := 0) rfl, rfl, _, rfl, ite2 (fun z => absurd z (show ¬ decide (V.str "truth" = V.str "fun") = true by decide +kernel)) (fun _ => ?_)⟩
    refine ⟨_, rfl, pk, _, _, _, rfl, rfl, SqT.of gk, atI_nat (j := 0) rfl, rfl, _, rfl, ite2 (fun z => absurd z (show ¬ decide (V.str "truth" = V.str "num") = true by decide +kernel)) (fun _ => ?_)⟩
    refine ⟨_, rfl, pk, _, _, _, rfl, rfl, SqT.of gk, atI_nat (j := 0) rfl, rfl, _, rfl, ite2 (fun _ => ?_) (fun z => absurd (show decide (V.str "truth" = V.str "truth") = true by decide +kernel) z)⟩
    refine ⟨(by show 1 ≤ sizeLine; decide), fun pr14 nr14 => tupG nr14 (.cons (.str _) .nil) fun Gr14 sr14 dr14 => ?_⟩
    have dr14 : Dd Non Gr14 (Kd.dt (Kd.num)) (.ref pr14) := dr14
    replace dk := dk.same sr14
    replace J := J.same sr14
    replace gl := sr14 _ _ gl
    replace pE := Paired.mapP pE fun _ _ h => h.tk (Tk.of sr14)
    replace dd := dd.same sr14
    replace kp0 := kp0.trans (.of sr14)
    replace gk := sr14 _ _ gk
    refine ⟨(by show 0 ≤ sizeLine; decide), fun pr15 nr15 => tupG nr15 .nil fun Gr15 sr15 dr15 => ?_⟩
    have dr15 : Dd Non Gr15 (.tup (([] : List (Str × Kd)).map fun p => Dt.tup [.str p.1, p.2.dt])) (.ref pr15) := dr15
    replace dk := dk.same sr15
    replace J := J.same sr15
    replace gl := sr15 _ _ gl
    replace pE := Paired.mapP pE fun _ _ h => h.tk (Tk.of sr15)
    replace dd := dd.same sr15
    replace kp0 := kp0.trans (.of sr15)
    replace gk := sr15 _ _ gk
    replace dr14 := dr14.same sr15
    refine ⟨(by show 3 ≤ sizeLine; decide), fun pr16 nr16 => tupG nr16 (.cons (.str _) (.cons dr14 (.cons dr15 .nil))) fun Gr16 sr16 dr16 => ?_⟩
    have dr16 : Dd Non Gr16 (Sd.dt (.hole (Kd.num) [])) (.ref pr16) := dr16
    replace dk := dk.same sr16
    replace J := J.same sr16
    replace gl := sr16 _ _ gl
    replace pE := Paired.mapP pE fun _ _ h => h.tk (Tk.of sr16)
    replace dd := dd.same sr16
    replace kp0 := kp0.trans (.of sr16)
    replace gk := sr16 _ _ gk
    replace dr14 := dr14.same sr16
    replace dr15 := dr15.same sr16
    refine ⟨_, rfl, d, c, _, rfl, dk, (by decide), (by decide), fun r0 K2 h20 h21 kp2 e2 => ?_⟩
    replace J := J.kp kp2
    replace gl := kp2 _ _ (And.intro od oc).1 (And.intro od oc).2 gl
    replace pE := Paired.mapP pE fun _ _ h => h.tk (Tk.kp kp2 dk)
    replace dd := dd.kn (Kn.tk (Tk.kp kp2 dk))
    replace kp0 := kp0.trans kp2
    replace gk := Tk.kp kp2 dk _ _ gk
    replace dr14 := dr14.kn (Kn.tk (Tk.kp kp2 dk))
    replace dr15 := dr15.kn (Kn.tk (Tk.kp kp2 dk))
    replace dr16 := dr16.kn (Kn.tk (Tk.kp kp2 dk))
    replace dk := e2
    have sL : Same K2 K2 := Same.refl _
    obtain ⟨ps, kvs, rfl, args0, ek⟩ := ep_args (K := K) pE
    have all0 := AllE.of ek
    have JJ := J
    have kp0' := kp0
    have dk' := dk
    refine ⟨rfl, (by show 2 ≤ sizeLine; decide), fun pr17 nr17 => tupG nr17 (.cons (.str _) (.cons (.bl _) .nil)) fun Gr17 sr17 dr17 => ?_⟩
    have dr17 : Dd Non Gr17 (Sd.dt (.tup [.at (.str "truth"), .at (.bl (decide (V.int r0 = V.int 1)))])) (.ref pr17) := dr17
    replace dk := dk.same sr17
    replace J := J.same sr17
    replace gl := sr17 _ _ gl
    replace pE := Paired.mapP pE fun _ _ h => h.tk (Tk.of sr17)
    replace dd := dd.same sr17
    replace kp0 := kp0.trans (.of sr17)
    replace gk := sr17 _ _ gk
    replace dr14 := dr14.same sr17
    replace dr15 := dr15.same sr17
    replace dr16 := dr16.same sr17
    replace sL := sL.trans sr17
    refine ⟨_, rfl, _, rfl, (by show 3 ≤ sizeLine; decide), fun pr18 nr18 => tupG nr18 (.cons (.str _) (.cons dr16 (.cons dr16 .nil))) fun Gr18 sr18 dr18 => ?_⟩
    have dr18 : Dd Non Gr18 (Sd.dt (.tup [.at (.str "less"), (.hole (Kd.num) []), (.hole (Kd.num) [])])) (.ref pr18) := dr18
    replace dk := dk.same sr18
    replace J := J.same sr18
    replace gl := sr18 _ _ gl
    replace pE := Paired.mapP pE fun _ _ h => h.tk (Tk.of sr18)
    replace dd := dd.same sr18
    replace kp0 := kp0.trans (.of sr18)
    replace gk := sr18 _ _ gk
    replace dr14 := dr14.same sr18
    replace dr15 := dr15.same sr18
    replace dr16 := dr16.same sr18
    replace sL := sL.trans sr18
    replace dr17 := dr17.same sr18
    refine ⟨(by show 2 ≤ sizeLine; decide), fun pr19 nr19 => ?_⟩
    have fr19 := freeS sL nr19
    have or19 := dk.off nr19
    refine lstG nr19 fun Gr19 sr19 gr19 => ?_
    have gr19 : Gr19 pr19 = some (.lst [.ref pr17, .ref pr18]) := gr19
    replace dk := dk.same sr19
    replace J := J.same sr19
    replace gl := sr19 _ _ gl
    replace pE := Paired.mapP pE fun _ _ h => h.tk (Tk.of sr19)
    replace dd := dd.same sr19
    replace kp0 := kp0.trans (.of sr19)
    replace gk := sr19 _ _ gk
    replace dr14 := dr14.same sr19
    replace dr15 := dr15.same sr19
    replace dr16 := dr16.same sr19
    replace sL := sL.trans sr19
    replace dr17 := dr17.same sr19
    replace dr18 := dr18.same sr19
    have dw0 : DdL Non Gr19 (([(.tup [.at (.str "truth"), .at (.bl (decide (V.int r0 = V.int 1)))]), (.tup [.at (.str "less"), (.hole (Kd.num) []), (.hole (Kd.num) [])])] : List Sd).map Sd.dt) [.ref pr17, .ref pr18] := (.cons dr17 (.cons dr18 .nil))
    have args := Paired.mapP args0 (fun _ _ z => sqT_same z sL)
    have lk := ek.length
    have lm := merge_le kvs
    have lps := args.length
    refine ⟨_, rfl, kl, ps, kvs, rfl, SqL.of gl, args, fun pD oD nD => objG nD fun GD sD gD => ⟨pD, oD, _, rfl, gD, ?_⟩⟩
    have neD : pr19 ≠ pD := ne_of_none gr19 nD
    have offL := or19
    refine for_it walk_items (fun j σ G => ∃ (y8 y9 : Option V) (ws : List V) (ss : List Sd), σ = [some (.ref d), some (.ref tl), some (.ref kl), some (.ref pk), some (.str x), none, some (.ref pr16), some (.ref pr19), y8, y9] ∧ Same K2 G ∧ G pD = some (.frz oD (.dK (mergeK [] kvs))) ∧ G pr19 = some (.lst ws) ∧ DdL Non G (((.tup [.at (.str "truth"), .at (.bl (decide (V.int r0 = V.int 1)))]) :: ss).map Sd.dt) ws ∧ (∀ s ∈ ss, Shp op lo NS NO oo cc i E .tru false 10 s) ∧ ss.length ≤ j + 1) ?_ (fun j σ G _ z => ?_) (fun j x σ G G' hj z y => ?_) (fun σ G z => ?_)
    · exact ⟨_, _, _, [(.tup [.at (.str "less"), (.hole (Kd.num) []), (.hole (Kd.num) [])])], rfl, sL.trans sD, gD, sD _ _ gr19, dw0.same sD, fun s hs => by rw [List.mem_singleton.mp hs]; exact (s_less I).weak (by decide), Nat.le_refl _⟩
    · obtain ⟨y8, y9, ws, ss, rfl, sG, hD, gA, dw, hs, ls⟩ := z
      exact hD
    · obtain ⟨y8, y9, ws, ss, rfl, sG, hD, gA, dw, hs, ls⟩ := z
      obtain ⟨T0, ky, vl, rfl, nT, rfl, e1, e2⟩ := y
      obtain ⟨qq, hq, rfl⟩ := Option.map_eq_some_iff.mp e1
      have e2 : ((mergeK [] kvs)[j]?).map Prod.snd = some vl := e2
      rw [hq] at e2
      cases e2
      have allG := all0.same sG
      obtain ⟨z, kz, ez, dz, pz, mz⟩ := allG qq (List.mem_of_getElem? hq)
      obtain ⟨qk, qv⟩ := qq
      have ez : qk = .inr z := ez
      subst ez
      have sT := newS (o := .tup [kV (.inr z), qv]) nT
      have kn : Kn1 NO i kz := (I.ee _ mz).2.2
      have dz' := dz.same sT
      obtain ⟨po, uso, eo, go, co⟩ := seeK dz'
      have eo : qv = .ref po := eo
      subst eo
      have JT := (JJ.same sG).same sT
      refine ⟨T0, _, rfl, SqT.of upd_same, rfl, _, _, rfl, _, _, rfl, rfl, _, rfl, po, _, _, _, rfl, rfl, SqT.of go, atI_nat (j := 0) rfl, rfl, _, rfl, ite2 (fun c1 => ?_) (fun c1 => iteF ?no)⟩
      case no => exact ⟨_, _, ws, ss, rfl, sG.trans sT, sT _ _ hD, sT _ _ gA, dw.same sT, hs, by omega⟩
      obtain ⟨zo, rfl⟩ := wOp (wEq.mp c1)
      obtain ⟨uz, rfl, du⟩ := ddOne co
      cases du
      refine ⟨_, rfl, po, _, _, _, rfl, rfl, SqT.of go, atI_nat (j := 1) rfl, _, rfl, tl, .ref al, rfl, JT.gL, al, _, rfl, .inl (SqL.of JT.hl), rfl, flat_strs _, _, rfl, ite2 (fun c2 => ?_) (fun c2 => ?no2)⟩
      case no2 => exact ⟨_, _, ws, ss, rfl, sG.trans sT, sT _ _ hD, sT _ _ gA, dw.same sT, hs, by omega⟩
      have hlo : zo ∈ lo := by
        have c2 : inV (V.str zo) (lo.map V.str) = true := c2
        exact (inV_strs _ _).mp c2
      refine ⟨_, rfl, .inl ⟨rfl, _, SqL.of (sT _ _ gA)⟩, _, rfl, (by show 0 ≤ sizeLine; decide), fun q1 m1 => tupG m1 .nil fun F1 t1 d1 => ⟨(by show 3 ≤ sizeLine; decide), fun q2 m2 => tupG m2 (.cons (.str _) (.cons (dz'.same t1) (.cons d1 .nil))) fun F2 t2 d2 => ⟨_, rfl, (by show 0 ≤ sizeLine; decide), fun q3 m3 => tupG m3 .nil fun F3 t3 d3 => ⟨(by show 3 ≤ sizeLine; decide), fun q4 m4 => tupG m4 (.cons (.str _) (.cons (dz'.same (t1.trans (t2.trans t3))) (.cons d3 .nil))) fun F4 t4 d4 => ⟨(by show 3 ≤ sizeLine; decide), fun q5 m5 => tupG m5 (.cons (.str _) (.cons (d2.same (t3.trans t4)) (.cons d4 .nil))) fun F5 t5 d5 => ?_⟩⟩⟩⟩⟩
      have sS := sT.trans (t1.trans (t2.trans (t3.trans (t4.trans t5))))
      have gA' := sS _ _ gA
      have lw := dw.len
      rw [List.length_map] at lw
      have lw : ss.length + 1 = ws.length := lw
      refine ⟨pr19, _, _, rfl, rfl, gA', small1000 (by omega), ?_⟩
      have k1 : Kv.Kn Non F5 (upd F5 pr19 (.lst (ws ++ [.ref q5]))) := Kn.rfl.put (fun z => z) fun _ z => by rw [gA'] at z; cases z
      refine ⟨_, _, ws ++ [.ref q5], ss ++ [.tup [.at (.str "alike"), .hole (.opn zo) [], .hole (.opn zo) []]], rfl, smk (sG.trans sS) fr19, ?_, upd_same, ?_, fun s hs' => ?_, ?_⟩
      · rw [upd_ne (fun w => neD w.symm)]
        exact sS _ _ hD
      · rw [← List.cons_append, List.map_append]
        exact ((dw.same sS).kn k1).app (.cons (d5.kn k1) .nil)
      · rcases List.mem_append.mp hs' with w | w
        · exact hs s w
        · rw [List.mem_singleton.mp w]
          exact (s_alike hlo mz I).weak (by decide)
      · rw [List.length_append]
        show ss.length + 1 ≤ _
        omega
    · obtain ⟨y8, y9, ws, ss, rfl, sG, hD, gA, dw, hs, ls⟩ := z
      exact ⟨_, rfl, q _ _ _ ss G (kp0'.trans (.of sG)) (dk'.same sG) offL.1 offL.2 gA dw (s_tru.up (by decide)) hs (by omega)⟩
  | pair a b =>
    obtain ⟨pk, u1, u2, rfl, gk, da, db⟩ := Dd.of3 dd
    refine ⟨_, rfl, pk, _, _, _, rfl, rfl, SqT.of gk, atI_nat (j := 0) rfl, rfl, _, rfl, ite2 (fun z => absurd z (show ¬ decide (V.str "pair" = V.str "fun") = true by decide +kernel)) (fun _ => ?_)⟩
    refine ⟨_, rfl, pk, _, _, _, rfl, rfl, SqT.of gk, atI_nat (j := 0) rfl, rfl, _, rfl, ite2 (fun z => absurd z (show ¬ decide (V.str "pair" = V.str "num") = true by decide +kernel)) (fun _ => ?_)⟩
    refine ⟨_, rfl, pk, _, _, _, rfl, rfl, SqT.of gk, atI_nat (j := 0) rfl, rfl, _, rfl, ite2 (fun z => absurd z (show ¬ decide (V.str "pair" = V.str "truth") = true by decide +kernel)) (fun _ => ?_)⟩
    refine ⟨_, rfl, pk, _, _, _, rfl, rfl, SqT.of gk, atI_nat (j := 0) rfl, rfl, _, rfl, ite2 (fun _ => ?_) (fun z => absurd (show decide (V.str "pair" = V.str "pair") = true by decide +kernel) z)⟩
    refine ⟨_, rfl, pk, _, _, _, rfl, rfl, SqT.of gk, atI_nat (j := 1) rfl, (by show 0 ≤ sizeLine; decide), fun pr20 nr20 => tupG nr20 .nil fun Gr20 sr20 dr20 => ?_⟩
    have dr20 : Dd Non Gr20 (.tup (([] : List (Str × Kd)).map fun p => Dt.tup [.str p.1, p.2.dt])) (.ref pr20) := dr20
    replace dk := dk.same sr20
    replace J := J.same sr20
    replace gl := sr20 _ _ gl
    replace pE := Paired.mapP pE fun _ _ h => h.tk (Tk.of sr20)
    replace dd := dd.same sr20
    replace kp0 := kp0.trans (.of sr20)
    replace gk := sr20 _ _ gk
    replace da := da.same sr20
    replace db := db.same sr20
    refine ⟨(by show 3 ≤ sizeLine; decide), fun pr21 nr21 => tupG nr21 (.cons (.str _) (.cons da (.cons dr20 .nil))) fun Gr21 sr21 dr21 => ?_⟩
    have dr21 : Dd Non Gr21 (Sd.dt (.hole (a) [])) (.ref pr21) := dr21
    replace dk := dk.same sr21
    replace J := J.same sr21
    replace gl := sr21 _ _ gl
    replace pE := Paired.mapP pE fun _ _ h => h.tk (Tk.of sr21)
    replace dd := dd.same sr21
    replace kp0 := kp0.trans (.of sr21)
    replace gk := sr21 _ _ gk
    replace da := da.same sr21
    replace db := db.same sr21
    replace dr20 := dr20.same sr21
    refine ⟨_, rfl, pk, _, _, _, rfl, rfl, SqT.of gk, atI_nat (j := 2) rfl, (by show 0 ≤ sizeLine; decide), fun pr22 nr22 => tupG nr22 .nil fun Gr22 sr22 dr22 => ?_⟩
    have dr22 : Dd Non Gr22 (.tup (([] : List (Str × Kd)).map fun p => Dt.tup [.str p.1, p.2.dt])) (.ref pr22) := dr22
    replace dk := dk.same sr22
    replace J := J.same sr22
    replace gl := sr22 _ _ gl
    replace pE := Paired.mapP pE fun _ _ h => h.tk (Tk.of sr22)
    replace dd := dd.same sr22
    replace kp0 := kp0.trans (.of sr22)
    replace gk := sr22 _ _ gk
    replace da := da.same sr22
    replace db := db.same sr22
    replace dr20 := dr20.same sr22
    replace dr21 := dr21.same sr22
    refine ⟨(by show 3 ≤ sizeLine; decide), fun pr23 nr23 => tupG nr23 (.cons (.str _) (.cons db (.cons dr22 .nil))) fun Gr23 sr23 dr23 => ?_⟩
    have dr23 : Dd Non Gr23 (Sd.dt (.hole (b) [])) (.ref pr23) := dr23
    replace dk := dk.same sr23
    replace J := J.same sr23
    replace gl := sr23 _ _ gl
    replace pE := Paired.mapP pE fun _ _ h => h.tk (Tk.of sr23)
    replace dd := dd.same sr23
    replace kp0 := kp0.trans (.of sr23)
    replace gk := sr23 _ _ gk
    replace da := da.same sr23
    replace db := db.same sr23
    replace dr20 := dr20.same sr23
    replace dr21 := dr21.same sr23
    replace dr22 := dr22.same sr23
    refine ⟨(by show 3 ≤ sizeLine; decide), fun pr24 nr24 => tupG nr24 (.cons (.str _) (.cons dr21 (.cons dr23 .nil))) fun Gr24 sr24 dr24 => ?_⟩
    have dr24 : Dd Non Gr24 (Sd.dt (.tup [.at (.str "pair"), (.hole (a) []), (.hole (b) [])])) (.ref pr24) := dr24
    replace dk := dk.same sr24
    replace J := J.same sr24
    replace gl := sr24 _ _ gl
    replace pE := Paired.mapP pE fun _ _ h => h.tk (Tk.of sr24)
    replace dd := dd.same sr24
    replace kp0 := kp0.trans (.of sr24)
    replace gk := sr24 _ _ gk
    replace da := da.same sr24
    replace db := db.same sr24
    replace dr20 := dr20.same sr24
    replace dr21 := dr21.same sr24
    replace dr22 := dr22.same sr24
    replace dr23 := dr23.same sr24
    refine ⟨(by show 1 ≤ sizeLine; decide), fun pr25 nr25 => ?_⟩
    have or25 := dk.off nr25
    refine lstG nr25 fun Gr25 sr25 gr25 => ?_
    have gr25 : Gr25 pr25 = some (.lst [.ref pr24]) := gr25
    replace dk := dk.same sr25
    replace J := J.same sr25
    replace gl := sr25 _ _ gl
    replace pE := Paired.mapP pE fun _ _ h => h.tk (Tk.of sr25)
    replace dd := dd.same sr25
    replace kp0 := kp0.trans (.of sr25)
    replace gk := sr25 _ _ gk
    replace da := da.same sr25
    replace db := db.same sr25
    replace dr20 := dr20.same sr25
    replace dr21 := dr21.same sr25
    replace dr22 := dr22.same sr25
    replace dr23 := dr23.same sr25
    replace dr24 := dr24.same sr25
    exact q _ _ (.tup [.at (.str "pair"), (.hole (a) []), (.hole (b) [])]) [] _ kp0 dk or25.1 or25.2 gr25 (.cons dr24 .nil) ((s_pair I).up (by decide)) (fun s hs => by cases hs) (by show 0 ≤ 61; decide)
  | eith a b =>
    obtain ⟨pk, u1, u2, rfl, gk, da, db⟩ := Dd.of3 dd
    refine ⟨_, rfl, pk, _, _, _, rfl, rfl, SqT.of gk, atI_nat (j := 0) rfl, rfl, _, rfl, ite2 (fun z => absurd z (show ¬ decide (V.str "either" = V.str "fun") = true by decide +kernel)) (fun _ => ?_)⟩
    refine ⟨_, rfl, pk, _, _, _, rfl, rfl, SqT.of gk, atI_nat (j := 0) rfl, rfl, _, rfl, ite2 (fun z => absurd z (show ¬ decide (V.str "either" = V.str "num") = true by decide +kernel)) (fun _ => ?_)⟩
    refine ⟨_, rfl, pk, _, _, _, rfl, rfl, SqT.of gk, atI_nat (j := 0) rfl, rfl, _, rfl, ite2 (fun z => absurd z (show ¬ decide (V.str "either" = V.str "truth") = true by decide +kernel)) (fun _ => ?_)⟩
    refine ⟨_, rfl, pk, _, _, _, rfl, rfl, SqT.of gk, atI_nat (j := 0) rfl, rfl, _, rfl, ite2 (fun z => absurd z (show ¬ decide (V.str "either" = V.str "pair") = true by decide +kernel)) (fun _ => ?_)⟩
    refine ⟨_, rfl, pk, _, _, _, rfl, rfl, SqT.of gk, atI_nat (j := 0) rfl, rfl, _, rfl, ite2 (fun _ => ?_) (fun z => absurd (show decide (V.str "either" = V.str "either") = true by decide +kernel) z)⟩
    refine ⟨_, rfl, pk, _, _, _, rfl, rfl, SqT.of gk, atI_nat (j := 1) rfl, (by show 0 ≤ sizeLine; decide), fun pr26 nr26 => tupG nr26 .nil fun Gr26 sr26 dr26 => ?_⟩
    have dr26 : Dd Non Gr26 (.tup (([] : List (Str × Kd)).map fun p => Dt.tup [.str p.1, p.2.dt])) (.ref pr26) := dr26
    replace dk := dk.same sr26
    replace J := J.same sr26
    replace gl := sr26 _ _ gl
    replace pE := Paired.mapP pE fun _ _ h => h.tk (Tk.of sr26)
    replace dd := dd.same sr26
    replace kp0 := kp0.trans (.of sr26)
    replace gk := sr26 _ _ gk
    replace da := da.same sr26
    replace db := db.same sr26
    refine ⟨(by show 3 ≤ sizeLine; decide), fun pr27 nr27 => tupG nr27 (.cons (.str _) (.cons da (.cons dr26 .nil))) fun Gr27 sr27 dr27 => ?_⟩
    have dr27 : Dd Non Gr27 (Sd.dt (.hole (a) [])) (.ref pr27) := dr27
    replace dk := dk.same sr27
    replace J := J.same sr27
    replace gl := sr27 _ _ gl
    replace pE := Paired.mapP pE fun _ _ h => h.tk (Tk.of sr27)
    replace dd := dd.same sr27
    replace kp0 := kp0.trans (.of sr27)
    replace gk := sr27 _ _ gk
    replace da := da.same sr27
    replace db := db.same sr27
    replace dr26 := dr26.same sr27
    refine ⟨_, rfl, pk, _, _, _, rfl, rfl, SqT.of gk, atI_nat (j := 2) rfl, (by show 3 ≤ sizeLine; decide), fun pr28 nr28 => tupG nr28 (.cons (.str _) (.cons dr27 (.cons (sdK db) .nil))) fun Gr28 sr28 dr28 => ?_⟩
    have dr28 : Dd Non Gr28 (Sd.dt (.tup [.at (.str "left"), (.hole (a) []), Kd.sd (b)])) (.ref pr28) := dr28
    replace dk := dk.same sr28
    replace J := J.same sr28
    replace gl := sr28 _ _ gl
    replace pE := Paired.mapP pE fun _ _ h => h.tk (Tk.of sr28)
    replace dd := dd.same sr28
    replace kp0 := kp0.trans (.of sr28)
    replace gk := sr28 _ _ gk
    replace da := da.same sr28
    replace db := db.same sr28
    replace dr26 := dr26.same sr28
    replace dr27 := dr27.same sr28
    refine ⟨_, rfl, pk, _, _, _, rfl, rfl, SqT.of gk, atI_nat (j := 1) rfl, _, rfl, pk, _, _, _, rfl, rfl, SqT.of gk, atI_nat (j := 2) rfl, (by show 0 ≤ sizeLine; decide), fun pr29 nr29 => tupG nr29 .nil fun Gr29 sr29 dr29 => ?_⟩
    have dr29 : Dd Non Gr29 (.tup (([] : List (Str × Kd)).map fun p => Dt.tup [.str p.1, p.2.dt])) (.ref pr29) := dr29
    replace dk := dk.same sr29
    replace J := J.same sr29
    replace gl := sr29 _ _ gl
    replace pE := Paired.mapP pE fun _ _ h => h.tk (Tk.of sr29)
    replace dd := dd.same sr29
    replace kp0 := kp0.trans (.of sr29)
    replace gk := sr29 _ _ gk
    replace da := da.same sr29
    replace db := db.same sr29
    replace dr26 := dr26.same sr29
    replace dr27 := dr27.same sr29
    replace dr28 := dr28.same sr29
    refine ⟨(by show 3 ≤ sizeLine; decide), fun pr30 nr30 => tupG nr30 (.cons (.str _) (.cons db (.cons dr29 .nil))) fun Gr30 sr30 dr30 => ?_⟩
    have dr30 : Dd Non Gr30 (Sd.dt (.hole (b) [])) (.ref pr30) := dr30
    replace dk := dk.same sr30
    replace J := J.same sr30
    replace gl := sr30 _ _ gl
    replace pE := Paired.mapP pE fun _ _ h => h.tk (Tk.of sr30)
    replace dd := dd.same sr30
    replace kp0 := kp0.trans (.of sr30)
    replace gk := sr30 _ _ gk
    replace da := da.same sr30
    replace db := db.same sr30
    replace dr26 := dr26.same sr30
    replace dr27 := dr27.same sr30
    replace dr28 := dr28.same sr30
    replace dr29 := dr29.same sr30
    refine ⟨(by show 3 ≤ sizeLine; decide), fun pr31 nr31 => tupG nr31 (.cons (.str _) (.cons (sdK da) (.cons dr30 .nil))) fun Gr31 sr31 dr31 => ?_⟩
    have dr31 : Dd Non Gr31 (Sd.dt (.tup [.at (.str "right"), Kd.sd (a), (.hole (b) [])])) (.ref pr31) := dr31
    replace dk := dk.same sr31
    replace J := J.same sr31
    replace gl := sr31 _ _ gl
    replace pE := Paired.mapP pE fun _ _ h => h.tk (Tk.of sr31)
    replace dd := dd.same sr31
    replace kp0 := kp0.trans (.of sr31)
    replace gk := sr31 _ _ gk
    replace da := da.same sr31
    replace db := db.same sr31
    replace dr26 := dr26.same sr31
    replace dr27 := dr27.same sr31
    replace dr28 := dr28.same sr31
    replace dr29 := dr29.same sr31
    replace dr30 := dr30.same sr31
    refine ⟨(by show 2 ≤ sizeLine; decide), fun pr32 nr32 => ?_⟩
    have or32 := dk.off nr32
    refine lstG nr32 fun Gr32 sr32 gr32 => ?_
    have gr32 : Gr32 pr32 = some (.lst [.ref pr28, .ref pr31]) := gr32
    replace dk := dk.same sr32
    replace J := J.same sr32
    replace gl := sr32 _ _ gl
    replace pE := Paired.mapP pE fun _ _ h => h.tk (Tk.of sr32)
    replace dd := dd.same sr32
    replace kp0 := kp0.trans (.of sr32)
    replace gk := sr32 _ _ gk
    replace da := da.same sr32
    replace db := db.same sr32
    replace dr26 := dr26.same sr32
    replace dr27 := dr27.same sr32
    replace dr28 := dr28.same sr32
    replace dr29 := dr29.same sr32
    replace dr30 := dr30.same sr32
    replace dr31 := dr31.same sr32
    exact q _ _ (.tup [.at (.str "left"), (.hole (a) []), Kd.sd (b)]) [(.tup [.at (.str "right"), Kd.sd (a), (.hole (b) [])])] _ kp0 dk or32.1 or32.2 gr32 (.cons dr28 (.cons dr31 .nil)) (s_left I) (fun s hs => by rw [List.mem_singleton.mp hs]; exact (s_right I).weak (Nat.le_refl _)) (by show 1 ≤ 61; decide)
  | lst a =>
    obtain ⟨pk, u1, rfl, gk, da⟩ := Dd.of2 dd
    refine ⟨_, rfl, pk, _, _, _, rfl, rfl, SqT.of gk, atI_nat (j := 0) rfl, rfl, _, rfl, ite2 (fun z => absurd z (show ¬ decide (V.str "list" = V.str "fun") = true by decide +kernel)) (fun _ => ?_)⟩
    refine ⟨_, rfl, pk, _, _, _, rfl, rfl, SqT.of gk, atI_nat (j := 0) rfl, rfl, _, rfl, ite2 (fun z => absurd z (show ¬ decide (V.str "list" = V.str "num") = true by decide +kernel)) (fun _ => ?_)⟩
    refine ⟨_, rfl, pk, _, _, _, rfl, rfl, SqT.of gk, atI_nat (j := 0) rfl, rfl, _, rfl, ite2 (fun z => absurd z (show ¬ decide (V.str "list" = V.str "truth") = true by decide +kernel)) (fun _ => ?_)⟩
    refine ⟨_, rfl, pk, _, _, _, rfl, rfl, SqT.of gk, atI_nat (j := 0) rfl, rfl, _, rfl, ite2 (fun z => absurd z (show ¬ decide (V.str "list" = V.str "pair") = true by decide +kernel)) (fun _ => ?_)⟩
    refine ⟨_, rfl, pk, _, _, _, rfl, rfl, SqT.of gk, atI_nat (j := 0) rfl, rfl, _, rfl, ite2 (fun z => absurd z (show ¬ decide (V.str "list" = V.str "either") = true by decide +kernel)) (fun _ => ?_)⟩
    refine ⟨_, rfl, pk, _, _, _, rfl, rfl, SqT.of gk, atI_nat (j := 0) rfl, rfl, _, rfl, ite2 (fun _ => ?_) (fun z => absurd (show decide (V.str "list" = V.str "list") = true by decide +kernel) z)⟩
    refine ⟨_, rfl, pk, _, _, _, rfl, rfl, SqT.of gk, atI_nat (j := 1) rfl, (by show 2 ≤ sizeLine; decide), fun pr33 nr33 => tupG nr33 (.cons (.str _) (.cons (sdK da) .nil)) fun Gr33 sr33 dr33 => ?_⟩
    have dr33 : Dd Non Gr33 (Sd.dt (.tup [.at (.str "none"), Kd.sd (a)])) (.ref pr33) := dr33
    replace dk := dk.same sr33
    replace J := J.same sr33
    replace gl := sr33 _ _ gl
    replace pE := Paired.mapP pE fun _ _ h => h.tk (Tk.of sr33)
    replace dd := dd.same sr33
    replace kp0 := kp0.trans (.of sr33)
    replace gk := sr33 _ _ gk
    replace da := da.same sr33
    refine ⟨_, rfl, pk, _, _, _, rfl, rfl, SqT.of gk, atI_nat (j := 1) rfl, (by show 0 ≤ sizeLine; decide), fun pr34 nr34 => tupG nr34 .nil fun Gr34 sr34 dr34 => ?_⟩
    have dr34 : Dd Non Gr34 (.tup (([] : List (Str × Kd)).map fun p => Dt.tup [.str p.1, p.2.dt])) (.ref pr34) := dr34
    replace dk := dk.same sr34
    replace J := J.same sr34
    replace gl := sr34 _ _ gl
    replace pE := Paired.mapP pE fun _ _ h => h.tk (Tk.of sr34)
    replace dd := dd.same sr34
    replace kp0 := kp0.trans (.of sr34)
    replace gk := sr34 _ _ gk
    replace da := da.same sr34
    replace dr33 := dr33.same sr34
    refine ⟨(by show 3 ≤ sizeLine; decide), fun pr35 nr35 => tupG nr35 (.cons (.str _) (.cons da (.cons dr34 .nil))) fun Gr35 sr35 dr35 => ?_⟩
    have dr35 : Dd Non Gr35 (Sd.dt (.hole (a) [])) (.ref pr35) := dr35
    replace dk := dk.same sr35
    replace J := J.same sr35
    replace gl := sr35 _ _ gl
    replace pE := Paired.mapP pE fun _ _ h => h.tk (Tk.of sr35)
    replace dd := dd.same sr35
    replace kp0 := kp0.trans (.of sr35)
    replace gk := sr35 _ _ gk
    replace da := da.same sr35
    replace dr33 := dr33.same sr35
    replace dr34 := dr34.same sr35
    refine ⟨_, rfl, (by show 0 ≤ sizeLine; decide), fun pr36 nr36 => tupG nr36 .nil fun Gr36 sr36 dr36 => ?_⟩
    have dr36 : Dd Non Gr36 (.tup (([] : List (Str × Kd)).map fun p => Dt.tup [.str p.1, p.2.dt])) (.ref pr36) := dr36
    replace dk := dk.same sr36
    replace J := J.same sr36
    replace gl := sr36 _ _ gl
    replace pE := Paired.mapP pE fun _ _ h => h.tk (Tk.of sr36)
    replace dd := dd.same sr36
    replace kp0 := kp0.trans (.of sr36)
    replace gk := sr36 _ _ gk
    replace da := da.same sr36
    replace dr33 := dr33.same sr36
    replace dr34 := dr34.same sr36
    replace dr35 := dr35.same sr36
    refine ⟨(by show 3 ≤ sizeLine; decide), fun pr37 nr37 => tupG nr37 (.cons (.str _) (.cons dd (.cons dr36 .nil))) fun Gr37 sr37 dr37 => ?_⟩
    have dr37 : Dd Non Gr37 (Sd.dt (.hole (Kd.lst a) [])) (.ref pr37) := dr37
    replace dk := dk.same sr37
    replace J := J.same sr37
    replace gl := sr37 _ _ gl
    replace pE := Paired.mapP pE fun _ _ h => h.tk (Tk.of sr37)
    replace dd := dd.same sr37
    replace kp0 := kp0.trans (.of sr37)
    replace gk := sr37 _ _ gk
    replace da := da.same sr37
    replace dr33 := dr33.same sr37
    replace dr34 := dr34.same sr37
    replace dr35 := dr35.same sr37
    replace dr36 := dr36.same sr37
    refine ⟨(by show 3 ≤ sizeLine; decide), fun pr38 nr38 => tupG nr38 (.cons (.str _) (.cons dr35 (.cons dr37 .nil))) fun Gr38 sr38 dr38 => ?_⟩
    have dr38 : Dd Non Gr38 (Sd.dt (.tup [.at (.str "more"), (.hole (a) []), (.hole (Kd.lst a) [])])) (.ref pr38) := dr38
    replace dk := dk.same sr38
    replace J := J.same sr38
    replace gl := sr38 _ _ gl
    replace pE := Paired.mapP pE fun _ _ h => h.tk (Tk.of sr38)
    replace dd := dd.same sr38
    replace kp0 := kp0.trans (.of sr38)
    replace gk := sr38 _ _ gk
    replace da := da.same sr38
    replace dr33 := dr33.same sr38
    replace dr34 := dr34.same sr38
    replace dr35 := dr35.same sr38
    replace dr36 := dr36.same sr38
    replace dr37 := dr37.same sr38
    refine ⟨(by show 2 ≤ sizeLine; decide), fun pr39 nr39 => ?_⟩
    have or39 := dk.off nr39
    refine lstG nr39 fun Gr39 sr39 gr39 => ?_
    have gr39 : Gr39 pr39 = some (.lst [.ref pr33, .ref pr38]) := gr39
    replace dk := dk.same sr39
    replace J := J.same sr39
    replace gl := sr39 _ _ gl
    replace pE := Paired.mapP pE fun _ _ h => h.tk (Tk.of sr39)
    replace dd := dd.same sr39
    replace kp0 := kp0.trans (.of sr39)
    replace gk := sr39 _ _ gk
    replace da := da.same sr39
    replace dr33 := dr33.same sr39
    replace dr34 := dr34.same sr39
    replace dr35 := dr35.same sr39
    replace dr36 := dr36.same sr39
    replace dr37 := dr37.same sr39
    replace dr38 := dr38.same sr39
    exact q _ _ (.tup [.at (.str "none"), Kd.sd (a)]) [(.tup [.at (.str "more"), (.hole (a) []), (.hole (Kd.lst a) [])])] _ kp0 dk or39.1 or39.2 gr39 (.cons dr33 (.cons dr38 .nil)) (s_none I) (fun s hs => by rw [List.mem_singleton.mp hs]; exact (s_more I).weak (by decide)) (by show 1 ≤ 61; decide)
  | opn z =>
    obtain ⟨pk, rfl, gk⟩ := dd_rp0 dd
    refine ⟨_, rfl, pk, _, _, _, rfl, rfl, SqT.of gk, atI_nat (j := 0) rfl, rfl, _, rfl, ite2 (fun z => absurd z (show ¬ decide (V.str "open" = V.str "fun") = true by decide +kernel)) (fun _ => ?_)⟩
    refine ⟨_, rfl, pk, _, _, _, rfl, rfl, SqT.of gk, atI_nat (j := 0) rfl, rfl, _, rfl, ite2 (fun z => absurd z (show ¬ decide (V.str "open" = V.str "num") = true by decide +kernel)) (fun _ => ?_)⟩
    refine ⟨_, rfl, pk, _, _, _, rfl, rfl, SqT.of gk, atI_nat (j := 0) rfl, rfl, _, rfl, ite2 (fun z => absurd z (show ¬ decide (V.str "open" = V.str "truth") = true by decide +kernel)) (fun _ => ?_)⟩
    refine ⟨_, rfl, pk, _, _, _, rfl, rfl, SqT.of gk, atI_nat (j := 0) rfl, rfl, _, rfl, ite2 (fun z => absurd z (show ¬ decide (V.str "open" = V.str "pair") = true by decide +kernel)) (fun _ => ?_)⟩
    refine ⟨_, rfl, pk, _, _, _, rfl, rfl, SqT.of gk, atI_nat (j := 0) rfl, rfl, _, rfl, ite2 (fun z => absurd z (show ¬ decide (V.str "open" = V.str "either") = true by decide +kernel)) (fun _ => ?_)⟩
    refine ⟨_, rfl, pk, _, _, _, rfl, rfl, SqT.of gk, atI_nat (j := 0) rfl, rfl, _, rfl, ite2 (fun z => absurd z (show ¬ decide (V.str "open" = V.str "list") = true by decide +kernel)) (fun _ => ?_)⟩
    refine ⟨_, rfl, (by show 2 ≤ sizeLine; decide), fun pr40 nr40 => tupG nr40 (.cons (.str _) (.cons (sdK dd) .nil)) fun Gr40 sr40 dr40 => ?_⟩
    have dr40 : Dd Non Gr40 (Sd.dt (.tup [.at (.str "fault"), Kd.sd (Kd.opn z)])) (.ref pr40) := dr40
    replace dk := dk.same sr40
    replace J := J.same sr40
    replace gl := sr40 _ _ gl
    replace pE := Paired.mapP pE fun _ _ h => h.tk (Tk.of sr40)
    replace dd := dd.same sr40
    replace kp0 := kp0.trans (.of sr40)
    replace gk := sr40 _ _ gk
    refine ⟨(by show 1 ≤ sizeLine; decide), fun pr41 nr41 => ?_⟩
    have or41 := dk.off nr41
    refine lstG nr41 fun Gr41 sr41 gr41 => ?_
    have gr41 : Gr41 pr41 = some (.lst [.ref pr40]) := gr41
    replace dk := dk.same sr41
    replace J := J.same sr41
    replace gl := sr41 _ _ gl
    replace pE := Paired.mapP pE fun _ _ h => h.tk (Tk.of sr41)
    replace dd := dd.same sr41
    replace kp0 := kp0.trans (.of sr41)
    replace gk := sr41 _ _ gk
    replace dr40 := dr40.same sr41
    exact q _ _ (.tup [.at (.str "fault"), Kd.sd (Kd.opn z)]) [] _ kp0 dk or41.1 or41.2 gr41 (.cons dr40 .nil) (s_fault rfl I) (fun s hs => by cases hs) (by show 0 ≤ 61; decide)
end
end Kq
/-! x in t, data of any depth in a tuple -/
namespace Kt
open PySem PySem.Spec PyProof.Rows L2
section
variable {X : Cx}
def rInT (K : PySem.W.Frag) : R2 := fun x y H Q => ∃ d ds, Dp K H x d ∧ Dp K H y (.tuple ds) ∧ SeqAt.shaped d = true ∧ SeqAt.shaped (.list ds) = true ∧ Q (.bl (ds.any fun z => PyData.eqv z d)) H
theorem op_inT (hu : X.A.units + 65 < cLine) : OpR X (compareOp .In) (rInT X.K) := by
  intro pins s σ H x y v u Q I rx ry h
  obtain ⟨d, ds, hd, he, sd, se, q⟩ := h
  obtain ⟨as, r1⟩ := Dp.reads I d x v hd rx
  obtain ⟨bs, r2⟩ := Dp.reads I (.tuple ds) y u he ry
  exact SeqAt.in_tuple_reads r2 r1 (SeqAt.canLay_of_shaped se) (SeqAt.canLay_of_shaped sd) (room_in_shaped sd hu) ⟨.bl _, H, I, rfl, q⟩
theorem op_inTK (K : PySem.W.Frag) (h : X.K = K) (hu : X.A.units + 65 < cLine) : OpR X (compareOp .In) (rInT K) := by
  subst h
  exact op_inT hu
end
end Kt
/-! _law_other_shapes -/
namespace Kq
open PySem PySem.Spec PyProof.Rows L2 Kf Kg Kv Kk Ku
def words7 : List Str := ["if", "part", "case", "fold", "rounds", "call", "built"]
theorem hu65 {k : Nat} {A : Around} (r : Room k A) : A.units + 65 < cLine := by have := r.un; omega
/-- values of such kinds -/
def VlP (G : Hp) (p : Kd → Prop) (vs : List V) : Prop := ∀ v ∈ vs, ∃ k', p k' ∧ Dd Non G k'.dt v
theorem VlP.kn {G F : Hp} {p : Kd → Prop} {vs : List V} (h : VlP G p vs) (s : Kv.Kn Non G F) : VlP F p vs := fun v hv => by
  obtain ⟨k, a, b⟩ := h v hv
  exact ⟨k, a, b.kn s⟩
theorem VlP.same {G F : Hp} {p : Kd → Prop} {vs : List V} (h : VlP G p vs) (s : Same G F) : VlP F p vs := fun v hv => by
  obtain ⟨k, a, b⟩ := h v hv
  exact ⟨k, a, b.same s⟩
theorem VlP.app {G : Hp} {p : Kd → Prop} {vs ws : List V} (h : VlP G p vs) (g : VlP G p ws) : VlP G p (vs ++ ws) := fun v hv => (List.mem_append.mp hv).elim (h v) (g v)
theorem VlP.one {G : Hp} {p : Kd → Prop} {v : V} {k : Kd} (h : p k) (d : Dd Non G k.dt v) : VlP G p [v] := fun w hw => by rw [List.mem_singleton.mp hw]; exact ⟨k, h, d⟩
theorem VlP.nil {G : Hp} {p : Kd → Prop} : VlP G p [] := fun w hw => by cases hw
theorem VlP.imp {G : Hp} {p q : Kd → Prop} {vs : List V} (h : VlP G p vs) (f : ∀ k, p k → q k) : VlP G q vs := fun v hv => by
  obtain ⟨k, a, b⟩ := h v hv
  exact ⟨k, f k a, b⟩
theorem len5 {xs : List Str} (h : xs.length = 3) : ∃ x0 x1 x2, xs = [x0, x1, x2] := by
  match xs, h with
  | [x0, x1, x2], _ => exact ⟨x0, x1, x2, rfl⟩
theorem neFn1 {k : Kd} (c : (!decide (V.str k.word = V.str "fun")) = true) : k.isFn = false := by
  cases k with
  | fn a b => exact absurd (show (!decide (V.str "fun" = V.str "fun")) = true from c) (by decide +kernel)
  | _ => rfl
theorem Kn1.ls1 {NO : List Str} {i : Int} {a : Kd} (h : Kn1 NO i (.lst a)) : Kn1 NO (i - 1) a := by
  have d := h.isDat rfl
  have s := h.sz
  rw [Kd.size_ls] at s
  have p := h.dp
  rw [Kd.dp] at p
  exact .of d (by have := @ub_up i; omega) h.op h.nm (by have := @db_up i; omega)
theorem Kn1.ei1 {NO : List Str} {i : Int} {a b : Kd} (h : Kn1 NO i (.eith a b)) : Kn1 NO (i - 1) a ∧ Kn1 NO (i - 1) b := by
  obtain ⟨d1, d2⟩ := Bool.and_eq_true_iff.mp (h.isDat rfl)
  have s := h.sz
  rw [Kd.size_ei] at s
  have p := h.dp
  rw [Kd.dp] at p
  have := @ub_up i
  have := @db_up i
  exact ⟨.of d1 (by omega) (fun x hx => h.op x (List.mem_append_left _ hx)) (fun x hx => h.nm x (List.mem_append_left _ hx)) (by omega), .of d2 (by omega) (fun x hx => h.op x (List.mem_append_right _ hx)) (fun x hx => h.nm x (List.mem_append_right _ hx)) (by omega)⟩
theorem Kn1.num {NO : List Str} {i : Int} : Kn1 NO i .num := .of rfl (by have := @ub_1 i; show 1 ≤ _; omega) (fun x h => by cases h) (fun x h => by cases h) (Nat.zero_le _)
theorem Kn1.tru {NO : List Str} {i : Int} : Kn1 NO i .tru := .of rfl (by have := @ub_1 i; show 1 ≤ _; omega) (fun x h => by cases h) (fun x h => by cases h) (Nat.zero_le _)
theorem Wn.lnum {NO : List Str} {i : Int} : Wn NO i (.lst .num) := .of rfl (by have := @wb_55 i; show 2 ≤ _; omega) (fun x h => by cases h) (fun x h => by cases h) (by have := @db_3 i; show 1 ≤ _; omega)
theorem Wn.teith {NO : List Str} {i : Int} {k : Kd} (h : Wn NO i k) (n : k.isFn = false) (i4 : i ≤ 6) (h0 : 0 < i) : Wn NO (i - 1) (.eith .tru k) := by
  obtain ⟨d, p⟩ := h.dat n
  have s := h.sz
  exact .of (Bool.and_eq_true_iff.mpr ⟨rfl, d⟩) (by rw [Kd.size_ei]; have := wu_wb i4 h0; have := @ub_1 i; show 1 + k.size + 1 ≤ _; omega) (fun x hx => h.op x hx) (fun x hx => h.nm x hx) (by have := db_1 i4 h0; show max 0 k.dp + 1 ≤ _; omega)
/-- a dict of shapes -/
def Tbl (G : Hp) (SH : Sd → Prop) (kvs : List (Key × V)) (ws : List Str) : Prop := kvs.length ≤ ws.length ∧ ∀ w ∈ ws, ∃ v s, valV kvs (.inr w) = some v ∧ Dd Non G s.dt v ∧ SH s
theorem Tbl.kn {G F : Hp} {SH : Sd → Prop} {kvs : List (Key × V)} {ws : List Str} (h : Tbl G SH kvs ws) (s : Kv.Kn Non G F) : Tbl F SH kvs ws := ⟨h.1, fun w hw => by
  obtain ⟨v, x, a, b, c⟩ := h.2 w hw
  exact ⟨v, x, a, b.kn s, c⟩⟩
theorem Tbl.same {G F : Hp} {SH : Sd → Prop} {kvs : List (Key × V)} {ws : List Str} (h : Tbl G SH kvs ws) (s : Same G F) : Tbl F SH kvs ws := ⟨h.1, fun w hw => by
  obtain ⟨v, x, a, b, c⟩ := h.2 w hw
  exact ⟨v, x, a, b.same s, c⟩⟩
theorem Tbl.put {G : Hp} {SH : Sd → Prop} {kvs : List (Key × V)} {ws : List Str} {w : Str} {v : V} {s : Sd} (h : Tbl G SH kvs ws) (d : Dd Non G s.dt v) (hs : SH s) : Tbl G SH (putK kvs (.inr w) v) (w :: ws) := by
  refine ⟨Nat.le_trans (length_putK _ _ _) (Nat.succ_le_succ h.1), fun u hu => ?_⟩
  rw [valV_put]
  by_cases c : u = w
  · rw [if_pos (by rw [c])]
    exact ⟨v, s, rfl, d, hs⟩
  · rw [if_neg (fun z => c (Sum.inr.inj z))]
    exact h.2 u ((List.mem_cons.mp hu).resolve_left c)
theorem Wn.pr {NO : List Str} {i : Int} {k q : Kd} (h : Wn NO i k) (n : k.isFn = false) (g : Kn1 NO i q) (m : q.isFn = false) (i4 : i ≤ 6) (h0 : 0 < i) : Wn NO (i - 1) (.pair k q) ∧ Wn NO (i - 1) (.pair q k) ∧ Wn NO (i - 1) (.eith q k) := by
  obtain ⟨d, p⟩ := h.dat n
  have s := h.sz
  have d2 := g.isDat m
  have p2 := g.dp
  have s2 := g.sz
  have w := wu_wb i4 h0
  have e := db_1 i4 h0
  refine ⟨.of (Bool.and_eq_true_iff.mpr ⟨d, d2⟩) (by rw [Kd.size_pr]; omega) (fun x hx => (List.mem_append.mp hx).elim (h.op x) (g.op x)) (fun x hx => (List.mem_append.mp hx).elim (h.nm x) (g.nm x)) (by show max k.dp q.dp + 1 ≤ _; omega), ?_, ?_⟩
  · exact .of (Bool.and_eq_true_iff.mpr ⟨d2, d⟩) (by rw [Kd.size_pr]; omega) (fun x hx => (List.mem_append.mp hx).elim (g.op x) (h.op x)) (fun x hx => (List.mem_append.mp hx).elim (g.nm x) (h.nm x)) (by show max q.dp k.dp + 1 ≤ _; omega)
  · exact .of (Bool.and_eq_true_iff.mpr ⟨d2, d⟩) (by rw [Kd.size_ei]; omega) (fun x hx => (List.mem_append.mp hx).elim (g.op x) (h.op x)) (fun x hx => (List.mem_append.mp hx).elim (g.nm x) (h.nm x)) (by show max q.dp k.dp + 1 ≤ _; omega)
theorem any2 {a b k : Kd} (ka : Kok a) (kb : Kok b) (h : ([toD a, toD b].any fun z => PyData.eqv z (toD k)) = true) : a = k ∨ b = k := by
  simp only [List.any_cons, List.any_nil, Bool.or_false, Bool.or_eq_true] at h
  exact h.imp (eqK ka).mp (eqK kb).mp
theorem slTK {X : Cx} (K : PySem.W.Frag) (h : X.K = K) : SlR X (rSlA K) := by
  subst h
  exact sl_tupA
theorem Tbl.put2 {G : Hp} {SH : Sd → Prop} {kvs : List (Key × V)} {ws : List Str} {w : Str} {v : V} {s : Sd} (h : Tbl G SH kvs ws) (hw : w ∈ ws) (d : Dd Non G s.dt v) (hs : SH s) : Tbl G SH (putK kvs (.inr w) v) ws := by
  refine ⟨?_, fun u hu => (h.put d hs).2 u (List.mem_cons_of_mem _ hu)⟩
  obtain ⟨v0, s0, e, _, _⟩ := h.2 w hw
  rw [putK, if_pos (by rw [valV_any, e]; rfl), List.length_map]
  exact h.1
section
variable {P : Program} {w : World} {K : PySem.W.Frag} {mg : Str → Option Value} {base : Heap} {NS NO lk : List Str} {cN : Addr}
abbrev tOther : Stmt := tp 14
abbrev nOther : List Str := ["_law_deck_here", "_law_tools_here", "_law_known", "_law_kind", "_law_x", "_law_y", "_law_some", "_law_one", "_law_rows", "_law_both", "_law_pairs", "_law_pair", "_law_found", "_law_last", "_law_side", "_law_turn", "_law_often", "_law_c", "_law_n", "_law_o", "_law_word"]
abbrev psOther : List Str := ["_law_deck_here", "_law_tools_here", "_law_known", "_law_kind"]
theorem scOther : FnScope nOther psOther (defScope tOther) := ⟨rfl, rfl, rfl, by decide +kernel, rfl, by decide +kernel, by decide +kernel⟩
def spOther (d c tl ao al an aw : Addr) (op lo ns wds NS NO : List Str) (oo cc nn : Str) (fl : Int) : Sp := fun vs H Q _ => ∃ (kl : Addr) (E : List (Str × Kd)) (us : List V) (kv : V) (k : Kd) (i : Int), vs = [.ref d, .ref tl, .ref kl, kv] ∧ Dk H d c ∧ TlA d c tl ao al an aw op lo ns wds oo fl H ∧ H kl = some (.lst us) ∧ kl ≠ d ∧ kl ≠ c ∧ Paired (PRd H) E us ∧ Dd Non H k.dt kv ∧ E.length ≤ 60 ∧ Inv1 NS NO oo cc i E k ∧ Tl op lo NS NO oo cc nn ns ∧ 0 < i ∧ k.isFn = false ∧ (∀ w ∈ wds, w ∈ words7) ∧ wds.length ≤ 30 ∧ cc = oo ++ ("c" : Str) ∧ nn = oo ++ ("n" : Str) ∧
  ∀ (l : Addr) (ws : List V) (ss : List Sd) (G : Hp), Kp d c H G → Dk G d c → l ≠ d → l ≠ c → G l = some (.lst ws) → DdL Non G (ss.map Sd.dt) ws → (∀ s ∈ ss, Shp op lo NS NO oo cc i E k false 11 s) → ss.length = wds.length → Q (.ref l) G
theorem okOther {f d c tl ao al an aw : Addr} {fd : FuncData} {k : Nat} {op lo ns wds : List Str} {oo cc nn : Str} {fl : Int} (F : Fun K "_law_other_shapes" "_law_other_shapes" tOther f fd)
    (DD : Okd P w K mg base CX0 (k) "_law_draw" ["_law_deck_here", "_law_most"] spDraw)
    (DP : Okd P w K mg base CX0 (k) "_law_pick" ["_law_deck_here", "_law_some"] spPick)
    (m_dict : mg "dict" = none)
    (m_int : mg "int" = none)
    (m_len : mg "len" = none)
    (m_list : mg "list" = none) : FnOk P w K mg base CX0 (k + 1) f fd psOther (spOther d c tl ao al an aw op lo ns wds NS NO oo cc nn fl) := by
  obtain ⟨fD, fdD, GD, bD, gD, kD⟩ := DD
  obtain ⟨fP, fdP, GP, bP, gP, kP⟩ := DP
  refine F.ok scOther (fun vs H Q E h => ?_) (fun cdv A outer s H vs Q E hr h => ?_)
  · obtain ⟨kl, E, us, kv, k, i, rfl, _⟩ := h
    rfl
  obtain ⟨kl, E, us, kv, k, i, rfl, dk, J, gl, od, oc, pE, dd, lE, I, T, h0, nf, hwd, lwd, ecc, enn, q⟩ := h
  have hu5 := hu65 hr
  refine ⟨_, C8.pss_cut (ps_par (i := 4) (j := 5) (by rfl) scOther.nd rfl rfl (by decide) rfl rfl (pa_cons (pe_ix ix_list (pe_dget (hu_of hr) (pv 1) pe_str (fun _ _ => rfl)) pe_int (fun _ _ => rfl)) (pa_cons (pe_ix ix_list (pe_dget (hu_of hr) (pv 1) pe_str (fun _ _ => rfl)) pe_int (fun _ _ => rfl)) pa_nil)) (by rfl))
    (C8.pss_cut (ps_if (pt_cmpR op_eq (pe_call GD hr (by rfl) gD kD bD .nil pass0 (pa_cons (pv 0) (pa_cons pe_int pa_nil))) pe_int (nomark _)) (pss_one (ps_par (i := 4) (j := 5) (by rfl) scOther.nd rfl rfl (by decide) rfl rfl (pa_cons (pv 5) (pa_cons (pe_call GP hr (by rfl) gP kP bP .nil pass0 (pa_cons (pv 0) (pa_cons (pe_op op_cat (pe_lst (pa_cons (pv 4) pa_nil)) (pe_slice sl_list (pe_dget (hu_of hr) (pv 1) pe_str (fun _ _ => rfl)) (po_some pe_int) po_none)) pa_nil))) pa_nil)) (by rfl))) pss_nil)
    (C8.pss_cut (ps_set (i := 6) scOther.nd rfl (.inl rfl) (Kt.pe_listVals rfl (by rfl) m_list (pe_callTy (Kt.call_dictPF rfl) (by rfl) m_dict PyProof.Rows.boot_dict (pa_cons (pv 2) pa_nil))))
    (C8.pss_cut (ps_set (i := 8) scOther.nd rfl (.inl rfl) (pe_op op_cat (pe_lc (own := [("_law_one", 7)]) (g := gName 7) (tt := _) (by rfl) scOther.nd (pi_list (pv 6)) (blkOk_by (own := [("_law_one", 7)]) (N := nOther) (sc := defScope tOther) (by decide +kernel)) (fun _ _ _ _ _ => (pg_name (i := 7) scOther.nd rfl (.inl rfl))) (fun _ _ _ _ _ => pts_one (pt_cmpR op_eq (pe_ix (ixTK K rfl) (pv 7) pe_int (fun _ _ => rfl)) pe_str (nomark _))) (fun _ _ _ _ _ => (pv 7))) (pe_lst (pa_cons (pe_tup (pa_cons pe_str (pa_cons (pe_tup (pa_cons pe_str pa_nil)) pa_nil))) pa_nil))))
    (C8.pss_cut (ps_set (i := 8) scOther.nd rfl (.inl rfl) (pe_call GP hr (by rfl) gP kP bP .nil pass0 (pa_cons (pv 0) (pa_cons (pv 8) pa_nil))))
    (C8.pss_cut (ps_set (i := 9) scOther.nd rfl (.inl rfl) (pe_op op_cat (pe_lc (own := [("_law_one", 7)]) (g := gName 7) (tt := _) (by rfl) scOther.nd (pi_list (pv 6)) (blkOk_by (own := [("_law_one", 7)]) (N := nOther) (sc := defScope tOther) (by decide +kernel)) (fun _ _ _ _ _ => (pg_name (i := 7) scOther.nd rfl (.inl rfl))) (fun _ _ _ _ _ => pts_one (pt_cmpR op_eq (pe_ix (ixTK K rfl) (pv 7) pe_int (fun _ _ => rfl)) pe_str (nomark _))) (fun _ _ _ _ _ => (pv 7))) (pe_lst (pa_cons (pe_tup (pa_cons pe_str (pa_cons (pe_tup (pa_cons pe_str pa_nil)) (pa_cons (pv 3) pa_nil)))) pa_nil))))
    (C8.pss_cut (ps_set (i := 9) scOther.nd rfl (.inl rfl) (pe_call GP hr (by rfl) gP kP bP .nil pass0 (pa_cons (pv 0) (pa_cons (pv 9) pa_nil))))
    (C8.pss_cut (ps_set (i := 7) scOther.nd rfl (.inl rfl) (pe_call GP hr (by rfl) gP kP bP .nil pass0 (pa_cons (pv 0) (pa_cons (pe_op op_cat (pe_lc (own := [("_law_one", 7)]) (g := gName 7) (tt := _) (by rfl) scOther.nd (pi_list (pv 6)) (blkOk_by (own := [("_law_one", 7)]) (N := nOther) (sc := defScope tOther) (by decide +kernel)) (fun _ _ _ _ _ => (pg_name (i := 7) scOther.nd rfl (.inl rfl))) (fun _ _ _ _ _ => pts_one (pt_cmpR op_ne (pe_ix (ixTK K rfl) (pv 7) pe_int (fun _ _ => rfl)) pe_str (nomark _))) (fun _ _ _ _ _ => (pv 7))) (pe_lst (pa_cons (pe_tup (pa_cons pe_str pa_nil)) pa_nil))) pa_nil))))
    (C8.pss_cut (ps_setLc (i := 10) (own := [("_law_one", 7)]) (g := gName 7) (tt := _) (by rfl) scOther.nd rfl rfl (sw_true rfl rfl rfl (by decide +kernel)) (pi_list (pv 6)) (blkOk_by (own := [("_law_one", 7)]) (N := nOther) (sc := defScope tOther) (by decide +kernel)) (fun _ _ _ _ _ => (pg_name (i := 7) scOther.nd rfl (.inl rfl))) (fun _ _ _ _ _ => pts_one (PW.pt (pw_and (pt_cmpR op_eq (pe_ix (ixTK K rfl) (pv 7) pe_int (fun _ _ => rfl)) pe_str (nomark _)) (pw_and1 (pt_cmpR (Kt.op_inTK K rfl hu5) (pv 3) (pe_slice (slTK K rfl) (pv 7) (po_some pe_int) po_none) rfl))))) (fun _ _ _ _ _ => (pv 7)))
    (C8.pss_cut (ps_set (i := 11) scOther.nd rfl (.inl rfl) (pe_call GP hr (by rfl) gP kP bP .nil pass0 (pa_cons (pv 0) (pa_cons (pe_op op_cat (pv 10) (pe_lst (pa_cons (pe_tup (pa_cons pe_str (pa_cons (pv 3) (pa_cons (pv 7) pa_nil)))) (pa_cons (pe_tup (pa_cons pe_str (pa_cons (pv 7) (pa_cons (pv 3) pa_nil)))) pa_nil)))) pa_nil))))
    (C8.pss_cut (ps_set (i := 12) scOther.nd rfl (.inr rfl) (pe_disp (pps_cons pe_str (pe_tup (pa_cons pe_str (pa_cons (pe_tup (pa_cons pe_str (pa_cons (pe_tup (pa_cons pe_str pa_nil)) (pa_cons (pe_tup pa_nil) pa_nil)))) (pa_cons (pe_tup (pa_cons pe_str (pa_cons (pv 3) (pa_cons (pe_tup pa_nil) pa_nil)))) (pa_cons (pe_tup (pa_cons pe_str (pa_cons (pv 3) (pa_cons (pe_tup pa_nil) pa_nil)))) pa_nil))))) pps_nil) (by rfl) (by rfl) (fun z => by cases z) (by decide)))
    (C8.pss_cut (ps_asg (pe_tup (pa_cons (pe_ix ix_list (pe_lst (pa_cons pe_str (pa_cons pe_str pa_nil))) (pe_callTy call_int1 (by rfl) m_int PyProof.Rows.boot_int (pa_cons (pe_cmpR (op_eqD hr.units) (pe_ix ix_tup (pv 11) pe_int (fun _ _ => rfl)) (pv 3) (nomark _)) pa_nil)) (fun _ _ => rfl)) (pa_cons (pe_tup (pa_cons pe_str (pa_cons (pv 11) (pa_cons (pe_tup pa_nil) pa_nil)))) pa_nil))) (pg_sub (pv 12) pe_str (set_dict (hu_of hr))))
    (pss_cons (ps_set (i := 13) scOther.nd rfl (.inl rfl) (pe_tup (pa_cons pe_str (pa_cons (pv 3) (pa_cons (pe_tup (pa_cons (pe_tup (pa_cons (pv 5) (pa_cons (pe_ix ix_tup (pv 9) pe_int (fun _ _ => rfl)) pa_nil))) pa_nil)) pa_nil)))))
    (pss_cons (ps_set (i := 14) scOther.nd rfl (.inl rfl) (pe_tup (pa_cons pe_str (pa_cons (pv 3) (pa_cons (pe_tup (pa_cons (pe_tup (pa_cons (pv 4) (pa_cons (pe_ix ix_tup (pv 9) pe_int (fun _ _ => rfl)) pa_nil))) pa_nil)) pa_nil)))))
    (C8.pss_cut (ps_asg (pe_tup (pa_cons pe_str (pa_cons (pe_tup (pa_cons pe_str (pa_cons (pv 9) (pa_cons (pe_tup pa_nil) pa_nil)))) (pa_cons (pv 4) (pa_cons (pv 14) (pa_cons (pv 5) (pa_cons (pv 13) pa_nil))))))) (pg_sub (pv 12) pe_str (set_dict (hu_of hr))))
    (pss_cons (ps_set (i := 13) scOther.nd rfl (.inl rfl) (pe_tup (pa_cons pe_str (pa_cons (pv 3) (pa_cons (pe_tup (pa_cons (pe_tup (pa_cons (pv 4) (pa_cons (pe_ix ix_tup (pv 8) pe_int (fun _ _ => rfl)) pa_nil))) (pa_cons (pe_tup (pa_cons (pv 5) (pa_cons (pv 3) pa_nil))) pa_nil))) pa_nil)))))
    (C8.pss_cut (ps_asg (pe_tup (pa_cons pe_str (pa_cons (pe_tup (pa_cons pe_str (pa_cons (pv 8) (pa_cons (pe_tup pa_nil) pa_nil)))) (pa_cons (pe_tup (pa_cons pe_str (pa_cons (pv 3) (pa_cons (pe_tup pa_nil) pa_nil)))) (pa_cons (pv 4) (pa_cons (pv 5) (pa_cons (pv 13) pa_nil))))))) (pg_sub (pv 12) pe_str (set_dict (hu_of hr))))
    (pss_cons (ps_set (i := 15) scOther.nd rfl (.inl rfl) (pe_tup (pa_cons pe_str (pa_cons (pe_tup (pa_cons pe_str (pa_cons (pv 7) (pa_cons (pv 3) pa_nil)))) (pa_cons (pe_tup (pa_cons (pe_tup (pa_cons (pv 4) (pa_cons (pv 7) pa_nil))) pa_nil)) pa_nil)))))
    (pss_cons (ps_set (i := 16) scOther.nd rfl (.inl rfl) (pe_op op_add pe_int (pe_call GD hr (by rfl) gD kD bD .nil pass0 (pa_cons (pv 0) (pa_cons (pe_ix ix_list (pe_lst (pa_cons pe_int (pa_cons pe_int pa_nil))) (pe_call GD hr (by rfl) gD kD bD .nil pass0 (pa_cons (pv 0) (pa_cons pe_int pa_nil))) (fun _ _ => rfl)) pa_nil)))))
    (C8.pss_cut (ps_asg (pe_tup (pa_cons pe_str (pa_cons (pv 16) (pa_cons (pe_tup (pa_cons pe_str (pa_cons (pv 7) (pa_cons (pe_tup pa_nil) pa_nil)))) (pa_cons (pv 4) (pa_cons (pv 15) pa_nil)))))) (pg_sub (pv 12) pe_str (set_dict (hu_of hr))))
    (pss_cons (ps_set (i := 14) scOther.nd rfl (.inl rfl) (pe_tup (pa_cons pe_str (pa_cons (pv 4) (pa_cons (pv 7) (pa_cons (pe_tup (pa_cons pe_str (pa_cons (pv 3) (pa_cons (pe_tup (pa_cons (pe_tup (pa_cons (pv 4) (pa_cons (pv 7) pa_nil))) pa_nil)) pa_nil)))) pa_nil))))))
    (C8.pss_cut (ps_asg (pe_tup (pa_cons pe_str (pa_cons (pv 14) (pa_cons (pe_tup (pa_cons pe_str (pa_cons (pv 7) (pa_cons (pe_tup pa_nil) pa_nil)))) pa_nil)))) (pg_sub (pv 12) pe_str (set_dict (hu_of hr))))
    (C8.pss_cut (ps_par3 (i := 17) (j := 18) (l := 19) (by rfl) scOther.nd rfl rfl rfl (by decide) (by decide) (by decide) rfl rfl rfl (pa_cons (pe_op op_add_str (pe_dget (hu_of hr) (pv 1) pe_str (fun _ _ => rfl)) pe_str) (pa_cons (pe_op op_add_str (pe_dget (hu_of hr) (pv 1) pe_str (fun _ _ => rfl)) pe_str) (pa_cons (pe_tup (pa_cons pe_str (pa_cons (pe_dget (hu_of hr) (pv 1) pe_str (fun _ _ => rfl)) pa_nil))) pa_nil))) (by rfl))
    (C8.pss_cut (ps_asg (pe_dget (hu_of hr) (pv 12) pe_str (fun _ _ => rfl)) (pg_sub (pv 12) pe_str (set_dict (hu_of hr))))
    (C8.pss_cut (ps_if (PW.pt (pw_and (pt_cmpR op_eq (pe_ix ix_tup (pv 3) pe_int (fun _ _ => rfl)) pe_str (nomark _)) (pw_and (pt_cmp (pc_dnotin (hu_of hr) (pv 17) (pe_callTy (Kt.call_dictPF rfl) (by rfl) m_dict PyProof.Rows.boot_dict (pa_cons (pv 2) pa_nil)))) (pw_and (pt_cmp (pc_dnotin (hu_of hr) (pv 18) (pe_callTy (Kt.call_dictPF rfl) (by rfl) m_dict PyProof.Rows.boot_dict (pa_cons (pv 2) pa_nil)))) (pw_and1 (pt_cmpR op_lt (pe_callB call_len_str (by rfl) m_len PySem.boot_len (pa_cons (pv 17) pa_nil)) pe_int (nomark _))))))) (pss_cons (ps_set (i := 13) scOther.nd rfl (.inl rfl) (pe_tup (pa_cons pe_str (pa_cons (pv 19) (pa_cons (pe_tup (pa_cons (pe_tup (pa_cons (pv 17) (pa_cons (pe_tup (pa_cons pe_str (pa_cons (pe_ix ix_tup (pv 3) pe_int (fun _ _ => rfl)) (pa_cons (pe_tup (pa_cons pe_str (pa_cons (pv 19) (pa_cons (pv 19) pa_nil)))) pa_nil)))) pa_nil))) (pa_cons (pe_tup (pa_cons (pv 18) (pa_cons (pv 19) pa_nil))) pa_nil))) pa_nil)))))
    (pss_one (ps_asg (pe_tup (pa_cons pe_str (pa_cons (pe_ix ix_tup (pv 3) pe_int (fun _ _ => rfl)) (pa_cons (pe_dget (hu_of hr) (pv 1) pe_str (fun _ _ => rfl)) (pa_cons (pv 17) (pa_cons (pv 18) (pa_cons (pv 13) pa_nil))))))) (pg_sub (pv 12) pe_str (set_dict (hu_of hr)))))) pss_nil)
    (pss_one (ps_ret (pe_lc (own := [("_law_word", 20)]) (g := gName 20) (by rfl) scOther.nd (pi_list (pe_dget (hu_of hr) (pv 1) pe_str (fun _ _ => rfl))) (blkOk_by (own := [("_law_word", 20)]) (N := nOther) (sc := defScope tOther) (by decide +kernel)) (fun _ _ _ _ _ => (pg_name (i := 20) scOther.nd rfl (.inl rfl))) (fun _ _ _ _ _ => pts_nil) (fun _ _ _ _ _ => (pe_dget (hu_of hr) (pv 12) (pv 20) (fun _ _ => rfl)))))))))))))))))))))))))))))), ?_⟩
  obtain ⟨x0, x1, x2, rfl⟩ := len5 T.len
  obtain ⟨BS, b, bdk, bJ, bgl, bpE, bdd, bkp, bsm, bkk, bup⟩ : ∃ BS : Hp → Prop, BS H ∧ (∀ G, BS G → Dk G d c) ∧ (∀ G, BS G → TlA d c tl ao al an aw op lo [x0, x1, x2] wds oo fl G) ∧ (∀ G, BS G → G kl = some (.lst us)) ∧ (∀ G, BS G → Paired (PRd G) E us) ∧ (∀ G, BS G → Dd Non G k.dt kv) ∧ (∀ G, BS G → Kp d c H G) ∧ (∀ G F, BS G → Same G F → BS F) ∧ (∀ G F, BS G → Kp d c G F → Dk F d c → BS F) ∧ (∀ G p o, BS G → H p = none → p ≠ d → p ≠ c → BS (upd G p o)) :=
    ⟨fun G => Kp d c H G ∧ Dk G d c, ⟨Kp.rfl, dk⟩, fun _ z => z.2, fun _ z => J.kp z.1, fun _ z => z.1 _ _ od oc gl, fun _ z => Paired.mapP pE fun _ _ h => h.tk (Tk.kp z.1 dk), fun _ z => dd.kn (Kn.tk (Tk.kp z.1 dk)), fun _ z => z.1,
      fun G F z s => ⟨z.1.trans (.of s), z.2.same s⟩, fun G F z s e => ⟨z.1.trans s, e⟩, fun G p o z n h1 h2 => ⟨z.1.mk n, z.2.put h1 h2⟩⟩
  clear dk J gl pE dd
  have hnd := T.nd
  simp only [List.nodup_cons, List.mem_cons, List.not_mem_nil, or_false, not_or] at hnd
  refine ⟨fun σ G => σ = [some (.ref d), some (.ref tl), some (.ref kl), some kv, some (.str x0), some (.str x1), none, none, none, none, none, none, none, none, none, none, none, none, none, none, none] ∧ BS G, ?_, fun σ G1 z => ?_⟩
  · skip
    exact ⟨_, rfl, tl, .ref an, rfl, (bJ _ b).gN, an, _, _, _, rfl, rfl, SqL.of (bJ _ b).hn, atI_nat (j := 0) rfl, _, rfl, tl, .ref an, rfl, (bJ _ b).gN, an, _, _, _, rfl, rfl, SqL.of (bJ _ b).hn, atI_nat (j := 1) rfl, _, _, rfl, rfl, b⟩
  obtain ⟨rfl, b⟩ := z
  refine ⟨fun σ G => ∃ x y, σ = [some (.ref d), some (.ref tl), some (.ref kl), some kv, some (.str x), some (.str y), none, none, none, none, none, none, none, none, none, none, none, none, none, none, none] ∧ BS G ∧ x ∈ [x0, x1, x2] ∧ y ∈ [x0, x1, x2] ∧ x ≠ y, ?_, fun σ G2 z => ?_⟩
  · skip
    have dk := bdk _ b
    refine ⟨_, rfl, d, c, _, rfl, dk, (by decide), (by decide), fun r0 K1 h20 h21 kp1 e1 => ?_⟩
    replace b := bkk _ _ b kp1 e1
    replace dk := e1
    refine ⟨rfl, _, rfl, ite2 (fun _ => ?_) (fun _ => ⟨x0, x1, rfl, b, List.mem_cons_self, List.mem_cons_of_mem _ List.mem_cons_self, fun w => hnd.1.1 w⟩)⟩
    refine ⟨_, rfl, _, rfl, _, rfl, (by show 1 ≤ sizeLine; decide), fun q1 m1 => ?_⟩
    have o1 := dk.off m1
    refine lstG m1 fun F1 t1 g1 => ?_
    replace b := bsm _ _ b t1
    replace dk := dk.same t1
    refine ⟨_, rfl, tl, .ref an, rfl, (bJ _ b).gN, 2, rfl, an, _, rfl, SqL.of (bJ _ b).hn, fun q2 m2 => ?_⟩
    have o2 := (dk.off m2)
    refine lstG m2 fun F2 t2 g2 => ?_
    have g2 : F2 q2 = some (.lst [.str x2]) := g2
    replace b := bsm _ _ b t2
    replace dk := dk.same t2
    replace g1 := t2 _ _ g1
    refine ⟨_, _, _, _, rfl, rfl, g1, g2, (by show 2 ≤ sizeLine; decide), fun q3 m3 => ?_⟩
    have o3 := (dk.off m3)
    refine lstG m3 fun F3 t3 g3 => ?_
    have g3 : F3 q3 = some (.lst [.str x0, .str x2]) := g3
    replace b := bsm _ _ b t3
    replace dk := dk.same t3
    replace g1 := t3 _ _ g1
    replace g2 := t3 _ _ g2
    refine ⟨d, c, q3, _, rfl, dk, g3, o3.1, o3.2, (by show 1 ≤ 2; decide), (by show 2 ≤ 100; decide), fun vy K2 kp2 e2 hvy => ?_⟩
    replace b := bkk _ _ b kp2 e2
    replace g1 := kp2 _ _ o1.1 o1.2 g1
    replace g2 := kp2 _ _ o2.1 o2.2 g2
    replace g3 := kp2 _ _ o3.1 o3.2 g3
    replace dk := e2
    obtain ⟨y, rfl, hy, ny⟩ : ∃ y : Str, vy = .str y ∧ y ∈ [x0, x1, x2] ∧ x1 ≠ y := by
      simp only [List.mem_cons, List.not_mem_nil, or_false] at hvy
      rcases hvy with e | e
      · exact ⟨_, e, by simp, fun w => hnd.1.1 w.symm⟩
      · exact ⟨_, e, by simp, fun w => hnd.2.1 w⟩
    exact ⟨_, _, rfl, x1, y, rfl, b, List.mem_cons_of_mem _ List.mem_cons_self, hy, ny⟩
  obtain ⟨x, y, rfl, b, hx, hy, nxy⟩ := z
  refine ⟨fun σ G => ∃ (as : Addr) (vs : List V), σ = [some (.ref d), some (.ref tl), some (.ref kl), some kv, some (.str x), some (.str y), some (.ref as), none, none, none, none, none, none, none, none, none, none, none, none, none, none] ∧ BS G ∧ G as = some (.lst vs) ∧ (as ≠ d ∧ as ≠ c) ∧ vs.length ≤ 60 ∧ VlP G (fun q => ∃ z, (z, q) ∈ E) vs, ?_, fun σ G3 z => ?_⟩
  · skip
    obtain ⟨ps, kvs, hus, args, ek⟩ := ep_args (K := K) (bpE _ b)
    have all0 := AllE.of ek
    have lk := ek.length
    have lm := merge_le kvs
    have gl := bgl _ b
    rw [hus] at gl
    have dk := bdk _ b
    refine ⟨_, rfl, kl, ps, kvs, rfl, SqL.of gl, args, fun pD oD nD => objG nD fun GD sD gD => ⟨pD, mergeK [] kvs, rfl, .inr ⟨oD, gD⟩, fun al2 nl2 => ?_⟩⟩
    have oL := (dk.same sD).off nl2
    refine lstG nl2 fun GL sL gL => ?_
    refine ⟨al2, _, rfl, bsm _ _ b (sD.trans sL), gL, oL, by rw [List.length_map]; omega, fun v hv => ?_⟩
    obtain ⟨qq, hq, rfl⟩ := List.mem_map.mp hv
    obtain ⟨z, kz, ez, dz, pz, mz⟩ := all0 qq hq
    exact ⟨kz, ⟨z, mz⟩, dz.same (sD.trans sL)⟩
  obtain ⟨as, vs, rfl, b, ga, oa, lvs, hvs⟩ := z
  refine ⟨fun σ G => ∃ (ar : Addr) (vr : List V), σ = [some (.ref d), some (.ref tl), some (.ref kl), some kv, some (.str x), some (.str y), some (.ref as), none, some (.ref ar), none, none, none, none, none, none, none, none, none, none, none, none] ∧ BS G ∧ G as = some (.lst vs) ∧ VlP G (fun q => ∃ z, (z, q) ∈ E) vs ∧ G ar = some (.lst vr) ∧ (ar ≠ d ∧ ar ≠ c) ∧ 1 ≤ vr.length ∧ vr.length ≤ 61 ∧ VlP G (fun q => ∃ a, q = Kd.lst a ∧ Wn NO (i - 1) (.lst a) ∧ Kn1 NO (i - 1) a ∧ (cc ∈ E.map (·.1) ∨ oo ∉ Kd.opens (a))) vr, ?_, fun σ G4 z => ?_⟩
  · skip
    have dk := bdk _ b
    refine ⟨_, rfl, as, rfl, ⟨_, SqL.of ga⟩, fun Dr1 nDr1 => ?_⟩
    have oDr1 := dk.off nDr1
    refine lc_list (xs := vs) (fun j F => Same G3 F ∧ ∃ us1, F Dr1 = some (.lst us1) ∧ us1.length ≤ j ∧ VlP F (fun q => (∃ z, (z, q) ∈ E) ∧ q.word = "list") us1) ⟨newS nDr1, [], upd_same, Nat.le_refl _, VlP.nil⟩ (fun j F _ z => SqL.of (z.1 _ _ ga)) (fun j x0 F hx z => ?_) (fun Fr1 z => ?_)
    · skip
      obtain ⟨sF, us1, gU, lU, hU⟩ := z
      obtain ⟨kx, mx, dx⟩ := hvs x0 (List.mem_of_getElem? hx)
      obtain ⟨zx, mx⟩ := mx
      obtain ⟨px, ux, rfl, gx, cx⟩ := seeK (dx.same sF)
      refine ⟨rfl, _, rfl, px, _, _, _, rfl, rfl, SqT.of gx, atI_nat (j := 0) rfl, rfl, _, rfl, ite2 (fun c1 => ?_) (fun c1 => ⟨sF, us1, gU, by omega, hU⟩)⟩
      have hw := wEq.mp c1
      refine ⟨_, rfl, us1, gU, (show us1.length < sizeLine from small1000 (by have := (List.getElem?_eq_some_iff.mp hx).1; omega)), smk sF nDr1, us1 ++ [.ref px], upd_same, by rw [List.length_append]; show us1.length + 1 ≤ _; omega, ?_⟩
      have k1 : Kv.Kn Non F (upd F Dr1 (.lst (us1 ++ [.ref px]))) := Kn.rfl.put (fun z => z) fun _ z => by rw [gU] at z; cases z
      exact (hU.kn k1).app (VlP.one ⟨⟨zx, mx⟩, hw⟩ ((dx.same sF).kn k1))
    obtain ⟨sFr1, usr1, gDr1, lDr1, hDr1⟩ := z
    replace b := bsm _ _ b sFr1
    replace dk := dk.same sFr1
    replace ga := sFr1 _ _ ga
    replace hvs := hvs.same sFr1
    refine ⟨(by show 1 ≤ sizeLine; decide), fun pr2 nr2 => tupG nr2 (.cons (.str _) .nil) fun Gr2 sr2 dr2 => ?_⟩
    have dr2 : Dd Non Gr2 (Kd.dt (Kd.num)) (.ref pr2) := dr2
    replace b := bsm _ _ b sr2
    replace dk := dk.same sr2
    replace ga := sr2 _ _ ga
    replace hvs := hvs.same sr2
    replace gDr1 := sr2 _ _ gDr1
    replace hDr1 := hDr1.same sr2
    refine ⟨(by show 2 ≤ sizeLine; decide), fun pr3 nr3 => tupG nr3 (.cons (.str _) (.cons dr2 .nil)) fun Gr3 sr3 dr3 => ?_⟩
    have dr3 : Dd Non Gr3 (Kd.lst Kd.num).dt (.ref pr3) := dr3
    replace b := bsm _ _ b sr3
    replace dk := dk.same sr3
    replace ga := sr3 _ _ ga
    replace hvs := hvs.same sr3
    replace gDr1 := sr3 _ _ gDr1
    replace hDr1 := hDr1.same sr3
    replace dr2 := dr2.same sr3
    refine ⟨(by show 1 ≤ sizeLine; decide), fun pr4 nr4 => ?_⟩
    have or4 := dk.off nr4
    refine lstG nr4 fun Gr4 sr4 gr4 => ?_
    have gr4 : Gr4 pr4 = some (.lst [.ref pr3]) := gr4
    replace b := bsm _ _ b sr4
    replace dk := dk.same sr4
    replace ga := sr4 _ _ ga
    replace hvs := hvs.same sr4
    replace gDr1 := sr4 _ _ gDr1
    replace hDr1 := hDr1.same sr4
    replace dr2 := dr2.same sr4
    replace dr3 := dr3.same sr4
    refine ⟨_, _, _, _, rfl, rfl, gDr1, gr4, (szBig (by show usr1.length + 1 ≤ _; omega)), fun q9 m9 => ?_⟩
    have o9 := dk.off m9
    refine lstG m9 fun F9 t9 g9 => ?_
    replace b := bsm _ _ b t9
    replace dk := dk.same t9
    replace ga := t9 _ _ ga
    replace hvs := hvs.same t9
    replace gDr1 := t9 _ _ gDr1
    replace hDr1 := hDr1.same t9
    replace dr2 := dr2.same t9
    replace dr3 := dr3.same t9
    replace gr4 := t9 _ _ gr4
    refine ⟨q9, _, rfl, b, ga, hvs, g9, o9, by rw [List.length_append]; show 1 ≤ usr1.length + 1; omega, by rw [List.length_append]; show usr1.length + 1 ≤ _; omega, (hDr1.imp fun q hq => ?_).app (VlP.one ?_ dr3)⟩
    · obtain ⟨⟨z, mz⟩, hw⟩ := hq
      obtain ⟨a, rfl⟩ := wLs hw
      have kn := (I.ee _ mz).2.2
      exact ⟨a, rfl, kn.wn rfl, kn.ls1, I.oE mz⟩
    · exact ⟨.num, rfl, Wn.lnum, Kn1.num, .inr fun w => by cases w⟩
  obtain ⟨ar, vr, rfl, b, ga, hvs, gr, orr, lr1, lr2, hr1⟩ := z
  refine ⟨fun σ G => ∃ (vR : V) (aR : Kd), σ = [some (.ref d), some (.ref tl), some (.ref kl), some kv, some (.str x), some (.str y), some (.ref as), none, some vR, none, none, none, none, none, none, none, none, none, none, none, none] ∧ BS G ∧ G as = some (.lst vs) ∧ VlP G (fun q => ∃ z, (z, q) ∈ E) vs ∧ Dd Non G (Kd.lst aR).dt vR ∧ Wn NO (i - 1) (.lst aR) ∧ Kn1 NO (i - 1) aR ∧ (cc ∈ E.map (·.1) ∨ oo ∉ Kd.opens (aR)), ?_, fun σ G5 z => ?_⟩
  · skip
    have dk := bdk _ b
    refine ⟨_, rfl, _, rfl, d, c, ar, vr, rfl, dk, gr, orr.1, orr.2, lr1, (by omega), fun vR K1 kp1 e1 hv => ?_⟩
    replace b := bkk _ _ b kp1 e1
    replace ga := kp1 _ _ oa.1 oa.2 ga
    replace hvs := hvs.kn (Kn.tk (Tk.kp kp1 dk))
    replace hr1 := hr1.kn (Kn.tk (Tk.kp kp1 dk))
    replace dk := e1
    obtain ⟨q, ⟨aR, rfl, w1, w2, w3⟩, dR⟩ := hr1 vR hv
    exact ⟨vR, aR, rfl, b, ga, hvs, dR, w1, w2, w3⟩
  obtain ⟨vR, aR, rfl, b, ga, hvs, dR, wR, kR, oR⟩ := z
  refine ⟨fun σ G => ∃ (ar : Addr) (vr : List V), σ = [some (.ref d), some (.ref tl), some (.ref kl), some kv, some (.str x), some (.str y), some (.ref as), none, some vR, some (.ref ar), none, none, none, none, none, none, none, none, none, none, none] ∧ BS G ∧ G as = some (.lst vs) ∧ VlP G (fun q => ∃ z, (z, q) ∈ E) vs ∧ Dd Non G (Kd.lst aR).dt vR ∧ G ar = some (.lst vr) ∧ (ar ≠ d ∧ ar ≠ c) ∧ 1 ≤ vr.length ∧ vr.length ≤ 61 ∧ VlP G (fun q => ∃ a b, q = Kd.eith a b ∧ Wn NO (i - 1) (.eith a b) ∧ Kn1 NO (i - 1) a ∧ Kn1 NO (i - 1) b ∧ (cc ∈ E.map (·.1) ∨ oo ∉ Kd.opens (Kd.eith a b))) vr, ?_, fun σ G6 z => ?_⟩
  · skip
    have dk := bdk _ b
    refine ⟨_, rfl, as, rfl, ⟨_, SqL.of ga⟩, fun Dr5 nDr5 => ?_⟩
    have oDr5 := dk.off nDr5
    refine lc_list (xs := vs) (fun j F => Same G5 F ∧ ∃ us1, F Dr5 = some (.lst us1) ∧ us1.length ≤ j ∧ VlP F (fun q => (∃ z, (z, q) ∈ E) ∧ q.word = "either") us1) ⟨newS nDr5, [], upd_same, Nat.le_refl _, VlP.nil⟩ (fun j F _ z => SqL.of (z.1 _ _ ga)) (fun j x0 F hx z => ?_) (fun Fr5 z => ?_)
    · skip
      obtain ⟨sF, us1, gU, lU, hU⟩ := z
      obtain ⟨kx, mx, dx⟩ := hvs x0 (List.mem_of_getElem? hx)
      obtain ⟨zx, mx⟩ := mx
      obtain ⟨px, ux, rfl, gx, cx⟩ := seeK (dx.same sF)
      refine ⟨rfl, _, rfl, px, _, _, _, rfl, rfl, SqT.of gx, atI_nat (j := 0) rfl, rfl, _, rfl, ite2 (fun c1 => ?_) (fun c1 => ⟨sF, us1, gU, by omega, hU⟩)⟩
      have hw := wEq.mp c1
      refine ⟨_, rfl, us1, gU, (show us1.length < sizeLine from small1000 (by have := (List.getElem?_eq_some_iff.mp hx).1; omega)), smk sF nDr5, us1 ++ [.ref px], upd_same, by rw [List.length_append]; show us1.length + 1 ≤ _; omega, ?_⟩
      have k1 : Kv.Kn Non F (upd F Dr5 (.lst (us1 ++ [.ref px]))) := Kn.rfl.put (fun z => z) fun _ z => by rw [gU] at z; cases z
      exact (hU.kn k1).app (VlP.one ⟨⟨zx, mx⟩, hw⟩ ((dx.same sF).kn k1))
    obtain ⟨sFr5, usr5, gDr5, lDr5, hDr5⟩ := z
    replace b := bsm _ _ b sFr5
    replace dk := dk.same sFr5
    replace ga := sFr5 _ _ ga
    replace hvs := hvs.same sFr5
    replace dR := dR.same sFr5
    refine ⟨(by show 1 ≤ sizeLine; decide), fun pr6 nr6 => tupG nr6 (.cons (.str _) .nil) fun Gr6 sr6 dr6 => ?_⟩
    have dr6 : Dd Non Gr6 (Kd.dt (Kd.tru)) (.ref pr6) := dr6
    replace b := bsm _ _ b sr6
    replace dk := dk.same sr6
    replace ga := sr6 _ _ ga
    replace hvs := hvs.same sr6
    replace dR := dR.same sr6
    replace gDr5 := sr6 _ _ gDr5
    replace hDr5 := hDr5.same sr6
    have dd := bdd _ b
    refine ⟨_, rfl, (by show 3 ≤ sizeLine; decide), fun pr7 nr7 => tupG nr7 (.cons (.str _) (.cons dr6 (.cons dd .nil))) fun Gr7 sr7 dr7 => ?_⟩
    have dr7 : Dd Non Gr7 (Kd.eith Kd.tru k).dt (.ref pr7) := dr7
    replace b := bsm _ _ b sr7
    replace dk := dk.same sr7
    replace ga := sr7 _ _ ga
    replace hvs := hvs.same sr7
    replace dR := dR.same sr7
    replace gDr5 := sr7 _ _ gDr5
    replace hDr5 := hDr5.same sr7
    replace dr6 := dr6.same sr7
    replace dd := dd.same sr7
    refine ⟨(by show 1 ≤ sizeLine; decide), fun pr8 nr8 => ?_⟩
    have or8 := dk.off nr8
    refine lstG nr8 fun Gr8 sr8 gr8 => ?_
    have gr8 : Gr8 pr8 = some (.lst [.ref pr7]) := gr8
    replace b := bsm _ _ b sr8
    replace dk := dk.same sr8
    replace ga := sr8 _ _ ga
    replace hvs := hvs.same sr8
    replace dR := dR.same sr8
    replace gDr5 := sr8 _ _ gDr5
    replace hDr5 := hDr5.same sr8
    replace dr6 := dr6.same sr8
    replace dd := dd.same sr8
    replace dr7 := dr7.same sr8
    refine ⟨_, _, _, _, rfl, rfl, gDr5, gr8, (szBig (by show usr5.length + 1 ≤ _; omega)), fun q9 m9 => ?_⟩
    have o9 := dk.off m9
    refine lstG m9 fun F9 t9 g9 => ?_
    replace b := bsm _ _ b t9
    replace dk := dk.same t9
    replace ga := t9 _ _ ga
    replace hvs := hvs.same t9
    replace dR := dR.same t9
    replace gDr5 := t9 _ _ gDr5
    replace hDr5 := hDr5.same t9
    replace dr6 := dr6.same t9
    replace dd := dd.same t9
    replace dr7 := dr7.same t9
    replace gr8 := t9 _ _ gr8
    refine ⟨q9, _, rfl, b, ga, hvs, dR, g9, o9, by rw [List.length_append]; show 1 ≤ usr5.length + 1; omega, by rw [List.length_append]; show usr5.length + 1 ≤ _; omega, (hDr5.imp fun q hq => ?_).app (VlP.one ?_ dr7)⟩
    · obtain ⟨⟨z, mz⟩, hw⟩ := hq
      obtain ⟨a, b, rfl⟩ := wEi hw
      have kn := (I.ee _ mz).2.2
      exact ⟨a, b, rfl, kn.wn rfl, kn.ei1.1, kn.ei1.2, I.oE mz⟩
    · exact ⟨.tru, k, rfl, I.wk.teith nf I.i4 h0, Kn1.tru, I.wk.kn nf I.i4, I.oK⟩
  obtain ⟨ar, vr, rfl, b, ga, hvs, dR, gr, orr, lr1, lr2, hr1⟩ := z
  refine ⟨fun σ G => ∃ (vB : V) (aB bB : Kd), σ = [some (.ref d), some (.ref tl), some (.ref kl), some kv, some (.str x), some (.str y), some (.ref as), none, some vR, some vB, none, none, none, none, none, none, none, none, none, none, none] ∧ BS G ∧ G as = some (.lst vs) ∧ VlP G (fun q => ∃ z, (z, q) ∈ E) vs ∧ Dd Non G (Kd.lst aR).dt vR ∧ Dd Non G (Kd.eith aB bB).dt vB ∧ Wn NO (i - 1) (.eith aB bB) ∧ Kn1 NO (i - 1) aB ∧ Kn1 NO (i - 1) bB ∧ (cc ∈ E.map (·.1) ∨ oo ∉ Kd.opens (Kd.eith aB bB)), ?_, fun σ G7 z => ?_⟩
  · skip
    have dk := bdk _ b
    refine ⟨_, rfl, _, rfl, d, c, ar, vr, rfl, dk, gr, orr.1, orr.2, lr1, (by omega), fun vB K1 kp1 e1 hv => ?_⟩
    replace b := bkk _ _ b kp1 e1
    replace ga := kp1 _ _ oa.1 oa.2 ga
    replace hvs := hvs.kn (Kn.tk (Tk.kp kp1 dk))
    replace dR := dR.kn (Kn.tk (Tk.kp kp1 dk))
    replace hr1 := hr1.kn (Kn.tk (Tk.kp kp1 dk))
    replace dk := e1
    obtain ⟨q, ⟨aB, bB, rfl, w1, w2, w3, w4⟩, dB⟩ := hr1 vB hv
    exact ⟨vB, aB, bB, rfl, b, ga, hvs, dR, dB, w1, w2, w3, w4⟩
  obtain ⟨vB, aB, bB, rfl, b, ga, hvs, dR, dB, wB, kB1, kB2, oB⟩ := z
  refine ⟨fun σ G => ∃ (vO : V) (kO : Kd), σ = [some (.ref d), some (.ref tl), some (.ref kl), some kv, some (.str x), some (.str y), some (.ref as), some vO, some vR, some vB, none, none, none, none, none, none, none, none, none, none, none] ∧ BS G ∧ G as = some (.lst vs) ∧ VlP G (fun q => ∃ z, (z, q) ∈ E) vs ∧ Dd Non G (Kd.lst aR).dt vR ∧ Dd Non G (Kd.eith aB bB).dt vB ∧ Dd Non G (Kd.dt kO) vO ∧ kO.isFn = false ∧ Wn NO (i - 1) kO ∧ Kn1 NO i kO ∧ (cc ∈ E.map (·.1) ∨ oo ∉ Kd.opens (kO)), ?_, fun σ G8 z => ?_⟩
  · skip
    have dk := bdk _ b
    refine ⟨_, rfl, _, rfl, as, rfl, ⟨_, SqL.of ga⟩, fun Dr9 nDr9 => ?_⟩
    have oDr9 := dk.off nDr9
    refine lc_list (xs := vs) (fun j F => Same G7 F ∧ ∃ us1, F Dr9 = some (.lst us1) ∧ us1.length ≤ j ∧ VlP F (fun q => (∃ z, (z, q) ∈ E) ∧ q.isFn = false) us1) ⟨newS nDr9, [], upd_same, Nat.le_refl _, VlP.nil⟩ (fun j F _ z => SqL.of (z.1 _ _ ga)) (fun j x0 F hx z => ?_) (fun Fr9 z => ?_)
    · skip
      obtain ⟨sF, us1, gU, lU, hU⟩ := z
      obtain ⟨kx, mx, dx⟩ := hvs x0 (List.mem_of_getElem? hx)
      obtain ⟨zx, mx⟩ := mx
      obtain ⟨px, ux, rfl, gx, cx⟩ := seeK (dx.same sF)
      refine ⟨rfl, _, rfl, px, _, _, _, rfl, rfl, SqT.of gx, atI_nat (j := 0) rfl, rfl, _, rfl, ite2 (fun c1 => ?_) (fun c1 => ⟨sF, us1, gU, by omega, hU⟩)⟩
      have hw : kx.isFn = false := neFn1 c1
      refine ⟨_, rfl, us1, gU, (show us1.length < sizeLine from small1000 (by have := (List.getElem?_eq_some_iff.mp hx).1; omega)), smk sF nDr9, us1 ++ [.ref px], upd_same, by rw [List.length_append]; show us1.length + 1 ≤ _; omega, ?_⟩
      have k1 : Kv.Kn Non F (upd F Dr9 (.lst (us1 ++ [.ref px]))) := Kn.rfl.put (fun z => z) fun _ z => by rw [gU] at z; cases z
      exact (hU.kn k1).app (VlP.one ⟨⟨zx, mx⟩, hw⟩ ((dx.same sF).kn k1))
    obtain ⟨sFr9, usr9, gDr9, lDr9, hDr9⟩ := z
    replace b := bsm _ _ b sFr9
    replace dk := dk.same sFr9
    replace ga := sFr9 _ _ ga
    replace hvs := hvs.same sFr9
    replace dR := dR.same sFr9
    replace dB := dB.same sFr9
    refine ⟨(by show 1 ≤ sizeLine; decide), fun pr10 nr10 => tupG nr10 (.cons (.str _) .nil) fun Gr10 sr10 dr10 => ?_⟩
    have dr10 : Dd Non Gr10 (Kd.dt (Kd.num)) (.ref pr10) := dr10
    replace b := bsm _ _ b sr10
    replace dk := dk.same sr10
    replace ga := sr10 _ _ ga
    replace hvs := hvs.same sr10
    replace dR := dR.same sr10
    replace dB := dB.same sr10
    replace gDr9 := sr10 _ _ gDr9
    replace hDr9 := hDr9.same sr10
    refine ⟨(by show 1 ≤ sizeLine; decide), fun pr11 nr11 => ?_⟩
    have or11 := dk.off nr11
    refine lstG nr11 fun Gr11 sr11 gr11 => ?_
    have gr11 : Gr11 pr11 = some (.lst [.ref pr10]) := gr11
    replace b := bsm _ _ b sr11
    replace dk := dk.same sr11
    replace ga := sr11 _ _ ga
    replace hvs := hvs.same sr11
    replace dR := dR.same sr11
    replace dB := dB.same sr11
    replace gDr9 := sr11 _ _ gDr9
    replace hDr9 := hDr9.same sr11
    replace dr10 := dr10.same sr11
    refine ⟨_, _, _, _, rfl, rfl, gDr9, gr11, (szBig (by show usr9.length + 1 ≤ _; omega)), fun q9 m9 => ?_⟩
    have o9 := dk.off m9
    refine lstG m9 fun F9 t9 g9 => ?_
    replace b := bsm _ _ b t9
    replace dk := dk.same t9
    replace ga := t9 _ _ ga
    replace hvs := hvs.same t9
    replace dR := dR.same t9
    replace dB := dB.same t9
    replace gDr9 := t9 _ _ gDr9
    replace hDr9 := hDr9.same t9
    replace dr10 := dr10.same t9
    replace gr11 := t9 _ _ gr11
    have hr1 : VlP F9 (fun q => q.isFn = false ∧ Wn NO (i - 1) q ∧ Kn1 NO i q ∧ (cc ∈ E.map (·.1) ∨ oo ∉ Kd.opens (q))) (usr9 ++ [.ref pr10]) := (hDr9.imp fun q hq => ⟨hq.2, by
      obtain ⟨⟨z, mz⟩, hw⟩ := hq
      exact (I.ee _ mz).2.2.wn hw, by
      obtain ⟨⟨z, mz⟩, hw⟩ := hq
      exact (I.ee _ mz).2.2, by
      obtain ⟨⟨z, mz⟩, hw⟩ := hq
      exact I.oE mz⟩).app (VlP.one ⟨rfl, Wn.num, Kn1.num, .inr fun w => by cases w⟩ dr10)
    refine ⟨d, c, q9, _, rfl, dk, g9, o9.1, o9.2, (by rw [List.length_append]; show 1 ≤ usr9.length + 1; omega), (by rw [List.length_append]; show usr9.length + 1 ≤ _; omega), fun vO K1 kp1 e1 hv => ?_⟩
    replace b := bkk _ _ b kp1 e1
    replace ga := kp1 _ _ oa.1 oa.2 ga
    replace hvs := hvs.kn (Kn.tk (Tk.kp kp1 dk))
    replace dR := dR.kn (Kn.tk (Tk.kp kp1 dk))
    replace dB := dB.kn (Kn.tk (Tk.kp kp1 dk))
    replace gDr9 := kp1 _ _ oDr9.1 oDr9.2 gDr9
    replace hDr9 := hDr9.kn (Kn.tk (Tk.kp kp1 dk))
    replace dr10 := dr10.kn (Kn.tk (Tk.kp kp1 dk))
    replace gr11 := kp1 _ _ or11.1 or11.2 gr11
    replace g9 := kp1 _ _ o9.1 o9.2 g9
    replace hr1 := hr1.kn (Kn.tk (Tk.kp kp1 dk))
    replace dk := e1
    obtain ⟨q, ⟨w1, w2, w3, w4⟩, dO⟩ := hr1 vO hv
    exact ⟨vO, q, rfl, b, ga, hvs, dR, dB, dO, w1, w2, w3, w4⟩
  obtain ⟨vO, kO, rfl, b, ga, hvs, dR, dB, dO, nO, wO, kO1, oO⟩ := z
  refine ⟨fun σ G => ∃ (ar : Addr) (vr : List V), σ = [some (.ref d), some (.ref tl), some (.ref kl), some kv, some (.str x), some (.str y), some (.ref as), some vO, some vR, some vB, some (.ref ar), none, none, none, none, none, none, none, none, none, none] ∧ BS G ∧ Dd Non G (Kd.lst aR).dt vR ∧ Dd Non G (Kd.eith aB bB).dt vB ∧ Dd Non G (Kd.dt kO) vO ∧ G ar = some (.lst vr) ∧ (ar ≠ d ∧ ar ≠ c) ∧ vr.length ≤ 60 ∧ VlP G (fun q => ∃ a b, q = Kd.pair a b ∧ Wn NO (i - 1) (.pair a b) ∧ (cc ∈ E.map (·.1) ∨ oo ∉ Kd.opens (Kd.pair a b)) ∧ (a = k ∨ b = k)) vr, ?_, fun σ G9 z => ?_⟩
  · skip
    have dk := bdk _ b
    have dd := bdd _ b
    refine ⟨_, rfl, as, rfl, ⟨_, SqL.of ga⟩, fun Dr12 nDr12 => ?_⟩
    have oDr12 := dk.off nDr12
    refine lc_list (xs := vs) (fun j F => Same G8 F ∧ ∃ us1, F Dr12 = some (.lst us1) ∧ us1.length ≤ j ∧ VlP F (fun q => (∃ z, (z, q) ∈ E) ∧ (fun q => ∃ a b, q = Kd.pair a b ∧ Wn NO (i - 1) (.pair a b) ∧ (cc ∈ E.map (·.1) ∨ oo ∉ Kd.opens (Kd.pair a b)) ∧ (a = k ∨ b = k)) q) us1) ⟨newS nDr12, [], upd_same, Nat.le_refl _, VlP.nil⟩ (fun j F _ z => SqL.of (z.1 _ _ ga)) (fun j x0 F hx z => ?_) (fun Fr12 z => ?_)
    · skip
      obtain ⟨sF, us1, gU, lU, hU⟩ := z
      obtain ⟨kx, mx, dx⟩ := hvs x0 (List.mem_of_getElem? hx)
      obtain ⟨zx, mx⟩ := mx
      obtain ⟨px, ux, rfl, gx, cx⟩ := seeK (dx.same sF)
      refine ⟨rfl, _, rfl, px, _, _, _, rfl, rfl, SqT.of gx, atI_nat (j := 0) rfl, rfl, _, rfl, ite2 (fun c1 => ?_) (fun c1 => iteF ⟨sF, us1, gU, by omega, hU⟩)⟩
      obtain ⟨a, b, rfl⟩ := wPr (wEq.mp c1)
      obtain ⟨ua, ub_, rfl, da, db⟩ := ddTwo cx
      have kn := (I.ee _ mx).2.2
      have wn : Wn NO (i - 1) (.pair a b) := kn.wn rfl
      have ka : Kok a := ⟨fun x hx => wn.nm x (List.mem_append_left _ hx), by have := wn.dp; rw [Kd.dp] at this; omega⟩
      have kb : Kok b := ⟨fun x hx => wn.nm x (List.mem_append_right _ hx), by have := wn.dp; rw [Kd.dp] at this; omega⟩
      refine ⟨_, rfl, _, rfl, 1, rfl, px, _, rfl, SqT.of gx, (fun hw => absurd hw (notWhole _ _)), (fun _ p0 np0 => ?_)⟩
      rw [cutFrom1]
      refine objG np0 fun F2 t2 g2 => ?_
      have sF2 := sF.trans t2
      refine ⟨toD k, [toD a, toD b], dpK K ((dd.same sF).same t2), Dp.tup (SqT.of g2) (.cons (dpK K (da.same t2)) (.cons (dpK K (db.same t2)) .nil)), shK I.wk.kok, (shTs (ts := [a, b]) (fun t ht => by
        rcases List.mem_cons.mp ht with rfl | ht
        · exact ka
        · rw [List.mem_singleton.mp ht]; exact kb)).1, _, rfl, ite2 (fun c2 => ?_) (fun c2 => ⟨sF2, us1, t2 _ _ gU, by omega, hU.same t2⟩)⟩
      refine ⟨_, rfl, us1, t2 _ _ gU, (show us1.length < sizeLine from small1000 (by have := (List.getElem?_eq_some_iff.mp hx).1; omega)), smk sF2 nDr12, us1 ++ [.ref px], upd_same, by rw [List.length_append]; show us1.length + 1 ≤ _; omega, ?_⟩
      have k1 : Kv.Kn Non F2 (upd F2 Dr12 (.lst (us1 ++ [.ref px]))) := Kn.rfl.put (fun z => z) fun _ z => by rw [t2 _ _ gU] at z; cases z
      exact ((hU.same t2).kn k1).app (VlP.one ⟨⟨zx, mx⟩, a, b, rfl, wn, I.oE mx, any2 ka kb c2⟩ ((dx.same sF2).kn k1))
    obtain ⟨sFr12, usr12, gDr12, lDr12, hDr12⟩ := z
    replace b := bsm _ _ b sFr12
    replace dk := dk.same sFr12
    replace ga := sFr12 _ _ ga
    replace hvs := hvs.same sFr12
    replace dR := dR.same sFr12
    replace dB := dB.same sFr12
    replace dO := dO.same sFr12
    exact ⟨_, _, rfl, b, dR, dB, dO, gDr12, oDr12, by omega, hDr12.imp fun q hq => hq.2⟩
  obtain ⟨ar, vr, rfl, b, dR, dB, dO, gr, orr, lr2, hr1⟩ := z
  refine ⟨fun σ G => ∃ (vP : V) (aP bP : Kd), σ = [some (.ref d), some (.ref tl), some (.ref kl), some kv, some (.str x), some (.str y), some (.ref as), some vO, some vR, some vB, some (.ref ar), some vP, none, none, none, none, none, none, none, none, none] ∧ BS G ∧ Dd Non G (Kd.lst aR).dt vR ∧ Dd Non G (Kd.eith aB bB).dt vB ∧ Dd Non G (Kd.dt kO) vO ∧ Dd Non G (Kd.pair aP bP).dt vP ∧ Wn NO (i - 1) (.pair aP bP) ∧ (cc ∈ E.map (·.1) ∨ oo ∉ Kd.opens (Kd.pair aP bP)) ∧ (aP = k ∨ bP = k), ?_, fun σ G10 z => ?_⟩
  · skip
    have dk := bdk _ b
    have dd := bdd _ b
    refine ⟨_, rfl, _, rfl, _, rfl, _, rfl, (by show 3 ≤ sizeLine; decide), fun pr13 nr13 => tupG nr13 (.cons (.str _) (.cons dd (.cons dO .nil))) fun Gr13 sr13 dr13 => ?_⟩
    have dr13 : Dd Non Gr13 (Kd.dt (Kd.pair (k) (kO))) (.ref pr13) := dr13
    replace b := bsm _ _ b sr13
    replace dk := dk.same sr13
    replace dR := dR.same sr13
    replace dB := dB.same sr13
    replace dO := dO.same sr13
    replace gr := sr13 _ _ gr
    replace hr1 := hr1.same sr13
    replace dd := dd.same sr13
    refine ⟨_, rfl, _, rfl, (by show 3 ≤ sizeLine; decide), fun pr14 nr14 => tupG nr14 (.cons (.str _) (.cons dO (.cons dd .nil))) fun Gr14 sr14 dr14 => ?_⟩
    have dr14 : Dd Non Gr14 (Kd.dt (Kd.pair (kO) (k))) (.ref pr14) := dr14
    replace b := bsm _ _ b sr14
    replace dk := dk.same sr14
    replace dR := dR.same sr14
    replace dB := dB.same sr14
    replace dO := dO.same sr14
    replace gr := sr14 _ _ gr
    replace hr1 := hr1.same sr14
    replace dd := dd.same sr14
    replace dr13 := dr13.same sr14
    refine ⟨(by show 2 ≤ sizeLine; decide), fun pr15 nr15 => ?_⟩
    have or15 := dk.off nr15
    refine lstG nr15 fun Gr15 sr15 gr15 => ?_
    have gr15 : Gr15 pr15 = some (.lst [.ref pr13, .ref pr14]) := gr15
    replace b := bsm _ _ b sr15
    replace dk := dk.same sr15
    replace dR := dR.same sr15
    replace dB := dB.same sr15
    replace dO := dO.same sr15
    replace gr := sr15 _ _ gr
    replace hr1 := hr1.same sr15
    replace dd := dd.same sr15
    replace dr13 := dr13.same sr15
    replace dr14 := dr14.same sr15
    refine ⟨_, _, _, _, rfl, rfl, gr, gr15, (szBig (by show vr.length + 2 ≤ _; omega)), fun q9 m9 => ?_⟩
    have o9 := dk.off m9
    refine lstG m9 fun F9 t9 g9 => ?_
    replace b := bsm _ _ b t9
    replace dk := dk.same t9
    replace dR := dR.same t9
    replace dB := dB.same t9
    replace dO := dO.same t9
    replace gr := t9 _ _ gr
    replace hr1 := hr1.same t9
    replace dd := dd.same t9
    replace dr13 := dr13.same t9
    replace dr14 := dr14.same t9
    replace gr15 := t9 _ _ gr15
    obtain ⟨wp1, wp2, wp3⟩ := I.wk.pr nf kO1 nO I.i4 h0
    have hr2 : VlP F9 (fun q => ∃ a b, q = Kd.pair a b ∧ Wn NO (i - 1) (.pair a b) ∧ (cc ∈ E.map (·.1) ∨ oo ∉ Kd.opens (Kd.pair a b)) ∧ (a = k ∨ b = k)) (vr ++ [.ref pr13, .ref pr14]) := hr1.app (VlP.app (ws := [.ref pr14]) (vs := [.ref pr13]) (VlP.one ⟨_, _, rfl, wp1, mrg I.oK oO fun u v w => (List.mem_append.mp w).elim u v, .inl rfl⟩ dr13) (VlP.one ⟨_, _, rfl, wp2, mrg I.oK oO fun u v w => (List.mem_append.mp w).elim v u, .inr rfl⟩ dr14))
    refine ⟨d, c, q9, _, rfl, dk, g9, o9.1, o9.2, (by rw [List.length_append]; show 1 ≤ vr.length + 2; omega), (by rw [List.length_append]; show vr.length + 2 ≤ _; omega), fun vP K1 kp1 e1 hv => ?_⟩
    replace b := bkk _ _ b kp1 e1
    replace dR := dR.kn (Kn.tk (Tk.kp kp1 dk))
    replace dB := dB.kn (Kn.tk (Tk.kp kp1 dk))
    replace dO := dO.kn (Kn.tk (Tk.kp kp1 dk))
    replace gr := kp1 _ _ orr.1 orr.2 gr
    replace hr1 := hr1.kn (Kn.tk (Tk.kp kp1 dk))
    replace dd := dd.kn (Kn.tk (Tk.kp kp1 dk))
    replace dr13 := dr13.kn (Kn.tk (Tk.kp kp1 dk))
    replace dr14 := dr14.kn (Kn.tk (Tk.kp kp1 dk))
    replace gr15 := kp1 _ _ or15.1 or15.2 gr15
    replace g9 := kp1 _ _ o9.1 o9.2 g9
    replace hr2 := hr2.kn (Kn.tk (Tk.kp kp1 dk))
    replace dk := e1
    obtain ⟨q, ⟨aP, bP, rfl, w1, w2, w3⟩, dP⟩ := hr2 vP hv
    exact ⟨vP, aP, bP, rfl, b, dR, dB, dO, dP, w1, w2, w3⟩
  obtain ⟨vP, aP, bP, rfl, b, dR, dB, dO, dP, wP, oP, eP⟩ := z
  have SHu : ∀ {z : Bool} {h : Nat} {s : Sd}, Shp op lo NS NO oo cc i E k z h s → h ≤ 11 → Shp op lo NS NO oo cc i E k false 11 s := fun S hh => S.weak hh
  refine ⟨fun σ G => ∃ (pF : Addr) (kvs : List (Key × V)), σ = [some (.ref d), some (.ref tl), some (.ref kl), some kv, some (.str x), some (.str y), some (.ref as), some vO, some vR, some vB, some (.ref ar), some vP, some (.ref pF), none, none, none, none, none, none, none, none] ∧ BS G ∧ Dd Non G (Kd.lst aR).dt vR ∧ Dd Non G (Kd.eith aB bB).dt vB ∧ Dd Non G (Kd.dt kO) vO ∧ Dd Non G (Kd.pair aP bP).dt vP ∧ H pF = none ∧ (pF ≠ d ∧ pF ≠ c) ∧ G pF = some (.dK kvs) ∧ Tbl G (fun s => Shp op lo NS NO oo cc i E k false 11 s) kvs ["if"], ?_, fun σ G11 z => ?_⟩
  · skip
    have dk := bdk _ b
    have dd := bdd _ b
    refine fun pF nF => ?_
    have nH := (bkp _ b).free dk nF
    have oF := dk.off nF
    refine objG nF fun FD tD gF => ?_
    replace b := bsm _ _ b tD
    replace dk := dk.same tD
    replace dR := dR.same tD
    replace dB := dB.same tD
    replace dO := dO.same tD
    replace dP := dP.same tD
    replace dd := dd.same tD
    refine ⟨(by show 1 ≤ sizeLine; decide), fun pr16 nr16 => tupG nr16 (.cons (.str _) .nil) fun Gr16 sr16 dr16 => ?_⟩
    have dr16 : Dd Non Gr16 (Kd.dt (Kd.tru)) (.ref pr16) := dr16
    replace b := bsm _ _ b sr16
    replace dk := dk.same sr16
    replace dR := dR.same sr16
    replace dB := dB.same sr16
    replace dO := dO.same sr16
    replace dP := dP.same sr16
    replace dd := dd.same sr16
    replace gF := sr16 _ _ gF
    refine ⟨(by show 0 ≤ sizeLine; decide), fun pr17 nr17 => tupG nr17 .nil fun Gr17 sr17 dr17 => ?_⟩
    have dr17 : Dd Non Gr17 (.tup (([] : List (Str × Kd)).map fun p => Dt.tup [.str p.1, p.2.dt])) (.ref pr17) := dr17
    replace b := bsm _ _ b sr17
    replace dk := dk.same sr17
    replace dR := dR.same sr17
    replace dB := dB.same sr17
    replace dO := dO.same sr17
    replace dP := dP.same sr17
    replace dd := dd.same sr17
    replace gF := sr17 _ _ gF
    replace dr16 := dr16.same sr17
    refine ⟨(by show 3 ≤ sizeLine; decide), fun pr18 nr18 => tupG nr18 (.cons (.str _) (.cons dr16 (.cons dr17 .nil))) fun Gr18 sr18 dr18 => ?_⟩
    have dr18 : Dd Non Gr18 (Sd.dt (.hole (Kd.tru) [])) (.ref pr18) := dr18
    replace b := bsm _ _ b sr18
    replace dk := dk.same sr18
    replace dR := dR.same sr18
    replace dB := dB.same sr18
    replace dO := dO.same sr18
    replace dP := dP.same sr18
    replace dd := dd.same sr18
    replace gF := sr18 _ _ gF
    replace dr16 := dr16.same sr18
    replace dr17 := dr17.same sr18
    refine ⟨_, rfl, (by show 0 ≤ sizeLine; decide), fun pr19 nr19 => tupG nr19 .nil fun Gr19 sr19 dr19 => ?_⟩
    have dr19 : Dd Non Gr19 (.tup (([] : List (Str × Kd)).map fun p => Dt.tup [.str p.1, p.2.dt])) (.ref pr19) := dr19
    replace b := bsm _ _ b sr19
    replace dk := dk.same sr19
    replace dR := dR.same sr19
    replace dB := dB.same sr19
    replace dO := dO.same sr19
    replace dP := dP.same sr19
    replace dd := dd.same sr19
    replace gF := sr19 _ _ gF
    replace dr16 := dr16.same sr19
    replace dr17 := dr17.same sr19
    replace dr18 := dr18.same sr19
    refine ⟨(by show 3 ≤ sizeLine; decide), fun pr20 nr20 => tupG nr20 (.cons (.str _) (.cons dd (.cons dr19 .nil))) fun Gr20 sr20 dr20 => ?_⟩
    have dr20 : Dd Non Gr20 (Sd.dt (.hole (k) [])) (.ref pr20) := dr20
    replace b := bsm _ _ b sr20
    replace dk := dk.same sr20
    replace dR := dR.same sr20
    replace dB := dB.same sr20
    replace dO := dO.same sr20
    replace dP := dP.same sr20
    replace dd := dd.same sr20
    replace gF := sr20 _ _ gF
    replace dr16 := dr16.same sr20
    replace dr17 := dr17.same sr20
    replace dr18 := dr18.same sr20
    replace dr19 := dr19.same sr20
    refine ⟨_, rfl, (by show 0 ≤ sizeLine; decide), fun pr21 nr21 => tupG nr21 .nil fun Gr21 sr21 dr21 => ?_⟩
    have dr21 : Dd Non Gr21 (.tup (([] : List (Str × Kd)).map fun p => Dt.tup [.str p.1, p.2.dt])) (.ref pr21) := dr21
    replace b := bsm _ _ b sr21
    replace dk := dk.same sr21
    replace dR := dR.same sr21
    replace dB := dB.same sr21
    replace dO := dO.same sr21
    replace dP := dP.same sr21
    replace dd := dd.same sr21
    replace gF := sr21 _ _ gF
    replace dr16 := dr16.same sr21
    replace dr17 := dr17.same sr21
    replace dr18 := dr18.same sr21
    replace dr19 := dr19.same sr21
    replace dr20 := dr20.same sr21
    refine ⟨(by show 3 ≤ sizeLine; decide), fun pr22 nr22 => tupG nr22 (.cons (.str _) (.cons dd (.cons dr21 .nil))) fun Gr22 sr22 dr22 => ?_⟩
    have dr22 : Dd Non Gr22 (Sd.dt (.hole (k) [])) (.ref pr22) := dr22
    replace b := bsm _ _ b sr22
    replace dk := dk.same sr22
    replace dR := dR.same sr22
    replace dB := dB.same sr22
    replace dO := dO.same sr22
    replace dP := dP.same sr22
    replace dd := dd.same sr22
    replace gF := sr22 _ _ gF
    replace dr16 := dr16.same sr22
    replace dr17 := dr17.same sr22
    replace dr18 := dr18.same sr22
    replace dr19 := dr19.same sr22
    replace dr20 := dr20.same sr22
    replace dr21 := dr21.same sr22
    refine ⟨(by show 4 ≤ sizeLine; decide), fun pr23 nr23 => tupG nr23 (.cons (.str _) (.cons dr18 (.cons dr20 (.cons dr22 .nil)))) fun Gr23 sr23 dr23 => ?_⟩
    have dr23 : Dd Non Gr23 (Sd.dt (.tup [.at (.str "if"), (.hole (Kd.tru) []), (.hole (k) []), (.hole (k) [])])) (.ref pr23) := dr23
    replace b := bsm _ _ b sr23
    replace dk := dk.same sr23
    replace dR := dR.same sr23
    replace dB := dB.same sr23
    replace dO := dO.same sr23
    replace dP := dP.same sr23
    replace dd := dd.same sr23
    replace gF := sr23 _ _ gF
    replace dr16 := dr16.same sr23
    replace dr17 := dr17.same sr23
    replace dr18 := dr18.same sr23
    replace dr19 := dr19.same sr23
    replace dr20 := dr20.same sr23
    replace dr21 := dr21.same sr23
    replace dr22 := dr22.same sr23
    refine ⟨gF, [(.inr "if", .ref pr23)], rfl, (by show 1 ≤ 15; decide), ?_⟩
    have kD : Kv.Kn Non Gr23 (upd Gr23 pF (.dK ([(.inr "if", .ref pr23)]))) := Kn.rfl.put (fun z => z) fun _ z => by rw [gF] at z; cases z
    have T0 : Tbl Gr23 (fun s => Shp op lo NS NO oo cc i E k false 11 s) [(.inr "if", .ref pr23)] ["if"] := ⟨Nat.le_refl _, fun w hw => by
      rw [List.mem_singleton.mp hw]
      exact ⟨_, (.tup [.at (.str "if"), (.hole (Kd.tru) []), (.hole (k) []), (.hole (k) [])]), rfl, dr23, SHu (s_if I) (by decide)⟩⟩
    exact ⟨pF, [(.inr "if", .ref pr23)], rfl, bup _ _ _ b nH oF.1 oF.2, dR.kn kD, dB.kn kD, dO.kn kD, dP.kn kD, nH, oF, upd_same, T0.kn kD⟩
  obtain ⟨pF, kvs, rfl, b, dR, dB, dO, dP, nH, oF, gF, hT⟩ := z
  skip
  obtain ⟨pP, uP1, uP2, rfl, _⟩ := Dd.of3 dP
  obtain ⟨pB, uB1, uB2, rfl, _⟩ := Dd.of3 dB
  obtain ⟨pR, uR1, rfl, _⟩ := Dd.of2 dR
  have dk := bdk _ b
  have dd := bdd _ b
  have J := bJ _ b
  refine ⟨fun σ G => ∃ (kvs : List (Key × V)), σ = [some (.ref d), some (.ref tl), some (.ref kl), some kv, some (.str x), some (.str y), some (.ref as), some vO, some (.ref pR), some (.ref pB), some (.ref ar), some (.ref pP), some (.ref pF), none, none, none, none, none, none, none, none] ∧ BS G ∧ Dd Non G (Kd.lst aR).dt (.ref pR) ∧ Dd Non G (Kd.eith aB bB).dt (.ref pB) ∧ Dd Non G (Kd.dt kO) vO ∧ Dd Non G (Kd.pair aP bP).dt (.ref pP) ∧ G pF = some (.dK kvs) ∧ Tbl G (fun s => Shp op lo NS NO oo cc i E k false 11 s) kvs ["part", "if"], ?_, fun σ G12 z => ?_⟩
  · skip
    obtain ⟨p9, pP1, pP2, e9, gpP, dpP1, dpP2⟩ := Dd.of3 dP
    cases e9
    have kaP : Kok aP := ⟨fun x hx => wP.nm x (List.mem_append_left _ hx), by have := wP.dp; rw [Kd.dp] at this; omega⟩
    obtain ⟨w, ev, hw⟩ : ∃ w : Str, atI [V.str "second", V.str "first"] (if PyData.eqv (toD aP) (toD k) then (1 : Int) else 0) = some (.str w) ∧ ((w = "first" ∧ aP = k) ∨ (w = "second" ∧ bP = k)) := by
      cases hb : PyData.eqv (toD aP) (toD k)
      · exact ⟨_, rfl, .inr ⟨rfl, eP.resolve_left fun w => by rw [(eqK kaP).mpr w] at hb; cases hb⟩⟩
      · exact ⟨_, rfl, .inl ⟨rfl, (eqK kaP).mp hb⟩⟩
    refine ⟨(by show 2 ≤ sizeLine; decide), fun pr24 nr24 => ?_⟩
    have or24 := dk.off nr24
    refine lstG nr24 fun Gr24 sr24 gr24 => ?_
    have gr24 : Gr24 pr24 = some (.lst [.str "second", .str "first"]) := gr24
    replace b := bsm _ _ b sr24
    replace dk := dk.same sr24
    replace dR := dR.same sr24
    replace dB := dB.same sr24
    replace dO := dO.same sr24
    replace dP := dP.same sr24
    replace dd := dd.same sr24
    replace gF := sr24 _ _ gF
    replace hT := hT.same sr24
    replace gpP := sr24 _ _ gpP
    replace dpP1 := dpP1.same sr24
    replace dpP2 := dpP2.same sr24
    refine ⟨_, rfl, pP, _, _, _, rfl, rfl, SqT.of gpP, atI_nat (j := 1) rfl, _, rfl, _, _, dpK K dpP1, dpK K dd, shK kaP, shK I.wk.kok, .inr ⟨PyData.eqv (toD aP) (toD k), rfl, pr24, _, _, _, rfl, rfl, SqL.of gr24, ev, ?_⟩⟩
    refine ⟨_, rfl, (by show 0 ≤ sizeLine; decide), fun pr25 nr25 => tupG nr25 .nil fun Gr25 sr25 dr25 => ?_⟩
    have dr25 : Dd Non Gr25 (.tup (([] : List (Str × Kd)).map fun p => Dt.tup [.str p.1, p.2.dt])) (.ref pr25) := dr25
    replace b := bsm _ _ b sr25
    replace dk := dk.same sr25
    replace dR := dR.same sr25
    replace dB := dB.same sr25
    replace dO := dO.same sr25
    replace dP := dP.same sr25
    replace dd := dd.same sr25
    replace gF := sr25 _ _ gF
    replace hT := hT.same sr25
    replace gpP := sr25 _ _ gpP
    replace dpP1 := dpP1.same sr25
    replace dpP2 := dpP2.same sr25
    replace gr24 := sr25 _ _ gr24
    refine ⟨(by show 3 ≤ sizeLine; decide), fun pr26 nr26 => tupG nr26 (.cons (.str _) (.cons dP (.cons dr25 .nil))) fun Gr26 sr26 dr26 => ?_⟩
    have dr26 : Dd Non Gr26 (Sd.dt (.hole (Kd.pair (aP) (bP)) [])) (.ref pr26) := dr26
    replace b := bsm _ _ b sr26
    replace dk := dk.same sr26
    replace dR := dR.same sr26
    replace dB := dB.same sr26
    replace dO := dO.same sr26
    replace dP := dP.same sr26
    replace dd := dd.same sr26
    replace gF := sr26 _ _ gF
    replace hT := hT.same sr26
    replace gpP := sr26 _ _ gpP
    replace dpP1 := dpP1.same sr26
    replace dpP2 := dpP2.same sr26
    replace gr24 := sr26 _ _ gr24
    replace dr25 := dr25.same sr26
    refine ⟨(by show 2 ≤ sizeLine; decide), fun pr27 nr27 => tupG nr27 (.cons (.str _) (.cons dr26 .nil)) fun Gr27 sr27 dr27 => ?_⟩
    have dr27 : Dd Non Gr27 (Sd.dt (.tup [.at (.str w), (.hole (Kd.pair (aP) (bP)) [])])) (.ref pr27) := dr27
    replace b := bsm _ _ b sr27
    replace dk := dk.same sr27
    replace dR := dR.same sr27
    replace dB := dB.same sr27
    replace dO := dO.same sr27
    replace dP := dP.same sr27
    replace dd := dd.same sr27
    replace gF := sr27 _ _ gF
    replace hT := hT.same sr27
    replace gpP := sr27 _ _ gpP
    replace dpP1 := dpP1.same sr27
    replace dpP2 := dpP2.same sr27
    replace gr24 := sr27 _ _ gr24
    replace dr25 := dr25.same sr27
    replace dr26 := dr26.same sr27
    have SP : Shp op lo NS NO oo cc i E k false 11 (.tup [.at (.str w), .hole (.pair aP bP) []]) := by
      rcases hw with ⟨rfl, e⟩ | ⟨rfl, e⟩
      · subst e
        exact SHu (s_fst wP oP I) (by decide)
      · subst e
        exact SHu (s_snd wP oP I) (by decide)
    refine ⟨_, rfl, _, _, rfl, DPut.k (k := .inr "part") gF (small1000 (by have := hT.1; simp only [List.length_cons, List.length_nil] at this; omega)), ?_⟩
    have kD : Kv.Kn Non Gr27 (upd Gr27 pF (.dK (putK kvs (.inr "part") (.ref pr27)))) := Kn.rfl.put (fun z => z) fun _ z => by rw [gF] at z; cases z
    have T1 := hT.put (w := "part") (s := .tup [.at (.str w), (.hole (Kd.pair (aP) (bP)) [])]) dr27 (SP)
    exact ⟨_, rfl, bup _ _ _ b nH oF.1 oF.2, dR.kn kD, dB.kn kD, dO.kn kD, dP.kn kD, upd_same, T1.kn kD⟩
  obtain ⟨kvs, rfl, b, dR, dB, dO, dP, gF, hT⟩ := z
  have dk := bdk _ b
  have dd := bdd _ b
  have J := bJ _ b
  obtain ⟨p9, pB1, pB2, e9, gpB, dpB1, dpB2⟩ := Dd.of3 dB
  cases e9
  refine ⟨_, rfl, _, rfl, _, rfl, pB, _, _, _, rfl, rfl, SqT.of gpB, atI_nat (j := 2) rfl, (by show 2 ≤ sizeLine; decide), fun pr28 nr28 => tupG nr28 (.cons (.str _) (.cons dpB2 .nil)) fun Gr28 sr28 dr28 => ?_⟩
  have dr28 : Dd Non Gr28 (.tup [.str y, Kd.dt (bB)]) (.ref pr28) := dr28
  replace b := bsm _ _ b sr28
  replace dk := dk.same sr28
  replace dR := dR.same sr28
  replace dB := dB.same sr28
  replace dO := dO.same sr28
  replace dP := dP.same sr28
  replace dd := dd.same sr28
  replace gF := sr28 _ _ gF
  replace hT := hT.same sr28
  replace gpB := sr28 _ _ gpB
  replace dpB1 := dpB1.same sr28
  replace dpB2 := dpB2.same sr28
  refine ⟨(by show 1 ≤ sizeLine; decide), fun pr29 nr29 => tupG nr29 (.cons dr28 .nil) fun Gr29 sr29 dr29 => ?_⟩
  have dr29 : Dd Non Gr29 (.tup (([(y, bB)] : List (Str × Kd)).map fun p => Dt.tup [.str p.1, p.2.dt])) (.ref pr29) := dr29
  replace b := bsm _ _ b sr29
  replace dk := dk.same sr29
  replace dR := dR.same sr29
  replace dB := dB.same sr29
  replace dO := dO.same sr29
  replace dP := dP.same sr29
  replace dd := dd.same sr29
  replace gF := sr29 _ _ gF
  replace hT := hT.same sr29
  replace gpB := sr29 _ _ gpB
  replace dpB1 := dpB1.same sr29
  replace dpB2 := dpB2.same sr29
  replace dr28 := dr28.same sr29
  refine ⟨(by show 3 ≤ sizeLine; decide), fun pr30 nr30 => tupG nr30 (.cons (.str _) (.cons dd (.cons dr29 .nil))) fun Gr30 sr30 dr30 => ?_⟩
  have dr30 : Dd Non Gr30 (Sd.dt (.hole (k) [(y, bB)])) (.ref pr30) := dr30
  replace b := bsm _ _ b sr30
  replace dk := dk.same sr30
  replace dR := dR.same sr30
  replace dB := dB.same sr30
  replace dO := dO.same sr30
  replace dP := dP.same sr30
  replace dd := dd.same sr30
  replace gF := sr30 _ _ gF
  replace hT := hT.same sr30
  replace gpB := sr30 _ _ gpB
  replace dpB1 := dpB1.same sr30
  replace dpB2 := dpB2.same sr30
  replace dr28 := dr28.same sr30
  replace dr29 := dr29.same sr30
  refine ⟨_, rfl, _, rfl, _, rfl, pB, _, _, _, rfl, rfl, SqT.of gpB, atI_nat (j := 1) rfl, (by show 2 ≤ sizeLine; decide), fun pr31 nr31 => tupG nr31 (.cons (.str _) (.cons dpB1 .nil)) fun Gr31 sr31 dr31 => ?_⟩
  have dr31 : Dd Non Gr31 (.tup [.str x, Kd.dt (aB)]) (.ref pr31) := dr31
  replace b := bsm _ _ b sr31
  replace dk := dk.same sr31
  replace dR := dR.same sr31
  replace dB := dB.same sr31
  replace dO := dO.same sr31
  replace dP := dP.same sr31
  replace dd := dd.same sr31
  replace gF := sr31 _ _ gF
  replace hT := hT.same sr31
  replace gpB := sr31 _ _ gpB
  replace dpB1 := dpB1.same sr31
  replace dpB2 := dpB2.same sr31
  replace dr28 := dr28.same sr31
  replace dr29 := dr29.same sr31
  replace dr30 := dr30.same sr31
  refine ⟨(by show 1 ≤ sizeLine; decide), fun pr32 nr32 => tupG nr32 (.cons dr31 .nil) fun Gr32 sr32 dr32 => ?_⟩
  have dr32 : Dd Non Gr32 (.tup (([(x, aB)] : List (Str × Kd)).map fun p => Dt.tup [.str p.1, p.2.dt])) (.ref pr32) := dr32
  replace b := bsm _ _ b sr32
  replace dk := dk.same sr32
  replace dR := dR.same sr32
  replace dB := dB.same sr32
  replace dO := dO.same sr32
  replace dP := dP.same sr32
  replace dd := dd.same sr32
  replace gF := sr32 _ _ gF
  replace hT := hT.same sr32
  replace gpB := sr32 _ _ gpB
  replace dpB1 := dpB1.same sr32
  replace dpB2 := dpB2.same sr32
  replace dr28 := dr28.same sr32
  replace dr29 := dr29.same sr32
  replace dr30 := dr30.same sr32
  replace dr31 := dr31.same sr32
  refine ⟨(by show 3 ≤ sizeLine; decide), fun pr33 nr33 => tupG nr33 (.cons (.str _) (.cons dd (.cons dr32 .nil))) fun Gr33 sr33 dr33 => ?_⟩
  have dr33 : Dd Non Gr33 (Sd.dt (.hole (k) [(x, aB)])) (.ref pr33) := dr33
  replace b := bsm _ _ b sr33
  replace dk := dk.same sr33
  replace dR := dR.same sr33
  replace dB := dB.same sr33
  replace dO := dO.same sr33
  replace dP := dP.same sr33
  replace dd := dd.same sr33
  replace gF := sr33 _ _ gF
  replace hT := hT.same sr33
  replace gpB := sr33 _ _ gpB
  replace dpB1 := dpB1.same sr33
  replace dpB2 := dpB2.same sr33
  replace dr28 := dr28.same sr33
  replace dr29 := dr29.same sr33
  replace dr30 := dr30.same sr33
  replace dr31 := dr31.same sr33
  replace dr32 := dr32.same sr33
  refine ⟨fun σ G => ∃ (kvs : List (Key × V)) (w13 : Option V) (w14 : Option V), σ = [some (.ref d), some (.ref tl), some (.ref kl), some kv, some (.str x), some (.str y), some (.ref as), some vO, some (.ref pR), some (.ref pB), some (.ref ar), some (.ref pP), some (.ref pF), w13, w14, none, none, none, none, none, none] ∧ BS G ∧ Dd Non G (Kd.lst aR).dt (.ref pR) ∧ Dd Non G (Kd.eith aB bB).dt (.ref pB) ∧ Dd Non G (Kd.dt kO) vO ∧ Dd Non G (Kd.pair aP bP).dt (.ref pP) ∧ G pF = some (.dK kvs) ∧ Tbl G (fun s => Shp op lo NS NO oo cc i E k false 11 s) kvs ["case", "part", "if"], ?_, fun σ G13 z => ?_⟩
  · skip
    refine ⟨_, rfl, (by show 0 ≤ sizeLine; decide), fun pr34 nr34 => tupG nr34 .nil fun Gr34 sr34 dr34 => ?_⟩
    have dr34 : Dd Non Gr34 (.tup (([] : List (Str × Kd)).map fun p => Dt.tup [.str p.1, p.2.dt])) (.ref pr34) := dr34
    replace b := bsm _ _ b sr34
    replace dk := dk.same sr34
    replace dR := dR.same sr34
    replace dB := dB.same sr34
    replace dO := dO.same sr34
    replace dP := dP.same sr34
    replace dd := dd.same sr34
    replace gF := sr34 _ _ gF
    replace hT := hT.same sr34
    replace gpB := sr34 _ _ gpB
    replace dpB1 := dpB1.same sr34
    replace dpB2 := dpB2.same sr34
    replace dr28 := dr28.same sr34
    replace dr29 := dr29.same sr34
    replace dr30 := dr30.same sr34
    replace dr31 := dr31.same sr34
    replace dr32 := dr32.same sr34
    replace dr33 := dr33.same sr34
    refine ⟨(by show 3 ≤ sizeLine; decide), fun pr35 nr35 => tupG nr35 (.cons (.str _) (.cons dB (.cons dr34 .nil))) fun Gr35 sr35 dr35 => ?_⟩
    have dr35 : Dd Non Gr35 (Sd.dt (.hole (Kd.eith (aB) (bB)) [])) (.ref pr35) := dr35
    replace b := bsm _ _ b sr35
    replace dk := dk.same sr35
    replace dR := dR.same sr35
    replace dB := dB.same sr35
    replace dO := dO.same sr35
    replace dP := dP.same sr35
    replace dd := dd.same sr35
    replace gF := sr35 _ _ gF
    replace hT := hT.same sr35
    replace gpB := sr35 _ _ gpB
    replace dpB1 := dpB1.same sr35
    replace dpB2 := dpB2.same sr35
    replace dr28 := dr28.same sr35
    replace dr29 := dr29.same sr35
    replace dr30 := dr30.same sr35
    replace dr31 := dr31.same sr35
    replace dr32 := dr32.same sr35
    replace dr33 := dr33.same sr35
    replace dr34 := dr34.same sr35
    refine ⟨_, rfl, _, rfl, _, rfl, _, rfl, (by show 6 ≤ sizeLine; decide), fun pr36 nr36 => tupG nr36 (.cons (.str _) (.cons dr35 (.cons (.str _) (.cons dr33 (.cons (.str _) (.cons dr30 .nil)))))) fun Gr36 sr36 dr36 => ?_⟩
    have dr36 : Dd Non Gr36 (Sd.dt (.tup [.at (.str "case"), (.hole (Kd.eith (aB) (bB)) []), .at (.str x), (.hole (k) [(x, aB)]), .at (.str y), (.hole (k) [(y, bB)])])) (.ref pr36) := dr36
    replace b := bsm _ _ b sr36
    replace dk := dk.same sr36
    replace dR := dR.same sr36
    replace dB := dB.same sr36
    replace dO := dO.same sr36
    replace dP := dP.same sr36
    replace dd := dd.same sr36
    replace gF := sr36 _ _ gF
    replace hT := hT.same sr36
    replace gpB := sr36 _ _ gpB
    replace dpB1 := dpB1.same sr36
    replace dpB2 := dpB2.same sr36
    replace dr28 := dr28.same sr36
    replace dr29 := dr29.same sr36
    replace dr30 := dr30.same sr36
    replace dr31 := dr31.same sr36
    replace dr32 := dr32.same sr36
    replace dr33 := dr33.same sr36
    replace dr34 := dr34.same sr36
    replace dr35 := dr35.same sr36
    refine ⟨_, rfl, _, _, rfl, DPut.k (k := .inr "case") gF (small1000 (by have := hT.1; simp only [List.length_cons, List.length_nil] at this; omega)), ?_⟩
    have kD : Kv.Kn Non Gr36 (upd Gr36 pF (.dK (putK kvs (.inr "case") (.ref pr36)))) := Kn.rfl.put (fun z => z) fun _ z => by rw [gF] at z; cases z
    have T1 := hT.put (w := "case") (s := (.tup [.at (.str "case"), (.hole (Kd.eith (aB) (bB)) []), .at (.str x), (.hole (k) [(x, aB)]), .at (.str y), (.hole (k) [(y, bB)])])) dr36 (SHu (s_case T hx hy wB kB1 kB2 oB I) (by decide))
    exact ⟨_, _, _, rfl, bup _ _ _ b nH oF.1 oF.2, dR.kn kD, dB.kn kD, dO.kn kD, dP.kn kD, upd_same, T1.kn kD⟩
  obtain ⟨kvs, w13, w14, rfl, b, dR, dB, dO, dP, gF, hT⟩ := z
  have dk := bdk _ b
  have dd := bdd _ b
  have J := bJ _ b
  obtain ⟨p9, pR1, e9, gpR, dpR1⟩ := Dd.of2 dR
  cases e9
  refine ⟨_, rfl, _, rfl, _, rfl, pR, _, _, _, rfl, rfl, SqT.of gpR, atI_nat (j := 1) rfl, (by show 2 ≤ sizeLine; decide), fun pr37 nr37 => tupG nr37 (.cons (.str _) (.cons dpR1 .nil)) fun Gr37 sr37 dr37 => ?_⟩
  have dr37 : Dd Non Gr37 (.tup [.str x, Kd.dt (aR)]) (.ref pr37) := dr37
  replace b := bsm _ _ b sr37
  replace dk := dk.same sr37
  replace dR := dR.same sr37
  replace dB := dB.same sr37
  replace dO := dO.same sr37
  replace dP := dP.same sr37
  replace dd := dd.same sr37
  replace gF := sr37 _ _ gF
  replace hT := hT.same sr37
  replace gpR := sr37 _ _ gpR
  replace dpR1 := dpR1.same sr37
  refine ⟨_, rfl, _, rfl, (by show 2 ≤ sizeLine; decide), fun pr38 nr38 => tupG nr38 (.cons (.str _) (.cons dd .nil)) fun Gr38 sr38 dr38 => ?_⟩
  have dr38 : Dd Non Gr38 (.tup [.str y, Kd.dt (k)]) (.ref pr38) := dr38
  replace b := bsm _ _ b sr38
  replace dk := dk.same sr38
  replace dR := dR.same sr38
  replace dB := dB.same sr38
  replace dO := dO.same sr38
  replace dP := dP.same sr38
  replace dd := dd.same sr38
  replace gF := sr38 _ _ gF
  replace hT := hT.same sr38
  replace gpR := sr38 _ _ gpR
  replace dpR1 := dpR1.same sr38
  replace dr37 := dr37.same sr38
  refine ⟨(by show 2 ≤ sizeLine; decide), fun pr39 nr39 => tupG nr39 (.cons dr37 (.cons dr38 .nil)) fun Gr39 sr39 dr39 => ?_⟩
  have dr39 : Dd Non Gr39 (.tup (([(x, aR), (y, k)] : List (Str × Kd)).map fun p => Dt.tup [.str p.1, p.2.dt])) (.ref pr39) := dr39
  replace b := bsm _ _ b sr39
  replace dk := dk.same sr39
  replace dR := dR.same sr39
  replace dB := dB.same sr39
  replace dO := dO.same sr39
  replace dP := dP.same sr39
  replace dd := dd.same sr39
  replace gF := sr39 _ _ gF
  replace hT := hT.same sr39
  replace gpR := sr39 _ _ gpR
  replace dpR1 := dpR1.same sr39
  replace dr37 := dr37.same sr39
  replace dr38 := dr38.same sr39
  refine ⟨(by show 3 ≤ sizeLine; decide), fun pr40 nr40 => tupG nr40 (.cons (.str _) (.cons dd (.cons dr39 .nil))) fun Gr40 sr40 dr40 => ?_⟩
  have dr40 : Dd Non Gr40 (Sd.dt (.hole (k) [(x, aR), (y, k)])) (.ref pr40) := dr40
  replace b := bsm _ _ b sr40
  replace dk := dk.same sr40
  replace dR := dR.same sr40
  replace dB := dB.same sr40
  replace dO := dO.same sr40
  replace dP := dP.same sr40
  replace dd := dd.same sr40
  replace gF := sr40 _ _ gF
  replace hT := hT.same sr40
  replace gpR := sr40 _ _ gpR
  replace dpR1 := dpR1.same sr40
  replace dr37 := dr37.same sr40
  replace dr38 := dr38.same sr40
  replace dr39 := dr39.same sr40
  refine ⟨fun σ G => ∃ (kvs : List (Key × V)) (w13 : Option V), σ = [some (.ref d), some (.ref tl), some (.ref kl), some kv, some (.str x), some (.str y), some (.ref as), some vO, some (.ref pR), some (.ref pB), some (.ref ar), some (.ref pP), some (.ref pF), w13, w14, none, none, none, none, none, none] ∧ BS G ∧ Dd Non G (Kd.lst aR).dt (.ref pR) ∧ Dd Non G (Kd.eith aB bB).dt (.ref pB) ∧ Dd Non G (Kd.dt kO) vO ∧ Dd Non G (Kd.pair aP bP).dt (.ref pP) ∧ G pF = some (.dK kvs) ∧ Tbl G (fun s => Shp op lo NS NO oo cc i E k false 11 s) kvs ["fold", "case", "part", "if"], ?_, fun σ G14 z => ?_⟩
  · skip
    refine ⟨_, rfl, (by show 0 ≤ sizeLine; decide), fun pr41 nr41 => tupG nr41 .nil fun Gr41 sr41 dr41 => ?_⟩
    have dr41 : Dd Non Gr41 (.tup (([] : List (Str × Kd)).map fun p => Dt.tup [.str p.1, p.2.dt])) (.ref pr41) := dr41
    replace b := bsm _ _ b sr41
    replace dk := dk.same sr41
    replace dR := dR.same sr41
    replace dB := dB.same sr41
    replace dO := dO.same sr41
    replace dP := dP.same sr41
    replace dd := dd.same sr41
    replace gF := sr41 _ _ gF
    replace hT := hT.same sr41
    replace gpR := sr41 _ _ gpR
    replace dpR1 := dpR1.same sr41
    replace dr37 := dr37.same sr41
    replace dr38 := dr38.same sr41
    replace dr39 := dr39.same sr41
    replace dr40 := dr40.same sr41
    refine ⟨(by show 3 ≤ sizeLine; decide), fun pr42 nr42 => tupG nr42 (.cons (.str _) (.cons dR (.cons dr41 .nil))) fun Gr42 sr42 dr42 => ?_⟩
    have dr42 : Dd Non Gr42 (Sd.dt (.hole (Kd.lst (aR)) [])) (.ref pr42) := dr42
    replace b := bsm _ _ b sr42
    replace dk := dk.same sr42
    replace dR := dR.same sr42
    replace dB := dB.same sr42
    replace dO := dO.same sr42
    replace dP := dP.same sr42
    replace dd := dd.same sr42
    replace gF := sr42 _ _ gF
    replace hT := hT.same sr42
    replace gpR := sr42 _ _ gpR
    replace dpR1 := dpR1.same sr42
    replace dr37 := dr37.same sr42
    replace dr38 := dr38.same sr42
    replace dr39 := dr39.same sr42
    replace dr40 := dr40.same sr42
    replace dr41 := dr41.same sr42
    refine ⟨_, rfl, (by show 0 ≤ sizeLine; decide), fun pr43 nr43 => tupG nr43 .nil fun Gr43 sr43 dr43 => ?_⟩
    have dr43 : Dd Non Gr43 (.tup (([] : List (Str × Kd)).map fun p => Dt.tup [.str p.1, p.2.dt])) (.ref pr43) := dr43
    replace b := bsm _ _ b sr43
    replace dk := dk.same sr43
    replace dR := dR.same sr43
    replace dB := dB.same sr43
    replace dO := dO.same sr43
    replace dP := dP.same sr43
    replace dd := dd.same sr43
    replace gF := sr43 _ _ gF
    replace hT := hT.same sr43
    replace gpR := sr43 _ _ gpR
    replace dpR1 := dpR1.same sr43
    replace dr37 := dr37.same sr43
    replace dr38 := dr38.same sr43
    replace dr39 := dr39.same sr43
    replace dr40 := dr40.same sr43
    replace dr41 := dr41.same sr43
    replace dr42 := dr42.same sr43
    refine ⟨(by show 3 ≤ sizeLine; decide), fun pr44 nr44 => tupG nr44 (.cons (.str _) (.cons dd (.cons dr43 .nil))) fun Gr44 sr44 dr44 => ?_⟩
    have dr44 : Dd Non Gr44 (Sd.dt (.hole (k) [])) (.ref pr44) := dr44
    replace b := bsm _ _ b sr44
    replace dk := dk.same sr44
    replace dR := dR.same sr44
    replace dB := dB.same sr44
    replace dO := dO.same sr44
    replace dP := dP.same sr44
    replace dd := dd.same sr44
    replace gF := sr44 _ _ gF
    replace hT := hT.same sr44
    replace gpR := sr44 _ _ gpR
    replace dpR1 := dpR1.same sr44
    replace dr37 := dr37.same sr44
    replace dr38 := dr38.same sr44
    replace dr39 := dr39.same sr44
    replace dr40 := dr40.same sr44
    replace dr41 := dr41.same sr44
    replace dr42 := dr42.same sr44
    replace dr43 := dr43.same sr44
    refine ⟨_, rfl, _, rfl, _, rfl, (by show 6 ≤ sizeLine; decide), fun pr45 nr45 => tupG nr45 (.cons (.str _) (.cons dr42 (.cons dr44 (.cons (.str _) (.cons (.str _) (.cons dr40 .nil)))))) fun Gr45 sr45 dr45 => ?_⟩
    have dr45 : Dd Non Gr45 (Sd.dt (.tup [.at (.str "fold"), (.hole (Kd.lst (aR)) []), (.hole (k) []), .at (.str x), .at (.str y), (.hole (k) [(x, aR), (y, k)])])) (.ref pr45) := dr45
    replace b := bsm _ _ b sr45
    replace dk := dk.same sr45
    replace dR := dR.same sr45
    replace dB := dB.same sr45
    replace dO := dO.same sr45
    replace dP := dP.same sr45
    replace dd := dd.same sr45
    replace gF := sr45 _ _ gF
    replace hT := hT.same sr45
    replace gpR := sr45 _ _ gpR
    replace dpR1 := dpR1.same sr45
    replace dr37 := dr37.same sr45
    replace dr38 := dr38.same sr45
    replace dr39 := dr39.same sr45
    replace dr40 := dr40.same sr45
    replace dr41 := dr41.same sr45
    replace dr42 := dr42.same sr45
    replace dr43 := dr43.same sr45
    replace dr44 := dr44.same sr45
    refine ⟨_, rfl, _, _, rfl, DPut.k (k := .inr "fold") gF (small1000 (by have := hT.1; simp only [List.length_cons, List.length_nil] at this; omega)), ?_⟩
    have kD : Kv.Kn Non Gr45 (upd Gr45 pF (.dK (putK kvs (.inr "fold") (.ref pr45)))) := Kn.rfl.put (fun z => z) fun _ z => by rw [gF] at z; cases z
    have T1 := hT.put (w := "fold") (s := (.tup [.at (.str "fold"), (.hole (Kd.lst (aR)) []), (.hole (k) []), .at (.str x), .at (.str y), (.hole (k) [(x, aR), (y, k)])])) dr45 (SHu (s_fold T hx hy nxy nf wR kR oR I) (by decide))
    exact ⟨_, _, rfl, bup _ _ _ b nH oF.1 oF.2, dR.kn kD, dB.kn kD, dO.kn kD, dP.kn kD, upd_same, T1.kn kD⟩
  obtain ⟨kvs, w13, rfl, b, dR, dB, dO, dP, gF, hT⟩ := z
  have dk := bdk _ b
  have dd := bdd _ b
  have J := bJ _ b
  refine ⟨_, rfl, _, rfl, (by show 3 ≤ sizeLine; decide), fun pr46 nr46 => tupG nr46 (.cons (.str _) (.cons dO (.cons dd .nil))) fun Gr46 sr46 dr46 => ?_⟩
  have dr46 : Dd Non Gr46 (Kd.dt (Kd.eith (kO) (k))) (.ref pr46) := dr46
  replace b := bsm _ _ b sr46
  replace dk := dk.same sr46
  replace dR := dR.same sr46
  replace dB := dB.same sr46
  replace dO := dO.same sr46
  replace dP := dP.same sr46
  replace dd := dd.same sr46
  replace gF := sr46 _ _ gF
  replace hT := hT.same sr46
  refine ⟨_, rfl, _, rfl, (by show 2 ≤ sizeLine; decide), fun pr47 nr47 => tupG nr47 (.cons (.str _) (.cons dO .nil)) fun Gr47 sr47 dr47 => ?_⟩
  have dr47 : Dd Non Gr47 (.tup [.str x, Kd.dt (kO)]) (.ref pr47) := dr47
  replace b := bsm _ _ b sr47
  replace dk := dk.same sr47
  replace dR := dR.same sr47
  replace dB := dB.same sr47
  replace dO := dO.same sr47
  replace dP := dP.same sr47
  replace dd := dd.same sr47
  replace gF := sr47 _ _ gF
  replace hT := hT.same sr47
  replace dr46 := dr46.same sr47
  refine ⟨(by show 1 ≤ sizeLine; decide), fun pr48 nr48 => tupG nr48 (.cons dr47 .nil) fun Gr48 sr48 dr48 => ?_⟩
  have dr48 : Dd Non Gr48 (.tup (([(x, kO)] : List (Str × Kd)).map fun p => Dt.tup [.str p.1, p.2.dt])) (.ref pr48) := dr48
  replace b := bsm _ _ b sr48
  replace dk := dk.same sr48
  replace dR := dR.same sr48
  replace dB := dB.same sr48
  replace dO := dO.same sr48
  replace dP := dP.same sr48
  replace dd := dd.same sr48
  replace gF := sr48 _ _ gF
  replace hT := hT.same sr48
  replace dr46 := dr46.same sr48
  replace dr47 := dr47.same sr48
  refine ⟨(by show 3 ≤ sizeLine; decide), fun pr49 nr49 => tupG nr49 (.cons (.str _) (.cons dr46 (.cons dr48 .nil))) fun Gr49 sr49 dr49 => ?_⟩
  have dr49 : Dd Non Gr49 (Sd.dt (.hole ((Kd.eith (kO) (k))) [(x, kO)])) (.ref pr49) := dr49
  replace b := bsm _ _ b sr49
  replace dk := dk.same sr49
  replace dR := dR.same sr49
  replace dB := dB.same sr49
  replace dO := dO.same sr49
  replace dP := dP.same sr49
  replace dd := dd.same sr49
  replace gF := sr49 _ _ gF
  replace hT := hT.same sr49
  replace dr46 := dr46.same sr49
  replace dr47 := dr47.same sr49
  replace dr48 := dr48.same sr49
  refine ⟨_, rfl, (by show 2 ≤ sizeLine; decide), fun pr50 nr50 => ?_⟩
  have or50 := dk.off nr50
  refine lstG nr50 fun Gr50 sr50 gr50 => ?_
  have gr50 : Gr50 pr50 = some (.lst [.int 3, .int 30]) := gr50
  replace b := bsm _ _ b sr50
  replace dk := dk.same sr50
  replace dR := dR.same sr50
  replace dB := dB.same sr50
  replace dO := dO.same sr50
  replace dP := dP.same sr50
  replace dd := dd.same sr50
  replace gF := sr50 _ _ gF
  replace hT := hT.same sr50
  replace dr46 := dr46.same sr50
  replace dr47 := dr47.same sr50
  replace dr48 := dr48.same sr50
  replace dr49 := dr49.same sr50
  refine ⟨_, rfl, d, c, _, rfl, dk, (by decide), (by decide), fun r0 K1 h20 h21 kp1 e1 => ?_⟩
  replace b := bkk _ _ b kp1 e1
  replace dR := dR.kn (Kn.tk (Tk.kp kp1 dk))
  replace dB := dB.kn (Kn.tk (Tk.kp kp1 dk))
  replace dO := dO.kn (Kn.tk (Tk.kp kp1 dk))
  replace dP := dP.kn (Kn.tk (Tk.kp kp1 dk))
  replace dd := dd.kn (Kn.tk (Tk.kp kp1 dk))
  replace gF := kp1 _ _ oF.1 oF.2 gF
  replace hT := hT.kn (Kn.tk (Tk.kp kp1 dk))
  replace dr46 := dr46.kn (Kn.tk (Tk.kp kp1 dk))
  replace dr47 := dr47.kn (Kn.tk (Tk.kp kp1 dk))
  replace dr48 := dr48.kn (Kn.tk (Tk.kp kp1 dk))
  replace dr49 := dr49.kn (Kn.tk (Tk.kp kp1 dk))
  replace gr50 := kp1 _ _ or50.1 or50.2 gr50
  replace dk := e1
  obtain ⟨mm, em, m0, m1⟩ : ∃ mm : Int, atI [V.int 3, V.int 30] r0 = some (.int mm) ∧ 0 < mm ∧ mm ≤ 30 := by
    have : r0 = 0 ∨ r0 = 1 := by omega
    rcases this with rfl | rfl
    · exact ⟨3, rfl, by decide, by decide⟩
    · exact ⟨30, rfl, by decide, by decide⟩
  refine ⟨pr50, _, _, _, rfl, rfl, SqL.of gr50, em, d, c, _, rfl, dk, m0, (Int.lt_of_le_of_lt m1 (by decide)), fun r1 K2 h30 h31 kp2 e2 => ?_⟩
  replace b := bkk _ _ b kp2 e2
  replace dR := dR.kn (Kn.tk (Tk.kp kp2 dk))
  replace dB := dB.kn (Kn.tk (Tk.kp kp2 dk))
  replace dO := dO.kn (Kn.tk (Tk.kp kp2 dk))
  replace dP := dP.kn (Kn.tk (Tk.kp kp2 dk))
  replace dd := dd.kn (Kn.tk (Tk.kp kp2 dk))
  replace gF := kp2 _ _ oF.1 oF.2 gF
  replace hT := hT.kn (Kn.tk (Tk.kp kp2 dk))
  replace dr46 := dr46.kn (Kn.tk (Tk.kp kp2 dk))
  replace dr47 := dr47.kn (Kn.tk (Tk.kp kp2 dk))
  replace dr48 := dr48.kn (Kn.tk (Tk.kp kp2 dk))
  replace dr49 := dr49.kn (Kn.tk (Tk.kp kp2 dk))
  replace gr50 := kp2 _ _ or50.1 or50.2 gr50
  replace dk := e2
  refine ⟨_, _, rfl, rfl, fun σ G => ∃ (kvs : List (Key × V)) (w15 : Option V) (w16 : Option V), σ = [some (.ref d), some (.ref tl), some (.ref kl), some kv, some (.str x), some (.str y), some (.ref as), some vO, some (.ref pR), some (.ref pB), some (.ref ar), some (.ref pP), some (.ref pF), w13, w14, w15, w16, none, none, none, none] ∧ BS G ∧ Dd Non G (Kd.lst aR).dt (.ref pR) ∧ Dd Non G (Kd.eith aB bB).dt (.ref pB) ∧ Dd Non G (Kd.dt kO) vO ∧ Dd Non G (Kd.pair aP bP).dt (.ref pP) ∧ G pF = some (.dK kvs) ∧ Tbl G (fun s => Shp op lo NS NO oo cc i E k false 11 s) kvs ["rounds", "fold", "case", "part", "if"], ?_, fun σ G15 z => ?_⟩
  · skip
    refine ⟨_, rfl, _, rfl, (by show 0 ≤ sizeLine; decide), fun pr51 nr51 => tupG nr51 .nil fun Gr51 sr51 dr51 => ?_⟩
    have dr51 : Dd Non Gr51 (.tup (([] : List (Str × Kd)).map fun p => Dt.tup [.str p.1, p.2.dt])) (.ref pr51) := dr51
    replace b := bsm _ _ b sr51
    replace dk := dk.same sr51
    replace dR := dR.same sr51
    replace dB := dB.same sr51
    replace dO := dO.same sr51
    replace dP := dP.same sr51
    replace dd := dd.same sr51
    replace gF := sr51 _ _ gF
    replace hT := hT.same sr51
    replace dr46 := dr46.same sr51
    replace dr47 := dr47.same sr51
    replace dr48 := dr48.same sr51
    replace dr49 := dr49.same sr51
    replace gr50 := sr51 _ _ gr50
    refine ⟨(by show 3 ≤ sizeLine; decide), fun pr52 nr52 => tupG nr52 (.cons (.str _) (.cons dO (.cons dr51 .nil))) fun Gr52 sr52 dr52 => ?_⟩
    have dr52 : Dd Non Gr52 (Sd.dt (.hole (kO) [])) (.ref pr52) := dr52
    replace b := bsm _ _ b sr52
    replace dk := dk.same sr52
    replace dR := dR.same sr52
    replace dB := dB.same sr52
    replace dO := dO.same sr52
    replace dP := dP.same sr52
    replace dd := dd.same sr52
    replace gF := sr52 _ _ gF
    replace hT := hT.same sr52
    replace dr46 := dr46.same sr52
    replace dr47 := dr47.same sr52
    replace dr48 := dr48.same sr52
    replace dr49 := dr49.same sr52
    replace gr50 := sr52 _ _ gr50
    replace dr51 := dr51.same sr52
    refine ⟨_, rfl, _, rfl, (by show 5 ≤ sizeLine; decide), fun pr53 nr53 => tupG nr53 (.cons (.str _) (.cons (.int _) (.cons dr52 (.cons (.str _) (.cons dr49 .nil))))) fun Gr53 sr53 dr53 => ?_⟩
    have dr53 : Dd Non Gr53 (Sd.dt (.tup [.at (.str "rounds"), .at (.int (1 + r1)), (.hole (kO) []), .at (.str x), (.hole ((Kd.eith (kO) (k))) [(x, kO)])])) (.ref pr53) := dr53
    replace b := bsm _ _ b sr53
    replace dk := dk.same sr53
    replace dR := dR.same sr53
    replace dB := dB.same sr53
    replace dO := dO.same sr53
    replace dP := dP.same sr53
    replace dd := dd.same sr53
    replace gF := sr53 _ _ gF
    replace hT := hT.same sr53
    replace dr46 := dr46.same sr53
    replace dr47 := dr47.same sr53
    replace dr48 := dr48.same sr53
    replace dr49 := dr49.same sr53
    replace gr50 := sr53 _ _ gr50
    replace dr51 := dr51.same sr53
    replace dr52 := dr52.same sr53
    obtain ⟨wp1, wp2, wp3⟩ := I.wk.pr nf kO1 nO I.i4 h0
    refine ⟨_, rfl, _, _, rfl, DPut.k (k := .inr "rounds") gF (small1000 (by have := hT.1; simp only [List.length_cons, List.length_nil] at this; omega)), ?_⟩
    have kD : Kv.Kn Non Gr53 (upd Gr53 pF (.dK (putK kvs (.inr "rounds") (.ref pr53)))) := Kn.rfl.put (fun z => z) fun _ z => by rw [gF] at z; cases z
    have T1 := hT.put (w := "rounds") (s := (.tup [.at (.str "rounds"), .at (.int (1 + r1)), (.hole (kO) []), .at (.str x), (.hole ((Kd.eith (kO) (k))) [(x, kO)])])) dr53 (SHu (s_rounds T hx ⟨by omega, by omega⟩ nO wO kO1.up wp3 oO I) (by decide))
    exact ⟨_, _, _, rfl, bup _ _ _ b nH oF.1 oF.2, dR.kn kD, dB.kn kD, dO.kn kD, dP.kn kD, upd_same, T1.kn kD⟩
  obtain ⟨kvs, w15, w16, rfl, b, dR, dB, dO, dP, gF, hT⟩ := z
  have dk := bdk _ b
  have dd := bdd _ b
  have J := bJ _ b
  refine ⟨_, rfl, _, rfl, _, rfl, _, rfl, _, rfl, (by show 2 ≤ sizeLine; decide), fun pr54 nr54 => tupG nr54 (.cons (.str _) (.cons dO .nil)) fun Gr54 sr54 dr54 => ?_⟩
  have dr54 : Dd Non Gr54 (.tup [.str x, Kd.dt (kO)]) (.ref pr54) := dr54
  replace b := bsm _ _ b sr54
  replace dk := dk.same sr54
  replace dR := dR.same sr54
  replace dB := dB.same sr54
  replace dO := dO.same sr54
  replace dP := dP.same sr54
  replace dd := dd.same sr54
  replace gF := sr54 _ _ gF
  replace hT := hT.same sr54
  refine ⟨(by show 1 ≤ sizeLine; decide), fun pr55 nr55 => tupG nr55 (.cons dr54 .nil) fun Gr55 sr55 dr55 => ?_⟩
  have dr55 : Dd Non Gr55 (.tup (([(x, kO)] : List (Str × Kd)).map fun p => Dt.tup [.str p.1, p.2.dt])) (.ref pr55) := dr55
  replace b := bsm _ _ b sr55
  replace dk := dk.same sr55
  replace dR := dR.same sr55
  replace dB := dB.same sr55
  replace dO := dO.same sr55
  replace dP := dP.same sr55
  replace dd := dd.same sr55
  replace gF := sr55 _ _ gF
  replace hT := hT.same sr55
  replace dr54 := dr54.same sr55
  refine ⟨(by show 3 ≤ sizeLine; decide), fun pr56 nr56 => tupG nr56 (.cons (.str _) (.cons dd (.cons dr55 .nil))) fun Gr56 sr56 dr56 => ?_⟩
  have dr56 : Dd Non Gr56 (Sd.dt (.hole (k) [(x, kO)])) (.ref pr56) := dr56
  replace b := bsm _ _ b sr56
  replace dk := dk.same sr56
  replace dR := dR.same sr56
  replace dB := dB.same sr56
  replace dO := dO.same sr56
  replace dP := dP.same sr56
  replace dd := dd.same sr56
  replace gF := sr56 _ _ gF
  replace hT := hT.same sr56
  replace dr54 := dr54.same sr56
  replace dr55 := dr55.same sr56
  refine ⟨(by show 4 ≤ sizeLine; decide), fun pr57 nr57 => tupG nr57 (.cons (.str _) (.cons (.str _) (.cons (sdK dO) (.cons dr56 .nil)))) fun Gr57 sr57 dr57 => ?_⟩
  have dr57 : Dd Non Gr57 (Sd.dt (.tup [.at (.str "fun"), .at (.str x), Kd.sd (kO), (.hole (k) [(x, kO)])])) (.ref pr57) := dr57
  replace b := bsm _ _ b sr57
  replace dk := dk.same sr57
  replace dR := dR.same sr57
  replace dB := dB.same sr57
  replace dO := dO.same sr57
  replace dP := dP.same sr57
  replace dd := dd.same sr57
  replace gF := sr57 _ _ gF
  replace hT := hT.same sr57
  replace dr54 := dr54.same sr57
  replace dr55 := dr55.same sr57
  replace dr56 := dr56.same sr57
  refine ⟨fun σ G => ∃ (kvs : List (Key × V)) (w14 : Option V), σ = [some (.ref d), some (.ref tl), some (.ref kl), some kv, some (.str x), some (.str y), some (.ref as), some vO, some (.ref pR), some (.ref pB), some (.ref ar), some (.ref pP), some (.ref pF), w13, w14, w15, w16, none, none, none, none] ∧ BS G ∧ Dd Non G (Kd.lst aR).dt (.ref pR) ∧ Dd Non G (Kd.eith aB bB).dt (.ref pB) ∧ Dd Non G (Kd.dt kO) vO ∧ Dd Non G (Kd.pair aP bP).dt (.ref pP) ∧ G pF = some (.dK kvs) ∧ Tbl G (fun s => Shp op lo NS NO oo cc i E k false 11 s) kvs ["call", "rounds", "fold", "case", "part", "if"], ?_, fun σ G16 z => ?_⟩
  · skip
    refine ⟨_, rfl, _, rfl, (by show 0 ≤ sizeLine; decide), fun pr58 nr58 => tupG nr58 .nil fun Gr58 sr58 dr58 => ?_⟩
    have dr58 : Dd Non Gr58 (.tup (([] : List (Str × Kd)).map fun p => Dt.tup [.str p.1, p.2.dt])) (.ref pr58) := dr58
    replace b := bsm _ _ b sr58
    replace dk := dk.same sr58
    replace dR := dR.same sr58
    replace dB := dB.same sr58
    replace dO := dO.same sr58
    replace dP := dP.same sr58
    replace dd := dd.same sr58
    replace gF := sr58 _ _ gF
    replace hT := hT.same sr58
    replace dr54 := dr54.same sr58
    replace dr55 := dr55.same sr58
    replace dr56 := dr56.same sr58
    replace dr57 := dr57.same sr58
    refine ⟨(by show 3 ≤ sizeLine; decide), fun pr59 nr59 => tupG nr59 (.cons (.str _) (.cons dO (.cons dr58 .nil))) fun Gr59 sr59 dr59 => ?_⟩
    have dr59 : Dd Non Gr59 (Sd.dt (.hole (kO) [])) (.ref pr59) := dr59
    replace b := bsm _ _ b sr59
    replace dk := dk.same sr59
    replace dR := dR.same sr59
    replace dB := dB.same sr59
    replace dO := dO.same sr59
    replace dP := dP.same sr59
    replace dd := dd.same sr59
    replace gF := sr59 _ _ gF
    replace hT := hT.same sr59
    replace dr54 := dr54.same sr59
    replace dr55 := dr55.same sr59
    replace dr56 := dr56.same sr59
    replace dr57 := dr57.same sr59
    replace dr58 := dr58.same sr59
    refine ⟨(by show 3 ≤ sizeLine; decide), fun pr60 nr60 => tupG nr60 (.cons (.str _) (.cons dr57 (.cons dr59 .nil))) fun Gr60 sr60 dr60 => ?_⟩
    have dr60 : Dd Non Gr60 (Sd.dt (.tup [.at (.str "call"), (.tup [.at (.str "fun"), .at (.str x), Kd.sd (kO), (.hole (k) [(x, kO)])]), (.hole (kO) [])])) (.ref pr60) := dr60
    replace b := bsm _ _ b sr60
    replace dk := dk.same sr60
    replace dR := dR.same sr60
    replace dB := dB.same sr60
    replace dO := dO.same sr60
    replace dP := dP.same sr60
    replace dd := dd.same sr60
    replace gF := sr60 _ _ gF
    replace hT := hT.same sr60
    replace dr54 := dr54.same sr60
    replace dr55 := dr55.same sr60
    replace dr56 := dr56.same sr60
    replace dr57 := dr57.same sr60
    replace dr58 := dr58.same sr60
    replace dr59 := dr59.same sr60
    refine ⟨_, rfl, _, _, rfl, DPut.k (k := .inr "call") gF (small1000 (by have := hT.1; simp only [List.length_cons, List.length_nil] at this; omega)), ?_⟩
    have kD : Kv.Kn Non Gr60 (upd Gr60 pF (.dK (putK kvs (.inr "call") (.ref pr60)))) := Kn.rfl.put (fun z => z) fun _ z => by rw [gF] at z; cases z
    have T1 := hT.put (w := "call") (s := (.tup [.at (.str "call"), (.tup [.at (.str "fun"), .at (.str x), Kd.sd (kO), (.hole (k) [(x, kO)])]), (.hole (kO) [])])) dr60 (SHu (s_call T hx nf wO kO1.up oO I) (by decide))
    exact ⟨_, _, rfl, bup _ _ _ b nH oF.1 oF.2, dR.kn kD, dB.kn kD, dO.kn kD, dP.kn kD, upd_same, T1.kn kD⟩
  obtain ⟨kvs, w14, rfl, b, dR, dB, dO, dP, gF, hT⟩ := z
  refine ⟨fun σ G => ∃ (kvs : List (Key × V)) (pO : Addr), σ = [some (.ref d), some (.ref tl), some (.ref kl), some kv, some (.str x), some (.str y), some (.ref as), some vO, some (.ref pR), some (.ref pB), some (.ref ar), some (.ref pP), some (.ref pF), w13, w14, w15, w16, some (.str cc), some (.str nn), some (.ref pO), none] ∧ BS G ∧ Dd Non G (Kd.lst aR).dt (.ref pR) ∧ Dd Non G (Kd.eith aB bB).dt (.ref pB) ∧ Dd Non G (Kd.dt kO) vO ∧ Dd Non G (Kd.pair aP bP).dt (.ref pP) ∧ Dd Non G (Kd.dt (.opn oo)) (.ref pO) ∧ G pF = some (.dK kvs) ∧ Tbl G (fun s => Shp op lo NS NO oo cc i E k false 11 s) kvs ["call", "rounds", "fold", "case", "part", "if"], ?_, fun σ G17 z => ?_⟩
  · skip
    have dk := bdk _ b
    have dd := bdd _ b
    have J := bJ _ b
    refine ⟨_, rfl, tl, .str oo, rfl, J.gO, _, _, rfl, rfl, (by have := nm8 T.om; show oo.length + 1 ≤ sizeLine; have : 100 ≤ sizeLine := (by decide); omega), _, rfl, tl, .str oo, rfl, J.gO, _, _, rfl, rfl, (by have := nm8 T.om; show oo.length + 1 ≤ sizeLine; have : 100 ≤ sizeLine := (by decide); omega), _, rfl, tl, .str oo, rfl, J.gO, (by show 2 ≤ sizeLine; decide), fun pr61 nr61 => tupG nr61 (.cons (.str _) (.cons (.str _) .nil)) fun Gr61 sr61 dr61 => ?_⟩
    have dr61 : Dd Non Gr61 (Kd.dt (.opn oo)) (.ref pr61) := dr61
    replace b := bsm _ _ b sr61
    replace dk := dk.same sr61
    replace dR := dR.same sr61
    replace dB := dB.same sr61
    replace dO := dO.same sr61
    replace dP := dP.same sr61
    replace dd := dd.same sr61
    replace gF := sr61 _ _ gF
    replace hT := hT.same sr61
    skip
    refine ⟨_, _, _, rfl, kvs, pr61, by rw [ecc, enn]; rfl, b, dR, dB, dO, dP, dr61, gF, hT⟩
  obtain ⟨kvs, pO, rfl, b, dR, dB, dO, dP, dOo, gF, hT⟩ := z
  have dk := bdk _ b
  have dd := bdd _ b
  have J := bJ _ b
  refine ⟨fun σ G => ∃ (kvs : List (Key × V)), σ = [some (.ref d), some (.ref tl), some (.ref kl), some kv, some (.str x), some (.str y), some (.ref as), some vO, some (.ref pR), some (.ref pB), some (.ref ar), some (.ref pP), some (.ref pF), w13, w14, w15, w16, some (.str cc), some (.str nn), some (.ref pO), none] ∧ BS G ∧ Dd Non G (Kd.lst aR).dt (.ref pR) ∧ Dd Non G (Kd.eith aB bB).dt (.ref pB) ∧ Dd Non G (Kd.dt kO) vO ∧ Dd Non G (Kd.pair aP bP).dt (.ref pP) ∧ Dd Non G (Kd.dt (.opn oo)) (.ref pO) ∧ G pF = some (.dK kvs) ∧ Tbl G (fun s => Shp op lo NS NO oo cc i E k false 11 s) kvs ["built", "call", "rounds", "fold", "case", "part", "if"], ?_, fun σ G18 z => ?_⟩
  · skip
    obtain ⟨vI, sI, eI, dI, SI⟩ := hT.2 "if" (by simp)
    refine ⟨_, rfl, pF, vI, rfl, (eI ▸ DGet.k (k := .inr "if") gF), _, rfl, _, _, rfl, DPut.k (k := .inr "built") gF (small1000 (by have := hT.1; simp only [List.length_cons, List.length_nil] at this; omega)), ?_⟩
    have kD : Kv.Kn Non G17 (upd G17 pF (.dK (putK kvs (.inr "built") (vI)))) := Kn.rfl.put (fun z => z) fun _ z => by rw [gF] at z; cases z
    have T1 := hT.put (w := "built") (s := sI) dI (SI)
    exact ⟨_, rfl, bup _ _ _ b nH oF.1 oF.2, dR.kn kD, dB.kn kD, dO.kn kD, dP.kn kD, dOo.kn kD, upd_same, T1.kn kD⟩
  obtain ⟨kvs, rfl, b, dR, dB, dO, dP, dOo, gF, hT⟩ := z
  refine ⟨fun σ G => ∃ (kvs : List (Key × V)) (w13 : Option V), σ = [some (.ref d), some (.ref tl), some (.ref kl), some kv, some (.str x), some (.str y), some (.ref as), some vO, some (.ref pR), some (.ref pB), some (.ref ar), some (.ref pP), some (.ref pF), w13, w14, w15, w16, some (.str cc), some (.str nn), some (.ref pO), none] ∧ BS G ∧ Dd Non G (Kd.lst aR).dt (.ref pR) ∧ Dd Non G (Kd.eith aB bB).dt (.ref pB) ∧ Dd Non G (Kd.dt kO) vO ∧ Dd Non G (Kd.pair aP bP).dt (.ref pP) ∧ Dd Non G (Kd.dt (.opn oo)) (.ref pO) ∧ G pF = some (.dK kvs) ∧ Tbl G (fun s => Shp op lo NS NO oo cc i E k false 11 s) kvs ["built", "call", "rounds", "fold", "case", "part", "if"], ?_, fun σ G19 z => ?_⟩
  · skip
    have dk := bdk _ b
    have dd := bdd _ b
    have J := bJ _ b
    have gl := bgl _ b
    obtain ⟨ps, kvE, hus, args, ek⟩ := ep_args (K := K) (bpE _ b)
    rw [hus] at gl
    obtain ⟨pk, uk, rfl, gk, ck_⟩ := seeK dd
    refine ⟨_, rfl, pk, _, _, _, rfl, rfl, SqT.of gk, atI_nat (j := 0) rfl, rfl, _, rfl, ite2 (fun c1 => ?_) (fun c1 => iteF ⟨kvs, w13, rfl, b, dR, dB, dO, dP, dOo, gF, hT⟩)⟩
    obtain ⟨a, rfl⟩ := wLs (wEq.mp c1)
    obtain ⟨ua, rfl, da⟩ := ddOne ck_
    refine ⟨_, rfl, _, rfl, kl, ps, kvE, rfl, SqL.of gl, args, fun pD oD nD => ?_⟩
    refine objG nD fun GD sD gD => ?_
    refine ⟨pD, valV (mergeK [] kvE) (.inr cc), rfl, .inl ⟨_, .inr cc, .inr ⟨oD, gD⟩, rfl, rfl⟩, _, rfl, ite2 (fun c2 => ?_) (fun c2 => iteF ⟨kvs, w13, rfl, bsm _ _ b sD, dR.same sD, dB.same sD, dO.same sD, dP.same sD, dOo.same sD, sD _ _ gF, hT.same sD⟩)⟩
    refine ⟨_, rfl, _, rfl, kl, ps, kvE, rfl, SqL.of (sD _ _ gl), Paired.mapP args (fun _ _ z => sqT_same z sD), fun pD2 oD2 nD2 => ?_⟩
    refine objG nD2 fun GD2 sD2 gD2 => ?_
    have sE := sD.trans sD2
    refine ⟨pD2, valV (mergeK [] kvE) (.inr nn), rfl, .inl ⟨_, .inr nn, .inr ⟨oD2, gD2⟩, rfl, rfl⟩, _, rfl, ite2 (fun c3 => ?_) (fun c3 => iteF ⟨kvs, w13, rfl, bsm _ _ b sE, dR.same sE, dB.same sE, dO.same sE, dP.same sE, dOo.same sE, sE _ _ gF, hT.same sE⟩)⟩
    refine ⟨_, rfl, _, rfl, Nat.le_trans T.cl (by decide), _, _, rfl, rfl, _, rfl, ite2 (fun c4 => ?_) (fun c4 => ⟨kvs, w13, rfl, bsm _ _ b sE, dR.same sE, dB.same sE, dO.same sE, dP.same sE, dOo.same sE, sE _ _ gF, hT.same sE⟩)⟩
    have ncc : cc ∉ E.map (·.1) := by
      rw [← merge_hasE ek]
      cases hz : valV (mergeK [] kvE) (.inr cc) with
      | none => rfl
      | some v => rw [hz] at c2; cases c2
    have lcc : cc.length < 9 := by
      have := of_decide_eq_true c4
      omega
    replace b := bsm _ _ b sE
    replace dk := dk.same sE
    replace dd := dd.same sE
    replace J := J.same sE
    replace gk := sE _ _ gk
    replace da := da.same sE
    replace dR := dR.same sE
    replace dB := dB.same sE
    replace dO := dO.same sE
    replace dP := dP.same sE
    replace dOo := dOo.same sE
    replace gF := sE _ _ gF
    replace hT := hT.same sE
    refine ⟨_, rfl, _, rfl, _, rfl, pk, _, _, _, rfl, rfl, SqT.of gk, atI_nat (j := 1) rfl, _, rfl, _, rfl, (by show 3 ≤ sizeLine; decide), fun pr62 nr62 => tupG nr62 (.cons (.str _) (.cons dOo (.cons dOo .nil))) fun Gr62 sr62 dr62 => ?_⟩
    have dr62 : Dd Non Gr62 (Kd.dt (Kd.fn (Kd.opn oo) (Kd.opn oo))) (.ref pr62) := dr62
    replace b := bsm _ _ b sr62
    replace dk := dk.same sr62
    replace dR := dR.same sr62
    replace dB := dB.same sr62
    replace dO := dO.same sr62
    replace dP := dP.same sr62
    replace dd := dd.same sr62
    replace dOo := dOo.same sr62
    replace gF := sr62 _ _ gF
    replace hT := hT.same sr62
    replace gk := sr62 _ _ gk
    replace da := da.same sr62
    refine ⟨(by show 3 ≤ sizeLine; decide), fun pr63 nr63 => tupG nr63 (.cons (.str _) (.cons da (.cons dr62 .nil))) fun Gr63 sr63 dr63 => ?_⟩
    have dr63 : Dd Non Gr63 (Kd.dt (Kd.fn (a) ((Kd.fn (Kd.opn oo) (Kd.opn oo))))) (.ref pr63) := dr63
    replace b := bsm _ _ b sr63
    replace dk := dk.same sr63
    replace dR := dR.same sr63
    replace dB := dB.same sr63
    replace dO := dO.same sr63
    replace dP := dP.same sr63
    replace dd := dd.same sr63
    replace dOo := dOo.same sr63
    replace gF := sr63 _ _ gF
    replace hT := hT.same sr63
    replace gk := sr63 _ _ gk
    replace da := da.same sr63
    replace dr62 := dr62.same sr63
    refine ⟨(by show 2 ≤ sizeLine; decide), fun pr64 nr64 => tupG nr64 (.cons (.str _) (.cons dr63 .nil)) fun Gr64 sr64 dr64 => ?_⟩
    have dr64 : Dd Non Gr64 (.tup [.str cc, Kd.dt ((Kd.fn (a) ((Kd.fn (Kd.opn oo) (Kd.opn oo)))))]) (.ref pr64) := dr64
    replace b := bsm _ _ b sr64
    replace dk := dk.same sr64
    replace dR := dR.same sr64
    replace dB := dB.same sr64
    replace dO := dO.same sr64
    replace dP := dP.same sr64
    replace dd := dd.same sr64
    replace dOo := dOo.same sr64
    replace gF := sr64 _ _ gF
    replace hT := hT.same sr64
    replace gk := sr64 _ _ gk
    replace da := da.same sr64
    replace dr62 := dr62.same sr64
    replace dr63 := dr63.same sr64
    refine ⟨_, rfl, _, rfl, (by show 2 ≤ sizeLine; decide), fun pr65 nr65 => tupG nr65 (.cons (.str _) (.cons dOo .nil)) fun Gr65 sr65 dr65 => ?_⟩
    have dr65 : Dd Non Gr65 (.tup [.str nn, Kd.dt (Kd.opn oo)]) (.ref pr65) := dr65
    replace b := bsm _ _ b sr65
    replace dk := dk.same sr65
    replace dR := dR.same sr65
    replace dB := dB.same sr65
    replace dO := dO.same sr65
    replace dP := dP.same sr65
    replace dd := dd.same sr65
    replace dOo := dOo.same sr65
    replace gF := sr65 _ _ gF
    replace hT := hT.same sr65
    replace gk := sr65 _ _ gk
    replace da := da.same sr65
    replace dr62 := dr62.same sr65
    replace dr63 := dr63.same sr65
    replace dr64 := dr64.same sr65
    refine ⟨(by show 2 ≤ sizeLine; decide), fun pr66 nr66 => tupG nr66 (.cons dr64 (.cons dr65 .nil)) fun Gr66 sr66 dr66 => ?_⟩
    have dr66 : Dd Non Gr66 (.tup (([(cc, (Kd.fn (a) ((Kd.fn (Kd.opn oo) (Kd.opn oo))))), (nn, Kd.opn oo)] : List (Str × Kd)).map fun p => Dt.tup [.str p.1, p.2.dt])) (.ref pr66) := dr66
    replace b := bsm _ _ b sr66
    replace dk := dk.same sr66
    replace dR := dR.same sr66
    replace dB := dB.same sr66
    replace dO := dO.same sr66
    replace dP := dP.same sr66
    replace dd := dd.same sr66
    replace dOo := dOo.same sr66
    replace gF := sr66 _ _ gF
    replace hT := hT.same sr66
    replace gk := sr66 _ _ gk
    replace da := da.same sr66
    replace dr62 := dr62.same sr66
    replace dr63 := dr63.same sr66
    replace dr64 := dr64.same sr66
    replace dr65 := dr65.same sr66
    refine ⟨(by show 3 ≤ sizeLine; decide), fun pr67 nr67 => tupG nr67 (.cons (.str _) (.cons dOo (.cons dr66 .nil))) fun Gr67 sr67 dr67 => ?_⟩
    have dr67 : Dd Non Gr67 (Sd.dt (.hole (Kd.opn oo) [(cc, (Kd.fn (a) ((Kd.fn (Kd.opn oo) (Kd.opn oo))))), (nn, Kd.opn oo)])) (.ref pr67) := dr67
    replace b := bsm _ _ b sr67
    replace dk := dk.same sr67
    replace dR := dR.same sr67
    replace dB := dB.same sr67
    replace dO := dO.same sr67
    replace dP := dP.same sr67
    replace dd := dd.same sr67
    replace dOo := dOo.same sr67
    replace gF := sr67 _ _ gF
    replace hT := hT.same sr67
    replace gk := sr67 _ _ gk
    replace da := da.same sr67
    replace dr62 := dr62.same sr67
    replace dr63 := dr63.same sr67
    replace dr64 := dr64.same sr67
    replace dr65 := dr65.same sr67
    replace dr66 := dr66.same sr67
    refine ⟨_, rfl, pk, _, _, _, rfl, rfl, SqT.of gk, atI_nat (j := 1) rfl, _, rfl, tl, .str oo, rfl, (bJ _ b).gO, _, rfl, _, rfl, _, rfl, (by show 6 ≤ sizeLine; decide), fun pr68 nr68 => tupG nr68 (.cons (.str _) (.cons (sdK da) (.cons (.str _) (.cons (.str _) (.cons (.str _) (.cons dr67 .nil)))))) fun Gr68 sr68 dr68 => ?_⟩
    have dr68 : Dd Non Gr68 (Sd.dt (.tup [.at (.str "built"), Kd.sd (a), .at (.str oo), .at (.str cc), .at (.str nn), (.hole (Kd.opn oo) [(cc, (Kd.fn (a) ((Kd.fn (Kd.opn oo) (Kd.opn oo))))), (nn, Kd.opn oo)])])) (.ref pr68) := dr68
    replace b := bsm _ _ b sr68
    replace dk := dk.same sr68
    replace dR := dR.same sr68
    replace dB := dB.same sr68
    replace dO := dO.same sr68
    replace dP := dP.same sr68
    replace dd := dd.same sr68
    replace dOo := dOo.same sr68
    replace gF := sr68 _ _ gF
    replace hT := hT.same sr68
    replace gk := sr68 _ _ gk
    replace da := da.same sr68
    replace dr62 := dr62.same sr68
    replace dr63 := dr63.same sr68
    replace dr64 := dr64.same sr68
    replace dr65 := dr65.same sr68
    replace dr66 := dr66.same sr68
    replace dr67 := dr67.same sr68
    refine ⟨_, rfl, _, _, rfl, DPut.k (k := .inr "built") gF (small1000 (by have := hT.1; simp only [List.length_cons, List.length_nil] at this; omega)), ?_⟩
    have kD : Kv.Kn Non Gr68 (upd Gr68 pF (.dK (putK kvs (.inr "built") (.ref pr68)))) := Kn.rfl.put (fun z => z) fun _ z => by rw [gF] at z; cases z
    have T1 := hT.put2 (w := "built") (s := (.tup [.at (.str "built"), Kd.sd (a), .at (.str oo), .at (.str cc), .at (.str nn), (.hole (Kd.opn oo) [(cc, (Kd.fn (a) ((Kd.fn (Kd.opn oo) (Kd.opn oo))))), (nn, Kd.opn oo)])])) (by simp) dr68 (SHu (s_built T h0 lcc ncc I) (by decide))
    exact ⟨_, _, rfl, bup _ _ _ b nH oF.1 oF.2, dR.kn kD, dB.kn kD, dO.kn kD, dP.kn kD, dOo.kn kD, upd_same, T1.kn kD⟩
  obtain ⟨kvs, w13, rfl, b, dR, dB, dO, dP, dOo, gF, hT⟩ := z
  have J := bJ _ b
  have dk := bdk _ b
  refine ⟨_, rfl, tl, .ref aw, rfl, J.gW, aw, rfl, ⟨_, SqL.of J.hw⟩, fun D nD => ?_⟩
  have oD := dk.off nD
  have neF : D ≠ pF := (ne_of_none gF nD).symm
  refine lc_list (xs := wds.map V.str) (fun j F => Same G19 F ∧ ∃ ws1 ss, F D = some (.lst ws1) ∧ DdL Non F (ss.map Sd.dt) ws1 ∧ ss.length = j ∧ ∀ s ∈ ss, Shp op lo NS NO oo cc i E k false 11 s) ⟨newS nD, [], [], upd_same, .nil, rfl, fun s hs => by cases hs⟩ (fun j F _ z => SqL.of (z.1 _ _ J.hw)) (fun j x0 F hx0 z => ?_) (fun F z => ?_)
  · obtain ⟨sF, ws1, ss, gU, dU, lU, hU⟩ := z
    rw [List.getElem?_map] at hx0
    obtain ⟨w, hw, rfl⟩ := Option.map_eq_some_iff.mp hx0
    obtain ⟨v, s0, ev, dv, S⟩ := hT.2 w (by have := hwd w (List.mem_of_getElem? hw); simp only [words7, List.mem_cons, List.not_mem_nil, or_false] at this ⊢; rcases this with h | h | h | h | h | h | h <;> simp [h])
    have lj := (List.getElem?_eq_some_iff.mp hw).1
    have lw := dU.len
    rw [List.length_map] at lw
    refine ⟨rfl, _, rfl, _, rfl, pF, v, rfl, (ev ▸ DGet.k (k := .inr w) (sF _ _ gF)), ws1, gU, small1000 (by omega), smk sF nD, ws1 ++ [v], ss ++ [s0], upd_same, ?_, by rw [List.length_append, lU]; rfl, fun s hs => ?_⟩
    · have k1 : Kv.Kn Non F (upd F D (.lst (ws1 ++ [v]))) := Kn.rfl.put (fun z => z) fun _ z => by rw [gU] at z; cases z
      rw [List.map_append]
      exact (dU.kn k1).app (.cons ((dv.same sF).kn k1) .nil)
    · rcases List.mem_append.mp hs with h | h
      · exact hU s h
      · rw [List.mem_singleton.mp h]
        exact S
  obtain ⟨sF, ws1, ss, gU, dU, lU, hU⟩ := z
  exact q D ws1 ss F ((bkp _ b).trans (.of sF)) (dk.same sF) oD.1 oD.2 gU dU hU (by rw [lU, List.length_map])
end
end Kq
/-! a list of anything != the empty list -/
namespace Kv
open PySem PySem.Spec PyProof.Rows L2
theorem op_neL0 {X : Cx} (hu : X.A.units + 64 < cLine) : OpR X (compareOp .NotEq) (fun x y H Q => ∃ (a b : Addr) (xs : List V), x = .ref a ∧ y = .ref b ∧ SqL X.K H a xs ∧ SqL X.K H b [] ∧ Q (.bl (!xs.isEmpty)) H) := by
  intro pins s σ H x y v u Q I rx ry h
  obtain ⟨a, b, xs, rfl, rfl, ha, hb, q⟩ := h
  cases rx
  cases ry
  obtain ⟨is, r1, ⟨o1, n1, h1, c1, _, d1⟩, _⟩ := I.list ha
  obtain ⟨js, r2, ⟨o2, n2, h2, c2, _, d2⟩, _⟩ := I.list hb
  cases r2
  cases r1 with
  | nil => exact PySem.SeqAt.RcNeAt.lists (e := fun _ => true) ⟨o1, h1, c1, n1, d1⟩ ⟨o2, h2, c2, n2, d2⟩ rfl (by omega) (fun j j1 _ => absurd j1 (Nat.not_lt_zero _)) _ _ _ _ ⟨.bl false, H, I, rfl, q⟩
  | cons r t => exact PySem.SeqAt.RcNeAt.lists_lengths ⟨o1, h1, c1, n1, d1⟩ ⟨o2, h2, c2, n2, d2⟩ (by simp) (by omega) _ _ _ _ ⟨.bl true, H, I, rfl, q⟩
end Kv
/-! _law_make -/
namespace Kq
open PySem PySem.Spec PyProof.Rows L2 Kf Kg Kv Kk Ku
/-- shapes of such sort -/
def VlS (G : Hp) (p : Sd → Prop) (vs : List V) : Prop := ∀ v ∈ vs, ∃ s, p s ∧ Dd Non G s.dt v
theorem VlS.kn {G F : Hp} {p : Sd → Prop} {vs : List V} (h : VlS G p vs) (s : Kv.Kn Non G F) : VlS F p vs := fun v hv => by
  obtain ⟨k, a, b⟩ := h v hv
  exact ⟨k, a, b.kn s⟩
theorem VlS.same {G F : Hp} {p : Sd → Prop} {vs : List V} (h : VlS G p vs) (s : Same G F) : VlS F p vs := fun v hv => by
  obtain ⟨k, a, b⟩ := h v hv
  exact ⟨k, a, b.same s⟩
theorem VlS.app {G : Hp} {p : Sd → Prop} {vs ws : List V} (h : VlS G p vs) (g : VlS G p ws) : VlS G p (vs ++ ws) := fun v hv => (List.mem_append.mp hv).elim (h v) (g v)
theorem VlS.one {G : Hp} {p : Sd → Prop} {v : V} {k : Sd} (h : p k) (d : Dd Non G k.dt v) : VlS G p [v] := fun w hw => by rw [List.mem_singleton.mp hw]; exact ⟨k, h, d⟩
theorem VlS.nil {G : Hp} {p : Sd → Prop} : VlS G p [] := fun w hw => by cases hw
theorem VlS.imp {G : Hp} {p q : Sd → Prop} {vs : List V} (h : VlS G p vs) (f : ∀ k, p k → q k) : VlS G q vs := fun v hv => by
  obtain ⟨k, a, b⟩ := h v hv
  exact ⟨k, f k a, b⟩
theorem VlS.of {G : Hp} {p : Sd → Prop} {ss : List Sd} {vs : List V} (h : DdL Non G (ss.map Sd.dt) vs) (g : ∀ s ∈ ss, p s) : VlS G p vs := fun v hv => by
  obtain ⟨s, hs, d⟩ := shapes_get h hv
  exact ⟨s, g s hs, d⟩
theorem VlS.sub {G : Hp} {p : Sd → Prop} {vs ws : List V} (h : VlS G p vs) (g : ∀ v ∈ ws, v ∈ vs) : VlS G p ws := fun v hv => h v (g v hv)
/-- how deep, and what is known and wanted -/
def CdM (NS NO : List Str) (oo cc : Str) (m : Nat) (E : List (Str × Kd)) (k : Kd) (i : Int) : Prop := i + 11 ≤ m ∧ (i ≤ -2 → (k.mu : Int) ≤ i + 10) ∧ Inv1 NS NO oo cc i E k
/-- what is made, by how deep -/
def GM (op lo NS NO : List Str) (m : Nat) (E : List (Str × Kd)) (k : Kd) (t : Tm) : Prop := GX op lo NS NO (decide (m ≤ 9)) (11 * m) E k t
theorem Shp.cd {op lo NS NO : List Str} {oo cc : Str} {i : Int} {E : List (Str × Kd)} {k : Kd} {z : Bool} {h m : Nat} {s : Sd} (S : Shp op lo NS NO oo cc i E k z h s) (cd : CdM NS NO oo cc (m + 1) E k i) (hz : z = true ∨ -2 < i) : s.all (fun k' bs => CdM NS NO oo cc m (E ++ bs) k' (i - 1) ∧ bs.length ≤ 100) := by
  refine Sd.all_imp (fun k' bs y => ?_) s S.all
  obtain ⟨⟨l, I⟩, mu⟩ := y
  refine ⟨⟨by have := cd.1; omega, fun hi => ?_, I⟩, by omega⟩
  have wm := I.wk.mu
  rcases hz with hz | hz
  · have := mu hz
    by_cases c : i ≤ -2
    · have := cd.2.1 c
      omega
    · omega
  · omega
theorem cut_mem {xs : List V} {a b : Option Int} {v : V} (h : v ∈ cutV xs a b) : v ∈ xs := by
  unfold cutV at h
  exact List.mem_of_mem_drop (List.mem_of_mem_take h)
theorem cut_le (xs : List V) (a b : Option Int) : (cutV xs a b).length ≤ xs.length := by
  unfold cutV
  rw [List.length_take, List.length_drop]
  omega
theorem withG {P R : Prop} (g : P) (f : P → R) : R := f g
theorem nm_fine {x : Str} (h : Nm x) (B : Nat) : (Dt.str x).fine B := by
  show ∀ c ∈ x.cps.toList, c < 16 ^ 8
  intro c hc
  have := (h.low c hc).2
  exact Nat.lt_trans this (by decide)
theorem wd_fine {x : Str} (h : (x.cps.toList.all fun c => decide (c < 16 ^ 8)) = true) (B : Nat) : (Dt.str x).fine B := by
  show ∀ c ∈ x.cps.toList, c < 16 ^ 8
  intro c hc
  exact of_decide_eq_true (List.all_eq_true.mp h c hc)
theorem kd_fine (B : Nat) : ∀ {k : Kd}, (∀ x ∈ k.opens, Nm x) → k.dt.fine B ∧ k.dt.dp ≤ k.dp + 1 := by
  intro k
  induction k with
  | opn x => exact fun h => ⟨⟨wd_fine (by decide +kernel) B, nm_fine (h x List.mem_cons_self) B, trivial⟩, Nat.le_refl _⟩
  | num => exact fun h => ⟨⟨wd_fine (by decide +kernel) B, trivial⟩, Nat.le_refl _⟩
  | tru => exact fun h => ⟨⟨wd_fine (by decide +kernel) B, trivial⟩, Nat.le_refl _⟩
  | pair a b i j =>
    intro h
    obtain ⟨h1, h2⟩ := i fun x hx => h x (List.mem_append_left _ hx)
    obtain ⟨h3, h4⟩ := j fun x hx => h x (List.mem_append_right _ hx)
    exact ⟨⟨wd_fine (by decide +kernel) B, h1, h3, trivial⟩, by show max 0 (max a.dt.dp (max b.dt.dp 0)) + 1 ≤ max a.dp b.dp + 1 + 1; omega⟩
  | eith a b i j =>
    intro h
    obtain ⟨h1, h2⟩ := i fun x hx => h x (List.mem_append_left _ hx)
    obtain ⟨h3, h4⟩ := j fun x hx => h x (List.mem_append_right _ hx)
    exact ⟨⟨wd_fine (by decide +kernel) B, h1, h3, trivial⟩, by show max 0 (max a.dt.dp (max b.dt.dp 0)) + 1 ≤ max a.dp b.dp + 1 + 1; omega⟩
  | lst a i =>
    intro h
    obtain ⟨h1, h2⟩ := i h
    exact ⟨⟨wd_fine (by decide +kernel) B, h1, trivial⟩, by show max 0 (max a.dt.dp 0) + 1 ≤ a.dp + 1 + 1; omega⟩
  | fn a b i j =>
    intro h
    obtain ⟨h1, h2⟩ := i fun x hx => h x (List.mem_append_left _ hx)
    obtain ⟨h3, h4⟩ := j fun x hx => h x (List.mem_append_right _ hx)
    exact ⟨⟨wd_fine (by decide +kernel) B, h1, h3, trivial⟩, by show max 0 (max a.dt.dp (max b.dt.dp 0)) + 1 ≤ max a.dp b.dp + 1 + 1; omega⟩
theorem kd_shw {k : Kd} (h : ∀ x ∈ k.opens, Nm x) (d : k.dp ≤ 18) (s : k.size ≤ 1000) : Shw 20 k.dt := by
  obtain ⟨f, g⟩ := kd_fine (10 ^ 45) h
  exact Fine.shw (B := 10 ^ 45) (W := 200000) ⟨f, by omega, by have := wtK h; omega⟩ (Nat.le_refl _) (by decide)
theorem tupGK {X : Cx} (K : PySem.W.Frag) (h : X.K = K) {es : List Expr} {k : Nat} {t : TGs} {n : Nat} {pos : Pos} (hc : X.calm = true) (hp : PGs X es t)
    (hn : (assignEach es X.env).length = n := by rfl) (hst : (assignEach es X.env).findIdx? (·.1) = none := by rfl) : PG X (.Tuple es k pos) (gTup K n t) := by
  subst h
  exact pg_tup hc hp hn hst
theorem eqDK {X : Cx} (K : PySem.W.Frag) (h : X.K = K) (hu : X.A.units + 64 < cLine) : OpR X (compareOp .Eq) (rEqD K) := by
  subst h
  exact op_eqD hu
section
variable {P : Program} {w : World} {K : PySem.W.Frag} {mg : Str → Option Value} {base : Heap} {NS NO lk : List Str} {cN : Addr}
abbrev tMake : Stmt := tp 17
abbrev nMake : List Str := ["_law_deck_here", "_law_tools_here", "_law_known", "_law_kind", "_law_deep", "_law_name", "_law_one", "_law_same", "_law_way", "_law_calls", "_law_shape", "_law_own"]
abbrev psMake : List Str := ["_law_deck_here", "_law_tools_here", "_law_known", "_law_kind", "_law_deep"]
theorem scMake : FnScope nMake psMake (defScope tMake) := ⟨rfl, rfl, rfl, by decide +kernel, rfl, by decide +kernel, by decide +kernel⟩
theorem okMake {f d c tl ao al an aw : Addr} {fd : FuncData} {k m : Nat} {op lo ns wds : List Str} {oo cc nn : Str} {fl : Int} (F : Fun K "_law_make" "_law_make" tMake f fd) (T : Tl op lo NS NO oo cc nn ns) (hwd : ∀ w ∈ wds, w ∈ words7) (lwd : wds.length ≤ 30) (lw1 : 1 ≤ wds.length) (ecc : cc = oo ++ ("c" : Str)) (enn : nn = oo ++ ("n" : Str))
    (DF : OkdG P w K mg base CX0 (k) "_law_filled" ["_law_deck_here", "_law_tools_here", "_law_known", "_law_shape", "_law_deep"] (spFil d c tl (TlA d c tl ao al an aw op lo ns wds oo fl) (GM op lo NS NO m) (CdM NS NO oo cc m) 12))
    (DP : Okd P w K mg base CX0 (k) "_law_pick" ["_law_deck_here", "_law_some"] spPick)
    (DO : Okd P w K mg base CX0 (k) "_law_own_shapes" ["_law_deck_here", "_law_tools_here", "_law_known", "_law_kind"] (spOwn d c tl ao al an aw op lo ns wds NS NO oo cc nn fl))
    (DX : Okd P w K mg base CX0 (k) "_law_other_shapes" ["_law_deck_here", "_law_tools_here", "_law_known", "_law_kind"] (spOther d c tl ao al an aw op lo ns wds NS NO oo cc nn fl))
    (DC : Okd P w K mg base CX0 (k) "_law_call_shapes" ["_law_known", "_law_kind"] (spCalls op lo NS NO oo cc))
    (DD : Okd P w K mg base CX0 (k) "_law_draw" ["_law_deck_here", "_law_most"] spDraw)
    (m_dict : mg "dict" = none)
    (m_int : mg "int" = none)
    (m_len : mg "len" = none)
    (m_repr : mg "repr" = none) : FnG P w K mg base CX0 (k + 1) f fd psMake (spMake d c tl (TlA d c tl ao al an aw op lo ns wds oo fl) (GM op lo NS NO (m + 1)) (CdM NS NO oo cc (m + 1))) := by
  obtain ⟨fF, fdF, GF, bF, gF, kF⟩ := DF
  obtain ⟨fP, fdP, GP, bP, gP, kP⟩ := DP
  obtain ⟨fO, fdO, GO, bO, gO, kO⟩ := DO
  obtain ⟨fX, fdX, GX, bX, gX, kX⟩ := DX
  obtain ⟨fC, fdC, GC, bC, gC, kC⟩ := DC
  obtain ⟨fD, fdD, GD, bD, gD, kD⟩ := DD
  refine okG F scMake (fun vs H Q E h => ?_) (fun cdv A outer s H vs Q E still hr h => ?_)
  · obtain ⟨kl, E, us, kv, k0, i, rfl, _⟩ := h
    rfl
  have hu : (cxOf CX0 P w K mg base nMake "_law_make" (defScope tMake) f cdv A outer s H E).nox.A.units + (20 + 1) < cLine := by
    have := hr.un
    show (A.deeper _).units + (20 + 1) < cLine
    omega
  have hu4 := hr.units
  obtain ⟨kl, E, us, kv, k, i, rfl, dk, J, gl, od, oc, pE, dd, cd, q⟩ := h
  refine ⟨_, pss_cons (ps_setLc (i := 7) (own := [("_law_name", 5), ("_law_one", 6)]) (g := gTup K 2 (gCons (gName 5) (gCons (gName 6) gNil))) (tt := _) (by rfl) scMake.nd rfl rfl (sw_true rfl rfl rfl (by decide +kernel)) (pi_items (pe_callTy (Kt.call_dictPF rfl) (by rfl) m_dict PyProof.Rows.boot_dict (pa_cons (pv 2) pa_nil))) (blkOk_by (own := [("_law_name", 5), ("_law_one", 6)]) (N := nMake) (sc := defScope tMake) (by decide +kernel)) (fun _ _ _ _ _ => (tupGK K rfl rfl (pgs_cons (pg_name (i := 5) scMake.nd rfl (.inl rfl)) (pgs_cons (pg_name (i := 6) scMake.nd rfl (.inl rfl)) pgs_nil)))) (fun _ _ _ _ _ => pts_one (pt_cmpR (eqDK K rfl hu4) (pv 6) (pv 3) (nomark _))) (fun _ _ _ _ _ => (pe_tup (pa_cons pe_str (pa_cons (pv 5) pa_nil)))))
    (pss_cons (ps_set (i := 8) scMake.nd rfl (.inl rfl) (pe_call GD hr (by rfl) gD kD bD .nil pass0 (pa_cons (pv 0) (pa_cons pe_int pa_nil))))
    (C8.pss_cut (ps_if (PW.pt (pw_and (pt_cmpR op_eq (pe_dget (hu_of hr) (pv 1) pe_str (fun _ _ => rfl)) pe_int (nomark _)) (pw_and (pt_cmpR op_ne (pe_ix ix_tup (pv 3) pe_int (fun _ _ => rfl)) pe_str (nomark _)) (pw_and1 (pt_cmpR op_eq (pv 8) pe_int (nomark _)))))) (pss_one (ps_ret (pe_tup (pa_cons pe_str (pa_cons (pv 3) pa_nil))))) pss_nil)
    (pss_cons (ps_set (i := 9) scMake.nd rfl (.inl rfl) (pe_call GC hr (by rfl) gC kC bC .nil pass0 (pa_cons (pv 2) (pa_cons (pv 3) pa_nil))))
    (C8.pss_cut (ps_if (PW.pt (pw_and (pt_cmpR (op_neL0 hr.units) (pv 7) (pe_lst pa_nil) (nomark _)) (pw_and1 (PW.pt (pw_or (pt_cmpR op_lt (pv 8) pe_int (nomark _)) (pw_or1 (pt_cmpR op_le (pv 4) pe_int (nomark _)))))))) (pss_one (ps_set (i := 10) scMake.nd rfl (.inl rfl) (pe_call GP hr (by rfl) gP kP bP .nil pass0 (pa_cons (pv 0) (pa_cons (pv 7) pa_nil))))) (pss_one (ps_if (PW.pt (pw_and (pt_cmpR (op_neL0 hr.units) (pv 9) (pe_lst pa_nil) (nomark _)) (pw_and (pt_cmpR op_lt (pv 8) pe_int (nomark _)) (pw_and1 (pt_cmpR op_gt (pv 4) (pe_un un_neg pe_int) (nomark _)))))) (pss_one (ps_set (i := 10) scMake.nd rfl (.inl rfl) (pe_call GP hr (by rfl) gP kP bP .nil pass0 (pa_cons (pv 0) (pa_cons (pv 9) pa_nil))))) (pss_one (ps_if (PW.pt (pw_or (pt_cmpR op_le (pv 4) pe_int (nomark _)) (pw_or (pt_cmpR op_eq (pe_ix ix_tup (pv 3) pe_int (fun _ _ => rfl)) pe_str (nomark _)) (pw_or1 (pt_cmpR op_gt (pe_callB call_len_str (by rfl) m_len PySem.boot_len (pa_cons (pe_callB (call_showU (n := 20) still hu) (by rfl) m_repr PyProof.Rows.boot_repr (pa_cons (pv 3) pa_nil)) pa_nil)) pe_int (nomark _)))))) (pss_one (ps_set (i := 10) scMake.nd rfl (.inl rfl) (pe_ix ix_list (pe_call GO hr (by rfl) gO kO bO .nil pass0 (pa_cons (pv 0) (pa_cons (pv 1) (pa_cons (pv 2) (pa_cons (pv 3) pa_nil))))) pe_int (fun _ _ => rfl)))) (pss_cons (ps_set (i := 11) scMake.nd rfl (.inl rfl) (pe_op op_rep (pe_slice sl_list (pe_call GO hr (by rfl) gO kO bO .nil pass0 (pa_cons (pv 0) (pa_cons (pv 1) (pa_cons (pv 2) (pa_cons (pv 3) pa_nil))))) (po_some (pe_un un_neg pe_int)) po_none) (pe_callTy call_int1 (by rfl) m_int PyProof.Rows.boot_int (pa_cons (pe_cmpR op_ne (pe_ix ix_tup (pv 3) pe_int (fun _ _ => rfl)) pe_str (nomark _)) pa_nil))))
    (pss_one (ps_set (i := 10) scMake.nd rfl (.inl rfl) (pe_call GP hr (by rfl) gP kP bP .nil pass0 (pa_cons (pv 0) (pa_cons (pe_op op_cat (pv 11) (pe_call GX hr (by rfl) gX kX bX .nil pass0 (pa_cons (pv 0) (pa_cons (pv 1) (pa_cons (pv 2) (pa_cons (pv 3) pa_nil)))))) pa_nil)))))))))))
    (pss_one (ps_ret (pe_callG GF still hr (by rfl) gF kF bF .nil pass0 (pa_cons (pv 0) (pa_cons (pv 1) (pa_cons (pv 2) (pa_cons (pv 10) (pa_cons (pe_op op_sub (pv 4) pe_int) pa_nil)))))))))))), ?_⟩
  obtain ⟨cm, cu, I⟩ := cd
  have cd : CdM NS NO oo cc (m + 1) E k i := ⟨cm, cu, I⟩
  have wmu := I.wk.mu
  have i13 : -10 ≤ i := by
    by_cases c : i ≤ -2
    · have := cu c
      omega
    · omega
  have lE : E.length ≤ 60 := by have := I.ln; omega
  obtain ⟨ps, kvs, rfl, args, ek⟩ := ep_args (K := K) pE
  have all0 := AllE.of ek
  have lk := ek.length
  have lm := merge_le kvs
  obtain ⟨BS, b, bdk, bJ, bgl, bpE, bdd, bkp, bsm, bkk⟩ : ∃ BS : Hp → Prop, BS H ∧ (∀ G, BS G → Dk G d c) ∧ (∀ G, BS G → TlA d c tl ao al an aw op lo ns wds oo fl G) ∧ (∀ G, BS G → G kl = some (.lst (ps.map V.ref))) ∧ (∀ G, BS G → Paired (PRd G) E (ps.map V.ref)) ∧ (∀ G, BS G → Dd Non G k.dt kv) ∧ (∀ G, BS G → Kp d c H G) ∧ (∀ G F, BS G → Same G F → BS F) ∧ (∀ G F, BS G → Kp d c G F → Dk F d c → BS F) :=
    ⟨fun G => Kp d c H G ∧ Dk G d c, ⟨Kp.rfl, dk⟩, fun _ z => z.2, fun _ z => J.kp z.1, fun _ z => z.1 _ _ od oc gl, fun _ z => Paired.mapP pE fun _ _ h => h.tk (Tk.kp z.1 dk), fun _ z => dd.kn (Kn.tk (Tk.kp z.1 dk)), fun _ z => z.1,
      fun G F z s => ⟨z.1.trans (.of s), z.2.same s⟩, fun G F z s e => ⟨z.1.trans s, e⟩⟩
  refine ⟨_, rfl, kl, ps, kvs, rfl, SqL.of gl, args, fun pD oD nD => objG nD fun GD sD gD => ⟨pD, oD, _, rfl, gD, fun LS nLS => ?_⟩⟩
  have oLS := (dk.same sD).off nLS
  refine Kt.lc_items (fun j F => Same GD F ∧ ∃ us1, F LS = some (.lst us1) ∧ us1.length ≤ j ∧ VlS F (Shp op lo NS NO oo cc i E k true 1) us1) ⟨newS nLS, [], upd_same, Nat.le_refl _, VlS.nil⟩ (fun j F _ z => z.1 _ _ gD) (fun j ky vl T0 F hk z nT => ?_) (fun F1 z => ?_)
  · obtain ⟨sF, us1, gU, lU, hU⟩ := z
    obtain ⟨z, kz, ez, dz, pz, mz⟩ := all0 _ (List.mem_of_getElem? hk)
    have ez : ky = .inr z := ez
    subst ez
    have sT := newS (o := .tup [kV (.inr z), vl]) nT
    have sA := sD.trans (sF.trans sT)
    have kn : Kn1 NO i kz := (I.ee _ mz).2.2
    have nN : Nm z := (I.ee _ mz).2.1
    have lj := (List.getElem?_eq_some_iff.mp hk).1
    refine ⟨T0, _, rfl, SqT.of upd_same, rfl, _, _, rfl, _, _, rfl, rfl, rfl, _, rfl, _, rfl, _, _, dpK K (dz.same sA), dpK K (dd.same sA), shK kn.kok, shK I.wk.kok, _, rfl, ite2 (fun c1 => ?_) (fun c1 => ⟨sF.trans sT, us1, sT _ _ gU, by omega, hU.same sT⟩)⟩
    have e : kz = k := (eqK kn.kok).mp c1
    refine ⟨_, rfl, (by show 2 ≤ sizeLine; decide), fun p5 n5 => tupG n5 (.cons (.str _) (.cons (.str _) .nil)) fun F5 s5 d5 => ?_⟩
    have gU5 := s5 _ _ (sT _ _ gU)
    have k1 : Kv.Kn Non F5 (upd F5 LS (.lst (us1 ++ [.ref p5]))) := Kn.rfl.put (fun z => z) fun _ z => by rw [gU5] at z; cases z
    refine ⟨us1, gU5, small1000 (by omega), smk (sF.trans (sT.trans s5)) nLS, us1 ++ [.ref p5], upd_same, by rw [List.length_append]; show us1.length + 1 ≤ _; omega, ?_⟩
    exact ((hU.same (sT.trans s5)).kn k1).app (VlS.one (k := .tup [.at (.str "name"), .at (.str z)]) (s_name (by rw [← e]; exact pz) nN (Nat.le_trans (nm8 nN) (by decide))) (d5.kn k1))
  obtain ⟨sF1, us1, gS, lS, hS⟩ := z
  replace b := bsm _ _ b (sD.trans sF1)
  clear dk J gl pE dd
  have dk := bdk _ b
  refine ⟨_, rfl, d, c, _, rfl, dk, (by decide), (by decide), fun way K1 h10 h11 kp1 e1 => ?_⟩
  replace b := bkk _ _ b kp1 e1
  replace gS := kp1 _ _ oLS.1 oLS.2 gS
  replace hS := hS.kn (Kn.tk (Tk.kp kp1 dk))
  replace dk := e1
  refine ⟨fun σ G => σ = [some (.ref d), some (.ref tl), some (.ref kl), some kv, some (.int i), none, none, some (.ref LS), some (.int way), none, none, none] ∧ BS G ∧ G LS = some (.lst us1) ∧ VlS G (Shp op lo NS NO oo cc i E k true 1) us1, ?_, fun σ G1 z => ?_⟩
  · skip
    have J := bJ _ b
    have dd := bdd _ b
    obtain ⟨pk, uk, rfl, gk, ck_⟩ := seeK dd
    refine ⟨_, rfl, tl, .int fl, rfl, J.gF, rfl, _, rfl, ite2 (fun c1 => ?_) (fun c1 => iteF ⟨rfl, b, gS, hS⟩)⟩
    refine ⟨_, rfl, pk, _, _, _, rfl, rfl, SqT.of gk, atI_nat (j := 0) rfl, rfl, _, rfl, ite2 (fun c2 => ?_) (fun c2 => iteF ⟨rfl, b, gS, hS⟩)⟩
    refine ⟨_, rfl, rfl, _, rfl, ite2 (fun c3 => ?_) (fun c3 => ⟨rfl, b, gS, hS⟩)⟩
    have nf := neFn1 c2
    refine ⟨_, rfl, (by show 2 ≤ sizeLine; decide), fun p5 n5 => tupG n5 (.cons (.str _) (.cons dd .nil)) fun F5 s5 d5 => ?_⟩
    exact q (.ref p5) (.fault k) F5 ((bkp _ b).trans (.of s5)) ((bdk _ b).same s5) d5 ⟨⟨dk1 (I.wk.kw nf) nf, fun lk _ _ => Ck.fault (I.wk.kw nf).gk⟩, Nat.zero_le _, fun _ => ⟨Kd.size_pos _, Nat.zero_le _⟩⟩
  obtain ⟨rfl, b, gS, hS⟩ := z
  refine ⟨_, rfl, _, rfl, kl, E, _, kv, k, k, i, rfl, bgl _ b, bpE _ b, bdd _ b, lE, I, fun LC wsC ssC GC sC nC gC dC hC lC => ?_⟩
  have oLC := (bdk _ b).off nC
  have hC := VlS.of dC hC
  have lC : wsC.length ≤ 60 := by have := dC.len; rw [List.length_map] at this; omega
  replace b := bsm _ _ b sC
  replace gS := sC _ _ gS
  replace hS := hS.same sC
  clear dC
  refine ⟨fun σ G => ∃ (vS : V) (s0 : Sd) (z : Bool) (w11 : Option V), σ = [some (.ref d), some (.ref tl), some (.ref kl), some kv, some (.int i), none, none, some (.ref LS), some (.int way), some (.ref LC), some vS, w11] ∧ BS G ∧ Dd Non G s0.dt vS ∧ Shp op lo NS NO oo cc i E k z 11 s0 ∧ (z = true ∨ -2 < i), ?_, fun σ G2 z => ?_⟩
  · skip
    refine ⟨_, rfl, Nat.zero_le _, fun e1 ne1 => objG ne1 fun E1 t1 g1 => ?_⟩
    replace b := bsm _ _ b t1
    replace gS := t1 _ _ gS
    replace hS := hS.same t1
    replace gC := t1 _ _ gC
    replace hC := hC.same t1
    refine ⟨LS, e1, us1, rfl, rfl, SqL.of gS, SqL.of g1, _, rfl, withG ?els fun g => ite2 (fun c1 => ⟨_, rfl, _, _, rfl, rfl, _, rfl, ite2 (fun _ => iteT ?t1) (fun _ => ⟨_, rfl, _, _, rfl, rfl, _, rfl, ite2 (fun _ => ?t2) (fun _ => g)⟩)⟩) (fun _ => iteF g)⟩
    case t1 =>
      have l1 : 1 ≤ us1.length := by
        cases us1 with
        | nil => cases c1
        | cons a b => exact Nat.succ_pos _
      refine ⟨_, rfl, _, rfl, d, c, LS, us1, rfl, bdk _ b, gS, oLS.1, oLS.2, l1, (by omega), fun vS K2 kp2 e2 hv => ?_⟩
      obtain ⟨s0, S, dS⟩ := (hS.kn (Kn.tk (Tk.kp kp2 (bdk _ b)))) vS hv
      exact ⟨vS, s0, true, _, rfl, bkk _ _ b kp2 e2, dS, S.up (by decide), .inl rfl⟩
    case t2 =>
      have l1 : 1 ≤ us1.length := by
        cases us1 with
        | nil => cases c1
        | cons a b => exact Nat.succ_pos _
      refine ⟨_, rfl, _, rfl, d, c, LS, us1, rfl, bdk _ b, gS, oLS.1, oLS.2, l1, (by omega), fun vS K2 kp2 e2 hv => ?_⟩
      obtain ⟨s0, S, dS⟩ := (hS.kn (Kn.tk (Tk.kp kp2 (bdk _ b)))) vS hv
      exact ⟨vS, s0, true, _, rfl, bkk _ _ b kp2 e2, dS, S.up (by decide), .inl rfl⟩
    refine ⟨_, rfl, Nat.zero_le _, fun e2 ne2 => objG ne2 fun E2 t2 g2 => ?_⟩
    replace b := bsm _ _ b t2
    replace gC := t2 _ _ gC
    replace hC := hC.same t2
    refine ⟨LC, e2, wsC, rfl, rfl, SqL.of gC, SqL.of g2, _, rfl, withG ?els2 fun g => ite2 (fun c1 => ⟨_, rfl, _, _, rfl, rfl, _, rfl, ite2 (fun _ => ⟨_, rfl, _, rfl, _, _, rfl, rfl, _, rfl, ite2 (fun c3 => ?u1) (fun _ => g)⟩) (fun _ => iteF g)⟩) (fun _ => iteF g)⟩
    case u1 =>
      have l1 : 1 ≤ wsC.length := by
        cases wsC with
        | nil => cases c1
        | cons a b => exact Nat.succ_pos _
      refine ⟨_, rfl, _, rfl, d, c, LC, wsC, rfl, bdk _ b, gC, oLC.1, oLC.2, l1, (by omega), fun vS K2 kp2 e2 hv => ?_⟩
      obtain ⟨s0, S, dS⟩ := (hC.kn (Kn.tk (Tk.kp kp2 (bdk _ b)))) vS hv
      exact ⟨vS, s0, false, _, rfl, bkk _ _ b kp2 e2, dS, S.up (by decide), .inr (by have := of_decide_eq_true c3; omega)⟩
    have dd := bdd _ b
    obtain ⟨pk, uk, rfl, gk, ck_⟩ := seeK dd
    have shk : Shw 20 k.dt := kd_shw I.wk.nm (by have := I.wk.dp; omega) (by have := I.wk.sz; have := @wb_le i; omega)
    refine ⟨_, rfl, _, _, rfl, rfl, _, rfl, withG ?thn fun h => ite2 (fun _ => iteT h) (fun c1 => ⟨_, rfl, pk, _, _, _, rfl, rfl, SqT.of gk, atI_nat (j := 0) rfl, rfl, _, rfl, ite2 (fun _ => iteT h) (fun c2 => ⟨_, rfl, _, _, rfl, dd.any, shk, _, rfl, shk.sz, _, _, rfl, rfl, _, rfl, ite2 (fun _ => h) (fun _ => ?els3)⟩)⟩)⟩
    case thn =>
      refine ⟨_, rfl, _, rfl, _, rfl, _, rfl, kl, E, _, .ref pk, k, i, rfl, bdk _ b, bJ _ b, bgl _ b, od, oc, bpE _ b, dd, lE, I, T, fun l ws s0 ss G2 kp2 e2 ol1 ol2 gl2 dL S0 SS lS => ?_⟩
      obtain ⟨v0, ws, rfl, d0, dR⟩ : ∃ v0 wr, ws = v0 :: wr ∧ Dd Non G2 s0.dt v0 ∧ DdL Non G2 (ss.map Sd.dt) wr := by
        cases dL with
        | cons a b => exact ⟨_, _, rfl, a, b⟩
      exact ⟨l, _, _, _, rfl, rfl, SqL.of gl2, atI_nat (j := 0) rfl, v0, s0, true, _, rfl, bkk _ _ b kp2 e2, d0, S0.up (by decide), .inl rfl⟩
    have h0 : 0 < i := by
      have : ¬ i ≤ 0 := fun z => c1 (decide_eq_true z)
      omega
    have nf : k.isFn = false := by
      cases hk : k.isFn with
      | false => rfl
      | true =>
        exfalso
        apply c2
        cases k with
        | fn a b => exact decide_eq_true rfl
        | _ => cases hk
    refine ⟨_, rfl, _, rfl, _, rfl, _, rfl, kl, E, _, .ref pk, k, i, rfl, bdk _ b, bJ _ b, bgl _ b, od, oc, bpE _ b, dd, lE, I, T, fun l ws s0 ss G2 kp2 e2 ol1 ol2 gl2 dL S0 SS lS => ?_⟩
    have hO : VlS G2 (Shp op lo NS NO oo cc i E k false 11) ws := VlS.of dL fun s hs => by
      rcases List.mem_cons.mp hs with rfl | hs
      · exact S0.weak (by decide)
      · exact (SS s hs).weak (by decide)
    have lW := dL.len
    rw [List.length_map, List.length_cons] at lW
    replace gk := Tk.kp kp2 (bdk _ b) _ _ gk
    replace b := bkk _ _ b kp2 e2
    refine ⟨_, rfl, _, rfl, l, _, rfl, SqL.of gl2, fun q1 m1 => ?_⟩
    have o1 := (bdk _ b).off m1
    refine lstG m1 fun E3 t3 g3 => ?_
    replace b := bsm _ _ b t3
    replace hO := hO.same t3
    replace gk := t3 _ _ gk
    have l3 := cut_le ws (some (-2)) none
    refine ⟨_, rfl, pk, _, _, _, rfl, rfl, SqT.of gk, atI_nat (j := 0) rfl, rfl, .inr ⟨_, rfl, q1, _, _, rfl, rfl, g3, ?bd1, ?bd2, ?bd3, fun q2 m2 => ?_⟩⟩
    case bd1 => split <;> decide
    case bd2 => split <;> decide
    case bd3 =>
      have : 200 ≤ sizeLine := by decide
      split
      · rw [show (1 : Int).toNat = 1 from rfl, Nat.mul_one]
        omega
      · exact Nat.zero_le _
    have o2 := (bdk _ b).off m2
    refine lstG m2 fun E4 t4 g4 => ?_
    replace b := bsm _ _ b t4
    replace hO := hO.same t4
    generalize hws : (List.replicate (if (!decide (V.str k.word = V.str "open")) = true then (1 : Int) else 0).toNat (cutV ws (some (-2)) none)).flatten = wo at g4
    have hO2 : VlS E4 (Shp op lo NS NO oo cc i E k false 11) wo ∧ wo.length ≤ 62 := by
      rw [← hws]
      split
      · rw [show (List.replicate (1 : Int).toNat (cutV ws (some (-2)) none)).flatten = cutV ws (some (-2)) none by simp]
        exact ⟨hO.sub fun v hv => cut_mem hv, by omega⟩
      · exact ⟨VlS.nil, Nat.zero_le _⟩
    obtain ⟨hO2, lO2⟩ := hO2
    clear hws hO
    refine ⟨_, rfl, _, rfl, _, rfl, _, rfl, _, rfl, _, rfl, kl, E, _, .ref pk, k, i, rfl, bdk _ b, bJ _ b, bgl _ b, od, oc, bpE _ b, bdd _ b, lE, I, T, h0, nf, hwd, lwd, ecc, enn, fun lX wsX ssX GX kpX eX oX1 oX2 gX dX SX lX2 => ?_⟩
    have hX : VlS GX (Shp op lo NS NO oo cc i E k false 11) wsX := VlS.of dX SX
    have lX3 := dX.len
    rw [List.length_map] at lX3
    replace hO2 := hO2.kn (Kn.tk (Tk.kp kpX (bdk _ b)))
    replace g4 := kpX _ _ o2.1 o2.2 g4
    replace b := bkk _ _ b kpX eX
    refine ⟨_, _, _, _, rfl, rfl, g4, gX, (szBig (by rw [← lX3, lX2]; omega)), fun q5 m5 => ?_⟩
    have o5 := (bdk _ b).off m5
    refine lstG m5 fun E5 t5 g5 => ?_
    replace b := bsm _ _ b t5
    have hA : VlS E5 (Shp op lo NS NO oo cc i E k false 11) (wo ++ wsX) := (hO2.same t5).app (hX.same t5)
    refine ⟨d, c, q5, _, rfl, bdk _ b, g5, o5.1, o5.2, by rw [List.length_append]; omega, by rw [List.length_append]; omega, fun vS K2 kp2 e2 hv => ?_⟩
    obtain ⟨s0, S, dS⟩ := (hA.kn (Kn.tk (Tk.kp kp2 (bdk _ b)))) vS hv
    exact ⟨vS, s0, false, _, rfl, bkk _ _ b kp2 e2, dS, S, .inr (by omega)⟩
  obtain ⟨vS, s0, z, w11, rfl, b, dS, S, hz⟩ := z
  refine ⟨_, rfl, _, rfl, _, rfl, _, rfl, _, rfl, _, _, rfl, rfl, kl, E, _, vS, s0, i - 1, rfl, Nat.lt_succ_of_le S.ht, S.ok, S.few, bdk _ b, bJ _ b, bgl _ b, od, oc, bpE _ b, by omega, dS, S.cd cd hz, fun r0 v G kp2 e2 dr fr => ?_⟩
  have hx : decide (m + 1 ≤ 9) = true → z = true := fun w => hz.resolve_right (by have := of_decide_eq_true w; omega)
  obtain ⟨t, rfl, gt⟩ := S.fil (decide (m + 1 ≤ 9)) (11 * m) r0 hx (fr.imp fun bs k t g => g.up (Nat.le_refl _) fun w => decide_eq_true (by have := of_decide_eq_true w; omega))
  exact q v t G ((bkp _ b).trans kp2) e2 dr (gt.up (by omega) id)
end
end Kq
/-! terms: their parts, how many, how deep; the drawer, at any depth -/
namespace Kq
open PySem PySem.Spec PyProof.Rows L2 Kf Kg Kv Kk Ku
def Tm.word : Tm → Str
  | .name _ => "name"
  | .fn _ _ _ => "fun"
  | .call _ _ => "call"
  | .num _ => "num"
  | .plus _ _ => "plus"
  | .less _ _ => "less"
  | .tru _ => "truth"
  | .iff _ _ _ => "if"
  | .pair _ _ => "pair"
  | .fst _ => "first"
  | .snd _ => "second"
  | .left _ _ => "left"
  | .right _ _ => "right"
  | .case _ _ _ _ _ => "case"
  | .none _ => "none"
  | .more _ _ => "more"
  | .fold _ _ _ _ _ => "fold"
  | .built _ _ _ _ _ => "built"
  | .alike _ _ => "alike"
  | .fault _ => "fault"
  | .rounds _ _ _ _ => "rounds"
  | .told _ _ => "told"
/-- where its terms stand -/
def Tm.ks : Tm → List Nat
  | .fn _ _ _ => [3]
  | .left _ _ => [1]
  | .right _ _ => [2]
  | .case _ _ _ _ _ => [1, 3, 5]
  | .fold _ _ _ _ _ => [1, 2, 5]
  | .built _ _ _ _ _ => [5]
  | .rounds _ _ _ _ => [2, 4]
  | .fst _ => [1]
  | .snd _ => [1]
  | .iff _ _ _ => [1, 2, 3]
  | .name _ => []
  | .num _ => []
  | .tru _ => []
  | .none _ => []
  | .fault _ => []
  | _ => [1, 2]
def Tm.kd : Tm → List Tm
  | .fn _ _ t => [t]
  | .call a b => [a, b]
  | .plus a b => [a, b]
  | .less a b => [a, b]
  | .iff a b c => [a, b, c]
  | .pair a b => [a, b]
  | .fst a => [a]
  | .snd a => [a]
  | .left a _ => [a]
  | .right _ a => [a]
  | .case a _ b _ c => [a, b, c]
  | .more a b => [a, b]
  | .fold a b _ _ t => [a, b, t]
  | .built _ _ _ _ t => [t]
  | .alike a b => [a, b]
  | .rounds _ a _ t => [a, t]
  | _ => []
/-- no told one in it -/
def Tm.nt : Tm → Prop
  | .fn _ _ t => t.nt
  | .call a b => a.nt ∧ b.nt
  | .plus a b => a.nt ∧ b.nt
  | .less a b => a.nt ∧ b.nt
  | .iff a b c => a.nt ∧ b.nt ∧ c.nt
  | .pair a b => a.nt ∧ b.nt
  | .fst a => a.nt
  | .snd a => a.nt
  | .left a _ => a.nt
  | .right _ a => a.nt
  | .case a _ b _ c => a.nt ∧ b.nt ∧ c.nt
  | .more a b => a.nt ∧ b.nt
  | .fold a b _ _ t => a.nt ∧ b.nt ∧ t.nt
  | .built _ _ _ _ t => t.nt
  | .alike a b => a.nt ∧ b.nt
  | .rounds _ a _ t => a.nt ∧ t.nt
  | .told _ _ => False
  | _ => True
theorem tm_dt : ∀ t : Tm, ∃ xs, t.dt = .tup (.str t.word :: xs) ∧ (t.nt → t.kd.length = t.ks.length ∧ ∀ (i j : Nat) (a : Tm), t.ks[i]? = some j → t.kd[i]? = some a → (Dt.str t.word :: xs)[j]? = some a.dt ∧ a.nt) := by
  intro t
  cases t
  all_goals refine ⟨_, rfl, fun hn => ?_⟩
  all_goals first
    | exact hn.elim
    | (refine ⟨rfl, fun i j a h1 h2 => ?_⟩
       match i, h1, h2 with
       | 0, h1, h2 => first | (cases h1; cases h2; exact ⟨rfl, by first | exact hn | exact hn.1⟩) | cases h2
       | 1, h1, h2 => first | (cases h1; cases h2; exact ⟨rfl, by first | exact hn.2.1 | exact hn.2⟩) | cases h2
       | 2, h1, h2 => first | (cases h1; cases h2; exact ⟨rfl, hn.2.2⟩) | cases h2
       | i + 3, h1, h2 => cases h2)
theorem tm_tn : ∀ t : Tm, t.tn = 1 + (t.kd.map Tm.tn).sum := by
  intro t
  cases t <;> simp [Tm.tn, Tm.kd] <;> omega
theorem tm_max : ∀ t : Tm, ∀ m : Int, m ∈ (0 :: t.kd.map fun a => ((a.dp + 1 : Nat) : Int)) → (∀ y ∈ (0 :: t.kd.map fun a => ((a.dp + 1 : Nat) : Int)), y ≤ m) → m = (t.dp : Int) := by
  intro t m
  cases t <;> simp only [Tm.kd, Tm.dp, List.map_cons, List.map_nil, List.mem_cons, List.not_mem_nil, or_false, forall_eq_or_imp, forall_eq] <;> omega
/-- what is known of a checked term -/
theorem chk_nt {lk NS NO : List Str} : ∀ {t : Tm} {e : Ek} {k : Kd}, Sml lk NS NO t e → chk lk t e = some k → t.nt ∧ t.nd ≤ 1001 * t.tn := by
  intro t
  induction t with
  | name x => intro e k s h; exact ⟨trivial, by simp only [Tm.nd, Tm.tn]; omega⟩
  | num => intro e k s h; exact ⟨trivial, by simp only [Tm.nd, Tm.tn]; omega⟩
  | tru => intro e k s h; exact ⟨trivial, by simp only [Tm.nd, Tm.tn]; omega⟩
  | none k => intro e r s h; exact ⟨trivial, by have := s.sz; rw [Kd.size_ls] at this; simp only [Tm.nd, Tm.tn]; omega⟩
  | fault k => intro e r s h; exact ⟨trivial, by have := s.sz; simp only [Tm.nd, Tm.tn]; omega⟩
  | told f fs => intro e r s h; rw [chk] at h; cases h
  | fn x k t i =>
    intro e r s h
    obtain ⟨_, gk, st, hr⟩ := s
    rw [chk] at h
    obtain ⟨q, hq, rfl⟩ := Option.map_eq_some_iff.mp h
    obtain ⟨a, b⟩ := i st hq
    exact ⟨a, by have := gk.sz; simp only [Tm.nd, Tm.tn]; omega⟩
  | call a b i j =>
    intro e r s h
    rw [chk] at h
    obtain ⟨p, hp, h⟩ := Option.bind_eq_some_iff.mp h
    obtain ⟨y, hy, h⟩ := Option.bind_eq_some_iff.mp h
    obtain ⟨a1, b1⟩ := i s.1 (fnOf_eq hp)
    obtain ⟨a2, b2⟩ := j (s.2 (by rw [hp]; exact fun z => by cases z)) hy
    exact ⟨⟨a1, a2⟩, by simp only [Tm.nd, Tm.tn]; omega⟩
  | plus a b i j =>
    intro e r s h
    rw [chk] at h
    obtain ⟨p, hp, h⟩ := Option.bind_eq_some_iff.mp h
    obtain ⟨y, hy, h⟩ := Option.bind_eq_some_iff.mp h
    obtain ⟨q, hq, _⟩ := Option.bind_eq_some_iff.mp hp
    obtain ⟨a1, b1⟩ := i s.1 hq
    obtain ⟨a2, b2⟩ := j (s.2 (by rw [hp]; exact fun z => by cases z)) hy
    exact ⟨⟨a1, a2⟩, by simp only [Tm.nd, Tm.tn]; omega⟩
  | less a b i j =>
    intro e r s h
    rw [chk] at h
    obtain ⟨p, hp, h⟩ := Option.bind_eq_some_iff.mp h
    obtain ⟨q, hq, h⟩ := Option.bind_eq_some_iff.mp h
    obtain ⟨u, hu, _⟩ := Option.bind_eq_some_iff.mp hp
    obtain ⟨w, hw, _⟩ := Option.bind_eq_some_iff.mp hq
    obtain ⟨a1, b1⟩ := i s.1 hu
    obtain ⟨a2, b2⟩ := j (s.2 (by rw [hp]; exact fun z => by cases z)) hw
    exact ⟨⟨a1, a2⟩, by simp only [Tm.nd, Tm.tn]; omega⟩
  | iff a b c i j l =>
    intro e r s h
    rw [chk] at h
    obtain ⟨p, hp, h⟩ := Option.bind_eq_some_iff.mp h
    obtain ⟨y, hy, h⟩ := Option.bind_eq_some_iff.mp h
    obtain ⟨z, hz, h⟩ := Option.bind_eq_some_iff.mp h
    obtain ⟨u, hu, _⟩ := Option.bind_eq_some_iff.mp hp
    obtain ⟨a1, b1⟩ := i s.1 hu
    obtain ⟨a2, b2⟩ := j s.2.1 hy
    obtain ⟨a3, b3⟩ := l s.2.2 hz
    exact ⟨⟨a1, a2, a3⟩, by simp only [Tm.nd, Tm.tn]; omega⟩
  | pair a b i j =>
    intro e r s h
    rw [chk] at h
    obtain ⟨p, hp, h⟩ := Option.bind_eq_some_iff.mp h
    obtain ⟨q, hq, rfl⟩ := Option.map_eq_some_iff.mp h
    obtain ⟨a1, b1⟩ := i s.1 (daOf_eq hp).1
    obtain ⟨a2, b2⟩ := j s.2.1 (daOf_eq hq).1
    exact ⟨⟨a1, a2⟩, by simp only [Tm.nd, Tm.tn]; omega⟩
  | fst a i =>
    intro e r s h
    rw [chk] at h
    obtain ⟨q, hq, rfl⟩ := Option.map_eq_some_iff.mp h
    obtain ⟨a1, b1⟩ := i s (prOf_eq hq)
    exact ⟨a1, by simp only [Tm.nd, Tm.tn]; omega⟩
  | snd a i =>
    intro e r s h
    rw [chk] at h
    obtain ⟨q, hq, rfl⟩ := Option.map_eq_some_iff.mp h
    obtain ⟨a1, b1⟩ := i s (prOf_eq hq)
    exact ⟨a1, by simp only [Tm.nd, Tm.tn]; omega⟩
  | left a k i =>
    intro e r s h
    rw [chk] at h
    obtain ⟨q, hq, rfl⟩ := Option.map_eq_some_iff.mp h
    obtain ⟨a1, b1⟩ := i s.2.1 (daOf_eq hq).1
    exact ⟨a1, by have := s.1.sz; simp only [Tm.nd, Tm.tn]; omega⟩
  | right k a i =>
    intro e r s h
    rw [chk] at h
    obtain ⟨q, hq, rfl⟩ := Option.map_eq_some_iff.mp h
    obtain ⟨a1, b1⟩ := i s.2.1 (daOf_eq hq).1
    exact ⟨a1, by have := s.1.sz; simp only [Tm.nd, Tm.tn]; omega⟩
  | case a x b y c i j l =>
    intro e r s h
    rw [chk] at h
    obtain ⟨p, hp, h⟩ := Option.bind_eq_some_iff.mp h
    obtain ⟨q, hq, h⟩ := Option.bind_eq_some_iff.mp h
    obtain ⟨z, hz, h⟩ := Option.bind_eq_some_iff.mp h
    have hp := eiOf_eq hp
    obtain ⟨s1, s2⟩ := s.2.2.2 _ _ hp
    obtain ⟨a1, b1⟩ := i s.2.2.1 hp
    obtain ⟨a2, b2⟩ := j s1 hq
    obtain ⟨a3, b3⟩ := l s2 hz
    exact ⟨⟨a1, a2, a3⟩, by simp only [Tm.nd, Tm.tn]; omega⟩
  | more a b i j =>
    intro e r s h
    rw [chk] at h
    obtain ⟨p, hp, h⟩ := Option.bind_eq_some_iff.mp h
    obtain ⟨q, hq, h⟩ := Option.bind_eq_some_iff.mp h
    obtain ⟨a1, b1⟩ := i s.1 hp
    obtain ⟨a2, b2⟩ := j s.2.1 hq
    exact ⟨⟨a1, a2⟩, by simp only [Tm.nd, Tm.tn]; omega⟩
  | fold a b x y t i j l =>
    intro e r s h
    rw [chk] at h
    obtain ⟨p, hp, h⟩ := Option.bind_eq_some_iff.mp h
    obtain ⟨q, hq, h⟩ := Option.bind_eq_some_iff.mp h
    obtain ⟨z, hz, h⟩ := Option.bind_eq_some_iff.mp h
    have hp := lsOf_eq hp
    obtain ⟨a1, b1⟩ := i s.2.2.1 hp
    obtain ⟨a2, b2⟩ := j s.2.2.2.1 (daOf_eq hq).1
    obtain ⟨a3, b3⟩ := l (s.2.2.2.2 _ _ hp (daOf_eq hq).1) hz
    exact ⟨⟨a1, a2, a3⟩, by simp only [Tm.nd, Tm.tn]; omega⟩
  | built k o x y t i =>
    intro e r s h
    rw [chk] at h
    by_cases c : met lk e o k
    · rw [if_pos c] at h
      cases h
    · rw [if_neg c] at h
      obtain ⟨q, hq, h⟩ := Option.bind_eq_some_iff.mp h
      obtain ⟨_, _, _, g1, _, s2⟩ := s
      obtain ⟨a1, b1⟩ := i (s2 c) hq
      exact ⟨a1, by have := g1.sz; rw [Kd.size_ls] at this; simp only [Tm.nd, Tm.tn]; omega⟩
  | alike a b i j =>
    intro e r s h
    rw [chk] at h
    obtain ⟨p, hp, h⟩ := Option.bind_eq_some_iff.mp h
    obtain ⟨q, hq, h⟩ := Option.bind_eq_some_iff.mp h
    obtain ⟨u, hu, _⟩ := Option.bind_eq_some_iff.mp hp
    obtain ⟨a1, b1⟩ := i s.1 hu
    obtain ⟨a2, b2⟩ := j s.2 hq
    exact ⟨⟨a1, a2⟩, by simp only [Tm.nd, Tm.tn]; omega⟩
  | rounds m a x t i j =>
    intro e r s h
    rw [chk] at h
    obtain ⟨p, hp, h⟩ := Option.bind_eq_some_iff.mp h
    obtain ⟨q, hq, h⟩ := Option.bind_eq_some_iff.mp h
    have hp := (daOf_eq hp).1
    obtain ⟨u, hu, _⟩ := Option.bind_eq_some_iff.mp hq
    obtain ⟨a1, b1⟩ := i s.2.1 hp
    obtain ⟨a2, b2⟩ := j (s.2.2 _ hp) hu
    exact ⟨⟨a1, a2⟩, by simp only [Tm.nd, Tm.tn]; omega⟩
theorem Good.nt {op lo NS NO : List Str} {E : List (Str × Kd)} {k : Kd} {t : Tm} (g : Good op lo NS NO E k t) (h : ∀ z ∈ lo, z ∈ op) : t.nt ∧ t.nd ≤ 1001 * t.tn := by
  obtain ⟨a, b⟩ := g.2 lo (fun _ z => z) h
  exact chk_nt a b
end Kq
/-! _law_measured -/
namespace Kq
open PySem PySem.Spec PyProof.Rows L2 Kf Kg Kv Kk Ku
theorem leafW {t : Tm} (h : t.nt) : inV (.str t.word) [V.str "name", .str "num", .str "truth", .str "none", .str "fault"] = t.ks.isEmpty := by
  cases t <;> first | exact h.elim | rfl
theorem leafN {t : Tm} (h : t.nt) (e : t.ks.isEmpty = true) : t.tn = 1 ∧ t.dp = 0 := by
  cases t <;> first | exact h.elim | exact ⟨rfl, rfl⟩ | (cases e; done)
def Tm.isRg : Tm → Bool
  | .fst _ => true
  | .snd _ => true
  | .iff _ _ _ => true
  | _ => false
theorem rgW {t : Tm} (h : t.nt) : inV (.str t.word) [V.str "first", .str "second", .str "if"] = t.isRg := by
  cases t <;> first | exact h.elim | rfl
theorem rgK {H : Hp} {t : Tm} {us : List V} {xs : List Dt} (e : t.dt = .tup (.str t.word :: xs)) (d : DdL Non H xs us) (h : t.isRg = true) : rgV 1 ((us.length + 1 : Nat) : Int) = t.ks.map fun j : Nat => V.int (j : Int) := by
  have l := d.len
  cases t <;> first | (cases h; done) | (cases e; rw [← l]; rfl)
def kvs7 (l1 l2 l3 l4 l5 l6 l7 : Addr) : List (Key × V) := [(.inr "fun", .ref l1), (.inr "left", .ref l2), (.inr "right", .ref l3), (.inr "case", .ref l4), (.inr "fold", .ref l5), (.inr "built", .ref l6), (.inr "rounds", .ref l7)]
theorem plW {G : Hp} {t : Tm} (h : t.nt) (e : t.ks.isEmpty = false) (r : t.isRg = false) {l1 l2 l3 l4 l5 l6 l7 : Addr} (g1 : G l1 = some (.lst [.int 3])) (g2 : G l2 = some (.lst [.int 1])) (g3 : G l3 = some (.lst [.int 2])) (g4 : G l4 = some (.lst [.int 1, .int 3, .int 5])) (g5 : G l5 = some (.lst [.int 1, .int 2, .int 5])) (g6 : G l6 = some (.lst [.int 5])) (g7 : G l7 = some (.lst [.int 2, .int 4])) :
    (∃ l, valV (kvs7 l1 l2 l3 l4 l5 l6 l7) (.inr t.word) = some (.ref l) ∧ G l = some (.lst (t.ks.map fun j : Nat => V.int (j : Int)))) ∨ (valV (kvs7 l1 l2 l3 l4 l5 l6 l7) (.inr t.word) = none ∧ t.ks = [1, 2]) := by
  cases t <;> first | exact h.elim | (cases e; done) | (cases r; done) | exact .inl ⟨_, rfl, g1⟩ | exact .inl ⟨_, rfl, g2⟩ | exact .inl ⟨_, rfl, g3⟩ | exact .inl ⟨_, rfl, g4⟩ | exact .inl ⟨_, rfl, g5⟩ | exact .inl ⟨_, rfl, g6⟩ | exact .inl ⟨_, rfl, g7⟩ | exact .inr ⟨rfl, rfl⟩
/-- what is told of a part -/
def MsR (G : Hp) (a : Tm) (v : V) : Prop := ∃ q, v = .ref q ∧ G q = some (.tup [.int (a.tn : Int), .int ((a.dp + 1 : Nat) : Int)])
/-- a dict is written at p -/
@[elab_as_elim] theorem dupG {H0 G : Hp} {p : Addr} {o u : HO} {motive : Hp → Prop} (s : Same H0 G) (n : H0 p = none) (g : G p = some u) (hu : ∀ ys, u ≠ .lst ys) (q : ∀ F, Same H0 F → (∀ l ys, G l = some (.lst ys) → F l = some (.lst ys)) → F p = some o → motive F) : motive (upd G p o) := q _ (smk s n) (fun l ys h => by rw [upd_ne (fun w => by rw [w, g] at h; exact hu _ (Option.some.inj h))]; exact h) upd_same
theorem rg_len {t : Tm} {xs : List Dt} (e : t.dt = .tup (.str t.word :: xs)) (h : t.isRg = true) : ((xs.length + 1 : Nat) : Int) ≤ 16777216 := by
  cases t <;> first | (cases h; done) | (cases e; simp only [List.length_cons, List.length_nil]; omega)
theorem kd_dp : ∀ (t a : Tm), a ∈ t.kd → a.dp < t.dp := by
  intro t a
  cases t <;> simp only [Tm.kd, Tm.dp, List.mem_cons, List.not_mem_nil, or_false, false_implies] <;> (try rintro (rfl | rfl | rfl) <;> omega) <;> (try rintro (rfl | rfl) <;> omega) <;> (try rintro rfl <;> omega)
theorem kd_len (t : Tm) : t.kd.length ≤ 3 := by
  cases t <;> simp [Tm.kd]
theorem DdL.get' {H : Hp} : ∀ {xs : List Dt} {us : List V} {j : Nat} {y : Dt}, DdL Non H xs us → xs[j]? = some y → ∃ u, us[j]? = some u ∧ Dd Non H y u
  | _, _, j, _, .nil, h => by simp at h
  | _, _, 0, _, .cons a b, h => by cases h; exact ⟨_, rfl, a⟩
  | _, _, j + 1, _, .cons a b, h => DdL.get' (j := j) b h
theorem sum_cast : ∀ xs : List Nat, ((xs.sum : Nat) : Int) = (xs.map fun n : Nat => (n : Int)).sum
  | [] => rfl
  | x :: xs => by rw [List.sum_cons, List.map_cons, List.sum_cons, ← sum_cast xs]; omega
section
variable {P : Program} {w : World} {K : PySem.W.Frag} {mg : Str → Option Value} {base : Heap} {NS NO lk : List Str} {cN : Addr}
abbrev tMeas : Stmt := tp 18
abbrev nMeas : List Str := ["_law_term_here", "_law_at", "_law_k", "_law_some", "_law_one"]
abbrev psMeas : List Str := ["_law_term_here"]
theorem scMeas : FnScope nMeas psMeas (defScope tMeas) := ⟨rfl, rfl, rfl, by decide +kernel, rfl, by decide +kernel, by decide +kernel⟩
def spMeas (n : Nat) : Sp := fun vs H Q _ => ∃ (v : V) (t : Tm), vs = [v] ∧ Dd Non H t.dt v ∧ t.nt ∧ t.dp + 1 ≤ n ∧
  ∀ (p : Addr) (G : Hp), Same H G → G p = some (.tup [.int (t.tn : Int), .int ((t.dp + 1 : Nat) : Int)]) → Q (.ref p) G
theorem okMeas {f : Addr} {fd : FuncData} {k n : Nat} (F : Fun K "_law_measured" "_law_measured" tMeas f fd)
    (DM : Okd P w K mg base CX0 (k) "_law_measured" ["_law_term_here"] (spMeas n))
    (m_len : mg "len" = none)
    (m_list : mg "list" = none)
    (m_max : mg "max" = none)
    (m_range : mg "range" = none)
    (m_sum : mg "sum" = none) : FnOk P w K mg base CX0 (k + 1) f fd psMeas (spMeas (n + 1)) := by
  obtain ⟨fM, fdM, GM, bM, gM, kM⟩ := DM
  refine F.ok scMeas (fun vs H Q E h => ?_) (fun cdv A outer s H vs Q E hr h => ?_)
  · obtain ⟨v, t, rfl, _⟩ := h
    rfl
  obtain ⟨v, t, rfl, dd, nt, hn, q⟩ := h
  refine ⟨_, pss_cons (ps_set (i := 1) scMeas.nd rfl (.inl rfl) (pe_disp (pps_cons pe_str (pe_lst (pa_cons pe_int pa_nil)) (pps_cons pe_str (pe_lst (pa_cons pe_int pa_nil)) (pps_cons pe_str (pe_lst (pa_cons pe_int pa_nil)) (pps_cons pe_str (pe_lst (pa_cons pe_int (pa_cons pe_int (pa_cons pe_int pa_nil)))) (pps_cons pe_str (pe_lst (pa_cons pe_int (pa_cons pe_int (pa_cons pe_int pa_nil)))) (pps_cons pe_str (pe_lst (pa_cons pe_int pa_nil)) pps_nil)))))) (by rfl) (by rfl) (fun z => by cases z) (by decide)))
    (C8.pss_cut (ps_asg (pe_lst (pa_cons pe_int (pa_cons pe_int pa_nil))) (pg_sub (pv 1) pe_str (set_dict (hu_of hr))))
    (pss_cons (ps_if (pt_cmpR op_in_seq (pe_ix ix_tup (pv 0) pe_int (fun _ _ => rfl)) (pe_tup (pa_cons pe_str (pa_cons pe_str (pa_cons pe_str (pa_cons pe_str (pa_cons pe_str pa_nil)))))) rfl) (pss_one (ps_ret (pe_tup (pa_cons pe_int (pa_cons pe_int pa_nil))))) pss_nil)
    (C8.pss_cut (ps_if (pt_cmpR op_in_seq (pe_ix ix_tup (pv 0) pe_int (fun _ _ => rfl)) (pe_tup (pa_cons pe_str (pa_cons pe_str (pa_cons pe_str pa_nil)))) rfl) (pss_one (ps_asg (pe_listRg rfl (by rfl) m_list (prg_2 (by rfl) m_range pe_int (pe_callB call_len_seq (by rfl) m_len PySem.boot_len (pa_cons (pv 0) pa_nil)))) (pg_sub (pv 1) (pe_ix ix_tup (pv 0) pe_int (fun _ _ => rfl)) (set_dict (hu_of hr))))) pss_nil)
    (C8.pss_cut (ps_setLc (i := 3) (own := [("_law_k", 2)]) (g := gName 2) (by rfl) scMeas.nd rfl rfl (sw_true rfl rfl rfl (by decide +kernel)) (pi_list (pe_dget2 (hu_of hr) (pv 1) (pe_ix ix_tup (pv 0) pe_int (fun _ _ => rfl)) (pe_lst (pa_cons pe_int (pa_cons pe_int pa_nil))) ⟨rfl, rfl, rfl, rfl⟩)) (blkOk_by (own := [("_law_k", 2)]) (N := nMeas) (sc := defScope tMeas) (by decide +kernel)) (fun _ _ _ _ _ => (pg_name (i := 2) scMeas.nd rfl (.inl rfl))) (fun _ _ _ _ _ => pts_nil) (fun _ _ _ _ _ => (pe_call GM hr (by rfl) gM kM bM .nil pass0 (pa_cons (pe_ix (ixTK K rfl) (pv 0) (pv 2) (fun _ _ => rfl)) pa_nil))))
    (pss_one (ps_ret (pe_tup (pa_cons (pe_op op_add pe_int (pe_callB (cr_sum rfl) (by rfl) m_sum PyProof.Rows.boot_sum (pa_cons (pe_lc (own := [("_law_one", 4)]) (g := gName 4) (by rfl) scMeas.nd (pi_list (pv 3)) (blkOk_by (own := [("_law_one", 4)]) (N := nMeas) (sc := defScope tMeas) (by decide +kernel)) (fun _ _ _ _ _ => (pg_name (i := 4) scMeas.nd rfl (.inl rfl))) (fun _ _ _ _ _ => pts_nil) (fun _ _ _ _ _ => (pe_ix (ixTK K rfl) (pv 4) pe_int (fun _ _ => rfl)))) pa_nil))) (pa_cons (pe_op op_add pe_int (pe_callB (cr_max rfl) (by rfl) m_max PyProof.Rows.boot_max (pa_cons (pe_op op_cat (pe_lst (pa_cons pe_int pa_nil)) (pe_lc (own := [("_law_one", 4)]) (g := gName 4) (by rfl) scMeas.nd (pi_list (pv 3)) (blkOk_by (own := [("_law_one", 4)]) (N := nMeas) (sc := defScope tMeas) (by decide +kernel)) (fun _ _ _ _ _ => (pg_name (i := 4) scMeas.nd rfl (.inl rfl))) (fun _ _ _ _ _ => pts_nil) (fun _ _ _ _ _ => (pe_ix (ixTK K rfl) (pv 4) pe_int (fun _ _ => rfl))))) pa_nil))) pa_nil))))))))), ?_⟩
  obtain ⟨xs, edt, hk⟩ := tm_dt t
  obtain ⟨lk, hk⟩ := hk nt
  rw [edt] at dd
  obtain ⟨p, us, rfl, gp, dl⟩ : ∃ p us, v = .ref p ∧ H p = some (.tup (.str t.word :: us)) ∧ DdL Non H xs us := by
    obtain ⟨p, u, us, rfl, g, d1, d2⟩ := Dd.seeT dd
    cases d1
    exact ⟨p, us, rfl, g, d2⟩
  refine fun pA nA => objG nA fun G0 s0 gA => ?_
  refine ⟨(by show 1 ≤ sizeLine; decide), fun l1 m1 => lstG m1 fun G1 s1 g1 => ⟨(by show 1 ≤ sizeLine; decide), fun l2 m2 => lstG m2 fun G2 s2 g2 => ⟨(by show 1 ≤ sizeLine; decide), fun l3 m3 => lstG m3 fun G3 s3 g3 => ⟨(by show 3 ≤ sizeLine; decide), fun l4 m4 => lstG m4 fun G4 s4 g4 => ⟨(by show 3 ≤ sizeLine; decide), fun l5 m5 => lstG m5 fun G5 s5 g5 => ⟨(by show 1 ≤ sizeLine; decide), fun l6 m6 => lstG m6 fun G6 s6 g6 => ?_⟩⟩⟩⟩⟩⟩
  have gA6 := s6 _ _ (s5 _ _ (s4 _ _ (s3 _ _ (s2 _ _ (s1 _ _ gA)))))
  refine ⟨gA6, [(.inr "fun", .ref l1), (.inr "left", .ref l2), (.inr "right", .ref l3), (.inr "case", .ref l4), (.inr "fold", .ref l5), (.inr "built", .ref l6)], rfl, (by show 6 ≤ 15; decide), ?_⟩
  have sm : Same H G6 := s0.trans (s1.trans (s2.trans (s3.trans (s4.trans (s5.trans s6)))))
  have e6 : mergeK [] [((.inr "fun" : Key), V.ref l1), (.inr "left", .ref l2), (.inr "right", .ref l3), (.inr "case", .ref l4), (.inr "fold", .ref l5), (.inr "built", .ref l6)] = [((.inr "fun" : Key), V.ref l1), (.inr "left", .ref l2), (.inr "right", .ref l3), (.inr "case", .ref l4), (.inr "fold", .ref l5), (.inr "built", .ref l6)] := rfl
  rw [e6]
  have h1 := s6 _ _ (s5 _ _ (s4 _ _ (s3 _ _ (s2 _ _ g1))))
  have h2 := s6 _ _ (s5 _ _ (s4 _ _ (s3 _ _ g2)))
  have h3 := s6 _ _ (s5 _ _ (s4 _ _ g3))
  have h4 := s6 _ _ (s5 _ _ g4)
  have h5 := s6 _ _ g5
  refine dupG sm nA gA6 (fun ys w => by cases w) fun G7 sm7 up7 gA7 => ?_
  replace h1 := up7 _ _ h1
  replace h2 := up7 _ _ h2
  replace h3 := up7 _ _ h3
  replace h4 := up7 _ _ h4
  replace h5 := up7 _ _ h5
  have h6 := up7 _ _ g6
  clear sm up7 gA6 g1 g2 g3 g4 g5 g6 e6
  refine ⟨fun σ G => ∃ (pA l1 l2 l3 l4 l5 l6 l7 : Addr), σ = [some (.ref p), some (.ref pA), none, none, none] ∧ H pA = none ∧ Same H G ∧ G pA = some (.dK (kvs7 l1 l2 l3 l4 l5 l6 l7)) ∧ G l1 = some (.lst [.int 3]) ∧ G l2 = some (.lst [.int 1]) ∧ G l3 = some (.lst [.int 2]) ∧ G l4 = some (.lst [.int 1, .int 3, .int 5]) ∧ G l5 = some (.lst [.int 1, .int 2, .int 5]) ∧ G l6 = some (.lst [.int 5]) ∧ G l7 = some (.lst [.int 2, .int 4]), ?_, fun σ G z => ?_⟩
  · skip
    refine ⟨(by show 2 ≤ sizeLine; decide), fun l7 m7 => lstG m7 fun G8 s8 h7 => ?_⟩
    have gA8 := s8 _ _ gA7
    have sm8 := sm7.trans s8
    refine ⟨_, rfl, _, _, rfl, DPut.k (k := .inr "rounds") gA8 (by show 6 < sizeLine; decide), ?_⟩
    rw [show putK [((.inr "fun" : Key), V.ref l1), (.inr "left", .ref l2), (.inr "right", .ref l3), (.inr "case", .ref l4), (.inr "fold", .ref l5), (.inr "built", .ref l6)] (.inr "rounds") (.ref l7) = kvs7 l1 l2 l3 l4 l5 l6 l7 from rfl]
    refine dupG sm8 nA gA8 (fun ys w => by cases w) fun G9 sm9 up9 gA9 => ?_
    replace h1 := up9 _ _ (s8 _ _ h1)
    replace h2 := up9 _ _ (s8 _ _ h2)
    replace h3 := up9 _ _ (s8 _ _ h3)
    replace h4 := up9 _ _ (s8 _ _ h4)
    replace h5 := up9 _ _ (s8 _ _ h5)
    replace h6 := up9 _ _ (s8 _ _ h6)
    replace h7 := up9 _ _ h7
    clear sm7 sm8 s8 up9 gA7 gA8
    exact ⟨pA, l1, l2, l3, l4, l5, l6, l7, rfl, nA, sm9, gA9, h1, h2, h3, h4, h5, h6, h7⟩
  obtain ⟨pA, l1, l2, l3, l4, l5, l6, l7, rfl, nA, sm, gA, h1, h2, h3, h4, h5, h6, h7⟩ := z
  have gp0 := gp
  have dl0 := dl
  have gp := sm _ _ gp
  have dl := dl.same sm
  refine ⟨_, rfl, p, _, _, _, rfl, rfl, SqT.of gp, atI_nat (j := 0) rfl, (by show 5 ≤ sizeLine; decide), fun pT nT => objG nT fun GT sT gT => ⟨pT, _, rfl, .inr (SqT.of gT), rfl, rfl, _, rfl, ?_⟩⟩
  rw [leafW nt]
  replace gp := sT _ _ gp
  refine ite2 (fun c1 => ?_) (fun c1 => ?_)
  · obtain ⟨e1, e2⟩ := leafN nt c1
    refine ⟨(by show 2 ≤ sizeLine; decide), fun p5 n5 => objG n5 fun G5 s5 g5 => ?_⟩
    exact q p5 G5 (sm.trans (sT.trans s5)) (by rw [g5, e1, e2]; rfl)
  have c1 : t.ks.isEmpty = false := by
    cases h : t.ks.isEmpty with
    | false => rfl
    | true => exact absurd h c1
  refine ⟨fun σ G => ∃ (pA : Addr) (kvs : List (Key × V)), σ = [some (.ref p), some (.ref pA), none, none, none] ∧ Same H G ∧ G pA = some (.dK kvs) ∧ ((∃ l, valV kvs (.inr t.word) = some (.ref l) ∧ G l = some (.lst (t.ks.map fun j : Nat => V.int (j : Int)))) ∨ (valV kvs (.inr t.word) = none ∧ t.ks = [1, 2])), ?_, fun σ G z => ?_⟩
  · refine ⟨_, rfl, p, _, _, _, rfl, rfl, SqT.of gp, atI_nat (j := 0) rfl, (by show 3 ≤ sizeLine; decide), fun pT2 nT2 => objG nT2 fun GU sU gU => ⟨pT2, _, rfl, .inr (SqT.of gU), rfl, rfl, _, rfl, ?_⟩⟩
    rw [rgW nt]
    have sV := sT.trans sU
    replace sm := sm.trans sV
    replace gp := sU _ _ gp
    replace gA := sV _ _ gA
    refine ite2 (fun c2 => ?_) (fun c2 => ?_)
    · have lx := dl.len
      refine ⟨_, rfl, p, _, rfl, .inr (SqT.of gp), _, _, rfl, rfl, RgOk.of_le (by decide) (by rw [List.length_cons, ← lx]; exact rg_len edt c2) (by decide) (by omega), fun l8 m8 => ?_⟩
      rw [show ((V.str t.word :: us).length : Int) = ((us.length + 1 : Nat) : Int) from rfl, rgK edt dl c2]
      refine lstG m8 fun G8 s8 g8 => ?_
      replace gA := s8 _ _ gA
      refine ⟨_, rfl, _, rfl, p, _, _, _, rfl, rfl, SqT.of (s8 _ _ gp), atI_nat (j := 0) rfl, _, _, rfl, DPut.k (k := .inr t.word) gA (by show 7 < sizeLine; decide), ?_⟩
      refine dupG (sm.trans s8) nA gA (fun ys w => by cases w) fun G9 sm9 up9 gA9 => ?_
      exact ⟨pA, _, rfl, sm9, gA9, .inl ⟨l8, by rw [valV_put, if_pos rfl], up9 _ _ g8⟩⟩
    · have c2 : t.isRg = false := by
        cases h : t.isRg with
        | false => rfl
        | true => exact absurd h c2
      exact ⟨pA, _, rfl, sm, gA, plW nt c1 c2 (sV _ _ h1) (sV _ _ h2) (sV _ _ h3) (sV _ _ h4) (sV _ _ h5) (sV _ _ h6) (sV _ _ h7)⟩
  obtain ⟨pA, kvs, rfl, sm, gA, pw⟩ := z
  replace gp := sm _ _ gp0
  have dl := dl0.same sm
  refine ⟨fun σ G => ∃ (y1 : Option V) (D : Addr) (ws : List V), σ = [some (.ref p), y1, none, some (.ref D), none] ∧ Same H G ∧ G D = some (.lst ws) ∧ Paired (MsR G) t.kd ws, ?_, fun σ G2 z => ?_⟩
  · refine ⟨_, rfl, pA, rfl, .inl ⟨kvs, .inl gA⟩, _, rfl, p, _, _, _, rfl, rfl, SqT.of gp, atI_nat (j := 0) rfl, (by show 2 ≤ sizeLine; decide), fun l9 m9 => lstG m9 fun G3 s3 g3 => ?_⟩
    obtain ⟨l, eo, gl⟩ : ∃ l : Addr, (valV kvs (.inr t.word)).getD (.ref l9) = .ref l ∧ G3 l = some (.lst (t.ks.map fun j : Nat => V.int (j : Int))) := by
      rcases pw with ⟨l, e, g⟩ | ⟨e, e2⟩
      · exact ⟨l, by rw [e]; rfl, s3 _ _ g⟩
      · exact ⟨l9, by rw [e]; rfl, by rw [e2]; exact g3⟩
    refine ⟨_, DGet.k (k := .inr t.word) (s3 _ _ gA), l, eo, ⟨_, SqL.of gl⟩, fun D nD => ?_⟩
    have dl3 := dl.same s3
    have gp3 := s3 _ _ gp
    refine lc_list (xs := t.ks.map fun j : Nat => V.int (j : Int)) (fun i F => Same G3 F ∧ ∃ ws, F D = some (.lst ws) ∧ Paired (MsR F) (t.kd.take i) ws) ⟨newS nD, [], upd_same, .nil⟩ (fun i F _ z => SqL.of (z.1 _ _ gl)) (fun i x F hx z => ?_) (fun F z => ?_)
    · obtain ⟨sF, ws, gD, pr⟩ := z
      rw [List.getElem?_map] at hx
      obtain ⟨j, hj, rfl⟩ := Option.map_eq_some_iff.mp hx
      have li := (List.getElem?_eq_some_iff.mp hj).1
      obtain ⟨a, ha⟩ : ∃ a, t.kd[i]? = some a := ⟨_, List.getElem?_eq_getElem (by omega)⟩
      obtain ⟨hd, na⟩ := hk i j a hj ha
      obtain ⟨u, hu, du⟩ : ∃ u, (V.str t.word :: us)[j]? = some u ∧ Dd Non F a.dt u := (DdL.cons (.str _) (dl3.same sF)).get' hd
      refine ⟨rfl, _, rfl, _, rfl, p, _, _, _, rfl, rfl, SqT.of (sF _ _ gp3), atI_nat (j := j) hu, u, a, rfl, du, na, ?_, fun p5 G5 s5 g5 => ?_⟩
      · have := kd_dp t a (List.mem_of_getElem? ha)
        omega
      have gD5 := s5 _ _ gD
      have lw := pr.length
      refine ⟨ws, gD5, small1000 (by rw [← lw, List.length_take]; have := kd_len t; omega), smk (sF.trans s5) nD, ws ++ [.ref p5], upd_same, ?_⟩
      rw [List.take_add_one, ha]
      have tk : Tk F (upd G5 D (.lst (ws ++ [.ref p5]))) := ((Tk.of s5).trans (Tk.rfl.put fun ys w => by rw [gD5] at w; cases w))
      have tk5 : Tk G5 (upd G5 D (.lst (ws ++ [.ref p5]))) := Tk.rfl.put fun ys w => by rw [gD5] at w; cases w
      exact Paired.appP (Paired.mapP pr fun _ _ ⟨q, e, g⟩ => ⟨q, e, tk _ _ g⟩) (.cons ⟨p5, rfl, tk5 _ _ g5⟩ .nil)
    · obtain ⟨sF, ws, gD, pr⟩ := z
      rw [List.length_map, ← lk, List.take_length] at pr
      exact ⟨_, D, ws, rfl, sm.trans (s3.trans sF), gD, pr⟩
  obtain ⟨y1, D, ws, rfl, sm2, gD, pr⟩ := z
  have lw := pr.length
  have l3 := kd_len t
  refine ⟨_, rfl, D, rfl, ⟨_, SqL.of gD⟩, fun D1 nD1 => ?_⟩
  refine lc_list (xs := ws) (fun i F => Same G2 F ∧ F D1 = some (.lst (((t.kd.take i).map fun a => (a.tn : Int)).map V.int))) ⟨newS nD1, upd_same⟩ (fun i F _ z => SqL.of (z.1 _ _ gD)) (fun i x F hx z => ?_) (fun F1 z => ?_)
  · obtain ⟨sF, gU⟩ := z
    obtain ⟨a, ha, q1, rfl, gq⟩ := Paired.atP pr hx
    refine ⟨rfl, _, rfl, q1, _, _, _, rfl, rfl, SqT.of (sF _ _ gq), atI_nat (j := 0) rfl, _, gU, small1000 (by rw [List.length_map, List.length_map, List.length_take]; omega), smk sF nD1, ?_⟩
    rw [upd_same, List.take_add_one, ha, List.map_append, List.map_append]
    rfl
  obtain ⟨sF1, gU1⟩ := z
  rw [← lw, List.take_length] at gU1
  refine ⟨D1, _, rfl, SqL.of gU1, _, _, rfl, rfl, (by show 1 ≤ sizeLine; decide), fun l9 m9 => lstG m9 fun G3 s3 g3 => ?_⟩
  have s23 := sF1.trans s3
  have gD3 := s23 _ _ gD
  refine ⟨_, rfl, D, rfl, ⟨_, SqL.of gD3⟩, fun D2 nD2 => ?_⟩
  refine lc_list (xs := ws) (fun i F => Same G3 F ∧ F D2 = some (.lst (((t.kd.take i).map fun a => ((a.dp + 1 : Nat) : Int)).map V.int))) ⟨newS nD2, upd_same⟩ (fun i F _ z => SqL.of (z.1 _ _ gD3)) (fun i x F hx z => ?_) (fun F2 z => ?_)
  · obtain ⟨sF, gU⟩ := z
    obtain ⟨a, ha, q1, rfl, gq⟩ := Paired.atP pr hx
    refine ⟨rfl, _, rfl, q1, _, _, _, rfl, rfl, SqT.of (sF _ _ (s23 _ _ gq)), atI_nat (j := 1) rfl, _, gU, small1000 (by rw [List.length_map, List.length_map, List.length_take]; omega), smk sF nD2, ?_⟩
    rw [upd_same, List.take_add_one, ha, List.map_append, List.map_append]
    rfl
  obtain ⟨sF2, gU2⟩ := z
  rw [← lw, List.take_length] at gU2
  refine ⟨_, _, _, _, rfl, rfl, sF2 _ _ g3, gU2, (by rw [List.length_map, List.length_map]; show 1 + t.kd.length ≤ sizeLine; have : 100 ≤ sizeLine := (by decide); omega), fun l8 m8 => ?_⟩
  refine lstG m8 fun G4 s4 g4 => ?_
  have g4 : G4 l8 = some (.lst ((0 :: t.kd.map (fun a : Tm => ((a.dp + 1 : Nat) : Int))).map V.int)) := g4
  refine ⟨l8, 0 :: t.kd.map (fun a : Tm => ((a.dp + 1 : Nat) : Int)), rfl, SqL.of g4, Nat.succ_pos _, fun m hm hle => ?_⟩
  have em := tm_max t m hm hle
  subst em
  refine ⟨_, _, rfl, rfl, (by show 2 ≤ sizeLine; decide), fun p9 n9 => objG n9 fun G5 s5 g5 => ?_⟩
  refine q p9 G5 (sm2.trans (s23.trans (sF2.trans (s4.trans s5)))) ?_
  show G5 p9 = some (.tup [.int _, .int _])
  rw [g5, tm_tn t]
  show some (HO.tup [V.int (1 + (t.kd.map fun a => (a.tn : Int)).sum), V.int (1 + (t.dp : Int))]) = _
  have e1 : (1 : Int) + (t.kd.map fun a => (a.tn : Int)).sum = ((1 + (t.kd.map Tm.tn).sum : Nat) : Int) := by
    rw [show (t.kd.map fun a => (a.tn : Int)) = (t.kd.map Tm.tn).map (fun n : Nat => (n : Int)) by rw [List.map_map]; rfl, ← sum_cast]
    omega
  rw [e1]
  have e2 : (1 : Int) + (t.dp : Int) = ((t.dp + 1 : Nat) : Int) := by omega
  rw [e2]
end
end Kq
/-! the drawer at any depth; terms measured, at any depth -/
namespace Kq
open PySem PySem.Spec PyProof.Rows L2 Kf Kg Kv Kk Ku
section
variable {P : Program} {w : World} {K : PySem.W.Frag} {mg : Str → Option Value} {base : Heap} {NS NO lk : List Str} {cN : Addr}
theorem noFnG {f : Addr} {fd : FuncData} {cx : CXT} {k : Nat} {ps : List Str} {sp : Sp} (h : ∀ vs H Q E, ¬ sp vs H Q E) : FnG P w K mg base cx k f fd ps sp :=
  ⟨fun vs H Q E z => absurd z (h vs H Q E), fun A o s H r us vs Q E _ _ _ _ _ z => absurd z (h vs H Q E)⟩
theorem noFnK {f : Addr} {fd : FuncData} {k : Nat} {ps : List Str} {sp : Sp} (h : ∀ vs H Q E, ¬ sp vs H Q E) : FnOk P w K mg base CX0 k f fd ps sp :=
  ⟨fun vs H Q E z => absurd z (h vs H Q E), fun A o s H r us vs Q E _ _ _ _ z => absurd z (h vs H Q E)⟩
theorem OkdG.up {cx : CXT} {j k : Nat} {nm : Str} {ps : List Str} {sp : Sp} (h : OkdG P w K mg base cx j nm ps sp) (l : j ≤ k) : OkdG P w K mg base cx k nm ps sp := by
  obtain ⟨f, fd, F, b, g, kp⟩ := h
  exact ⟨f, fd, F.up l, b, g, kp⟩
/-- terms measured, of any depth below n -/
theorem meas_rec (d : Dfn K mg "_law_measured" tMeas psMeas) (m_len : mg "len" = none) (m_list : mg "list" = none) (m_max : mg "max" = none) (m_range : mg "range" = none) (m_sum : mg "sum" = none) : ∀ n, Okd P w K mg base CX0 n "_law_measured" psMeas (spMeas n)
  | 0 => d.ok fun f fd F => noFnK fun vs H Q E z => by
    obtain ⟨v, t, _, _, _, h, _⟩ := z
    omega
  | n + 1 => d.ok fun f fd F => okMeas F (meas_rec d m_len m_list m_max m_range m_sum n) m_len m_list m_max m_range m_sum
section
variable {d c tl ao al an aw : Addr} {op lo ns wds : List Str} {oo cc nn : Str} {fl : Int}
/-- the drawer, by how deep -/
theorem make_rec {fM fF : Addr} {fdM fdF : FuncData} {b : Nat} (FM : Fun K "_law_make" "_law_make" tMake fM fdM) (bM : Binds K fdM psMake []) (gM : mg "_law_make" = some (.ref fM)) (FF : Fun K "_law_filled" "_law_filled" tFil fF fdF) (bF : Binds K fdF psFil []) (gF : mg "_law_filled" = some (.ref fF))
    (T : Tl op lo NS NO oo cc nn ns) (hwd : ∀ w ∈ wds, w ∈ words7) (lwd : wds.length ≤ 30) (lw1 : 1 ≤ wds.length) (ecc : cc = oo ++ ("c" : Str)) (enn : nn = oo ++ ("n" : Str))
    (DP : Okd P w K mg base CX0 b "_law_pick" ["_law_deck_here", "_law_some"] spPick)
    (DO : Okd P w K mg base CX0 b "_law_own_shapes" ["_law_deck_here", "_law_tools_here", "_law_known", "_law_kind"] (spOwn d c tl ao al an aw op lo ns wds NS NO oo cc nn fl))
    (DX : Okd P w K mg base CX0 b "_law_other_shapes" ["_law_deck_here", "_law_tools_here", "_law_known", "_law_kind"] (spOther d c tl ao al an aw op lo ns wds NS NO oo cc nn fl))
    (DC : Okd P w K mg base CX0 b "_law_call_shapes" ["_law_known", "_law_kind"] (spCalls op lo NS NO oo cc))
    (DD : Okd P w K mg base CX0 b "_law_draw" ["_law_deck_here", "_law_most"] spDraw)
    (m_dict : mg "dict" = none) (m_int : mg "int" = none) (m_len : mg "len" = none) (m_repr : mg "repr" = none) (m_isinstance : mg "isinstance" = none) (m_list : mg "list" = none) (m_tuple : mg "tuple" = none) :
    ∀ m, FnG P w K mg base CX0 (b + 13 * m) fM fdM psMake (spMake d c tl (TlA d c tl ao al an aw op lo ns wds oo fl) (GM op lo NS NO m) (CdM NS NO oo cc m))
  | 0 => noFnG fun vs H Q E z => by
    obtain ⟨kl, E, us, kv, k, i, _, _, _, _, _, _, _, _, cd, _⟩ := z
    have h1 := cd.1
    have h2 := cd.2.1 (by omega)
    omega
  | m + 1 => by
    have M := make_rec FM bM gM FF bF gF T hwd lwd lw1 ecc enn DP DO DX DC DD m_dict m_int m_len m_repr m_isinstance m_list m_tuple m
    have fil : ∀ n, FnG P w K mg base CX0 (b + 13 * m + n) fF fdF psFil (spFil d c tl (TlA d c tl ao al an aw op lo ns wds oo fl) (GM op lo NS NO m) (CdM NS NO oo cc m) n) := by
      intro n
      induction n with
      | zero =>
        exact noFnG fun vs H Q E z => by
          obtain ⟨kl, E, us, v, s, i, _, h, _⟩ := z
          omega
      | succ n ih => exact okFil FF (fun _ _ _ k j => j.kp k) m_list (DF := ⟨fF, fdF, ih, bF, gF, FF.kp⟩) (DM := ⟨fM, fdM, M.up (Nat.le_add_right _ _), bM, gM, FM.kp⟩) m_isinstance m_list m_tuple
    exact okMake (k := b + 13 * m + 12) FM T hwd lwd lw1 ecc enn (DF := ⟨fF, fdF, fil 12, bF, gF, FF.kp⟩) (DP := DP.up (by omega)) (DO := DO.up (by omega)) (DX := DX.up (by omega)) (DC := DC.up (by omega)) (DD := DD.up (by omega)) m_dict m_int m_len m_repr
end
/-- whatever the tools -/
def spMakeU : Sp := fun vs H Q E => ∃ (NS NO : List Str) (d c tl ao al an aw : Addr) (op lo ns wds : List Str) (oo cc nn : Str) (fl : Int) (m : Nat), m ≤ 17 ∧ Tl op lo NS NO oo cc nn ns ∧ (∀ w ∈ wds, w ∈ words7) ∧ wds.length ≤ 30 ∧ 1 ≤ wds.length ∧ cc = oo ++ ("c" : Str) ∧ nn = oo ++ ("n" : Str) ∧
  spMake d c tl (TlA d c tl ao al an aw op lo ns wds oo fl) (GM op lo NS NO m) (CdM NS NO oo cc m) vs H Q E
theorem make_all (dM : Dfn K mg "_law_make" tMake psMake) (dF : Dfn K mg "_law_filled" tFil psFil) (dO : Dfn K mg "_law_own_shapes" tOwn psOwn) (dX : Dfn K mg "_law_other_shapes" tOther psOther) (dC : Dfn K mg "_law_call_shapes" tCalls psCalls) (dA : Dfn K mg "_law_arguments" tLArgs ["_law_kind"])
    (DD : Okd P w K mg base CX0 4 "_law_draw" ["_law_deck_here", "_law_most"] spDraw) (DP : Okd P w K mg base CX0 4 "_law_pick" ["_law_deck_here", "_law_some"] spPick)
    (m_dict : mg "dict" = none) (m_int : mg "int" = none) (m_len : mg "len" = none) (m_repr : mg "repr" = none) (m_isinstance : mg "isinstance" = none) (m_list : mg "list" = none) (m_tuple : mg "tuple" = none) :
    OkdG P w K mg base CX0 (5 + 13 * 17) "_law_make" psMake spMakeU := by
  obtain ⟨fM, fdM, FM, bM, gM⟩ := dM
  obtain ⟨fF, fdF, FF, bF, gF⟩ := dF
  have DA : Okd P w K mg base CX0 4 "_law_arguments" ["_law_kind"] spLArgs := dA.ok fun f fd F => okLArgs F
  have all : ∀ (NS NO : List Str) (d c tl ao al an aw : Addr) (op lo ns wds : List Str) (oo cc nn : Str) (fl : Int) (m : Nat), Tl op lo NS NO oo cc nn ns → (∀ w ∈ wds, w ∈ words7) → wds.length ≤ 30 → 1 ≤ wds.length → cc = oo ++ ("c" : Str) → nn = oo ++ ("n" : Str) →
      FnG P w K mg base CX0 (5 + 13 * m) fM fdM psMake (spMake d c tl (TlA d c tl ao al an aw op lo ns wds oo fl) (GM op lo NS NO m) (CdM NS NO oo cc m)) := fun NS NO d c tl ao al an aw op lo ns wds oo cc nn fl m T h1 h2 h3 h4 h5 =>
    make_rec FM bM gM FF bF gF T h1 h2 h3 h4 h5 (DP.up (by decide)) (dO.ok fun f fd F => okOwn F DD DP m_dict) (dX.ok fun f fd F => okOther F DD DP m_dict m_int m_len m_list) (dC.ok fun f fd F => okCalls F DA m_dict) (DD.up (by decide)) m_dict m_int m_len m_repr m_isinstance m_list m_tuple m
  refine ⟨fM, fdM, ⟨fun vs H Q E z => ?_, fun A o s H r us vs Q E g hr e b v z => ?_⟩, bM, gM, FM.kp⟩
  · obtain ⟨NS, NO, d, c, tl, ao, al, an, aw, op, lo, ns, wds, oo, cc, nn, fl, m, hm, T, h1, h2, h3, h4, h5, z⟩ := z
    exact (all NS NO d c tl ao al an aw op lo ns wds oo cc nn fl m T h1 h2 h3 h4 h5).cnt vs H Q E z
  · obtain ⟨NS, NO, d, c, tl, ao, al, an, aw, op, lo, ns, wds, oo, cc, nn, fl, m, hm, T, h1, h2, h3, h4, h5, z⟩ := z
    exact ((all NS NO d c tl ao al an aw op lo ns wds oo cc nn fl m T h1 h2 h3 h4 h5).up (by omega)).go A o s H r us vs Q E g hr e b v z
end
end Kq
/-! _law_term -/
namespace Kq
open PySem PySem.Spec PyProof.Rows L2 Kf Kg Kv Kk Ku
theorem TlA.put {d c tl ao al an aw : Addr} {op lo ns ws : List Str} {o : Str} {fl fl' : Int} {H : Hp} (J : TlA d c tl ao al an aw op lo ns ws o fl H) : TlA d c tl ao al an aw op lo ns ws o fl' (upd H tl (.dK [((.inr "opens" : Key), V.ref ao), (.inr "looked", .ref al), (.inr "names", .ref an), (.inr "own", .str o), (.inr "faults", .int fl'), (.inr "words", .ref aw)])) := by
  have n : ∀ {a : Addr} {xs : List V}, H a = some (.lst xs) → a ≠ tl := fun g w => by rw [w, J.ht] at g; cases g
  exact ⟨upd_same, by rw [upd_ne (n J.ho)]; exact J.ho, by rw [upd_ne (n J.hl)]; exact J.hl, by rw [upd_ne (n J.hn)]; exact J.hn, by rw [upd_ne (n J.hw)]; exact J.hw, J.nt, J.no, J.nl, J.nn, J.nw⟩
/-- all but the deck and the tools stays -/
def Kp3 (d c tl : Addr) (H G : Hp) : Prop := ∀ b o, b ≠ d → b ≠ c → b ≠ tl → H b = some o → G b = some o
theorem Kp3.of {d c tl : Addr} {H G : Hp} (k : Kp d c H G) : Kp3 d c tl H G := fun b o h1 h2 _ e => k b o h1 h2 e
theorem Kp3.trans {d c tl : Addr} {H G F : Hp} (k : Kp3 d c tl H G) (l : Kp3 d c tl G F) : Kp3 d c tl H F := fun b o h1 h2 h3 e => l b o h1 h2 h3 (k b o h1 h2 h3 e)
/-- a kind of which a term is drawn -/
structure Wk0 (NO : List Str) (oo : Str) (k : Kd) : Prop where
  sz : k.size ≤ 31
  op : ∀ x ∈ k.opens, x ∈ NO
  nm : ∀ x ∈ k.opens, Nm x
  td : k.tdk 2
  dp : k.dp ≤ 7
  mu : k.mu ≤ 6
  oo : oo ∉ k.opens
theorem Wk0.inv {NS NO : List Str} {oo cc : Str} {k : Kd} (w : Wk0 NO oo k) {i : Int} (h : i ≤ 6) : Inv1 NS NO oo cc i [] k :=
  ⟨⟨Nat.le_trans w.sz wb_55, w.op, w.nm, Kd.tdk_up db_3 w.td, Nat.le_trans w.dp (by decide), Nat.le_trans w.mu (by decide)⟩, fun f hf => (by cases hf), .inr ⟨w.oo, fun f hf => (by cases hf)⟩, by show (0 : Int) ≤ _; omega, h⟩
section
variable {P : Program} {w : World} {K : PySem.W.Frag} {mg : Str → Option Value} {base : Heap} {NS NO lk : List Str} {cN : Addr}
abbrev tTerm : Stmt := tp 19
abbrev nTerm : List Str := ["_law_deck_here", "_law_tools_here", "_law_known", "_law_kind", "_law_deep", "_law_less", "_law_term_here", "_law_many", "_law_within"]
abbrev psTerm : List Str := ["_law_deck_here", "_law_tools_here", "_law_known", "_law_kind", "_law_deep"]
theorem scTerm : FnScope nTerm psTerm (defScope tTerm) := ⟨rfl, rfl, rfl, by decide +kernel, rfl, by decide +kernel, by decide +kernel⟩
def spTerm : Sp := fun vs H Q _ => ∃ (NS NO : List Str) (d c tl ao al an aw kl : Addr) (op lo ns wds : List Str) (oo cc nn : Str) (fl i : Int) (kv : V) (k : Kd), vs = [.ref d, .ref tl, .ref kl, kv, .int i] ∧ Tl op lo NS NO oo cc nn ns ∧ (∀ w ∈ wds, w ∈ words7) ∧ wds.length ≤ 30 ∧ 1 ≤ wds.length ∧ cc = oo ++ ("c" : Str) ∧ nn = oo ++ ("n" : Str) ∧
  Dk H d c ∧ TlA d c tl ao al an aw op lo ns wds oo fl H ∧ H kl = some (.lst []) ∧ kl ≠ d ∧ kl ≠ c ∧ Dd Non H k.dt kv ∧ 1 ≤ i ∧ i ≤ 6 ∧ Wk0 NO oo k ∧
  ∀ (v : V) (t : Tm) (G : Hp) (fl' : Int), Kp3 d c tl H G → Dk G d c → TlA d c tl ao al an aw op lo ns wds oo fl' G → Dd Non G t.dt v → Good op lo NS NO [] k t → t.tn ≤ 60 → t.dp ≤ 11 → Q v G
theorem okTerm {f : Addr} {fd : FuncData} {k : Nat} (F : Fun K "_law_term" "_law_term" tTerm f fd)
    (DM : OkdG P w K mg base CX0 (k) "_law_make" ["_law_deck_here", "_law_tools_here", "_law_known", "_law_kind", "_law_deep"] spMakeU)
    (DS : Okd P w K mg base CX0 (k) "_law_measured" ["_law_term_here"] (spMeas 221))
    (m_range : mg "range" = none) : FnG P w K mg base CX0 (k + 1) f fd psTerm spTerm := by
  obtain ⟨fM, fdM, GM, bM, gM, kM⟩ := DM
  obtain ⟨fS, fdS, GS, bS, gS, kS⟩ := DS
  refine okG F scTerm (fun vs H Q E h => ?_) (fun cdv A outer s H vs Q E still hr h => ?_)
  · obtain ⟨NS, NO, d, c, tl, ao, al, an, aw, kl, op, lo, ns, wds, oo, cc, nn, fl, i, kv, k0, rfl, _⟩ := h
    rfl
  obtain ⟨NS, NO, d, c, tl, ao, al, an, aw, kl, op, lo, ns, wds, oo, cc, nn, fl, i, kv, kk, rfl, T, h1, h2, h3, h4, h5, dk, J, gl, od, oc, dd, i1, i4, wk, q⟩ := h
  have hu : (cxOf CX0 P w K mg base nTerm "_law_term" (defScope tTerm) f cdv A outer s H E).nox.A.units + (20 + 1) < cLine := by
    have := hr.un
    show (A.deeper _).units + (20 + 1) < cLine
    omega
  refine ⟨_, pss_cons (ps_for PassesOwn.never rfl (pi_range1 (by rfl) m_range (pa_cons pe_int pa_nil)) (pg_name (i := 5) scTerm.nd rfl (.inl rfl))
      (pss_cons (ps_set (i := 6) scTerm.nd rfl (.inl rfl) (pe_callG GM still hr (by rfl) gM kM bM .nil pass0 (pa_cons (pv 0) (pa_cons (pv 1) (pa_cons (pv 2) (pa_cons (pv 3) (pa_cons (pe_op op_sub (pv 4) (pe_op op_mul pe_int (pv 5))) pa_nil)))))))
    (pss_cons (ps_asg (pe_call GS hr (by rfl) gS kS bS .nil pass0 (pa_cons (pv 6) pa_nil)) (pg_tup rfl (pgs_cons (pg_name (i := 7) scTerm.nd rfl (.inl rfl)) (pgs_cons (pg_name (i := 8) scTerm.nd rfl (.inl rfl)) pgs_nil))))
    (pss_one (ps_if (PW.pt (pw_and (pt_cmpR op_le (pv 7) pe_int (nomark _)) (pw_and1 (pt_cmpR op_le (pv 8) pe_int (nomark _))))) (pss_one (ps_ret (pv 6))) pss_nil)))))
    (pss_cons (ps_asg pe_int (pg_sub (pv 1) pe_str (set_dict (hu_of hr))))
    (pss_one (ps_ret (pe_callG GM still hr (by rfl) gM kM bM .nil pass0 (pa_cons (pv 0) (pa_cons (pv 1) (pa_cons (pv 2) (pa_cons (pv 3) (pa_cons (pe_un un_neg pe_int) pa_nil))))))))), ?_⟩
  have ntl : kl ≠ tl := fun w => by rw [w, J.ht] at gl; cases gl
  refine ⟨3, rfl, by decide, by decide, ?_⟩
  refine for_range (lo := 0) (n := 3) (fun j σ G => ∃ (y5 y6 y7 y8 : Option V), σ = [some (.ref d), some (.ref tl), some (.ref kl), some kv, some (.int i), y5, y6, y7, y8] ∧ Kp d c H G ∧ Dk G d c) ⟨_, _, _, _, rfl, Kp.rfl, dk⟩ (fun j σ G hj z => ?_) (fun σ G z => ?_)
  · obtain ⟨y5, y6, y7, y8, rfl, kG, dG⟩ := z
    have dd1 := dd.kn (Kn.tk (Tk.kp kG dk))
    refine ⟨_, rfl, _, rfl, _, rfl, _, rfl, _, rfl, _, rfl, _, _, rfl, rfl, .inl ⟨by decide, by decide⟩, _, _, rfl, rfl, ?_⟩
    refine ⟨NS, NO, d, c, tl, ao, al, an, aw, op, lo, ns, wds, oo, cc, nn, fl, 17, Nat.le_refl _, T, h1, h2, h3, h4, h5, kl, [], [], kv, kk, _, rfl, dG, J.kp kG, kG _ _ od oc gl, od, oc, .nil, dd1, ⟨by omega, fun w => by have := wk.mu; omega, wk.inv (by omega)⟩, fun v t G2 k2 e2 dt gm => ?_⟩
    obtain ⟨gd, gp, _⟩ := gm
    obtain ⟨nt, _⟩ := gd.nt T.lo
    refine ⟨_, rfl, v, t, rfl, dt, nt, by omega, fun p5 G5 s5 g5 => ?_⟩
    refine ⟨p5, _, rfl, SqT.of g5, rfl, _, _, rfl, _, _, rfl, rfl, _, rfl, _, _, rfl, rfl, _, rfl, ?_⟩
    have k5 := (kG.trans k2).trans (.of s5)
    have e5 := e2.same s5
    refine ite2 (fun c1 => ⟨_, rfl, _, _, rfl, rfl, _, rfl, ite2 (fun c2 => ?_) (fun c2 => ⟨_, _, _, _, rfl, k5, e5⟩)⟩) (fun c1 => iteF ⟨_, _, _, _, rfl, k5, e5⟩)
    have t1 := of_decide_eq_true c1
    have t2 := of_decide_eq_true c2
    exact ⟨_, rfl, q v t G5 fl (Kp3.of k5) e5 (J.kp k5) (dt.same s5) gd (by omega) (by omega)⟩
  obtain ⟨y5, y6, y7, y8, rfl, kG, dG⟩ := z
  have J1 := J.kp kG
  refine ⟨_, rfl, _, _, rfl, DPut.k (k := .inr "faults") J1.ht (by show 6 < sizeLine; decide), ?_⟩
  rw [show putK [((.inr "opens" : Key), V.ref ao), (.inr "looked", .ref al), (.inr "names", .ref an), (.inr "own", .str oo), (.inr "faults", .int fl), (.inr "words", .ref aw)] (.inr "faults") (.int 0) = [((.inr "opens" : Key), V.ref ao), (.inr "looked", .ref al), (.inr "names", .ref an), (.inr "own", .str oo), (.inr "faults", .int 0), (.inr "words", .ref aw)] from rfl]
  have J2 := J1.put (fl' := 0)
  have dG2 : Dk (upd G tl (.dK [((.inr "opens" : Key), V.ref ao), (.inr "looked", .ref al), (.inr "names", .ref an), (.inr "own", .str oo), (.inr "faults", .int 0), (.inr "words", .ref aw)])) d c := dG.put J.nt.1 J.nt.2
  have kd : Kv.Kn Non G (upd G tl (.dK [((.inr "opens" : Key), V.ref ao), (.inr "looked", .ref al), (.inr "names", .ref an), (.inr "own", .str oo), (.inr "faults", .int 0), (.inr "words", .ref aw)])) := Kn.rfl.put (fun z => z) fun _ z => by rw [J1.ht] at z; cases z
  have dd2 := (dd.kn (Kn.tk (Tk.kp kG dk))).kn kd
  have gl2 : (upd G tl (.dK [((.inr "opens" : Key), V.ref ao), (.inr "looked", .ref al), (.inr "names", .ref an), (.inr "own", .str oo), (.inr "faults", .int 0), (.inr "words", .ref aw)])) kl = some (.lst []) := by rw [upd_ne ntl]; exact kG _ _ od oc gl
  have k3 : Kp3 d c tl H (upd G tl (.dK [((.inr "opens" : Key), V.ref ao), (.inr "looked", .ref al), (.inr "names", .ref an), (.inr "own", .str oo), (.inr "faults", .int 0), (.inr "words", .ref aw)])) := fun b u n1 n2 n3 e => by rw [upd_ne n3]; exact kG b u n1 n2 e
  generalize upd G tl (.dK [((.inr "opens" : Key), V.ref ao), (.inr "looked", .ref al), (.inr "names", .ref an), (.inr "own", .str oo), (.inr "faults", .int 0), (.inr "words", .ref aw)]) = G2 at J2 dG2 dd2 gl2 k3
  refine ⟨_, rfl, _, rfl, _, rfl, _, rfl, _, rfl, NS, NO, d, c, tl, ao, al, an, aw, op, lo, ns, wds, oo, cc, nn, 0, 9, by decide, T, h1, h2, h3, h4, h5, kl, [], [], kv, kk, _, rfl, dG2, J2, gl2, od, oc, .nil, dd2, ⟨by decide, fun w => by have := wk.mu; omega, wk.inv (by decide)⟩, fun v t G3 kp3 e3 dt gm => ?_⟩
  obtain ⟨gd, gp, gx⟩ := gm
  obtain ⟨x1, x2⟩ := gx rfl
  have := wk.sz
  have := wk.mu
  exact q v t G3 0 (k3.trans (.of kp3)) e3 (J2.kp kp3) dt gd (by omega) (by omega)
end
end Kq
/-! tools; _law_is_texts; _law_chain -/
namespace Kq
open PySem PySem.Spec PyProof.Rows L2 Kf Kg Kv Kk Ku
theorem len10 {xs : List Str} (h : xs.length = 10) : ∃ y0 y1 y2 y3 y4 y5 y6 y7 y8 y9, xs = [y0, y1, y2, y3, y4, y5, y6, y7, y8, y9] := by
  match xs, h with
  | [y0, y1, y2, y3, y4, y5, y6, y7, y8, y9], _ => exact ⟨y0, y1, y2, y3, y4, y5, y6, y7, y8, y9, rfl⟩
section
variable {P : Program} {w : World} {K : PySem.W.Frag} {mg : Str → Option Value} {base : Heap} {NS NO lk : List Str} {cN : Addr}
end
end Kq

/-! terms with more rounds -/
namespace Kq
open PySem PySem.Spec PyProof.Rows L2 Kf Kg Kv Kk Ku
/-- each rounds by so many more -/
def Tm.mo (n : Int) : Tm → Tm
  | .name x => .name x
  | .fn x k t => .fn x k (t.mo n)
  | .call a b => .call (a.mo n) (b.mo n)
  | .num i => .num i
  | .plus a b => .plus (a.mo n) (b.mo n)
  | .less a b => .less (a.mo n) (b.mo n)
  | .tru i => .tru i
  | .iff a b c => .iff (a.mo n) (b.mo n) (c.mo n)
  | .pair a b => .pair (a.mo n) (b.mo n)
  | .fst a => .fst (a.mo n)
  | .snd a => .snd (a.mo n)
  | .left a k => .left (a.mo n) k
  | .right k a => .right k (a.mo n)
  | .case a x b y c => .case (a.mo n) x (b.mo n) y (c.mo n)
  | .none k => .none k
  | .more a b => .more (a.mo n) (b.mo n)
  | .fold a b x y t => .fold (a.mo n) (b.mo n) x y (t.mo n)
  | .built k o x y t => .built k o x y (t.mo n)
  | .alike a b => .alike (a.mo n) (b.mo n)
  | .fault k => .fault k
  | .rounds m a x t => .rounds (min (m + n) 30) (a.mo n) x (t.mo n)
  | .told f fs => .told f fs
theorem mo_sz {n : Int} : ∀ t : Tm, (t.mo n).dt.dp = t.dt.dp ∧ (t.mo n).dt.wt = t.dt.wt := by
  intro t
  induction t with
  | name x => exact ⟨rfl, rfl⟩
  | fn x k t it => simp only [Tm.mo, Tm.dt, Dt.dp, Dt.dps, Dt.wt, Dt.wts, it.1, it.2, and_self]
  | call a b ia ib => simp only [Tm.mo, Tm.dt, Dt.dp, Dt.dps, Dt.wt, Dt.wts, ia.1, ia.2, ib.1, ib.2, and_self]
  | num i => exact ⟨rfl, rfl⟩
  | plus a b ia ib => simp only [Tm.mo, Tm.dt, Dt.dp, Dt.dps, Dt.wt, Dt.wts, ia.1, ia.2, ib.1, ib.2, and_self]
  | less a b ia ib => simp only [Tm.mo, Tm.dt, Dt.dp, Dt.dps, Dt.wt, Dt.wts, ia.1, ia.2, ib.1, ib.2, and_self]
  | tru i => exact ⟨rfl, rfl⟩
  | iff a b c ia ib ic => simp only [Tm.mo, Tm.dt, Dt.dp, Dt.dps, Dt.wt, Dt.wts, ia.1, ia.2, ib.1, ib.2, ic.1, ic.2, and_self]
  | pair a b ia ib => simp only [Tm.mo, Tm.dt, Dt.dp, Dt.dps, Dt.wt, Dt.wts, ia.1, ia.2, ib.1, ib.2, and_self]
  | fst a ia => simp only [Tm.mo, Tm.dt, Dt.dp, Dt.dps, Dt.wt, Dt.wts, ia.1, ia.2, and_self]
  | snd a ia => simp only [Tm.mo, Tm.dt, Dt.dp, Dt.dps, Dt.wt, Dt.wts, ia.1, ia.2, and_self]
  | left a k ia => simp only [Tm.mo, Tm.dt, Dt.dp, Dt.dps, Dt.wt, Dt.wts, ia.1, ia.2, and_self]
  | right k a ia => simp only [Tm.mo, Tm.dt, Dt.dp, Dt.dps, Dt.wt, Dt.wts, ia.1, ia.2, and_self]
  | case a x b y c ia ib ic => simp only [Tm.mo, Tm.dt, Dt.dp, Dt.dps, Dt.wt, Dt.wts, ia.1, ia.2, ib.1, ib.2, ic.1, ic.2, and_self]
  | none k => exact ⟨rfl, rfl⟩
  | more a b ia ib => simp only [Tm.mo, Tm.dt, Dt.dp, Dt.dps, Dt.wt, Dt.wts, ia.1, ia.2, ib.1, ib.2, and_self]
  | fold a b x y t ia ib it => simp only [Tm.mo, Tm.dt, Dt.dp, Dt.dps, Dt.wt, Dt.wts, ia.1, ia.2, ib.1, ib.2, it.1, it.2, and_self]
  | built k o x y t it => simp only [Tm.mo, Tm.dt, Dt.dp, Dt.dps, Dt.wt, Dt.wts, it.1, it.2, and_self]
  | alike a b ia ib => simp only [Tm.mo, Tm.dt, Dt.dp, Dt.dps, Dt.wt, Dt.wts, ia.1, ia.2, ib.1, ib.2, and_self]
  | fault k => exact ⟨rfl, rfl⟩
  | rounds m a x t ia it => simp only [Tm.mo, Tm.dt, Dt.dp, Dt.dps, Dt.wt, Dt.wts, ia.1, ia.2, it.1, it.2, and_self]
  | told f fs => exact ⟨rfl, rfl⟩
theorem mo_wf {n : Int} (hn : 0 ≤ n) : ∀ {t : Tm}, t.wf → (t.mo n).wf := by
  intro t
  induction t with
  | name x => exact fun h => h
  | fn x k t it =>
    intro h
    obtain ⟨hx, hk, ht⟩ := h
    exact ⟨hx, hk, it ht⟩
  | call a b ia ib =>
    intro h
    obtain ⟨ha, hb⟩ := h
    exact ⟨ia ha, ib hb⟩
  | num i => exact fun h => h
  | plus a b ia ib =>
    intro h
    obtain ⟨ha, hb⟩ := h
    exact ⟨ia ha, ib hb⟩
  | less a b ia ib =>
    intro h
    obtain ⟨ha, hb⟩ := h
    exact ⟨ia ha, ib hb⟩
  | tru i => exact fun h => h
  | iff a b c ia ib ic =>
    intro h
    obtain ⟨ha, hb, hc⟩ := h
    exact ⟨ia ha, ib hb, ic hc⟩
  | pair a b ia ib =>
    intro h
    obtain ⟨ha, hb⟩ := h
    exact ⟨ia ha, ib hb⟩
  | fst a ia => exact fun h => ia h
  | snd a ia => exact fun h => ia h
  | left a k ia =>
    intro h
    obtain ⟨ha, hk⟩ := h
    exact ⟨ia ha, hk⟩
  | right k a ia =>
    intro h
    obtain ⟨hk, ha⟩ := h
    exact ⟨hk, ia ha⟩
  | case a x b y c ia ib ic =>
    intro h
    obtain ⟨ha, hx, hb, hy, hc⟩ := h
    exact ⟨ia ha, hx, ib hb, hy, ic hc⟩
  | none k => exact fun h => h
  | more a b ia ib =>
    intro h
    obtain ⟨ha, hb⟩ := h
    exact ⟨ia ha, ib hb⟩
  | fold a b x y t ia ib it =>
    intro h
    obtain ⟨ha, hb, hx, hy, ht, hn⟩ := h
    exact ⟨ia ha, ib hb, hx, hy, it ht, hn⟩
  | built k o x y t it =>
    intro h
    obtain ⟨hk, ho, hx, hy, ht, hn⟩ := h
    exact ⟨hk, ho, hx, hy, it ht, hn⟩
  | alike a b ia ib =>
    intro h
    obtain ⟨ha, hb⟩ := h
    exact ⟨ia ha, ib hb⟩
  | fault k => exact fun h => h
  | rounds m a x t ia it =>
    intro h
    obtain ⟨hm, ha, hx, ht⟩ := h
    exact ⟨⟨by omega, by omega⟩, ia ha, hx, it ht⟩
  | told f fs => exact fun h => h
theorem mo_nt {n : Int} : ∀ {t : Tm}, t.nt → (t.mo n).nt := by
  intro t
  induction t with
  | name x => exact fun h => h
  | fn x k t it => exact fun h => it h
  | call a b ia ib => exact fun h => ⟨ia h.1, ib h.2⟩
  | num i => exact fun h => h
  | plus a b ia ib => exact fun h => ⟨ia h.1, ib h.2⟩
  | less a b ia ib => exact fun h => ⟨ia h.1, ib h.2⟩
  | tru i => exact fun h => h
  | iff a b c ia ib ic => exact fun h => ⟨ia h.1, ib h.2.1, ic h.2.2⟩
  | pair a b ia ib => exact fun h => ⟨ia h.1, ib h.2⟩
  | fst a ia => exact fun h => ia h
  | snd a ia => exact fun h => ia h
  | left a k ia => exact fun h => ia h
  | right k a ia => exact fun h => ia h
  | case a x b y c ia ib ic => exact fun h => ⟨ia h.1, ib h.2.1, ic h.2.2⟩
  | none k => exact fun h => h
  | more a b ia ib => exact fun h => ⟨ia h.1, ib h.2⟩
  | fold a b x y t ia ib it => exact fun h => ⟨ia h.1, ib h.2.1, it h.2.2⟩
  | built k o x y t it => exact fun h => it h
  | alike a b ia ib => exact fun h => ⟨ia h.1, ib h.2⟩
  | fault k => exact fun h => h
  | rounds m a x t ia it => exact fun h => ⟨ia h.1, it h.2⟩
  | told f fs => exact fun h => h
theorem mo_mo {m n : Int} (hm : 0 ≤ m) (hn : 0 ≤ n) : ∀ t : Tm, (t.mo m).mo n = t.mo (m + n) := by
  intro t
  induction t with
  | name x => rfl
  | fn x k t it => simp only [Tm.mo, it]
  | call a b ia ib => simp only [Tm.mo, ia, ib]
  | num i => rfl
  | plus a b ia ib => simp only [Tm.mo, ia, ib]
  | less a b ia ib => simp only [Tm.mo, ia, ib]
  | tru i => rfl
  | iff a b c ia ib ic => simp only [Tm.mo, ia, ib, ic]
  | pair a b ia ib => simp only [Tm.mo, ia, ib]
  | fst a ia => simp only [Tm.mo, ia]
  | snd a ia => simp only [Tm.mo, ia]
  | left a k ia => simp only [Tm.mo, ia]
  | right k a ia => simp only [Tm.mo, ia]
  | case a x b y c ia ib ic => simp only [Tm.mo, ia, ib, ic]
  | none k => rfl
  | more a b ia ib => simp only [Tm.mo, ia, ib]
  | fold a b x y t ia ib it => simp only [Tm.mo, ia, ib, it]
  | built k o x y t it => simp only [Tm.mo, it]
  | alike a b ia ib => simp only [Tm.mo, ia, ib]
  | fault k => rfl
  | rounds m0 a x t ia it => simp only [Tm.mo, ia, it]; congr 1; clear ia it; omega
  | told f fs => rfl
theorem kdt_dp : ∀ k : Kd, k.dt.dp ≤ k.dp + 1 := by
  intro k
  induction k with
  | opn x => exact Nat.le_refl _
  | num => exact Nat.le_refl _
  | tru => exact Nat.le_refl _
  | pair a b i j => show max 0 (max a.dt.dp (max b.dt.dp 0)) + 1 ≤ max a.dp b.dp + 1 + 1; omega
  | eith a b i j => show max 0 (max a.dt.dp (max b.dt.dp 0)) + 1 ≤ max a.dp b.dp + 1 + 1; omega
  | lst a i => show max 0 (max a.dt.dp 0) + 1 ≤ a.dp + 1 + 1; omega
  | fn a b i j => show max 0 (max a.dt.dp (max b.dt.dp 0)) + 1 ≤ max a.dp b.dp + 1 + 1; omega
theorem chk_dp {lk NS NO : List Str} : ∀ {t : Tm} {e : Ek} {k : Kd}, Sml lk NS NO t e → chk lk t e = some k → t.dt.dp ≤ t.dp + 52 := by
  intro t
  induction t with
  | name x => intro e k s h; exact (by simp only [Tm.dt, Tm.dp, Dt.dp, Dt.dps]; omega)
  | num => intro e k s h; exact (by simp only [Tm.dt, Tm.dp, Dt.dp, Dt.dps]; omega)
  | tru => intro e k s h; exact (by simp only [Tm.dt, Tm.dp, Dt.dp, Dt.dps]; omega)
  | none k => intro e r s h; exact (by have := s.dp; have h2 := kdt_dp k; have h1 : k.dp + 1 ≤ 50 := this; simp only [Tm.dt, Tm.dp, Dt.dp, Dt.dps]; omega)
  | fault k => intro e r s h; exact (by have := s.dp; have h2 := kdt_dp k; simp only [Tm.dt, Tm.dp, Dt.dp, Dt.dps]; omega)
  | told f fs => intro e r s h; rw [chk] at h; cases h
  | fn x k t i =>
    intro e r s h
    obtain ⟨_, gk, st, hr⟩ := s
    rw [chk] at h
    obtain ⟨q, hq, rfl⟩ := Option.map_eq_some_iff.mp h
    have b := i st hq
    exact (by have := gk.dp; have h2 := kdt_dp k; simp only [Tm.dt, Tm.dp, Dt.dp, Dt.dps]; omega)
  | call a b i j =>
    intro e r s h
    rw [chk] at h
    obtain ⟨p, hp, h⟩ := Option.bind_eq_some_iff.mp h
    obtain ⟨y, hy, h⟩ := Option.bind_eq_some_iff.mp h
    have b1 := i s.1 (fnOf_eq hp)
    have b2 := j (s.2 (by rw [hp]; exact fun z => by cases z)) hy
    exact (by simp only [Tm.dt, Tm.dp, Dt.dp, Dt.dps]; omega)
  | plus a b i j =>
    intro e r s h
    rw [chk] at h
    obtain ⟨p, hp, h⟩ := Option.bind_eq_some_iff.mp h
    obtain ⟨y, hy, h⟩ := Option.bind_eq_some_iff.mp h
    obtain ⟨q, hq, _⟩ := Option.bind_eq_some_iff.mp hp
    have b1 := i s.1 hq
    have b2 := j (s.2 (by rw [hp]; exact fun z => by cases z)) hy
    exact (by simp only [Tm.dt, Tm.dp, Dt.dp, Dt.dps]; omega)
  | less a b i j =>
    intro e r s h
    rw [chk] at h
    obtain ⟨p, hp, h⟩ := Option.bind_eq_some_iff.mp h
    obtain ⟨q, hq, h⟩ := Option.bind_eq_some_iff.mp h
    obtain ⟨u, hu, _⟩ := Option.bind_eq_some_iff.mp hp
    obtain ⟨w, hw, _⟩ := Option.bind_eq_some_iff.mp hq
    have b1 := i s.1 hu
    have b2 := j (s.2 (by rw [hp]; exact fun z => by cases z)) hw
    exact (by simp only [Tm.dt, Tm.dp, Dt.dp, Dt.dps]; omega)
  | iff a b c i j l =>
    intro e r s h
    rw [chk] at h
    obtain ⟨p, hp, h⟩ := Option.bind_eq_some_iff.mp h
    obtain ⟨y, hy, h⟩ := Option.bind_eq_some_iff.mp h
    obtain ⟨z, hz, h⟩ := Option.bind_eq_some_iff.mp h
    obtain ⟨u, hu, _⟩ := Option.bind_eq_some_iff.mp hp
    have b1 := i s.1 hu
    have b2 := j s.2.1 hy
    have b3 := l s.2.2 hz
    exact (by simp only [Tm.dt, Tm.dp, Dt.dp, Dt.dps]; omega)
  | pair a b i j =>
    intro e r s h
    rw [chk] at h
    obtain ⟨p, hp, h⟩ := Option.bind_eq_some_iff.mp h
    obtain ⟨q, hq, rfl⟩ := Option.map_eq_some_iff.mp h
    have b1 := i s.1 (daOf_eq hp).1
    have b2 := j s.2.1 (daOf_eq hq).1
    exact (by simp only [Tm.dt, Tm.dp, Dt.dp, Dt.dps]; omega)
  | fst a i =>
    intro e r s h
    rw [chk] at h
    obtain ⟨q, hq, rfl⟩ := Option.map_eq_some_iff.mp h
    have b1 := i s (prOf_eq hq)
    exact (by simp only [Tm.dt, Tm.dp, Dt.dp, Dt.dps]; omega)
  | snd a i =>
    intro e r s h
    rw [chk] at h
    obtain ⟨q, hq, rfl⟩ := Option.map_eq_some_iff.mp h
    have b1 := i s (prOf_eq hq)
    exact (by simp only [Tm.dt, Tm.dp, Dt.dp, Dt.dps]; omega)
  | left a k i =>
    intro e r s h
    rw [chk] at h
    obtain ⟨q, hq, rfl⟩ := Option.map_eq_some_iff.mp h
    have b1 := i s.2.1 (daOf_eq hq).1
    exact (by have := s.1.dp; have h2 := kdt_dp k; simp only [Tm.dt, Tm.dp, Dt.dp, Dt.dps]; omega)
  | right k a i =>
    intro e r s h
    rw [chk] at h
    obtain ⟨q, hq, rfl⟩ := Option.map_eq_some_iff.mp h
    have b1 := i s.2.1 (daOf_eq hq).1
    exact (by have := s.1.dp; have h2 := kdt_dp k; simp only [Tm.dt, Tm.dp, Dt.dp, Dt.dps]; omega)
  | case a x b y c i j l =>
    intro e r s h
    rw [chk] at h
    obtain ⟨p, hp, h⟩ := Option.bind_eq_some_iff.mp h
    obtain ⟨q, hq, h⟩ := Option.bind_eq_some_iff.mp h
    obtain ⟨z, hz, h⟩ := Option.bind_eq_some_iff.mp h
    have hp := eiOf_eq hp
    obtain ⟨s1, s2⟩ := s.2.2.2 _ _ hp
    have b1 := i s.2.2.1 hp
    have b2 := j s1 hq
    have b3 := l s2 hz
    exact (by simp only [Tm.dt, Tm.dp, Dt.dp, Dt.dps]; omega)
  | more a b i j =>
    intro e r s h
    rw [chk] at h
    obtain ⟨p, hp, h⟩ := Option.bind_eq_some_iff.mp h
    obtain ⟨q, hq, h⟩ := Option.bind_eq_some_iff.mp h
    have b1 := i s.1 hp
    have b2 := j s.2.1 hq
    exact (by simp only [Tm.dt, Tm.dp, Dt.dp, Dt.dps]; omega)
  | fold a b x y t i j l =>
    intro e r s h
    rw [chk] at h
    obtain ⟨p, hp, h⟩ := Option.bind_eq_some_iff.mp h
    obtain ⟨q, hq, h⟩ := Option.bind_eq_some_iff.mp h
    obtain ⟨z, hz, h⟩ := Option.bind_eq_some_iff.mp h
    have hp := lsOf_eq hp
    have b1 := i s.2.2.1 hp
    have b2 := j s.2.2.2.1 (daOf_eq hq).1
    have b3 := l (s.2.2.2.2 _ _ hp (daOf_eq hq).1) hz
    exact (by simp only [Tm.dt, Tm.dp, Dt.dp, Dt.dps]; omega)
  | built k o x y t i =>
    intro e r s h
    rw [chk] at h
    by_cases c : met lk e o k
    · rw [if_pos c] at h
      cases h
    · rw [if_neg c] at h
      obtain ⟨q, hq, h⟩ := Option.bind_eq_some_iff.mp h
      obtain ⟨_, _, _, g1, _, s2⟩ := s
      have b1 := i (s2 c) hq
      exact (by have := g1.dp; have h2 := kdt_dp k; have h1 : k.dp + 1 ≤ 50 := this; simp only [Tm.dt, Tm.dp, Dt.dp, Dt.dps]; omega)
  | alike a b i j =>
    intro e r s h
    rw [chk] at h
    obtain ⟨p, hp, h⟩ := Option.bind_eq_some_iff.mp h
    obtain ⟨q, hq, h⟩ := Option.bind_eq_some_iff.mp h
    obtain ⟨u, hu, _⟩ := Option.bind_eq_some_iff.mp hp
    have b1 := i s.1 hu
    have b2 := j s.2 hq
    exact (by simp only [Tm.dt, Tm.dp, Dt.dp, Dt.dps]; omega)
  | rounds m a x t i j =>
    intro e r s h
    rw [chk] at h
    obtain ⟨p, hp, h⟩ := Option.bind_eq_some_iff.mp h
    obtain ⟨q, hq, h⟩ := Option.bind_eq_some_iff.mp h
    have hp := (daOf_eq hp).1
    obtain ⟨u, hu, _⟩ := Option.bind_eq_some_iff.mp hq
    have b1 := i s.2.1 hp
    have b2 := j (s.2.2 _ hp) hu
    exact (by simp only [Tm.dt, Tm.dp, Dt.dp, Dt.dps]; omega)
theorem toD_eq : ∀ k : Kd, k.dt.toP = toD k := by
  intro k
  induction k with
  | opn x => rfl
  | num => rfl
  | tru => rfl
  | pair a b i j => simp only [Kd.dt, Dt.toP, Dt.toPs, toD, i, j]
  | eith a b i j => simp only [Kd.dt, Dt.toP, Dt.toPs, toD, i, j]
  | lst a i => simp only [Kd.dt, Dt.toP, Dt.toPs, toD, i]
  | fn a b i j => simp only [Kd.dt, Dt.toP, Dt.toPs, toD, i, j]
theorem kd_lay {k : Kd} (h : ∀ x ∈ k.opens, Nm x) : k.dt.toP.canLay0 = true := by rw [toD_eq]; exact (layT k h).1
theorem t_ok : PyData.strOk ("name" : Str) = true ∧ PyData.strOk ("fun" : Str) = true ∧ PyData.strOk ("call" : Str) = true ∧ PyData.strOk ("num" : Str) = true ∧ PyData.strOk ("plus" : Str) = true ∧ PyData.strOk ("less" : Str) = true ∧ PyData.strOk ("truth" : Str) = true ∧ PyData.strOk ("if" : Str) = true ∧ PyData.strOk ("pair" : Str) = true ∧ PyData.strOk ("first" : Str) = true ∧ PyData.strOk ("second" : Str) = true ∧ PyData.strOk ("left" : Str) = true ∧ PyData.strOk ("right" : Str) = true ∧ PyData.strOk ("case" : Str) = true ∧ PyData.strOk ("none" : Str) = true ∧ PyData.strOk ("more" : Str) = true ∧ PyData.strOk ("fold" : Str) = true ∧ PyData.strOk ("built" : Str) = true ∧ PyData.strOk ("alike" : Str) = true ∧ PyData.strOk ("fault" : Str) = true ∧ PyData.strOk ("rounds" : Str) = true := by decide +kernel
theorem tm_fine : ∀ {t : Tm}, t.wf → t.nt → t.dt.fine (10 ^ 45) ∧ t.dt.toP.canLay0 = true := by
  obtain ⟨o0, o1, o2, o3, o4, o5, o6, o7, o8, o9, o10, o11, o12, o13, o14, o15, o16, o17, o18, o19, o20⟩ := t_ok
  intro t
  induction t with
  | name x =>
    intro h n
    have hx := h
    exact ⟨⟨wd_fine (by decide +kernel) _, nm_fine hx _, trivial⟩, by simp only [Tm.dt, Dt.toP, Dt.toPs, PyData.canLay0, PyData.canLayAll0, o0, hx.ok, Bool.and_self, Bool.and_true]⟩
  | fn x k t it =>
    intro h n
    obtain ⟨hx, hk, ht⟩ := h
    obtain ⟨ft, lt⟩ := it ht n
    have lk := kd_lay hk.2
    exact ⟨⟨wd_fine (by decide +kernel) _, nm_fine hx _, (kd_fine _ hk.2).1, ft, trivial⟩, by simp only [Tm.dt, Dt.toP, Dt.toPs, PyData.canLay0, PyData.canLayAll0, o1, hx.ok, lk, lt, Bool.and_self, Bool.and_true]⟩
  | call a b ia ib =>
    intro h n
    obtain ⟨ha, hb⟩ := h
    obtain ⟨fa, la⟩ := ia ha n.1
    obtain ⟨fb, lb⟩ := ib hb n.2
    exact ⟨⟨wd_fine (by decide +kernel) _, fa, fb, trivial⟩, by simp only [Tm.dt, Dt.toP, Dt.toPs, PyData.canLay0, PyData.canLayAll0, o2, la, lb, Bool.and_self, Bool.and_true]⟩
  | num i =>
    intro h n
    have hn := h
    exact ⟨⟨wd_fine (by decide +kernel) _, (show i.natAbs < 10 ^ 45 by have := hn.1; have := hn.2; omega), trivial⟩, by simp only [Tm.dt, Dt.toP, Dt.toPs, PyData.canLay0, PyData.canLayAll0, o3, Bool.and_self, Bool.and_true]⟩
  | plus a b ia ib =>
    intro h n
    obtain ⟨ha, hb⟩ := h
    obtain ⟨fa, la⟩ := ia ha n.1
    obtain ⟨fb, lb⟩ := ib hb n.2
    exact ⟨⟨wd_fine (by decide +kernel) _, fa, fb, trivial⟩, by simp only [Tm.dt, Dt.toP, Dt.toPs, PyData.canLay0, PyData.canLayAll0, o4, la, lb, Bool.and_self, Bool.and_true]⟩
  | less a b ia ib =>
    intro h n
    obtain ⟨ha, hb⟩ := h
    obtain ⟨fa, la⟩ := ia ha n.1
    obtain ⟨fb, lb⟩ := ib hb n.2
    exact ⟨⟨wd_fine (by decide +kernel) _, fa, fb, trivial⟩, by simp only [Tm.dt, Dt.toP, Dt.toPs, PyData.canLay0, PyData.canLayAll0, o5, la, lb, Bool.and_self, Bool.and_true]⟩
  | tru i =>
    intro h n
    exact ⟨⟨wd_fine (by decide +kernel) _, trivial, trivial⟩, by simp only [Tm.dt, Dt.toP, Dt.toPs, PyData.canLay0, PyData.canLayAll0, o6, Bool.and_self, Bool.and_true]⟩
  | iff a b c ia ib ic =>
    intro h n
    obtain ⟨ha, hb, hc⟩ := h
    obtain ⟨fa, la⟩ := ia ha n.1
    obtain ⟨fb, lb⟩ := ib hb n.2.1
    obtain ⟨fc, lc⟩ := ic hc n.2.2
    exact ⟨⟨wd_fine (by decide +kernel) _, fa, fb, fc, trivial⟩, by simp only [Tm.dt, Dt.toP, Dt.toPs, PyData.canLay0, PyData.canLayAll0, o7, la, lb, lc, Bool.and_self, Bool.and_true]⟩
  | pair a b ia ib =>
    intro h n
    obtain ⟨ha, hb⟩ := h
    obtain ⟨fa, la⟩ := ia ha n.1
    obtain ⟨fb, lb⟩ := ib hb n.2
    exact ⟨⟨wd_fine (by decide +kernel) _, fa, fb, trivial⟩, by simp only [Tm.dt, Dt.toP, Dt.toPs, PyData.canLay0, PyData.canLayAll0, o8, la, lb, Bool.and_self, Bool.and_true]⟩
  | fst a ia =>
    intro h n
    have ha := h
    obtain ⟨fa, la⟩ := ia ha n
    exact ⟨⟨wd_fine (by decide +kernel) _, fa, trivial⟩, by simp only [Tm.dt, Dt.toP, Dt.toPs, PyData.canLay0, PyData.canLayAll0, o9, la, Bool.and_self, Bool.and_true]⟩
  | snd a ia =>
    intro h n
    have ha := h
    obtain ⟨fa, la⟩ := ia ha n
    exact ⟨⟨wd_fine (by decide +kernel) _, fa, trivial⟩, by simp only [Tm.dt, Dt.toP, Dt.toPs, PyData.canLay0, PyData.canLayAll0, o10, la, Bool.and_self, Bool.and_true]⟩
  | left a k ia =>
    intro h n
    obtain ⟨ha, hk⟩ := h
    obtain ⟨fa, la⟩ := ia ha n
    have lk := kd_lay hk.2
    exact ⟨⟨wd_fine (by decide +kernel) _, fa, (kd_fine _ hk.2).1, trivial⟩, by simp only [Tm.dt, Dt.toP, Dt.toPs, PyData.canLay0, PyData.canLayAll0, o11, la, lk, Bool.and_self, Bool.and_true]⟩
  | right k a ia =>
    intro h n
    obtain ⟨hk, ha⟩ := h
    obtain ⟨fa, la⟩ := ia ha n
    have lk := kd_lay hk.2
    exact ⟨⟨wd_fine (by decide +kernel) _, (kd_fine _ hk.2).1, fa, trivial⟩, by simp only [Tm.dt, Dt.toP, Dt.toPs, PyData.canLay0, PyData.canLayAll0, o12, lk, la, Bool.and_self, Bool.and_true]⟩
  | case a x b y c ia ib ic =>
    intro h n
    obtain ⟨ha, hx, hb, hy, hc⟩ := h
    obtain ⟨fa, la⟩ := ia ha n.1
    obtain ⟨fb, lb⟩ := ib hb n.2.1
    obtain ⟨fc, lc⟩ := ic hc n.2.2
    exact ⟨⟨wd_fine (by decide +kernel) _, fa, nm_fine hx _, fb, nm_fine hy _, fc, trivial⟩, by simp only [Tm.dt, Dt.toP, Dt.toPs, PyData.canLay0, PyData.canLayAll0, o13, la, hx.ok, lb, hy.ok, lc, Bool.and_self, Bool.and_true]⟩
  | none k =>
    intro h n
    have hk := h
    have lk := kd_lay hk.2
    exact ⟨⟨wd_fine (by decide +kernel) _, (kd_fine _ hk.2).1, trivial⟩, by simp only [Tm.dt, Dt.toP, Dt.toPs, PyData.canLay0, PyData.canLayAll0, o14, lk, Bool.and_self, Bool.and_true]⟩
  | more a b ia ib =>
    intro h n
    obtain ⟨ha, hb⟩ := h
    obtain ⟨fa, la⟩ := ia ha n.1
    obtain ⟨fb, lb⟩ := ib hb n.2
    exact ⟨⟨wd_fine (by decide +kernel) _, fa, fb, trivial⟩, by simp only [Tm.dt, Dt.toP, Dt.toPs, PyData.canLay0, PyData.canLayAll0, o15, la, lb, Bool.and_self, Bool.and_true]⟩
  | fold a b x y t ia ib it =>
    intro h n
    obtain ⟨ha, hb, hx, hy, ht, _⟩ := h
    obtain ⟨fa, la⟩ := ia ha n.1
    obtain ⟨fb, lb⟩ := ib hb n.2.1
    obtain ⟨ft, lt⟩ := it ht n.2.2
    exact ⟨⟨wd_fine (by decide +kernel) _, fa, fb, nm_fine hx _, nm_fine hy _, ft, trivial⟩, by simp only [Tm.dt, Dt.toP, Dt.toPs, PyData.canLay0, PyData.canLayAll0, o16, la, lb, hx.ok, hy.ok, lt, Bool.and_self, Bool.and_true]⟩
  | built k o x y t it =>
    intro h n
    obtain ⟨hk, ho, hx, hy, ht, _⟩ := h
    obtain ⟨ft, lt⟩ := it ht n
    have lk := kd_lay hk.2
    exact ⟨⟨wd_fine (by decide +kernel) _, (kd_fine _ hk.2).1, nm_fine ho _, nm_fine hx _, nm_fine hy _, ft, trivial⟩, by simp only [Tm.dt, Dt.toP, Dt.toPs, PyData.canLay0, PyData.canLayAll0, o17, lk, ho.ok, hx.ok, hy.ok, lt, Bool.and_self, Bool.and_true]⟩
  | alike a b ia ib =>
    intro h n
    obtain ⟨ha, hb⟩ := h
    obtain ⟨fa, la⟩ := ia ha n.1
    obtain ⟨fb, lb⟩ := ib hb n.2
    exact ⟨⟨wd_fine (by decide +kernel) _, fa, fb, trivial⟩, by simp only [Tm.dt, Dt.toP, Dt.toPs, PyData.canLay0, PyData.canLayAll0, o18, la, lb, Bool.and_self, Bool.and_true]⟩
  | fault k =>
    intro h n
    have hk := h
    have lk := kd_lay hk.2
    exact ⟨⟨wd_fine (by decide +kernel) _, (kd_fine _ hk.2).1, trivial⟩, by simp only [Tm.dt, Dt.toP, Dt.toPs, PyData.canLay0, PyData.canLayAll0, o19, lk, Bool.and_self, Bool.and_true]⟩
  | rounds m a x t ia it =>
    intro h n
    obtain ⟨hm, ha, hx, ht⟩ := h
    obtain ⟨fa, la⟩ := ia ha n.1
    obtain ⟨ft, lt⟩ := it ht n.2
    exact ⟨⟨wd_fine (by decide +kernel) _, (show m.natAbs < 10 ^ 45 by have := hm.1; have := hm.2; omega), fa, nm_fine hx _, ft, trivial⟩, by simp only [Tm.dt, Dt.toP, Dt.toPs, PyData.canLay0, PyData.canLayAll0, o20, la, hx.ok, lt, Bool.and_self, Bool.and_true]⟩
  | told f fs => exact fun _ h => h.elim
/-- a term that is shown and held against others -/
structure Bg (t : Tm) : Prop where
  wf : t.wf
  nt : t.nt
  dp : t.dt.dp ≤ 63
  wt : t.dt.wt ≤ sizeLine
theorem Bg.mo {n : Int} {t : Tm} (h : Bg t) (hn : 0 ≤ n) : Bg (t.mo n) := ⟨mo_wf hn h.wf, mo_nt h.nt, by rw [(mo_sz t).1]; exact h.dp, by rw [(mo_sz t).2]; exact h.wt⟩
theorem Bg.shw {t : Tm} (h : Bg t) : Shw 63 t.dt := Fine.shw (B := 10 ^ 45) (W := sizeLine) ⟨(tm_fine h.wf h.nt).1, h.dp, h.wt⟩ (Nat.le_refl _) (Nat.le_refl _)
theorem Bg.lay {t : Tm} (h : Bg t) : SeqAt.shaped t.dt.toP = true := by
  have := (Dt.shw (B := 10 ^ 45) (Nat.le_refl _) t.dt (tm_fine h.wf h.nt).1).2.1
  have h2 := h.dp
  unfold SeqAt.shaped
  rw [(tm_fine h.wf h.nt).2, this, Bool.true_and]
  exact decide_eq_true (by omega)
theorem Bg.eqv {t : Tm} (h : Bg t) : PyData.eqv t.dt.toP t.dt.toP = true := SeqAt.eqv_refl _ (tm_fine h.wf h.nt).2
end Kq

/-! enumerate of a tuple, from a number -/
namespace Kv
open PySem PySem.Spec PyProof.Rows L2 Kf
/-- the tuple at a, each item in a new pair behind its number -/
def IteU (K : PySem.W.Frag) (k0 : Int) (a : Addr) : It where
  go := fun i H => ∃ (xs : List V) (x : V), SqT K H a xs ∧ xs[i]? = some x
  yld := fun i H v G => ∃ T x, v = .ref T ∧ H T = none ∧ G = upd H T (.tup [.int (k0 + (i : Int)), x]) ∧ ∀ xs, SqT K H a xs → xs[i]? = some x
  stop := fun i H => ∃ xs : List V, SqT K H a xs ∧ xs.length ≤ i
theorem turn_enumU {P : Program} {w : World} {K : PySem.W.Frag} {elts : List Expr} {kk : Nat} {tpos : Pos} (k0 : Int) (a e it : Addr) :
    Turn P w K (.Tuple elts kk tpos) (IteU K k0 a) [e, it] e (fun i h => (∃ old, IsEnum h e it (k0 + (i : Int)) old) ∧ h.IsTupleIter it a i ∧ e ≠ it) where
  mem := by simp
  obj := by
    intro i h st b hb
    obtain ⟨⟨old, he⟩, ⟨o, ho, hc, hd⟩, _⟩ := st
    rcases (by simpa using hb : b = e ∨ b = it) with rfl | rfl
    · exact ⟨_, he, fun v q => nomatch q⟩
    · exact ⟨o, ho, fun v q => by rw [hd] at q; cases q⟩
  keep := fun i h h' st k => let ⟨⟨old, he⟩, hi, hne⟩ := st; ⟨⟨old, k e (by simp) _ he⟩, hi.at fun o q => k it (by simp) o q, hne⟩
  item := by
    intro X hP hw hK hc i pins s σ H E I hf st hg
    subst hP hw hK
    obtain ⟨⟨old, he⟩, hit, hne⟩ := st
    obtain ⟨xs, x, hq, hx⟩ := hg
    obtain ⟨its, rv, tp, hz⟩ := I.tuple hq
    obtain ⟨u, hu, ru⟩ := rv.get hx
    obtain ⟨oi, hoi, hci, hdi⟩ := id hit
    obtain ⟨ot, hot, hct, nt, hdt⟩ := id tp
    have lt : i < its.length := (List.getElem?_eq_some_iff.mp hu).1
    have ai : a ≠ it := fun z => by
      rw [z, hoi] at hot
      cases hot
      rw [hci] at hct
      exact absurd (Value.type.inj hct) (by decide)
    have ea : e ≠ a := fun z => by
      rw [← z, he] at hot
      cases hot
      exact absurd (Value.type.inj hct) (by decide)
    have hel : e < s.heap.objs.size := Heap.lt_size he
    have hil : it < s.heap.objs.size := Heap.lt_size hoi
    refine wpAny_pyNext_enum_itemC (Draws.tuple (A := X.A.in1) (I.ok.hd hc) it a ai its.toArray) he ⟨hit, ⟨ot, hot, hct, nt, hdt⟩⟩ (by simpa using lt) hne (by simp [hne, ea]) ?_
    intro u' h1 tk hu' ho hst hT hsz hk
    have eu : u' = u := by
      have z : its[i]? = some u' := by simpa using hu'
      rw [hu] at z
      exact (Option.some.inj z).symm
    subst eu
    refine ⟨_, rfl, wpAny_letOwnedTupleGo_enum (s := { s with heap := h1, toks := tk + 1 }) ho ?_⟩
    intro h2 he' sb
    have hT2 : h2.get? s.heap.objs.size = some { cls := .type "tuple", data := .seq #[.int (k0 + (i : Int)) tk, u'] } := (sb.2 _ (Nat.ne_of_gt hel)).trans hT
    have new : ObjOk X.prog X.w (upd H s.heap.objs.size (.tup [.int (k0 + (i : Int)), x])) h2 s.heap.objs.size (.tup [.int (k0 + (i : Int)), x]) := ⟨by show 2 ≤ sizeLine; decide, [.int (k0 + (i : Int)) tk, u'], .cons ⟨_, rfl⟩ (.cons ru .nil), ⟨_, hT2, rfl, _, rfl⟩⟩
    have J : Inv X pins σ (upd H s.heap.objs.size (.tup [.int (k0 + (i : Int)), x])) { s with heap := h2, toks := tk + 1 } :=
      I.turnedNew (ch := [e, it]) (fun b ob hb q => (sb.2 b (fun z => hb (by simp [z]))).trans (hk b ob (fun z => hb (by simp [z])) (fun z => hb (by simp [z])) q)) hf (Nat.le_refl _) new
    refine ⟨.ref s.heap.objs.size, _, J, rfl, ⟨_, x, rfl, I.hok.fresh (Nat.le_refl _), rfl, fun ys hy => by rw [I.tuple_inj hy hq]; exact hx⟩, ⟨⟨u', ?_⟩, hst.1.at fun o q => (sb.2 it (Ne.symm hne)).trans q, hne⟩, fun b hb => ?_⟩
    · rw [show k0 + ((i + 1 : Nat) : Int) = k0 + (i : Int) + 1 by omega]
      exact he'
    · have lb : b < s.heap.objs.size := by
        rcases (by simpa using hb : b = e ∨ b = it) with rfl | rfl
        · exact hel
        · exact hil
      rw [upd_ne (Nat.ne_of_lt lb)]
      exact (hf b hb).1
  done := by
    intro X hP hw hK hc i pins s σ H E I hf st hg
    subst hP hw hK
    obtain ⟨⟨old, he⟩, hit, hne⟩ := st
    obtain ⟨xs, hq, hx⟩ := hg
    obtain ⟨its, rv, tp, hz⟩ := I.tuple hq
    obtain ⟨oi, hoi, hci, hdi⟩ := id hit
    obtain ⟨ot, hot, hct, nt, hdt⟩ := id tp
    have ai : a ≠ it := fun z => by
      rw [z, hoi] at hot
      cases hot
      rw [hci] at hct
      exact absurd (Value.type.inj hct) (by decide)
    obtain ⟨f0, f1, f2, f3, f4, f5⟩ := hf it (by simp)
    have hl := rv.length
    have none : its.toArray[i]? = none := by
      rw [List.getElem?_toArray]
      exact List.getElem?_eq_none (by omega)
    have D : Draws X.prog X.w X.A.in1 it [it, a] i (fun _ _ => True) (fun j h => j = i ∧ h.IsTupleIter it a i ∧ h.IsTuple a its.toArray) :=
      { live := fun _ _ st => let ⟨o, ho, _⟩ := st.2.1; ⟨o, ho⟩
        frame := fun _ _ _ st hk => ⟨st.1, st.2.1.at fun o e => hk it (by simp) o e, st.2.2.at fun o e => hk a (by simp) o e⟩
        item := fun j s Q E hj st _ => absurd st.1 (Nat.ne_of_lt hj)
        done := fun s Q E st hE => wpAny_nextOf_tuple_end (I.ok.hd hc) st.2.1 st.2.2 none hE }
    exact wpAny_pyNext_enum_endD D he ⟨rfl, hit, ⟨ot, hot, hct, nt, hdt⟩⟩ fun h1 eb => ⟨rfl, I.turned (t' := s.toks) (fun b o hb q => eb b o hb q) f0 f1 f3 f4 f5⟩
  self := fun A i s Q E st h => let ⟨⟨_, he⟩, _⟩ := st; wpAny_pyIter_enum he h
def iEnumU (K : PySem.W.Frag) (ta : TA) : TI := fun σ H R => ta σ H fun vs G => ∃ (a : Addr) (xs : List V) (k0 : Int), vs = [.ref a, .int k0] ∧ -(2 ^ 63) ≤ k0 ∧ k0 < 2 ^ 63 ∧ SqT K G a xs ∧ R (IteU K k0 a) G
theorem pi_enumU {X : Cx} {e e2 : Expr} {ta : TA} {p pos tpos : Pos} {elts : List Expr} {kk : Nat} (hg : Gl X "enumerate") (hm : X.mg "enumerate" = none) (ha : PA X [e, e2] ta)
    (hs : starEach [e, e2] X.env = (false, eval e X.env) :: starEach [e2] X.env := by rfl) (hpl : (backTo pos (starEach [e2] X.env)).any (·.1) = false := by rfl) :
    PI X (.Tuple elts kk tpos) (.Call (.Name "enumerate" p) [e, e2] [] pos) (iEnumU X.K ta) := by
  constructor
  intro pins s σ H R I h
  refine Call_ (ld_blt I hg hm boot_enumerate (PyProof.Rows.callWith_type1 (thn (ha.run pos pins s σ H _ I h) ?_) hs hpl))
  rintro us s1 ⟨vs, G, J, r, a, xs, k0, rfl, hk0, hk1, hq, q⟩
  obtain ⟨u1, u2, rfl, r1, r2⟩ := Vals.two r
  obtain ⟨its, rv, tp, hz⟩ := J.tuple hq
  have IT : s1.heap.IsTuple a its.toArray := let ⟨o, ho, hc, n, hd⟩ := tp; ⟨o, ho, hc, n, hd⟩
  cases r1
  obtain ⟨tk, rfl⟩ := r2
  refine enum_begins (begins_tuple a its.toArray) IT hk0 hk1 fun h' he hit hsz hk => ?_
  refine wpAny_pyIter_enum he ?_
  have J2 := J.kept (h' := h') (t' := s1.toks) hk
  refine ⟨s1.heap.objs.size + 1, [s1.heap.objs.size + 1, s1.heap.objs.size], _, _, G, rfl, J2, turn_enumU k0 a (s1.heap.objs.size + 1) s1.heap.objs.size, ⟨⟨.none, by rw [show k0 + ((0 : Nat) : Int) = k0 by omega]; exact he⟩, ⟨_, hit, rfl, rfl⟩, Nat.succ_ne_self _⟩, fun b hb => ?_, q⟩
  have le : s1.heap.objs.size ≤ b := by
    rcases (by simpa using hb : b = s1.heap.objs.size + 1 ∨ b = s1.heap.objs.size) with rfl | rfl
    · exact Nat.le_add_right _ _
    · exact Nat.le_refl _
  exact J.fpOk le (J.hok.fresh le)
/-- a comprehension over it -/
theorem lc_enumU {K : PySem.W.Frag} {a : Addr} {k0 : Int} {xs : List V} {g : TG} {tt : TT} {te : TE} {vs : List Nat} {σ : L2.St} {H1 : Hp} {D : Addr} {Qd : Hp → Prop} (Pv : Nat → Hp → Prop) (h0 : Pv 0 (upd H1 D (.lst [])))
    (hl : ∀ i H, i ≤ xs.length → Pv i H → SqT K H a xs)
    (hs : ∀ (i : Nat) (x : V) (t : Addr) (H : Hp), xs[i]? = some x → Pv i H → H t = none →
      g (.ref t) (wipe σ vs) (upd H t (.tup [.int (k0 + (i : Int)), x])) fun σ2 H2 => wipe σ2 vs = wipe σ vs ∧ tt σ2 H2 fun b H3 => if b = true then te σ2 H3 fun y H4 => ∃ acc, H4 D = some (.lst acc) ∧ acc.length < sizeLine ∧ Pv (i + 1) (upd H4 D (.lst (acc ++ [y]))) else Pv (i + 1) H3)
    (hd : ∀ H, Pv xs.length H → Qd H) :
    ∃ W : Nat → Nat → Hp → Prop, (∃ m, W 0 m (upd H1 D (.lst []))) ∧ ∀ (i m : Nat) (H : Hp), W i m H → (IteU K k0 a).stop i H ∧ Qd H ∨ (IteU K k0 a).go i H ∧ ∃ Nx : Hp → Prop, (∀ H', Nx H' → ∃ m', m' < m ∧ W (i + 1) m' H') ∧
      ∀ (x : V) (H' : Hp), (IteU K k0 a).yld i H x H' → g x (wipe σ vs) H' fun σ2 H2 => wipe σ2 vs = wipe σ vs ∧ tt σ2 H2 fun b H3 => if b = true then te σ2 H3 fun y H4 => ∃ acc, H4 D = some (.lst acc) ∧ acc.length < sizeLine ∧ Nx (upd H4 D (.lst (acc ++ [y]))) else Nx H3 := by
  refine ⟨fun i m H => m = xs.length - i ∧ i ≤ xs.length ∧ Pv i H, ⟨xs.length, rfl, Nat.zero_le _, h0⟩, fun i m H z => ?_⟩
  obtain ⟨rfl, hi, p⟩ := z
  by_cases lt : i < xs.length
  · refine .inr ⟨⟨xs, _, hl i H hi p, List.getElem?_eq_getElem lt⟩, Pv (i + 1), fun H' p' => ⟨xs.length - (i + 1), by omega, rfl, lt, p'⟩, fun v H' y => ?_⟩
    obtain ⟨t, x, rfl, nt, rfl, hy⟩ := y
    exact hs i x t H (hy xs (hl i H hi p)) p nt
  · have e : i = xs.length := by omega
    subst e
    exact .inl ⟨⟨xs, hl _ H hi p, Nat.le_refl _⟩, hd H p⟩
end Kv

/-! places_of; more_rounds -/
namespace Kq
open PySem PySem.Spec PyProof.Rows L2 Kf Kg Kv Kk Ku
/-- the roles of a word's parts -/
def tblT : List (Str × List Str) := [("name", ["name"]), ("fun", ["name", "argument", "term"]), ("call", ["term", "term"]), ("num", ["number"]), ("plus", ["term", "term"]), ("less", ["term", "term"]), ("truth", ["truth"]), ("if", ["term", "term", "term"]), ("pair", ["term", "term"]), ("first", ["term"]), ("second", ["term"]), ("left", ["term", "data"]), ("right", ["data", "term"]), ("case", ["term", "name", "term", "name", "term"]), ("none", ["data"]), ("more", ["term", "term"]), ("fold", ["term", "term", "name", "name", "term"]), ("built", ["data", "name", "name", "name", "term"]), ("alike", ["term", "term"]), ("fault", ["data"]), ("rounds", ["turns", "term", "name", "term"]), ("told", ["name", "fills"])]
def rls (w : Str) : Option (List Str) := tblT.lookup w
/-- the table of forms -/
structure TForms (K : PySem.W.Frag) (w : World) (dA : Addr) (es : Array DictEntry) (n : Nat) : Prop where
  dict : KDict K w dA es n
  no : ∀ z : Str, rls z = none → PySem.W.nsIn K dA z = some none
  yes : ∀ (z : Str) (rs : List Str), rls z = some rs → ∃ t : Addr, PySem.W.nsIn K dA z = some (some (.ref t)) ∧ ∀ G : Hp, SqT K G t (rs.map V.str)
/-- the places of terms among the roles, from j -/
def tix : Nat → List Str → List Nat
  | _, [] => []
  | j, r :: rs => if r = "term" then j :: tix (j + 1) rs else tix (j + 1) rs
theorem tix_app (j : Nat) (rs : List Str) (r : Str) : tix j (rs ++ [r]) = tix j rs ++ (if r = "term" then [j + rs.length] else []) := by
  induction rs generalizing j with
  | nil => show (if r = "term" then [j] else []) = [] ++ (if r = "term" then [j + 0] else []); simp
  | cons a rs ih =>
    have e : j + (a :: rs).length = j + 1 + rs.length := by rw [List.length_cons]; omega
    simp only [List.cons_append, tix, ih (j + 1), e]
    split <;> simp
theorem ks_rows : ∀ t : Tm, t.nt → ∃ rs, rls t.word = some rs ∧ tix 1 rs = t.ks ∧ rs.length ≤ 5 := by
  intro t
  cases t with
  | name x => exact fun _ => ⟨["name"], by show rls "name" = some (["name"] : List Str); decide +kernel, by show tix 1 (["name"] : List Str) = []; decide +kernel, by show 1 ≤ 5; decide⟩
  | fn x k t => exact fun _ => ⟨["name", "argument", "term"], by show rls "fun" = some (["name", "argument", "term"] : List Str); decide +kernel, by show tix 1 (["name", "argument", "term"] : List Str) = [3]; decide +kernel, by show 3 ≤ 5; decide⟩
  | call a b => exact fun _ => ⟨["term", "term"], by show rls "call" = some (["term", "term"] : List Str); decide +kernel, by show tix 1 (["term", "term"] : List Str) = [1, 2]; decide +kernel, by show 2 ≤ 5; decide⟩
  | num i => exact fun _ => ⟨["number"], by show rls "num" = some (["number"] : List Str); decide +kernel, by show tix 1 (["number"] : List Str) = []; decide +kernel, by show 1 ≤ 5; decide⟩
  | plus a b => exact fun _ => ⟨["term", "term"], by show rls "plus" = some (["term", "term"] : List Str); decide +kernel, by show tix 1 (["term", "term"] : List Str) = [1, 2]; decide +kernel, by show 2 ≤ 5; decide⟩
  | less a b => exact fun _ => ⟨["term", "term"], by show rls "less" = some (["term", "term"] : List Str); decide +kernel, by show tix 1 (["term", "term"] : List Str) = [1, 2]; decide +kernel, by show 2 ≤ 5; decide⟩
  | tru i => exact fun _ => ⟨["truth"], by show rls "truth" = some (["truth"] : List Str); decide +kernel, by show tix 1 (["truth"] : List Str) = []; decide +kernel, by show 1 ≤ 5; decide⟩
  | iff a b c => exact fun _ => ⟨["term", "term", "term"], by show rls "if" = some (["term", "term", "term"] : List Str); decide +kernel, by show tix 1 (["term", "term", "term"] : List Str) = [1, 2, 3]; decide +kernel, by show 3 ≤ 5; decide⟩
  | pair a b => exact fun _ => ⟨["term", "term"], by show rls "pair" = some (["term", "term"] : List Str); decide +kernel, by show tix 1 (["term", "term"] : List Str) = [1, 2]; decide +kernel, by show 2 ≤ 5; decide⟩
  | fst a => exact fun _ => ⟨["term"], by show rls "first" = some (["term"] : List Str); decide +kernel, by show tix 1 (["term"] : List Str) = [1]; decide +kernel, by show 1 ≤ 5; decide⟩
  | snd a => exact fun _ => ⟨["term"], by show rls "second" = some (["term"] : List Str); decide +kernel, by show tix 1 (["term"] : List Str) = [1]; decide +kernel, by show 1 ≤ 5; decide⟩
  | left a k => exact fun _ => ⟨["term", "data"], by show rls "left" = some (["term", "data"] : List Str); decide +kernel, by show tix 1 (["term", "data"] : List Str) = [1]; decide +kernel, by show 2 ≤ 5; decide⟩
  | right k a => exact fun _ => ⟨["data", "term"], by show rls "right" = some (["data", "term"] : List Str); decide +kernel, by show tix 1 (["data", "term"] : List Str) = [2]; decide +kernel, by show 2 ≤ 5; decide⟩
  | case a x b y c => exact fun _ => ⟨["term", "name", "term", "name", "term"], by show rls "case" = some (["term", "name", "term", "name", "term"] : List Str); decide +kernel, by show tix 1 (["term", "name", "term", "name", "term"] : List Str) = [1, 3, 5]; decide +kernel, by show 5 ≤ 5; decide⟩
  | none k => exact fun _ => ⟨["data"], by show rls "none" = some (["data"] : List Str); decide +kernel, by show tix 1 (["data"] : List Str) = []; decide +kernel, by show 1 ≤ 5; decide⟩
  | more a b => exact fun _ => ⟨["term", "term"], by show rls "more" = some (["term", "term"] : List Str); decide +kernel, by show tix 1 (["term", "term"] : List Str) = [1, 2]; decide +kernel, by show 2 ≤ 5; decide⟩
  | fold a b x y t => exact fun _ => ⟨["term", "term", "name", "name", "term"], by show rls "fold" = some (["term", "term", "name", "name", "term"] : List Str); decide +kernel, by show tix 1 (["term", "term", "name", "name", "term"] : List Str) = [1, 2, 5]; decide +kernel, by show 5 ≤ 5; decide⟩
  | built k o x y t => exact fun _ => ⟨["data", "name", "name", "name", "term"], by show rls "built" = some (["data", "name", "name", "name", "term"] : List Str); decide +kernel, by show tix 1 (["data", "name", "name", "name", "term"] : List Str) = [5]; decide +kernel, by show 5 ≤ 5; decide⟩
  | alike a b => exact fun _ => ⟨["term", "term"], by show rls "alike" = some (["term", "term"] : List Str); decide +kernel, by show tix 1 (["term", "term"] : List Str) = [1, 2]; decide +kernel, by show 2 ≤ 5; decide⟩
  | fault k => exact fun _ => ⟨["data"], by show rls "fault" = some (["data"] : List Str); decide +kernel, by show tix 1 (["data"] : List Str) = []; decide +kernel, by show 1 ≤ 5; decide⟩
  | rounds m a x t => exact fun _ => ⟨["turns", "term", "name", "term"], by show rls "rounds" = some (["turns", "term", "name", "term"] : List Str); decide +kernel, by show tix 1 (["turns", "term", "name", "term"] : List Str) = [2, 4]; decide +kernel, by show 4 ≤ 5; decide⟩
  | told f fs => exact fun h => h.elim
theorem DdL.atD {N : Addr → Prop} {H : Hp} : ∀ {ds : List Dt} {us : List V} {k : Nat} {d : Dt}, DdL N H ds us → ds[k]? = some d → ∃ u, us[k]? = some u ∧ Dd N H d u
  | _, _, k, d, .nil, h => by simp at h
  | _, _, 0, d, .cons a b, h => ⟨_, rfl, by cases h; exact a⟩
  | _, _, k + 1, d, .cons a b, h => DdL.atD (k := k) b h
theorem DdL.setD {N : Addr → Prop} {H : Hp} : ∀ {ds : List Dt} {us : List V} {k : Nat} {d : Dt} {u : V}, DdL N H ds us → Dd N H d u → DdL N H (ds.set k d) (us.set k u)
  | _, _, k, d, u, .nil, h => .nil
  | _, _, 0, d, u, .cons a b, h => .cons h b
  | _, _, k + 1, d, u, .cons a b, h => .cons a (DdL.setD b h)
theorem DdL.lenD {N : Addr → Prop} {H : Hp} : ∀ {ds : List Dt} {us : List V}, DdL N H ds us → ds.length = us.length
  | _, _, .nil => rfl
  | _, _, .cons a b => by rw [List.length_cons, List.length_cons, DdL.lenD b]
def _root_.Kv.Dt.its : Kv.Dt → List Kv.Dt
  | .tup xs => xs
  | _ => []
/-- the parts, the rounds changed -/
def bsP (n : Int) : Tm → List Dt
  | .rounds m a x t => [.str "rounds", .int (min (m + n) 30), a.dt, .str x, t.dt]
  | t => t.dt.its
/-- the parts, so many terms changed -/
def hfP (n : Int) (t : Tm) (j : Nat) : List Dt := ((t.ks.zip t.kd).take j).foldl (fun ds p => ds.set p.1 (p.2.mo n).dt) (bsP n t)
theorem hf_end (n : Int) : ∀ t : Tm, t.nt → hfP n t t.ks.length = (t.mo n).dt.its := by
  intro t h
  cases t <;> first | exact h.elim | rfl
theorem hf_at (n : Int) : ∀ (t : Tm) (j k : Nat) (a : Tm), t.nt → t.ks[j]? = some k → t.kd[j]? = some a → (hfP n t j)[k]? = some a.dt := by
  intro t j k a h h1 h2
  cases t <;> first
    | exact h.elim
    | (rcases j with _ | _ | _ | j <;> first | (cases h1; cases h2; rfl) | (cases h1; done) | (simp [Tm.ks] at h1; done))
theorem hf_step (n : Int) (t : Tm) (j k : Nat) (a : Tm) (h1 : t.ks[j]? = some k) (h2 : t.kd[j]? = some a) : hfP n t (j + 1) = (hfP n t j).set k (a.mo n).dt := by
  unfold hfP
  have e : (t.ks.zip t.kd)[j]? = some (k, a) := by rw [List.getElem?_zip_eq_some]; exact ⟨h1, h2⟩
  rw [List.take_add_one, e]
  show ((t.ks.zip t.kd).take j ++ [(k, a)]).foldl _ _ = _
  rw [List.foldl_append]
  rfl
section
variable {P : Program} {w : World} {K : PySem.W.Frag} {mg : Str → Option Value} {base : Heap}
abbrev tPl : Stmt := tp 3
abbrev nPl : List Str := ["term", "at", "role"]
abbrev psPl : List Str := ["term"]
theorem scPl : FnScope nPl psPl (defScope tPl) := ⟨rfl, rfl, rfl, by decide +kernel, rfl, by decide +kernel, by decide +kernel⟩
def spPl : Sp := fun vs H Q _ => ∃ (v : V) (t : Tm), vs = [v] ∧ Dd Non H t.dt v ∧ t.nt ∧ ∀ (l : Addr) (G : Hp), H l = none → Same H G → G l = some (.lst (t.ks.map fun k : Nat => V.int (k : Int))) → Q (.ref l) G
theorem okPl {f : Addr} {fd : FuncData} {k : Nat} (F : Fun K "places_of" "places_of" tPl f fd) {dA : Addr} {es : Array DictEntry} {m : Nat} (gD : mg "TERM_FORMS" = some (.ref dA)) (hD : TForms K w dA es m)
    (m_enumerate : mg "enumerate" = none) : FnOk P w K mg base CX0 (k + 1) f fd psPl spPl := by
  refine F.ok scPl (fun vs H Q E h => ?_) (fun cdv A outer s H vs Q E hr h => ?_)
  · obtain ⟨v, t, rfl, _⟩ := h
    rfl
  obtain ⟨v, t, rfl, dd, nt, q⟩ := h
  refine ⟨_, pss_one (ps_ret (pe_lc (own := [("at", 1), ("role", 2)]) (g := gTup K 2 (gCons (gName 1) (gCons (gName 2) gNil))) (tt := _) (by rfl) scPl.nd (Kv.pi_enumU (by rfl) m_enumerate (pa_cons (pe_ix ix_kdict (pe_glob (v := .ref dA) (by rfl) gD rfl) (pe_ix ix_tup (pv 0) pe_int (fun _ _ => rfl)) (fun _ _ => rfl)) (pa_cons pe_int pa_nil))) (blkOk_by (own := [("at", 1), ("role", 2)]) (N := nPl) (sc := defScope tPl) (by decide +kernel)) (fun _ _ _ _ _ => (tupGK K rfl rfl (pgs_cons (pg_name (i := 1) scPl.nd rfl (.inl rfl)) (pgs_cons (pg_name (i := 2) scPl.nd rfl (.inl rfl)) pgs_nil)))) (fun _ _ _ _ _ => pts_one (pt_cmpR op_eq (pv 2) pe_str (nomark _))) (fun _ _ _ _ _ => (pv 1)))), ?_⟩
  obtain ⟨xs, ed, _⟩ := tm_dt t
  have dd2 := dd
  rw [ed] at dd2
  obtain ⟨p, u0, ur, rfl, gp, d0, dr⟩ := Dd.seeT dd2
  cases d0
  obtain ⟨rs, e1, e2, e3⟩ := ks_rows t nt
  obtain ⟨pt, h1, h2⟩ := hD.yes _ _ e1
  refine ⟨_, rfl, p, _, _, _, rfl, rfl, SqT.of gp, atI_nat (j := 0) rfl, dA, t.word, .ref pt, rfl, rfl, ⟨es, m, _, hD.dict.at_, hD.dict.lit, h1, rfl⟩, pt, rs.map V.str, 1, rfl, by decide, by decide, h2 _, fun D nD => ?_⟩
  refine Kv.lc_enumU (xs := rs.map V.str) (fun j F => Same H F ∧ F D = some (.lst ((tix 1 (rs.take j)).map fun k : Nat => V.int (k : Int))) ∧ (tix 1 (rs.take j)).length ≤ j) ⟨newS nD, upd_same, Nat.le_refl _⟩ (fun j F _ z => h2 F) (fun j x T0 F hx z nT => ?_) (fun F z => ?_)
  · obtain ⟨sF, gU, lU⟩ := z
    rw [List.getElem?_map] at hx
    obtain ⟨r, hr, rfl⟩ := Option.map_eq_some_iff.mp hx
    have jl := (List.getElem?_eq_some_iff.mp hr).1
    have sT := newS (o := .tup [.int (1 + (j : Int)), .str r]) nT
    have tk : rs.take (j + 1) = rs.take j ++ [r] := by rw [List.take_add_one, hr]; rfl
    have ta := tix_app 1 (rs.take j) r
    have lt : (rs.take j).length = j := by rw [List.length_take]; omega
    refine ⟨T0, _, rfl, SqT.of upd_same, rfl, _, _, rfl, _, _, rfl, rfl, rfl, _, rfl, rfl, _, rfl, ite2 (fun c1 => ?_) (fun c1 => ?_)⟩
    · have c2 : r = "term" := wEq.mp c1
      rw [if_pos c2, lt, ← tk] at ta
      refine ⟨_, rfl, _, sT _ _ gU, small1000 (by rw [List.length_map]; omega), smk (sF.trans sT) nD, ?_, ?_⟩
      · rw [upd_same, ta, List.map_append, show (1 + (j : Int)) = ((1 + j : Nat) : Int) by omega]
        rfl
      · rw [ta, List.length_append]
        show _ + 1 ≤ _
        omega
    · have c2 : r ≠ "term" := fun w => c1 (wEq.mpr w)
      rw [if_neg c2, ← tk, List.append_nil] at ta
      rw [ta]
      exact ⟨sF.trans sT, sT _ _ gU, by omega⟩
  obtain ⟨sF, gU, _⟩ := z
  rw [List.length_map, List.take_of_length_le (Nat.le_refl _), e2] at gU
  exact q D F nD sF gU
end
end Kq

/-! more_rounds -/
namespace Kq
open PySem PySem.Spec PyProof.Rows L2 Kf Kg Kv Kk Ku
theorem ks_kd : ∀ (t : Tm) (j k : Nat), t.nt → t.ks[j]? = some k → ∃ a, t.kd[j]? = some a ∧ a.nt ∧ a.dp < t.dp := by
  intro t j k h h1
  cases t <;> first
    | exact h.elim
    | (rcases j with _ | _ | _ | j <;> first | (cases h1; done) | (simp [Tm.ks] at h1; done) | exact ⟨_, rfl, (by first | exact h | exact h.1 | exact h.2 | exact h.2.1 | exact h.2.2), by simp only [Tm.dp]; omega⟩)
theorem dt_its (t : Tm) : t.dt = .tup t.dt.its := by cases t <;> rfl
theorem its_len (t : Tm) : t.dt.its.length ≤ 6 := by cases t <;> exact Nat.le_of_ble_eq_true rfl
theorem bs_len (n : Int) (t : Tm) : (bsP n t).length ≤ 6 := by cases t <;> exact Nat.le_of_ble_eq_true rfl
theorem hf_len (n : Int) (t : Tm) (j : Nat) : (hfP n t j).length = (bsP n t).length := by
  unfold hfP
  generalize (t.ks.zip t.kd).take j = l
  generalize bsP n t = b
  induction l generalizing b with
  | nil => rfl
  | cons p l ih => rw [List.foldl_cons, ih, List.length_set]
theorem bs_eq (n : Int) (t : Tm) (h : t.word ≠ "rounds") : bsP n t = t.dt.its := by cases t <;> first | rfl | exact absurd rfl h
theorem wRo {t : Tm} (h : t.word = "rounds") : ∃ m a x u, t = .rounds m a x u := by cases t <;> first | exact ⟨_, _, _, _, rfl⟩ | exact absurd h (by rw [Tm.word]; decide +kernel)
theorem wEqS {a b : Str} : decide (V.str a = V.str b) = true ↔ a = b := by
  rw [decide_eq_true_iff]
  exact ⟨fun z => by injection z, fun z => by rw [z]⟩
section
variable {P : Program} {w : World} {K : PySem.W.Frag} {mg : Str → Option Value} {base : Heap}
abbrev tMore : Stmt := tp 5
abbrev nMore : List Str := ["term", "by", "parts", "at"]
abbrev psMore : List Str := ["term", "by"]
theorem scMore : FnScope nMore psMore (defScope tMore) := ⟨rfl, rfl, rfl, by decide +kernel, rfl, by decide +kernel, by decide +kernel⟩
def spMore (m : Nat) : Sp := fun vs H Q _ => ∃ (v : V) (t : Tm) (n : Int), vs = [v, .int n] ∧ Dd Non H t.dt v ∧ t.nt ∧ 0 ≤ n ∧ t.dp < m ∧ ∀ (u : V) (G : Hp), Same H G → Dd Non G (t.mo n).dt u → Q u G
theorem okMore {f : Addr} {fd : FuncData} {k m : Nat} {uM : Value} (F : Fun K "more_rounds" "more_rounds" tMore f fd) (gMT : mg "MOST_TURNS" = some uM) (rMT : RelV (.int 30) uM)
    (DL : Okd P w K mg base CX0 (k) "places_of" ["term"] spPl)
    (DM : Okd P w K mg base CX0 (k) "more_rounds" ["term", "by"] (spMore m))
    (m_list : mg "list" = none)
    (m_min : mg "min" = none)
    (m_tuple : mg "tuple" = none) : FnOk P w K mg base CX0 (k + 1) f fd psMore (spMore (m + 1)) := by
  obtain ⟨fL, fdL, GL, bL, gL, kL⟩ := DL
  obtain ⟨fM, fdM, GM, bM, gM, kM⟩ := DM
  refine F.ok scMore (fun vs H Q E h => ?_) (fun cdv A outer s H vs Q E hr h => ?_)
  · obtain ⟨v, t, n, rfl, _⟩ := h
    rfl
  obtain ⟨v, t, n, rfl, dd, nt, hn, hd, q⟩ := h
  refine ⟨_, pss_cons (ps_set (i := 2) scMore.nd rfl (.inl rfl) (pe_callTy call_list_of (by rfl) m_list PyProof.Rows.boot_list (pa_cons (pv 0) pa_nil)))
    (C8.pss_cut (ps_if (pt_cmpR op_eq (pe_ix ix_tup (pv 0) pe_int (fun _ _ => rfl)) pe_str (nomark _)) (pss_one (ps_asg (pe_callB (call_min2 rfl) (by rfl) m_min PyProof.Rows.boot_min (pa_cons (pe_op op_add (pe_ix ix_tup (pv 0) pe_int (fun _ _ => rfl)) (pv 1)) (pa_cons (pe_glob (v := .int 30) (by rfl) gMT rMT) pa_nil))) (pg_sub (pv 2) pe_int set_list))) pss_nil)
    (pss_cons (ps_for PassesOwn.never rfl (pi_list (pe_call GL hr (by rfl) gL kL bL .nil pass0 (pa_cons (pv 0) pa_nil))) (pg_name (i := 3) scMore.nd rfl (.inl rfl))
      (pss_one (ps_asg (pe_call GM hr (by rfl) gM kM bM .nil pass0 (pa_cons (pe_ix ix_list (pv 2) (pv 3) (fun _ _ => rfl)) (pa_cons (pv 1) pa_nil))) (pg_sub (pv 2) (pv 3) set_list))))
    (pss_one (ps_ret (pe_callTy call_tuple_of (by rfl) m_tuple PyProof.Rows.boot_tuple (pa_cons (pv 2) pa_nil)))))), ?_⟩
  have dd2 := dd
  rw [dt_its] at dd2
  obtain ⟨p, us, rfl, gp, dl⟩ : ∃ p us, v = .ref p ∧ H p = some (.tup us) ∧ DdL Non H t.dt.its us := by
    cases dd2 with
    | tup a b => exact ⟨_, _, rfl, a, b⟩
  have w0 : us[0]? = some (.str t.word) := by
    obtain ⟨xs, ed, _⟩ := tm_dt t
    rw [ed] at dl
    obtain ⟨u, e, d⟩ := DdL.atD (k := 0) dl rfl
    cases d
    exact e
  refine ⟨_, rfl, p, us, rfl, .inr (SqT.of gp), fun l nl => ?_⟩
  refine lstG nl fun G0 s0 g0 => ?_
  refine ⟨fun σ G => ∃ ws, σ = [some (.ref p), some (.int n), some (.ref l), none] ∧ Same H G ∧ G l = some (.lst ws) ∧ DdL Non G (bsP n t) ws, ?_, fun σ G z => ?_⟩
  · refine ⟨_, rfl, p, _, _, _, rfl, rfl, SqT.of (s0 _ _ gp), atI_nat (j := 0) w0, rfl, _, rfl, ite2 (fun c => ?_) (fun c => ⟨us, rfl, s0, g0, by rw [bs_eq n t (fun w => c (wEqS.mpr w))]; exact dl.same s0⟩)⟩
    obtain ⟨m0, a, x, u, rfl⟩ := wRo (wEqS.mp c)
    obtain ⟨va, vu, rfl, da, du⟩ : ∃ va vu, us = [.str "rounds", .int m0, va, .str x, vu] ∧ Dd Non H a.dt va ∧ Dd Non H u.dt vu := by
      cases dl with
      | cons d0 dl =>
        cases dl with
        | cons d1 dl =>
          cases dl with
          | cons d2 dl =>
            cases dl with
            | cons d3 dl =>
              cases dl with
              | cons d4 dl =>
                cases dl
                cases d0
                cases d1
                cases d3
                exact ⟨_, _, rfl, d2, d4⟩
    refine ⟨_, rfl, p, _, _, _, rfl, rfl, SqT.of (s0 _ _ gp), atI_nat (j := 1) rfl, _, rfl, _, _, rfl, rfl, _, _, rfl, _, rfl, l, _, _, 1, rfl, rfl, g0, rfl, ?_⟩
    have em : (if (30 : Int) < m0 + n then 30 else m0 + n) = min (m0 + n) 30 := by split <;> omega
    rw [em]
    have k1 : Kv.Kn Non G0 (upd G0 l (.lst [.str "rounds", .int (min (m0 + n) 30), va, .str x, vu])) := Kn.rfl.put (fun z => z) fun _ z => by rw [g0] at z; cases z
    exact ⟨_, rfl, smk s0 nl, upd_same, .cons (.str _) (.cons (.int _) (.cons ((da.same s0).kn k1) (.cons (.str _) (.cons ((du.same s0).kn k1) .nil))))⟩
  obtain ⟨ws, rfl, sG, gU, dU⟩ := z
  refine ⟨_, rfl, _, t, rfl, dd.same sG, nt, fun lp G1 nlp s1 g1 => ⟨lp, rfl, ⟨_, SqL.of g1⟩, ?_⟩⟩
  have lne : lp ≠ l := fun w => by
    rw [w, gU] at nlp
    cases nlp
  refine for_list (K := K) (a := lp) (xs := t.ks.map fun k : Nat => V.int (k : Int)) (fun j σ F => ∃ ws y3, σ = [some (.ref p), some (.int n), some (.ref l), y3] ∧ Same H F ∧ F lp = some (.lst (t.ks.map fun k : Nat => V.int (k : Int))) ∧ F l = some (.lst ws) ∧ DdL Non F (hfP n t j) ws) ⟨ws, _, rfl, sG.trans s1, g1, s1 _ _ gU, dU.same s1⟩ (fun j σ F _ z => ?_) (fun j x σ F hx z => ?_) (fun σ F z => ?_)
  · obtain ⟨_, _, _, _, g, _⟩ := z
    exact SqL.of g
  · obtain ⟨ws, y3, rfl, sF, gL, gU, dU⟩ := z
    rw [List.getElem?_map] at hx
    obtain ⟨k, hk, rfl⟩ := Option.map_eq_some_iff.mp hx
    obtain ⟨a, ha, na, da⟩ := ks_kd t j k nt hk
    obtain ⟨u, hu, du⟩ := DdL.atD dU (hf_at n t j k a nt hk ha)
    have kl := (List.getElem?_eq_some_iff.mp hu).1
    refine ⟨_, rfl, _, rfl, l, _, _, _, rfl, rfl, SqL.of gU, atI_nat (j := k) hu, _, rfl, u, a, n, rfl, du, na, hn, by omega, fun u2 G2 s2 d2 => ?_⟩
    refine ⟨_, rfl, _, rfl, l, _, _, k, rfl, rfl, s2 _ _ gU, ixNat kl, ?_⟩
    have k1 : Kv.Kn Non G2 (upd G2 l (.lst (ws.set k u2))) := Kn.rfl.put (fun z => z) fun _ z => by rw [s2 _ _ gU] at z; cases z
    refine ⟨_, _, rfl, smk (sF.trans s2) nl, by rw [upd_ne lne]; exact s2 _ _ gL, upd_same, ?_⟩
    rw [hf_step n t j k a hk ha]
    exact DdL.setD ((dU.same s2).kn k1) (d2.kn k1)
  obtain ⟨ws, y3, rfl, sF, gL, gU, dU⟩ := z
  rw [List.length_map, hf_end n t nt] at dU
  refine ⟨_, rfl, l, _, rfl, .inl ⟨SqL.of gU, fun r nr => objG nr fun G3 s3 g3 => q _ G3 (sF.trans s3) ?_⟩⟩
  rw [dt_its]
  exact .tup g3 (dU.same s3)
end
end Kq

/-! tools; kinds of functions over data; towers -/
namespace Kq
open PySem PySem.Spec PyProof.Rows L2 Kf Kg Kv Kk Ku
section
variable {P : Program} {w : World} {K : PySem.W.Frag} {mg : Str → Option Value} {base : Heap}
abbrev tTools : Stmt := tp 20
abbrev nTools : List Str := ["_law_names_here", "_law_looked", "_law_faults", "_law_words", "_law_tools_here"]
abbrev psTools : List Str := ["_law_names_here", "_law_looked", "_law_faults", "_law_words"]
theorem scTools : FnScope nTools psTools (defScope tTools) := ⟨rfl, rfl, rfl, by decide +kernel, rfl, by decide +kernel, by decide +kernel⟩
def spTools : Sp := fun vs H Q _ => ∃ (d c nh la aw : Addr) (xs lo wds : List Str) (y : Str) (fl : Int), vs = [.ref nh, .ref la, .int fl, .ref aw] ∧ Dk H d c ∧ H nh = some (.lst (xs.map V.str)) ∧ H la = some (.lst (lo.map V.str)) ∧ H aw = some (.lst (wds.map V.str)) ∧ (la ≠ d ∧ la ≠ c) ∧ (aw ≠ d ∧ aw ≠ c) ∧ xs.length = 6 ∧ xs[5]? = some y ∧
  ∀ (tl ao an : Addr) (G : Hp), Same H G → Dk G d c → TlA d c tl ao la an aw (xs.take 2) lo ((xs.drop 2).take 3) wds y fl G → H tl = none → Q (.ref tl) G
theorem cut02 {xs : List Str} (h : xs.length = 6) : cutV (xs.map V.str) none (some 2) = (xs.take 2).map V.str ∧ cutV (xs.map V.str) (some 2) (some 5) = ((xs.drop 2).take 3).map V.str := by
  match xs, h with
  | [x0, x1, x2, x3, x4, x5], _ => exact ⟨rfl, rfl⟩
theorem okTools {f : Addr} {fd : FuncData} {k : Nat} (F : Fun K "_law_tools" "_law_tools" tTools f fd) : FnOk P w K mg base CX0 (k + 1) f fd psTools spTools := by
  refine F.ok scTools (fun vs H Q E h => ?_) (fun cdv A outer s H vs Q E hr h => ?_)
  · obtain ⟨d, c, nh, la, aw, xs, lo, wds, y, fl, rfl, _⟩ := h
    rfl
  obtain ⟨d, c, nh, la, aw, xs, lo, wds, y, fl, rfl, dk, hn, hl, hw, ol, ow, lx, h5, q⟩ := h
  refine ⟨_, pss_cons (ps_set (i := 4) scTools.nd rfl (.inl rfl) (pe_disp (pps_cons pe_str (pe_slice sl_list (pv 0) po_none (po_some pe_int)) (pps_cons pe_str (pv 1) (pps_cons pe_str (pe_slice sl_list (pv 0) (po_some pe_int) (po_some pe_int)) (pps_cons pe_str (pe_ix ix_list (pv 0) pe_int (fun _ _ => rfl)) (pps_cons pe_str (pv 2) pps_nil))))) (by rfl) (by rfl) (fun z => by cases z) (by decide)))
    (pss_cons (ps_asg (pv 3) (pg_sub (pv 4) pe_str (set_dict (hu_of hr))))
    (pss_one (ps_ret (pv 4)))), ?_⟩
  refine fun pt nt => ?_
  have ot := dk.off nt
  refine objG nt fun G0 s0 g0 => ?_
  have dk0 := dk.same s0
  refine ⟨_, rfl, 2, rfl, nh, _, rfl, SqL.of (s0 _ _ hn), fun po no => ?_⟩
  rw [(cut02 lx).1]
  have oo := dk0.off no
  refine lstG no fun G1 s1 g1 => ?_
  have dk1 := dk0.same s1
  have s01 := s0.trans s1
  refine ⟨_, rfl, _, rfl, 2, rfl, 5, rfl, nh, _, rfl, SqL.of (s01 _ _ hn), fun pn nn => ?_⟩
  rw [(cut02 lx).2]
  have on := dk1.off nn
  refine lstG nn fun G2 s2 g2 => ?_
  have s12 := s1.trans s2
  have s02 := s01.trans s2
  have e5 : (xs.map V.str)[5]? = some (.str y) := by rw [List.getElem?_map, h5]; rfl
  refine ⟨_, rfl, nh, _, _, _, rfl, rfl, SqL.of (s02 _ _ hn), atI_nat (j := 5) e5, _, rfl, s12 _ _ g0, [(.inr "opens", .ref po), (.inr "looked", .ref la), (.inr "names", .ref pn), (.inr "own", .str y), (.inr "faults", .int fl)], rfl, (by show 5 ≤ 15; decide), ?_⟩
  have nl : ∀ {l : Addr} {zs : List V}, G2 l = some (.lst zs) → l ≠ pt := fun hl w => by rw [w, s12 _ _ g0] at hl; cases hl
  refine ⟨_, rfl, _, rfl, _, _, rfl, DPut.k (k := .inr "words") upd_same (by show 5 < sizeLine; decide), ?_⟩
  have gp1 := s2 _ _ g1
  refine ⟨_, rfl, q pt po pn _ ?_ ?_ ⟨upd_same, ?_, ?_, ?_, ?_, ot, oo, ol, on, ow⟩ nt⟩
  · exact smk (smk s02 nt) nt
  · exact ((dk1.same s2).put ot.1 ot.2).put ot.1 ot.2
  · rw [upd_ne (nl gp1), upd_ne (nl gp1)]; exact gp1
  · rw [upd_ne (nl (s02 _ _ hl)), upd_ne (nl (s02 _ _ hl))]; exact s02 _ _ hl
  · rw [upd_ne (nl g2), upd_ne (nl g2)]; exact g2
  · rw [upd_ne (nl (s02 _ _ hw)), upd_ne (nl (s02 _ _ hw))]; exact s02 _ _ hw
abbrev tDF : Stmt := tp 21
abbrev nDF : List Str := ["_law_deck_here", "_law_opens", "_law_many", "_law_kind", "_law_k"]
abbrev psDF : List Str := ["_law_deck_here", "_law_opens", "_law_many"]
theorem scDF : FnScope nDF psDF (defScope tDF) := ⟨rfl, rfl, rfl, by decide +kernel, rfl, by decide +kernel, by decide +kernel⟩
/-- a kind of functions over data -/
structure Df (j : Nat) (xs : List Str) (k : Kd) : Prop where
  sz : k.size ≤ 7 + 8 * j
  dp : k.dp ≤ 2 + j
  mu : k.mu ≤ 2 + j
  td : k.tdk 2
  op : ∀ x ∈ k.opens, x ∈ xs
theorem Df.of {xs : List Str} {k : Kd} (h : Dta 2 xs k) : Df 0 xs k := ⟨h.sz, h.dp, by rw [Kd.mu_dat h.da]; exact h.dp, Kd.tdk_dat h.da h.dp, h.op⟩
theorem Df.fn {j : Nat} {xs : List Str} {a k : Kd} (g : Dta 2 xs a) (h : Df j xs k) : Df (j + 1) xs (.fn a k) := by
  have s1 : a.size ≤ 7 := g.sz
  have s2 := h.sz
  have d1 := g.dp
  have d2 := h.dp
  have m := h.mu
  exact ⟨by rw [Kd.size_fn]; omega, by show max a.dp k.dp + 1 ≤ _; omega, by show k.mu + 1 ≤ _; omega, ⟨⟨Hk.dat g.da, g.dp⟩, h.td⟩, fun x hx => (List.mem_append.mp hx).elim (g.op x) (h.op x)⟩
def spDF : Sp := fun vs H Q _ => ∃ (d c oA : Addr) (xs : List Str) (m : Int), vs = [.ref d, .ref oA, .int m] ∧ Dk H d c ∧ H oA = some (.lst (xs.map V.str)) ∧ oA ≠ d ∧ oA ≠ c ∧ xs.length ≤ 26 ∧ (∀ x ∈ xs, Nm x) ∧ 0 ≤ m ∧ m ≤ 3 ∧
  ∀ (v : V) (k : Kd) (G : Hp), Kp d c H G → Dk G d c → Dd Non G k.dt v → Df 3 xs k → Q v G
theorem okDF {f : Addr} {fd : FuncData} {k : Nat} (F : Fun K "_law_data_function" "_law_data_function" tDF f fd)
    (DA : Okd P w K mg base CX0 (k) "_law_data" ["_law_deck_here", "_law_opens", "_law_deep", "_law_small"] (spLData 4))
    (m_range : mg "range" = none) : FnOk P w K mg base CX0 (k + 1) f fd psDF spDF := by
  obtain ⟨fA, fdA, GA, bA, gA, kA⟩ := DA
  refine F.ok scDF (fun vs H Q E h => ?_) (fun cdv A outer s H vs Q E hr h => ?_)
  · obtain ⟨d, c, oA, xs, m, rfl, _⟩ := h
    rfl
  obtain ⟨d, c, oA, xs, m, rfl, dk, ho, o1, o2, lx, nm, m0, m3, q⟩ := h
  refine ⟨_, pss_cons (ps_set (i := 3) scDF.nd rfl (.inl rfl) (pe_call GA hr (by rfl) gA kA bA .nil pass0 (pa_cons (pv 0) (pa_cons (pv 1) (pa_cons pe_int (pa_cons pe_bl pa_nil))))))
    (pss_cons (ps_for PassesOwn.never rfl (pi_range1 (by rfl) m_range (pa_cons (pv 2) pa_nil)) (pg_name (i := 4) scDF.nd rfl (.inl rfl))
      (pss_one (ps_set (i := 3) scDF.nd rfl (.inl rfl) (pe_tup (pa_cons pe_str (pa_cons (pe_call GA hr (by rfl) gA kA bA .nil pass0 (pa_cons (pv 0) (pa_cons (pv 1) (pa_cons pe_int (pa_cons pe_bl pa_nil))))) (pa_cons (pv 3) pa_nil)))))))
    (pss_one (ps_ret (pv 3)))), ?_⟩
  refine ⟨_, rfl, _, rfl, d, c, oA, xs, 2, false, rfl, by decide, dk, ho, o1, o2, lx, nm, fun v0 k0 G0 kp0 e0 r0 t0 => ?_⟩
  refine ⟨_, rfl, m, rfl, by omega, by omega, ?_⟩
  refine for_range (lo := 0) (n := m.toNat) (fun j σ F => ∃ (v : V) (k : Kd) (y4 : Option V), σ = [some (.ref d), some (.ref oA), some (.int m), some v, y4] ∧ Kp d c H F ∧ Dk F d c ∧ Dd Non F k.dt v ∧ Df j xs k) ⟨v0, k0, _, rfl, kp0, e0, rp0_dd r0, Df.of t0⟩ (fun j σ F hj z => ?_) (fun σ F z => ?_)
  · obtain ⟨v, k, y4, rfl, kp, e, dd, df⟩ := z
    refine ⟨_, rfl, _, rfl, d, c, oA, xs, 2, false, rfl, by decide, e, kp _ _ o1 o2 ho, o1, o2, lx, nm, fun v1 k1 G1 kp1 e1 r1 t1 => ?_⟩
    refine ⟨_, rfl, (by show 3 ≤ sizeLine; decide), fun p np => tupG np (.cons (.str _) (.cons (rp0_dd r1) (.cons (dd.kn (Kn.tk (Tk.kp kp1 e))) .nil))) fun G2 s2 d2 => ?_⟩
    exact ⟨_, .fn k1 k, _, rfl, (kp.trans kp1).trans (.of s2), e1.same s2, d2, df.fn t1⟩
  obtain ⟨v, k, y4, rfl, kp, e, dd, df⟩ := z
  exact ⟨_, rfl, q v k F kp e dd ⟨by have := df.sz; omega, by have := df.dp; omega, by have := df.mu; omega, df.td, df.op⟩⟩
end
end Kq

/-! towers -/
namespace Kq
open PySem PySem.Spec PyProof.Rows L2 Kf Kg Kv Kk Ku
structure Tw (j : Nat) (t : Tm) : Prop where
  wf : t.wf
  nt : t.nt
  dp : t.dt.dp ≤ 3 + 2 * j
  wt : t.dt.wt ≤ 400 + 1000 * j
theorem dk_tru : Dk1 .tru := ⟨rfl, fun y hy => by cases hy⟩
section
variable {P : Program} {w : World} {K : PySem.W.Frag} {mg : Str → Option Value} {base : Heap}
abbrev tTower : Stmt := tp 23
abbrev nTower : List Str := ["_law_deck_here", "_law_names_here", "_law_term_here", "_law_k", "_law_many", "_law_over", "_law_some"]
abbrev psTower : List Str := ["_law_deck_here", "_law_names_here"]
theorem scTower : FnScope nTower psTower (defScope tTower) := ⟨rfl, rfl, rfl, by decide +kernel, rfl, by decide +kernel, by decide +kernel⟩
def spTower : Sp := fun vs H Q _ => ∃ (d c nh : Addr) (xs : List Str), vs = [.ref d, .ref nh] ∧ Dk H d c ∧ H nh = some (.lst (xs.map V.str)) ∧ nh ≠ d ∧ nh ≠ c ∧ xs.length = 6 ∧ (∀ x ∈ xs, Nm x) ∧
  ∀ (v : V) (t : Tm) (G : Hp), Kp d c H G → Dk G d c → Dd Non G t.dt v → Bg t → Q v G
theorem len6 {xs : List Str} (h : xs.length = 6) : ∃ x0 x1 x2 x3 x4 x5, xs = [x0, x1, x2, x3, x4, x5] := by
  match xs, h with
  | [x0, x1, x2, x3, x4, x5], _ => exact ⟨x0, x1, x2, x3, x4, x5, rfl⟩
theorem okTower {f : Addr} {fd : FuncData} {k : Nat} (F : Fun K "_law_tower" "_law_tower" tTower f fd)
    (DD : Okd P w K mg base CX0 (k) "_law_draw" ["_law_deck_here", "_law_most"] spDraw)
    (m_range : mg "range" = none) : FnOk P w K mg base CX0 (k + 1) f fd psTower spTower := by
  obtain ⟨fD, fdD, GD, bD, gD, kD⟩ := DD
  refine F.ok scTower (fun vs H Q E h => ?_) (fun cdv A outer s H vs Q E hr h => ?_)
  · obtain ⟨d, c, nh, xs, rfl, _⟩ := h
    rfl
  obtain ⟨d, c, nh, xs, rfl, dk, gl, o1, o2, lx, hx, q⟩ := h
  refine ⟨_, pss_cons (ps_set (i := 2) scTower.nd rfl (.inl rfl) (pe_tup (pa_cons pe_str (pa_cons pe_bl pa_nil))))
    (pss_cons (ps_for PassesOwn.never rfl (pi_range1 (by rfl) m_range (pa_cons pe_int pa_nil)) (pg_name (i := 3) scTower.nd rfl (.inl rfl))
      (pss_cons (ps_set (i := 4) scTower.nd rfl (.inl rfl) (pe_op op_add pe_int (pe_call GD hr (by rfl) gD kD bD .nil pass0 (pa_cons (pv 0) (pa_cons pe_int pa_nil)))))
    (pss_cons (ps_set (i := 5) scTower.nd rfl (.inl rfl) (pe_tup (pa_cons pe_str (pa_cons (pe_tup (pa_cons pe_str pa_nil)) (pa_cons (pv 2) pa_nil)))))
    (pss_cons (ps_set (i := 6) scTower.nd rfl (.inl rfl) (pe_lst (pa_cons (pe_tup (pa_cons pe_str (pa_cons (pv 4) (pa_cons (pv 2) (pa_cons (pe_ix ix_list (pv 1) pe_int (fun _ _ => rfl)) (pa_cons (pe_tup (pa_cons pe_str (pa_cons (pe_tup (pa_cons pe_str pa_nil)) (pa_cons (pe_tup (pa_cons pe_str (pa_cons (pe_ix ix_list (pv 1) pe_int (fun _ _ => rfl)) pa_nil))) pa_nil)))) pa_nil)))))) pa_nil)))
    (pss_cons (ps_expr (pe_bm PySem.F.plainAttrs_list PySem.F.slot_list_append PySem.F.type_list_append mt_append (pv 6) (pa_cons (pe_tup (pa_cons pe_str (pa_cons (pv 4) (pa_cons (pe_tup (pa_cons pe_str (pa_cons pe_bl pa_nil))) (pa_cons (pe_ix ix_list (pv 1) pe_int (fun _ _ => rfl)) (pa_cons (pv 5) pa_nil)))))) pa_nil)))
    (pss_one (ps_set (i := 2) scTower.nd rfl (.inl rfl) (pe_ix ix_list (pv 6) (pe_call GD hr (by rfl) gD kD bD .nil pass0 (pa_cons (pv 0) (pa_cons pe_int pa_nil))) (fun _ _ => rfl)))))))))
    (pss_one (ps_ret (pv 2)))), ?_⟩
  obtain ⟨x0, x1, x2, x3, x4, x5, rfl⟩ := len6 lx
  have gl : H nh = some (.lst [.str x0, .str x1, .str x2, .str x3, .str x4, .str x5]) := gl
  have nx : Nm x2 := hx x2 (by simp)
  have l8 : x2.length ≤ 8 := nm8 nx
  have kp : Kp d c H H := Kp.rfl
  have on : nh ≠ d ∧ nh ≠ c := ⟨o1, o2⟩
  refine ⟨(by show 2 ≤ sizeLine; decide), fun pr1 nr1 => tupG nr1 (.cons (.str _) (.cons (.bl _) .nil)) fun Gr1 sr1 dr1 => ?_⟩
  have dr1 : Dd Non Gr1 (Tm.tru (true)).dt (.ref pr1) := dr1
  replace dk := dk.same sr1
  replace gl := sr1 _ _ gl
  replace kp := kp.trans (.of sr1)
  refine ⟨9, rfl, by decide, by decide, ?_⟩
  refine for_range (lo := 0) (n := 9) (fun j σ F => ∃ (vt : V) (t : Tm) (y3 y4 y5 y6 : Option V), σ = [some (.ref d), some (.ref nh), some vt, y3, y4, y5, y6] ∧ Kp d c H F ∧ Dk F d c ∧ F nh = some (.lst [.str x0, .str x1, .str x2, .str x3, .str x4, .str x5]) ∧ Dd Non F t.dt vt ∧ Tw j t) ⟨_, _, _, _, _, _, rfl, kp, dk, gl, dr1, ⟨trivial, trivial, by decide, by show (10 * ("truth" : Str).length + 2 + 2 + (5 + 2 + 0) + 3) ≤ 400; decide +kernel⟩⟩ (fun j σ F hj z => ?_) (fun σ F z => ?_)
  · obtain ⟨vt, t, y3, y4, y5, y6, rfl, kp, dk, gl, dt, tw⟩ := z
    refine ⟨_, rfl, d, c, 30, rfl, dk, by decide, by decide, fun r0 G1 h0 h1 kp1 e1 => ⟨_, _, rfl, rfl, ?_⟩⟩
    replace gl := kp1 _ _ on.1 on.2 gl
    replace kp := kp.trans kp1
    replace dt := dt.kn (Kn.tk (Tk.kp kp1 dk))
    replace dk := e1
    refine ⟨(by show 1 ≤ sizeLine; decide), fun pr2 nr2 => tupG nr2 (.cons (.str _) .nil) fun Gr2 sr2 dr2 => ?_⟩
    have dr2 : Dd Non Gr2 (Kd.tru).dt (.ref pr2) := dr2
    replace dk := dk.same sr2
    replace gl := sr2 _ _ gl
    replace kp := kp.trans (.of sr2)
    replace dt := dt.same sr2
    refine ⟨_, rfl, (by show 3 ≤ sizeLine; decide), fun pr3 nr3 => tupG nr3 (.cons (.str _) (.cons dr2 (.cons dt .nil))) fun Gr3 sr3 dr3 => ?_⟩
    have dr3 : Dd Non Gr3 (Tm.right (Kd.tru) (t)).dt (.ref pr3) := dr3
    replace dk := dk.same sr3
    replace gl := sr3 _ _ gl
    replace kp := kp.trans (.of sr3)
    replace dt := dt.same sr3
    replace dr2 := dr2.same sr3
    refine ⟨_, rfl, _, rfl, _, rfl, nh, _, _, _, rfl, rfl, SqL.of gl, atI_nat (j := 2) rfl, (by show 1 ≤ sizeLine; decide), fun pr4 nr4 => tupG nr4 (.cons (.str _) .nil) fun Gr4 sr4 dr4 => ?_⟩
    have dr4 : Dd Non Gr4 (Kd.tru).dt (.ref pr4) := dr4
    replace dk := dk.same sr4
    replace gl := sr4 _ _ gl
    replace kp := kp.trans (.of sr4)
    replace dt := dt.same sr4
    replace dr2 := dr2.same sr4
    replace dr3 := dr3.same sr4
    refine ⟨_, rfl, nh, _, _, _, rfl, rfl, SqL.of gl, atI_nat (j := 2) rfl, (by show 2 ≤ sizeLine; decide), fun pr5 nr5 => tupG nr5 (.cons (.str _) (.cons (.str _) .nil)) fun Gr5 sr5 dr5 => ?_⟩
    have dr5 : Dd Non Gr5 (Tm.name (x2)).dt (.ref pr5) := dr5
    replace dk := dk.same sr5
    replace gl := sr5 _ _ gl
    replace kp := kp.trans (.of sr5)
    replace dt := dt.same sr5
    replace dr2 := dr2.same sr5
    replace dr3 := dr3.same sr5
    replace dr4 := dr4.same sr5
    refine ⟨(by show 3 ≤ sizeLine; decide), fun pr6 nr6 => tupG nr6 (.cons (.str _) (.cons dr4 (.cons dr5 .nil))) fun Gr6 sr6 dr6 => ?_⟩
    have dr6 : Dd Non Gr6 (Tm.right (Kd.tru) (Tm.name (x2))).dt (.ref pr6) := dr6
    replace dk := dk.same sr6
    replace gl := sr6 _ _ gl
    replace kp := kp.trans (.of sr6)
    replace dt := dt.same sr6
    replace dr2 := dr2.same sr6
    replace dr3 := dr3.same sr6
    replace dr4 := dr4.same sr6
    replace dr5 := dr5.same sr6
    refine ⟨(by show 5 ≤ sizeLine; decide), fun pr7 nr7 => tupG nr7 (.cons (.str _) (.cons (.int _) (.cons dt (.cons (.str _) (.cons dr6 .nil))))) fun Gr7 sr7 dr7 => ?_⟩
    have dr7 : Dd Non Gr7 (Tm.rounds ((1 + r0)) (t) (x2) (Tm.right (Kd.tru) (Tm.name (x2)))).dt (.ref pr7) := dr7
    replace dk := dk.same sr7
    replace gl := sr7 _ _ gl
    replace kp := kp.trans (.of sr7)
    replace dt := dt.same sr7
    replace dr2 := dr2.same sr7
    replace dr3 := dr3.same sr7
    replace dr4 := dr4.same sr7
    replace dr5 := dr5.same sr7
    replace dr6 := dr6.same sr7
    refine ⟨(by show 1 ≤ sizeLine; decide), fun pr8 nr8 => ?_⟩
    have or8 := dk.off nr8
    have fr : H pr8 = none := kp.free dk nr8
    have oor8 := dk.off nr8
    have gl0 := gl
    refine lstG nr8 fun Gr8 sr8 gr8 => ?_
    have gr8 : Gr8 pr8 = some (.lst [.ref pr7]) := gr8
    replace dk := dk.same sr8
    replace gl := sr8 _ _ gl
    replace kp := kp.trans (.of sr8)
    replace dt := dt.same sr8
    replace dr2 := dr2.same sr8
    replace dr3 := dr3.same sr8
    replace dr4 := dr4.same sr8
    replace dr5 := dr5.same sr8
    replace dr6 := dr6.same sr8
    replace dr7 := dr7.same sr8
    refine ⟨_, rfl, .inl ⟨rfl, _, SqL.of gr8⟩, _, rfl, (by show 2 ≤ sizeLine; decide), fun pr9 nr9 => tupG nr9 (.cons (.str _) (.cons (.bl _) .nil)) fun Gr9 sr9 dr9 => ?_⟩
    have dr9 : Dd Non Gr9 (Tm.tru (false)).dt (.ref pr9) := dr9
    replace dk := dk.same sr9
    replace gl := sr9 _ _ gl
    replace kp := kp.trans (.of sr9)
    replace dt := dt.same sr9
    replace dr2 := dr2.same sr9
    replace dr3 := dr3.same sr9
    replace dr4 := dr4.same sr9
    replace dr5 := dr5.same sr9
    replace dr6 := dr6.same sr9
    replace dr7 := dr7.same sr9
    replace gr8 := sr9 _ _ gr8
    refine ⟨_, rfl, nh, _, _, _, rfl, rfl, SqL.of gl, atI_nat (j := 2) rfl, _, rfl, (by show 5 ≤ sizeLine; decide), fun pr10 nr10 => tupG nr10 (.cons (.str _) (.cons (.int _) (.cons dr9 (.cons (.str _) (.cons dr3 .nil))))) fun Gr10 sr10 dr10 => ?_⟩
    have dr10 : Dd Non Gr10 (Tm.rounds ((1 + r0)) (Tm.tru (false)) (x2) (Tm.right (Kd.tru) (t))).dt (.ref pr10) := dr10
    replace dk := dk.same sr10
    replace gl := sr10 _ _ gl
    replace kp := kp.trans (.of sr10)
    replace dt := dt.same sr10
    replace dr2 := dr2.same sr10
    replace dr3 := dr3.same sr10
    replace dr4 := dr4.same sr10
    replace dr5 := dr5.same sr10
    replace dr6 := dr6.same sr10
    replace dr7 := dr7.same sr10
    replace gr8 := sr10 _ _ gr8
    replace dr9 := dr9.same sr10
    refine ⟨pr8, _, _, rfl, rfl, gr8, (by show 1 < sizeLine; decide), ?_⟩
    have k1 : Kv.Kn Non Gr10 (upd Gr10 pr8 (.lst ([.ref pr7] ++ [.ref pr10]))) := Kn.rfl.put (fun z => z) fun _ z => by rw [gr8] at z; cases z
    replace dk := dk.put or8.1 or8.2 (o := .lst ([.ref pr7] ++ [.ref pr10]))
    have dA := dr7.kn k1
    have dB := dr10.kn k1
    have lne : nh ≠ pr8 := fun w => by rw [w] at gl0; rw [gl0] at nr8; cases nr8
    have gS : (upd Gr10 pr8 (.lst ([.ref pr7] ++ [.ref pr10]))) pr8 = some (.lst [.ref pr7, .ref pr10]) := upd_same
    have gl2 : (upd Gr10 pr8 (.lst ([.ref pr7] ++ [.ref pr10]))) nh = some (.lst [.str x0, .str x1, .str x2, .str x3, .str x4, .str x5]) := by rw [upd_ne lne]; exact gl
    replace kp := kp.mk fr (o := .lst ([.ref pr7] ++ [.ref pr10]))
    generalize upd Gr10 pr8 (.lst ([.ref pr7] ++ [.ref pr10])) = GZ at k1 dk dA dB gS gl2 kp
    refine ⟨_, rfl, _, rfl, d, c, 2, rfl, dk, by decide, by decide, fun r2 G9 ha hb kp9 e9 => ?_⟩
    have tA := dA.kn (Kn.tk (Tk.kp kp9 dk))
    have tB := dB.kn (Kn.tk (Tk.kp kp9 dk))
    have oS := oor8
    have gS9 := kp9 _ _ oS.1 oS.2 gS
    have w1 := tw.dp
    have w2 := tw.wt
    have TA : Tw (j + 1) (Tm.rounds ((1 + r0)) (t) (x2) (Tm.right (Kd.tru) (Tm.name (x2)))) := by
      obtain ⟨u1, u2, u3, u4, u5, u6, u7, u8, u9, u10, u11, u12, u13, u14, u15, u16, u17, u18, u19, u20, u21, u22, u23, u24⟩ := wlen1
      refine ⟨⟨⟨by omega, by omega⟩, tw.wf, nx, dk_tru, nx⟩, ⟨tw.nt, trivial⟩, ?_, ?_⟩ <;> simp only [Tm.dt, Kd.dt, Dt.dp, Dt.dps, Dt.wt, Dt.wts, u1, u2, u3, u4, u5, u6, u7, u8, u9, u10, u11, u12, u13, u14, u15, u16, u17, u18, u19, u20, u21, u22, u23, u24] <;> omega
    have TB : Tw (j + 1) (Tm.rounds ((1 + r0)) (Tm.tru (false)) (x2) (Tm.right (Kd.tru) (t))) := by
      obtain ⟨u1, u2, u3, u4, u5, u6, u7, u8, u9, u10, u11, u12, u13, u14, u15, u16, u17, u18, u19, u20, u21, u22, u23, u24⟩ := wlen1
      refine ⟨⟨⟨by omega, by omega⟩, trivial, nx, dk_tru, tw.wf⟩, ⟨trivial, tw.nt⟩, ?_, ?_⟩ <;> simp only [Tm.dt, Kd.dt, Dt.dp, Dt.dps, Dt.wt, Dt.wts, u1, u2, u3, u4, u5, u6, u7, u8, u9, u10, u11, u12, u13, u14, u15, u16, u17, u18, u19, u20, u21, u22, u23, u24] <;> omega
    obtain rfl | rfl : r2 = 0 ∨ r2 = 1 := by omega
    · exact ⟨pr8, _, _, _, rfl, rfl, SqL.of gS9, atI_nat (j := 0) rfl, _, _, _, _, _, _, rfl, kp.trans kp9, e9, kp9 _ _ o1 o2 gl2, tA, TA⟩
    · exact ⟨pr8, _, _, _, rfl, rfl, SqL.of gS9, atI_nat (j := 1) rfl, _, _, _, _, _, _, rfl, kp.trans kp9, e9, kp9 _ _ o1 o2 gl2, tB, TB⟩
  obtain ⟨vt, t, y3, y4, y5, y6, rfl, kp, dk, gl, dt, tw⟩ := z
  have w1 := tw.dp
  have w2 := tw.wt
  have e0 : sizeLine = 16777216 := rfl
  exact ⟨_, rfl, q vt t F kp dk dt ⟨tw.wf, tw.nt, by omega, by omega⟩⟩
end
end Kq

/-! the law: more rounds in anything -/
namespace Kq
open PySem PySem.Spec PyProof.Rows L2 Kf Kg Kv Kk Ku
mutual
/-- a thing, and the same with more rounds -/
inductive Mo (n : Int) : Dt → Dt → Prop
  | leaf {x : Dt} : x.isTup = false → Mo n x x
  | tup {w : Str} {xs ys : List Dt} : PyData.strOk w = true → w ≠ "rounds" → xs.length ≤ 10 → MoL n xs ys → Mo n (.tup (.str w :: xs)) (.tup (.str w :: ys))
  | rounds {m : Int} {x : Str} {a b c d : Dt} : Mo n a b → Mo n c d → Mo n (.tup [.str "rounds", .int m, a, .str x, c]) (.tup [.str "rounds", .int (min (m + n) 30), b, .str x, d])
inductive MoL (n : Int) : List Dt → List Dt → Prop
  | nil : MoL n [] []
  | cons {x y : Dt} {xs ys : List Dt} : Mo n x y → MoL n xs ys → MoL n (x :: xs) (y :: ys)
end
theorem MoL.at {n : Int} : ∀ {xs ys : List Dt} {j : Nat} {x : Dt}, MoL n xs ys → xs[j]? = some x → ∃ y, ys[j]? = some y ∧ Mo n x y
  | _, _, j, x, .nil, h => by simp at h
  | _, _, 0, x, .cons a b, h => ⟨_, rfl, by cases h; exact a⟩
  | _, _, j + 1, x, .cons a b, h => MoL.at (j := j) b h
theorem MoL.len {n : Int} : ∀ {xs ys : List Dt}, MoL n xs ys → xs.length = ys.length
  | _, _, .nil => rfl
  | _, _, .cons a b => by rw [List.length_cons, List.length_cons, MoL.len b]
theorem DdL.atV {N : Addr → Prop} {H : Hp} : ∀ {ds : List Dt} {us : List V} {k : Nat} {u : V}, DdL N H ds us → us[k]? = some u → ∃ d, ds[k]? = some d ∧ Dd N H d u
  | _, _, k, d, .nil, h => by simp at h
  | _, _, 0, d, .cons a b, h => ⟨_, rfl, by cases h; exact a⟩
  | _, _, k + 1, d, .cons a b, h => DdL.atV (k := k) b h
theorem dps_at : ∀ {ds : List Dt} {k : Nat} {d : Dt}, ds[k]? = some d → d.dp ≤ Dt.dps ds
  | [], k, d, h => by simp at h
  | x :: xs, 0, d, h => by cases h; exact Nat.le_max_left _ _
  | x :: xs, k + 1, d, h => Nat.le_trans (dps_at (k := k) h) (Nat.le_max_right _ _)
theorem m_ok : PyData.strOk "open" = true ∧ PyData.strOk "num" = true ∧ PyData.strOk "truth" = true ∧ PyData.strOk "pair" = true ∧ PyData.strOk "either" = true ∧ PyData.strOk "list" = true ∧ PyData.strOk "fun" = true := by decide +kernel
theorem m_ne : ("open" : Str) ≠ "rounds" ∧ ("num" : Str) ≠ "rounds" ∧ ("truth" : Str) ≠ "rounds" ∧ ("pair" : Str) ≠ "rounds" ∧ ("either" : Str) ≠ "rounds" ∧ ("list" : Str) ≠ "rounds" ∧ ("fun" : Str) ≠ "rounds" := by decide +kernel
theorem mo_kd {n : Int} : ∀ k : Kd, Mo n k.dt k.dt := by
  obtain ⟨o1, o2, o3, o4, o5, o6, o7⟩ := m_ok
  obtain ⟨e1, e2, e3, e4, e5, e6, e7⟩ := m_ne
  intro k
  induction k with
  | opn x => exact .tup o1 e1 (Nat.le_of_ble_eq_true rfl) (.cons (.leaf rfl) .nil)
  | num => exact .tup o2 e2 (Nat.le_of_ble_eq_true rfl) .nil
  | tru => exact .tup o3 e3 (Nat.le_of_ble_eq_true rfl) .nil
  | pair a b i j => exact .tup o4 e4 (Nat.le_of_ble_eq_true rfl) (.cons i (.cons j .nil))
  | eith a b i j => exact .tup o5 e5 (Nat.le_of_ble_eq_true rfl) (.cons i (.cons j .nil))
  | lst a i => exact .tup o6 e6 (Nat.le_of_ble_eq_true rfl) (.cons i .nil)
  | fn a b i j => exact .tup o7 e7 (Nat.le_of_ble_eq_true rfl) (.cons i (.cons j .nil))
theorem t_ne : ("name" : Str) ≠ "rounds" ∧ ("fun" : Str) ≠ "rounds" ∧ ("call" : Str) ≠ "rounds" ∧ ("num" : Str) ≠ "rounds" ∧ ("plus" : Str) ≠ "rounds" ∧ ("less" : Str) ≠ "rounds" ∧ ("truth" : Str) ≠ "rounds" ∧ ("if" : Str) ≠ "rounds" ∧ ("pair" : Str) ≠ "rounds" ∧ ("first" : Str) ≠ "rounds" ∧ ("second" : Str) ≠ "rounds" ∧ ("left" : Str) ≠ "rounds" ∧ ("right" : Str) ≠ "rounds" ∧ ("case" : Str) ≠ "rounds" ∧ ("none" : Str) ≠ "rounds" ∧ ("more" : Str) ≠ "rounds" ∧ ("fold" : Str) ≠ "rounds" ∧ ("built" : Str) ≠ "rounds" ∧ ("alike" : Str) ≠ "rounds" ∧ ("fault" : Str) ≠ "rounds" := by decide +kernel
theorem mo_tm {n : Int} : ∀ {t : Tm}, t.nt → Mo n t.dt (t.mo n).dt := by
  obtain ⟨o0, o1, o2, o3, o4, o5, o6, o7, o8, o9, o10, o11, o12, o13, o14, o15, o16, o17, o18, o19, o20⟩ := t_ok
  obtain ⟨e0, e1, e2, e3, e4, e5, e6, e7, e8, e9, e10, e11, e12, e13, e14, e15, e16, e17, e18, e19⟩ := t_ne
  intro t
  induction t with
  | name x => exact fun h => .tup o0 e0 (Nat.le_of_ble_eq_true rfl) (.cons (.leaf rfl) .nil)
  | fn x k t it => exact fun h => .tup o1 e1 (Nat.le_of_ble_eq_true rfl) (.cons (.leaf rfl) (.cons (mo_kd _) (.cons (it h) .nil)))
  | call a b ia ib => exact fun h => .tup o2 e2 (Nat.le_of_ble_eq_true rfl) (.cons (ia h.1) (.cons (ib h.2) .nil))
  | num i => exact fun h => .tup o3 e3 (Nat.le_of_ble_eq_true rfl) (.cons (.leaf rfl) .nil)
  | plus a b ia ib => exact fun h => .tup o4 e4 (Nat.le_of_ble_eq_true rfl) (.cons (ia h.1) (.cons (ib h.2) .nil))
  | less a b ia ib => exact fun h => .tup o5 e5 (Nat.le_of_ble_eq_true rfl) (.cons (ia h.1) (.cons (ib h.2) .nil))
  | tru i => exact fun h => .tup o6 e6 (Nat.le_of_ble_eq_true rfl) (.cons (.leaf rfl) .nil)
  | iff a b c ia ib ic => exact fun h => .tup o7 e7 (Nat.le_of_ble_eq_true rfl) (.cons (ia h.1) (.cons (ib h.2.1) (.cons (ic h.2.2) .nil)))
  | pair a b ia ib => exact fun h => .tup o8 e8 (Nat.le_of_ble_eq_true rfl) (.cons (ia h.1) (.cons (ib h.2) .nil))
  | fst a ia => exact fun h => .tup o9 e9 (Nat.le_of_ble_eq_true rfl) (.cons (ia h) .nil)
  | snd a ia => exact fun h => .tup o10 e10 (Nat.le_of_ble_eq_true rfl) (.cons (ia h) .nil)
  | left a k ia => exact fun h => .tup o11 e11 (Nat.le_of_ble_eq_true rfl) (.cons (ia h) (.cons (mo_kd _) .nil))
  | right k a ia => exact fun h => .tup o12 e12 (Nat.le_of_ble_eq_true rfl) (.cons (mo_kd _) (.cons (ia h) .nil))
  | case a x b y c ia ib ic => exact fun h => .tup o13 e13 (Nat.le_of_ble_eq_true rfl) (.cons (ia h.1) (.cons (.leaf rfl) (.cons (ib h.2.1) (.cons (.leaf rfl) (.cons (ic h.2.2) .nil)))))
  | none k => exact fun h => .tup o14 e14 (Nat.le_of_ble_eq_true rfl) (.cons (mo_kd _) .nil)
  | more a b ia ib => exact fun h => .tup o15 e15 (Nat.le_of_ble_eq_true rfl) (.cons (ia h.1) (.cons (ib h.2) .nil))
  | fold a b x y t ia ib it => exact fun h => .tup o16 e16 (Nat.le_of_ble_eq_true rfl) (.cons (ia h.1) (.cons (ib h.2.1) (.cons (.leaf rfl) (.cons (.leaf rfl) (.cons (it h.2.2) .nil)))))
  | built k o x y t it => exact fun h => .tup o17 e17 (Nat.le_of_ble_eq_true rfl) (.cons (mo_kd _) (.cons (.leaf rfl) (.cons (.leaf rfl) (.cons (.leaf rfl) (.cons (it h) .nil)))))
  | alike a b ia ib => exact fun h => .tup o18 e18 (Nat.le_of_ble_eq_true rfl) (.cons (ia h.1) (.cons (ib h.2) .nil))
  | fault k => exact fun h => .tup o19 e19 (Nat.le_of_ble_eq_true rfl) (.cons (mo_kd _) .nil)
  | rounds m a x t ia it => exact fun h => .rounds (ia h.1) (it h.2)
  | told f fs => exact fun h => h.elim
section
variable {P : Program} {w : World} {K : PySem.W.Frag} {mg : Str → Option Value} {base : Heap}
abbrev tLM : Stmt := tp 22
abbrev nLM : List Str := ["_law_term_here", "_law_by", "_law_part", "_law_found"]
abbrev psLM : List Str := ["_law_term_here", "_law_by"]
theorem scLM : FnScope nLM psLM (defScope tLM) := ⟨rfl, rfl, rfl, by decide +kernel, rfl, by decide +kernel, by decide +kernel⟩
def spLM (m : Nat) : Sp := fun vs H Q _ => ∃ (v : V) (x y : Dt) (n : Int), vs = [v, .int n] ∧ Dd Non H x v ∧ Mo n x y ∧ x.dp < m ∧ ∀ (u : V) (G : Hp), Same H G → Dd Non G y u → Q u G
theorem okLM {f : Addr} {fd : FuncData} {k m : Nat} (F : Fun K "_law_more" "_law_more" tLM f fd)
    (DM : Okd P w K mg base CX0 (k) "_law_more" ["_law_term_here", "_law_by"] (spLM m))
    (m_isinstance : mg "isinstance" = none)
    (m_len : mg "len" = none)
    (m_min : mg "min" = none)
    (m_tuple : mg "tuple" = none) : FnOk P w K mg base CX0 (k + 1) f fd psLM (spLM (m + 1)) := by
  obtain ⟨fM, fdM, GM, bM, gM, kM⟩ := DM
  refine F.ok scLM (fun vs H Q E h => ?_) (fun cdv A outer s H vs Q E hr h => ?_)
  · obtain ⟨v, x, y, n, rfl, _⟩ := h
    rfl
  obtain ⟨v, x, y, n, rfl, dd, mo, hm, q⟩ := h
  refine ⟨_, pss_cons (ps_if (pt_not (pt_val (pe_callB (isiK K rfl) (by rfl) m_isinstance PyProof.Rows.boot_isinstance (pa_cons (pv 0) (pa_cons (pe_bltn (v := .ty "tuple") (by rfl) m_tuple PyProof.Rows.boot_tuple rfl) pa_nil))))) (pss_one (ps_ret (pv 0))) pss_nil)
    (pss_cons (ps_set (i := 3) scLM.nd rfl (.inl rfl) (pe_callTy call_tuple_of (by rfl) m_tuple PyProof.Rows.boot_tuple (pa_cons (pe_lc (own := [("_law_part", 2)]) (g := gName 2) (by rfl) scLM.nd (pi_tup (pv 0)) (blkOk_by (own := [("_law_part", 2)]) (N := nLM) (sc := defScope tLM) (by decide +kernel)) (fun _ _ _ _ _ => (pg_name (i := 2) scLM.nd rfl (.inl rfl))) (fun _ _ _ _ _ => pts_nil) (fun _ _ _ _ _ => (pe_call GM hr (by rfl) gM kM bM .nil pass0 (pa_cons (pv 2) (pa_cons (pv 1) pa_nil))))) pa_nil)))
    (pss_cons (ps_if (PW.pt (pw_and (pt_cmpR (op_eqD hr.units) (pe_slice sl_tupA (pv 3) po_none (po_some pe_int)) (pe_tup (pa_cons pe_str pa_nil)) (nomark _)) (pw_and1 (pt_cmpR op_eq (pe_callB call_len_seq (by rfl) m_len PySem.boot_len (pa_cons (pv 3) pa_nil)) pe_int (nomark _))))) (pss_one (ps_ret (pe_op op_catT (pe_tup (pa_cons pe_str (pa_cons (pe_callB (call_min2 rfl) (by rfl) m_min PyProof.Rows.boot_min (pa_cons pe_int (pa_cons (pe_op op_add (pe_ix ix_tup (pv 3) pe_int (fun _ _ => rfl)) (pv 1)) pa_nil))) pa_nil))) (pe_slice sl_tup (pv 3) (po_some pe_int) po_none)))) pss_nil)
    (pss_one (ps_ret (pv 3))))), ?_⟩
  refine ⟨_, rfl, _, _, _, _, x.isTup, rfl, .ty "tuple", dd.ty, kTup K x, _, rfl, ?_⟩
  by_cases hx : x.isTup = true
  · rw [hx]
    refine iteF ?_
    obtain ⟨xs, zs, w, zr, rfl, ml, ez, lx, fin⟩ : ∃ (xs zs : List Dt) (w : Str) (zr : List Dt), x = .tup xs ∧ MoL n xs zs ∧ zs = .str w :: zr ∧ xs.length ≤ 11 ∧ ((w ≠ "rounds" ∧ PyData.strOk w = true ∧ y = .tup zs) ∨ ∃ (m : Int) (b d : Dt) (z : Str), zs = [.str "rounds", .int m, b, .str z, d] ∧ y = .tup [.str "rounds", .int (min (m + n) 30), b, .str z, d]) := by
      cases mo with
      | leaf h => rw [h] at hx; cases hx
      | tup ok ne hl h => exact ⟨_, _, _, _, rfl, .cons (.leaf rfl) h, rfl, by rw [List.length_cons]; omega, .inl ⟨ne, ok, rfl⟩⟩
      | rounds h1 h2 => exact ⟨_, _, _, _, rfl, .cons (.leaf rfl) (.cons (.leaf rfl) (.cons h1 (.cons (.leaf rfl) (.cons h2 .nil)))), rfl, Nat.le_of_ble_eq_true rfl, .inr ⟨_, _, _, _, rfl, rfl⟩⟩
    obtain ⟨p, us, rfl, gp, dl⟩ : ∃ p us, v = .ref p ∧ H p = some (.tup us) ∧ DdL Non H xs us := by
      cases dd with
      | tup a b => exact ⟨_, _, rfl, a, b⟩
    have hm : Dt.dps xs + 1 < m + 1 := hm
    have lu := DdL.lenD dl
    have lz := ml.len
    have e0 : sizeLine = 16777216 := rfl
    refine ⟨_, rfl, p, rfl, ⟨_, SqT.of gp⟩, fun D nD => ?_⟩
    refine lc_tup (K := K) (a := p) (xs := us) (fun j F => Same H F ∧ ∃ ws, F D = some (.lst ws) ∧ ws.length = j ∧ DdL Non F (zs.take j) ws) ⟨newS nD, [], upd_same, rfl, .nil⟩ (fun j F _ z => SqT.of (z.1 _ _ gp)) (fun j u F hu z => ?_) (fun F z => ?_)
    · obtain ⟨sF, ws, gU, lw, dU⟩ := z
      obtain ⟨xj, hx2, du⟩ := DdL.atV dl hu
      obtain ⟨zj, hz2, mj⟩ := ml.at hx2
      have hd := dps_at hx2
      have jl := (List.getElem?_eq_some_iff.mp hu).1
      refine ⟨rfl, _, rfl, _, rfl, u, xj, zj, n, rfl, du.same sF, mj, by omega, fun u2 G2 s2 d2 => ⟨ws, s2 _ _ gU, by omega, smk (sF.trans s2) nD, ws ++ [u2], upd_same, by rw [List.length_append, lw]; rfl, ?_⟩⟩
      have k1 : Kv.Kn Non G2 (upd G2 D (.lst (ws ++ [u2]))) := Kn.rfl.put (fun z => z) fun _ z => by rw [s2 _ _ gU] at z; cases z
      rw [List.take_add_one, hz2]
      exact ((dU.same s2).kn k1).app (.cons (d2.kn k1) .nil)
    obtain ⟨sF, ws, gU, lw, dU⟩ := z
    rw [List.take_of_length_le (by omega)] at dU
    refine ⟨D, _, rfl, .inl ⟨SqL.of gU, fun pf nf => objG nf fun G1 s1 g1 => ?_⟩⟩
    replace dU := dU.same s1
    have sA := sF.trans s1
    rcases fin with ⟨ne, ok, rfl⟩ | ⟨m0, b, d, z, e1, rfl⟩
    · subst ez
      obtain ⟨wr, rfl, dr⟩ : ∃ wr, ws = .str w :: wr ∧ DdL Non G1 zr wr := by
        cases dU with
        | cons a b => cases a; exact ⟨_, rfl, b⟩
      have e0 : PyData.eqv (.tuple [.str w]) (.tuple [.str "rounds"]) = false := Bool.eq_false_iff.mpr fun h => ne (eqvW.mp h)
      have shR := shW (w := "rounds") (by decide +kernel)
      refine ⟨_, rfl, 1, rfl, pf, _, rfl, SqT.of g1, (fun hw => ?_), (fun hw p0 np0 => ?_)⟩
      · have h2 := hw.2
        rw [show HT.sIx (V.str w :: wr).length (V.str w :: wr).length (some 1) = min 1 (V.str w :: wr).length from HT.sIx_nat _ _ 1, List.length_cons] at h2
        obtain rfl : wr = [] := List.eq_nil_of_length_eq_zero (by omega)
        refine ⟨(by show 1 ≤ sizeLine; decide), fun p2 np2 => objG np2 fun G2 s2 g2 => ?_⟩
        refine ⟨_, _, Dp.tup (SqT.of (s2 _ _ g1)) (.cons (.str _) .nil), Dp.tup (SqT.of g2) (.cons (.str _) .nil), shW ok, shR, _, rfl, ?_⟩
        rw [e0]
        exact iteF ⟨_, rfl, q _ G2 (sA.trans s2) ((Dd.tup g1 dU).same s2)⟩
      · rw [show (1 : Int) = ((1 : Nat) : Int) from rfl, cutTo (by rw [List.length_cons]; omega)]
        refine objG np0 fun G2 s2 g2 => ?_
        have g2 : G2 p0 = some (.tup [.str w]) := g2
        refine ⟨(by show 1 ≤ sizeLine; decide), fun p2 np2 => objG np2 fun G3 s3 g3 => ?_⟩
        refine ⟨_, _, Dp.tup (SqT.of (s3 _ _ g2)) (.cons (.str _) .nil), Dp.tup (SqT.of g3) (.cons (.str _) .nil), shW ok, shR, _, rfl, ?_⟩
        rw [e0]
        exact iteF ⟨_, rfl, q _ G3 ((sA.trans s2).trans s3) (((Dd.tup g1 dU).same s2).same s3)⟩
    · subst e1
      obtain ⟨vb, vd, rfl, db, dd2⟩ : ∃ vb vd, ws = [.str "rounds", .int m0, vb, .str z, vd] ∧ Dd Non G1 b vb ∧ Dd Non G1 d vd := by
        cases dU with
        | cons d0 dl =>
          cases dl with
          | cons d1 dl =>
            cases dl with
            | cons d2 dl =>
              cases dl with
              | cons d3 dl =>
                cases dl with
                | cons d4 dl =>
                  cases dl
                  cases d0
                  cases d1
                  cases d3
                  exact ⟨_, _, rfl, d2, d4⟩
      have e0 : PyData.eqv (.tuple [.str "rounds"]) (.tuple [.str "rounds"]) = true := eqvW.mpr rfl
      have shR := shW (w := "rounds") (by decide +kernel)
      refine ⟨_, rfl, 1, rfl, pf, _, rfl, SqT.of g1, (fun hw => absurd hw (by show ¬ (HT.sIx 5 0 none = 0 ∧ HT.sIx 5 5 (some 1) = 5); decide)), (fun hw p0 np0 => ?_)⟩
      rw [show (1 : Int) = ((1 : Nat) : Int) from rfl, cutTo (by show 1 ≤ 5; decide)]
      refine objG np0 fun G2 s2 g2 => ?_
      have g2 : G2 p0 = some (.tup [.str "rounds"]) := g2
      refine ⟨(by show 1 ≤ sizeLine; decide), fun p2 np2 => objG np2 fun G3 s3 g3 => ?_⟩
      refine ⟨_, _, Dp.tup (SqT.of (s3 _ _ g2)) (.cons (.str _) .nil), Dp.tup (SqT.of g3) (.cons (.str _) .nil), shR, shR, _, rfl, ?_⟩
      rw [e0]
      have s13 := s2.trans s3
      refine iteT ⟨_, rfl, pf, _, rfl, .inr (SqT.of (s13 _ _ g1)), rfl, _, rfl, ite2 (fun _ => ?_) (fun c => (c (decide_eq_true rfl)).elim)⟩
      refine ⟨_, rfl, pf, _, _, _, rfl, rfl, SqT.of (s13 _ _ g1), atI_nat (j := 1) rfl, _, rfl, _, _, rfl, rfl, _, _, rfl, (by show 2 ≤ sizeLine; decide), fun p4 n4 => objG n4 fun G4 s4 g4 => ?_⟩
      have em : (if m0 + n < (30 : Int) then m0 + n else 30) = min (m0 + n) 30 := by split <;> omega
      rw [em] at g4
      have s14 := s13.trans s4
      refine ⟨_, rfl, 2, rfl, pf, _, rfl, SqT.of (s14 _ _ g1), (by show ¬ (HT.sIx 5 0 (some 2) = 0 ∧ HT.sIx 5 5 none = 5); decide), fun p5 n5 => objG n5 fun G5 s5 g5 => ?_⟩
      have g5 : G5 p5 = some (.tup [vb, .str z, vd]) := g5
      refine ⟨p4, p5, _, _, rfl, rfl, SqT.of (s5 _ _ g4), SqT.of g5, (by simp), (by show 2 + 3 ≤ sizeLine; decide), (fun h => by cases h), (fun _ p6 n6 => objG n6 fun G6 s6 g6 => ?_)⟩
      have s16 := (s14.trans s5).trans s6
      exact q _ G6 (sA.trans s16) (.tup g6 (.cons (.str _) (.cons (.int _) (.cons (db.same s16) (.cons (.str _) (.cons (dd2.same s16) .nil))))))
  · have hx : x.isTup = false := by simpa using hx
    rw [hx]
    refine iteT ⟨_, rfl, ?_⟩
    cases mo with
    | leaf h => exact q v H (.refl _) dd
    | tup ok ne hl h => cases hx
    | rounds h1 h2 => cases hx
end
end Kq

/-! _law_right -/
namespace Kq
open PySem PySem.Spec PyProof.Rows L2 Kf Kg Kv Kk Ku
/-- held against the same thing -/
def rNeS : R2 := fun x y H Q => ∃ d : Dt, Dd Non H d x ∧ Dd Non H d y ∧ SeqAt.shaped d.toP = true ∧ PyData.eqv d.toP d.toP = true ∧ Q (.bl false) H
theorem op_neS {X : Cx} (hu : X.A.units + 64 < cLine) : OpR X (compareOp .NotEq) rNeS := by
  intro pins s σ H x y v u Q I rx ry h
  obtain ⟨d, hd, he, sd, ed, q⟩ := h
  obtain ⟨as, r1⟩ := Dd.reads I hd rx
  obtain ⟨bs, r2⟩ := Dd.reads I he ry
  refine SeqAt.compareNe_shaped r1 r2 sd sd hu ⟨.bl _, H, I, rfl, ?_⟩
  rw [ed]
  exact q
theorem dp_dt : ∀ t : Tm, t.dp < t.dt.dp := by
  intro t
  induction t <;> simp only [Tm.dp, Tm.dt, Dt.dp, Dt.dps] at * <;> omega
theorem wtT2 : ∀ {t : Tm}, t.wf → t.dt.wt ≤ 800 * t.tn + 200 * t.nd := by
  obtain ⟨w1, w2, w3, w4, w5, w6, w7, w8, w9, w10, w11, w12, w13, w14, w15, w16, w17, w18, w19, w20, w21, w22, w23, w24⟩ := wlen1
  intro t
  induction t with
  | name x =>
    intro h
    have hx := h
    have qx := nm8 hx
    simp only [Tm.dt, Tm.nd, Tm.tn, Dt.wt, Dt.wts, w1, w2, w3, w4, w5, w6, w7, w8, w9, w10, w11, w12, w13, w14, w15, w16, w17, w18, w19, w20, w21, w22, w23, w24]
    omega
  | fn x k b ihb =>
    intro h
    obtain ⟨hx, hk, hb⟩ := h
    have qx := nm8 hx
    have qk := wtK hk.2
    have qb := ihb hb
    simp only [Tm.dt, Tm.nd, Tm.tn, Dt.wt, Dt.wts, w1, w2, w3, w4, w5, w6, w7, w8, w9, w10, w11, w12, w13, w14, w15, w16, w17, w18, w19, w20, w21, w22, w23, w24]
    omega
  | call a b iha ihb =>
    intro h
    obtain ⟨ha, hb⟩ := h
    have qa := iha ha
    have qb := ihb hb
    simp only [Tm.dt, Tm.nd, Tm.tn, Dt.wt, Dt.wts, w1, w2, w3, w4, w5, w6, w7, w8, w9, w10, w11, w12, w13, w14, w15, w16, w17, w18, w19, w20, w21, w22, w23, w24]
    omega
  | num i =>
    intro h
    have hi := h
    simp only [Tm.dt, Tm.nd, Tm.tn, Dt.wt, Dt.wts, w1, w2, w3, w4, w5, w6, w7, w8, w9, w10, w11, w12, w13, w14, w15, w16, w17, w18, w19, w20, w21, w22, w23, w24]
    omega
  | plus a b iha ihb =>
    intro h
    obtain ⟨ha, hb⟩ := h
    have qa := iha ha
    have qb := ihb hb
    simp only [Tm.dt, Tm.nd, Tm.tn, Dt.wt, Dt.wts, w1, w2, w3, w4, w5, w6, w7, w8, w9, w10, w11, w12, w13, w14, w15, w16, w17, w18, w19, w20, w21, w22, w23, w24]
    omega
  | less a b iha ihb =>
    intro h
    obtain ⟨ha, hb⟩ := h
    have qa := iha ha
    have qb := ihb hb
    simp only [Tm.dt, Tm.nd, Tm.tn, Dt.wt, Dt.wts, w1, w2, w3, w4, w5, w6, w7, w8, w9, w10, w11, w12, w13, w14, w15, w16, w17, w18, w19, w20, w21, w22, w23, w24]
    omega
  | tru i =>
    intro h
    simp only [Tm.dt, Tm.nd, Tm.tn, Dt.wt, Dt.wts, w1, w2, w3, w4, w5, w6, w7, w8, w9, w10, w11, w12, w13, w14, w15, w16, w17, w18, w19, w20, w21, w22, w23, w24]
    omega
  | iff a b c iha ihb ihc =>
    intro h
    obtain ⟨ha, hb, hc⟩ := h
    have qa := iha ha
    have qb := ihb hb
    have qc := ihc hc
    simp only [Tm.dt, Tm.nd, Tm.tn, Dt.wt, Dt.wts, w1, w2, w3, w4, w5, w6, w7, w8, w9, w10, w11, w12, w13, w14, w15, w16, w17, w18, w19, w20, w21, w22, w23, w24]
    omega
  | pair a b iha ihb =>
    intro h
    obtain ⟨ha, hb⟩ := h
    have qa := iha ha
    have qb := ihb hb
    simp only [Tm.dt, Tm.nd, Tm.tn, Dt.wt, Dt.wts, w1, w2, w3, w4, w5, w6, w7, w8, w9, w10, w11, w12, w13, w14, w15, w16, w17, w18, w19, w20, w21, w22, w23, w24]
    omega
  | fst a iha =>
    intro h
    have ha := h
    have qa := iha ha
    simp only [Tm.dt, Tm.nd, Tm.tn, Dt.wt, Dt.wts, w1, w2, w3, w4, w5, w6, w7, w8, w9, w10, w11, w12, w13, w14, w15, w16, w17, w18, w19, w20, w21, w22, w23, w24]
    omega
  | snd a iha =>
    intro h
    have ha := h
    have qa := iha ha
    simp only [Tm.dt, Tm.nd, Tm.tn, Dt.wt, Dt.wts, w1, w2, w3, w4, w5, w6, w7, w8, w9, w10, w11, w12, w13, w14, w15, w16, w17, w18, w19, w20, w21, w22, w23, w24]
    omega
  | left a k iha =>
    intro h
    obtain ⟨ha, hk⟩ := h
    have qa := iha ha
    have qk := wtK hk.2
    simp only [Tm.dt, Tm.nd, Tm.tn, Dt.wt, Dt.wts, w1, w2, w3, w4, w5, w6, w7, w8, w9, w10, w11, w12, w13, w14, w15, w16, w17, w18, w19, w20, w21, w22, w23, w24]
    omega
  | right k a iha =>
    intro h
    obtain ⟨hk, ha⟩ := h
    have qk := wtK hk.2
    have qa := iha ha
    simp only [Tm.dt, Tm.nd, Tm.tn, Dt.wt, Dt.wts, w1, w2, w3, w4, w5, w6, w7, w8, w9, w10, w11, w12, w13, w14, w15, w16, w17, w18, w19, w20, w21, w22, w23, w24]
    omega
  | case a x b y c iha ihb ihc =>
    intro h
    obtain ⟨ha, hx, hb, hy, hc⟩ := h
    have qa := iha ha
    have qx := nm8 hx
    have qb := ihb hb
    have qy := nm8 hy
    have qc := ihc hc
    simp only [Tm.dt, Tm.nd, Tm.tn, Dt.wt, Dt.wts, w1, w2, w3, w4, w5, w6, w7, w8, w9, w10, w11, w12, w13, w14, w15, w16, w17, w18, w19, w20, w21, w22, w23, w24]
    omega
  | none k =>
    intro h
    have hk := h
    have qk := wtK hk.2
    simp only [Tm.dt, Tm.nd, Tm.tn, Dt.wt, Dt.wts, w1, w2, w3, w4, w5, w6, w7, w8, w9, w10, w11, w12, w13, w14, w15, w16, w17, w18, w19, w20, w21, w22, w23, w24]
    omega
  | more a b iha ihb =>
    intro h
    obtain ⟨ha, hb⟩ := h
    have qa := iha ha
    have qb := ihb hb
    simp only [Tm.dt, Tm.nd, Tm.tn, Dt.wt, Dt.wts, w1, w2, w3, w4, w5, w6, w7, w8, w9, w10, w11, w12, w13, w14, w15, w16, w17, w18, w19, w20, w21, w22, w23, w24]
    omega
  | fold a b x y c iha ihb ihc =>
    intro h
    obtain ⟨ha, hb, hx, hy, hc, _⟩ := h
    have qa := iha ha
    have qb := ihb hb
    have qx := nm8 hx
    have qy := nm8 hy
    have qc := ihc hc
    simp only [Tm.dt, Tm.nd, Tm.tn, Dt.wt, Dt.wts, w1, w2, w3, w4, w5, w6, w7, w8, w9, w10, w11, w12, w13, w14, w15, w16, w17, w18, w19, w20, w21, w22, w23, w24]
    omega
  | built k o x y b ihb =>
    intro h
    obtain ⟨hk, ho, hx, hy, hb, _⟩ := h
    have qk := wtK hk.2
    have qo := nm8 ho
    have qx := nm8 hx
    have qy := nm8 hy
    have qb := ihb hb
    simp only [Tm.dt, Tm.nd, Tm.tn, Dt.wt, Dt.wts, w1, w2, w3, w4, w5, w6, w7, w8, w9, w10, w11, w12, w13, w14, w15, w16, w17, w18, w19, w20, w21, w22, w23, w24]
    omega
  | alike a b iha ihb =>
    intro h
    obtain ⟨ha, hb⟩ := h
    have qa := iha ha
    have qb := ihb hb
    simp only [Tm.dt, Tm.nd, Tm.tn, Dt.wt, Dt.wts, w1, w2, w3, w4, w5, w6, w7, w8, w9, w10, w11, w12, w13, w14, w15, w16, w17, w18, w19, w20, w21, w22, w23, w24]
    omega
  | fault k =>
    intro h
    have hk := h
    have qk := wtK hk.2
    simp only [Tm.dt, Tm.nd, Tm.tn, Dt.wt, Dt.wts, w1, w2, w3, w4, w5, w6, w7, w8, w9, w10, w11, w12, w13, w14, w15, w16, w17, w18, w19, w20, w21, w22, w23, w24]
    omega
  | rounds m a x b iha ihb =>
    intro h
    obtain ⟨hm, ha, hx, hb⟩ := h
    have qa := iha ha
    have qx := nm8 hx
    have qb := ihb hb
    simp only [Tm.dt, Tm.nd, Tm.tn, Dt.wt, Dt.wts, w1, w2, w3, w4, w5, w6, w7, w8, w9, w10, w11, w12, w13, w14, w15, w16, w17, w18, w19, w20, w21, w22, w23, w24]
    omega
  | told x fs =>
    intro h
    show (Tm.told x fs).dt.wt ≤ 800 * (Tm.told x fs).tn + 200 * (Tm.told x fs).dt.wt
    omega
theorem bg_of {op lo NS NO : List Str} {t : Tm} {k : Kd} (hl : ∀ z ∈ lo, z ∈ op) (g : Good op lo NS NO [] k t) (tn : t.tn ≤ 60) (dp : t.dp ≤ 11) : Bg t := by
  obtain ⟨nt, nd⟩ := g.nt hl
  obtain ⟨a, b⟩ := g.2 lo (fun _ z => z) hl
  have d := chk_dp a b
  have := wtT2 g.1
  have e0 : sizeLine = 16777216 := rfl
  exact ⟨g.1, nt, by omega, by omega⟩
section
variable {P : Program} {w : World} {K : PySem.W.Frag} {mg : Str → Option Value} {base : Heap}
theorem more_rec {uM : Value} {dA : Addr} {es : Array DictEntry} {m0 : Nat} (d : Dfn K mg "more_rounds" tMore psMore) (dP : Dfn K mg "places_of" tPl psPl) (gD : mg "TERM_FORMS" = some (.ref dA)) (hD : TForms K w dA es m0) (gMT : mg "MOST_TURNS" = some uM) (rMT : RelV (.int 30) uM) (m_enumerate : mg "enumerate" = none) (m_list : mg "list" = none) (m_min : mg "min" = none) (m_tuple : mg "tuple" = none) : ∀ n, Okd P w K mg base CX0 (n + 1) "more_rounds" psMore (spMore n)
  | 0 => d.ok fun f fd F => noFnK fun vs H Q E z => by
    obtain ⟨v, t, n, _, _, _, _, h, _⟩ := z
    omega
  | n + 1 => d.ok fun f fd F => okMore F gMT rMT (DL := dP.ok fun f fd F => okPl F gD hD m_enumerate) (DM := more_rec d dP gD hD gMT rMT m_enumerate m_list m_min m_tuple n) (m_list := m_list) (m_min := m_min) (m_tuple := m_tuple)
theorem lm_rec (d : Dfn K mg "_law_more" tLM psLM) (m_isinstance : mg "isinstance" = none) (m_len : mg "len" = none) (m_min : mg "min" = none) (m_tuple : mg "tuple" = none) : ∀ n, Okd P w K mg base CX0 n "_law_more" psLM (spLM n)
  | 0 => d.ok fun f fd F => noFnK fun vs H Q E z => by
    obtain ⟨v, x, y, n, _, _, _, h, _⟩ := z
    omega
  | n + 1 => d.ok fun f fd F => okLM F (DM := lm_rec d m_isinstance m_len m_min m_tuple n) (m_isinstance := m_isinstance) (m_len := m_len) (m_min := m_min) (m_tuple := m_tuple)
abbrev tRight : Stmt := tp 24
abbrev nRight : List Str := ["_law_term_here", "_law_by", "_law_due", "_law_turn", "_law_found"]
abbrev psRight : List Str := ["_law_term_here", "_law_by"]
theorem scRight : FnScope nRight psRight (defScope tRight) := ⟨rfl, rfl, rfl, by decide +kernel, rfl, by decide +kernel, by decide +kernel⟩
def spRight : Sp := fun vs H Q _ => ∃ (v : V) (t : Tm) (n : Int), vs = [v, .int n] ∧ Dd Non H t.dt v ∧ Bg t ∧ 0 ≤ n ∧ ∀ G : Hp, Same H G → Q (.bl true) G
theorem okRight {f : Addr} {fd : FuncData} {k : Nat} (F : Fun K "_law_right" "_law_right" tRight f fd)
    (DR : Okd P w K mg base CX0 (k) "more_rounds" ["term", "by"] (spMore 63))
    (DM : Okd P w K mg base CX0 (k) "_law_more" ["_law_term_here", "_law_by"] (spLM 64))
    (m_isinstance : mg "isinstance" = none)
    (m_range : mg "range" = none)
    (m_repr : mg "repr" = none)
    (m_tuple : mg "tuple" = none) : FnG P w K mg base CX0 (k + 1) f fd psRight spRight := by
  obtain ⟨fR, fdR, GR, bR, gR, kR⟩ := DR
  obtain ⟨fM, fdM, GM, bM, gM, kM⟩ := DM
  refine okG F scRight (fun vs H Q E h => ?_) (fun cdv A outer s H vs Q E still hr h => ?_)
  · obtain ⟨v, t, n, rfl, _⟩ := h
    rfl
  obtain ⟨v, t, n, rfl, dd, bg, hn, q⟩ := h
  have hu : (cxOf CX0 P w K mg base nRight "_law_right" (defScope tRight) f cdv A outer s H E).nox.A.units + (63 + 1) < cLine := by
    have := hr.un
    show (A.deeper _).units + (63 + 1) < cLine
    omega
  refine ⟨_, pss_cons (ps_set (i := 2) scRight.nd rfl (.inl rfl) (pe_call GM hr (by rfl) gM kM bM .nil pass0 (pa_cons (pv 0) (pa_cons (pv 1) pa_nil))))
    (pss_cons (ps_for PassesOwn.never rfl (pi_range1 (by rfl) m_range (pa_cons pe_int pa_nil)) (pg_name (i := 3) scRight.nd rfl (.inl rfl))
      (pss_cons (ps_set (i := 4) scRight.nd rfl (.inl rfl) (pe_call GR hr (by rfl) gR kR bR .nil pass0 (pa_cons (pv 0) (pa_cons (pv 1) pa_nil))))
    (pss_one (ps_if (PW.pt (pw_or (pt_not (pt_val (pe_callB (isiK K rfl) (by rfl) m_isinstance PyProof.Rows.boot_isinstance (pa_cons (pv 4) (pa_cons (pe_bltn (v := .ty "tuple") (by rfl) m_tuple PyProof.Rows.boot_tuple rfl) pa_nil))))) (pw_or (pt_cmpR (op_neS hr.units) (pv 4) (pv 2) (nomark _)) (pw_or1 (pt_cmpR op_ne (pe_callB (call_showU (n := 63) still hu) (by rfl) m_repr PyProof.Rows.boot_repr (pa_cons (pv 4) pa_nil)) (pe_callB (call_showU (n := 63) still hu) (by rfl) m_repr PyProof.Rows.boot_repr (pa_cons (pv 2) pa_nil)) (nomark _)))))) (pss_one (ps_ret pe_bl)) pss_nil))))
    (pss_one (ps_ret pe_bl))), ?_⟩
  have dpt := dp_dt t
  have bdp := bg.dp
  have bm := bg.mo hn
  refine ⟨_, rfl, _, rfl, v, t.dt, (t.mo n).dt, n, rfl, dd, mo_tm bg.nt, by omega, fun u G1 s1 d1 => ?_⟩
  refine ⟨2, rfl, by decide, by decide, for_range (lo := 0) (n := 2) (fun j σ F => ∃ y3 y4, σ = [some v, some (.int n), some u, y3, y4] ∧ Same H F ∧ Dd Non F (t.mo n).dt u) ⟨_, _, rfl, s1, d1⟩ (fun j σ F hj z => ?_) (fun σ F z => ?_)⟩
  · obtain ⟨y3, y4, rfl, sF, dF⟩ := z
    refine ⟨_, rfl, _, rfl, v, t, n, rfl, dd.same sF, bg.nt, hn, by omega, fun u2 G2 s2 d2 => ?_⟩
    have dF2 := dF.same s2
    refine ⟨_, rfl, _, _, _, _, (t.mo n).dt.isTup, rfl, .ty "tuple", d2.ty, kTup K (t.mo n).dt, _, rfl, ?_⟩
    rw [show (t.mo n).dt.isTup = true by rw [dt_its]; rfl]
    refine iteF ⟨_, rfl, _, rfl, (t.mo n).dt, d2, dF2, bm.lay, bm.eqv, _, rfl, iteF ?_⟩
    refine ⟨_, rfl, u2, (t.mo n).dt, rfl, d2.any, bm.shw, _, rfl, u, (t.mo n).dt, rfl, dF2.any, bm.shw, rfl, _, rfl, ite2 (fun c => ?_) (fun _ => ⟨_, _, rfl, sF.trans s2, dF2⟩)⟩
    simp at c
  obtain ⟨y3, y4, rfl, sF, dF⟩ := z
  exact q F sF
end
end Kq

/-! law -/
namespace Kq
open PySem PySem.Spec PyProof.Rows L2 Kf Kg Kv Kk Ku
theorem Kp3.tk {d c tl : Addr} {H G : Hp} {xs : List (Key × V)} (k : Kp3 d c tl H G) (dk : Dk H d c) (ht : H tl = some (.dK xs)) : Tk H G := fun b ys e => by
  obtain ⟨_, ⟨a, b2, e1⟩, ⟨ns, f, _⟩⟩ := dk
  exact k b _ (fun z => by rw [z, e1] at e; cases e) (fun z => by rw [z, f] at e; cases e) (fun z => by rw [z, ht] at e; cases e) e
theorem app_len (x y : Str) : (x ++ y).length = x.length + y.length := by
  show (x ++ y).cps.size = x.cps.size + y.cps.size
  rw [← Array.length_toList, app_cps, List.length_append, Array.length_toList, Array.length_toList]
theorem low1 : ∀ c ∈ ("c" : Str).cps.toList, 97 ≤ c ∧ c < 123 := by decide +kernel
theorem low2 : ∀ c ∈ ("n" : Str).cps.toList, 97 ≤ c ∧ c < 123 := by decide +kernel
theorem len1 : ("c" : Str).length = 1 ∧ ("n" : Str).length = 1 := by decide +kernel
theorem cne : ("c" : Str).cps.toList ≠ ("n" : Str).cps.toList := by decide +kernel
theorem Nm.app {x y : Str} (h : Nm x) (l : ∀ c ∈ y.cps.toList, 97 ≤ c ∧ c < 123) (g : (x ++ y).length ≤ 8) : Nm (x ++ y) := by
  refine ⟨fun c hc => ?_, ?_, ?_⟩
  · rw [app_cps] at hc
    exact (List.mem_append.mp hc).elim (h.low c) (l c)
  · rw [Array.length_toList]
    exact g
  · rw [app_cps, List.length_append]
    have := h.one
    omega
theorem tl_of {xs op lo : List Str} {y : Str} {many : Nat} (lx : xs.length = 6) (hnm : ∀ x ∈ xs, Nm x) (hnd : xs.Nodup) (pm : op.Perm (xs.take many)) (hm : many ≤ 2) (hlo : ∀ z ∈ lo, z ∈ op) (h9 : xs[5]? = some y) :
    ∃ NS : List Str, NS.length ≤ 400 ∧ Tl op lo NS (op ++ [y]) y (y ++ ("c" : Str)) (y ++ ("n" : Str)) ((xs.drop 2).take 3) ∧ (∀ x ∈ op, Nm x) ∧ Nm y := by
  have sub : ∀ z ∈ (xs.drop 2).take 3, z ∈ xs := fun z hz => List.drop_subset _ _ (List.take_subset _ _ hz)
  have opx : ∀ z ∈ op, z ∈ xs := fun z hz => List.take_subset _ _ (pm.mem_iff.mp hz)
  have ym : Nm y := hnm y (List.mem_of_getElem? h9)
  have y8 := nm8 ym
  have lop : op.length ≤ 3 := by rw [pm.length_eq, List.length_take]; omega
  have yo : y ∉ op := fun h => by
    obtain ⟨i, hi⟩ := List.mem_iff_getElem?.mp (pm.mem_iff.mp h)
    have i1 : i < (xs.take many).length := (List.getElem?_eq_some_iff.mp hi).1
    rw [List.length_take] at i1
    rw [List.getElem?_take_of_lt (by omega)] at hi
    have i9 : i = 5 := (List.getElem?_inj (by omega : i < xs.length) hnd).mp (hi.trans h9.symm)
    omega
  have lc := app_len y "c"
  have ln := app_len y "n"
  rw [len1.1] at lc
  rw [len1.2] at ln
  have n5 : ((xs.drop 2).take 3).length = 3 := by rw [List.length_take, List.length_drop, lx]; rfl
  refine ⟨(xs.drop 2).take 3 ++ [y ++ ("c" : Str), y ++ ("n" : Str)], by rw [List.length_append, n5]; show 3 + 2 ≤ 400; decide, ⟨fun x hx => ⟨List.mem_append_left _ hx, hnm x (sub x hx)⟩, (hnd.sublist (List.drop_sublist _ _)).sublist (List.take_sublist _ _), n5, List.mem_append_right _ (List.mem_singleton.mpr rfl), ym, yo, fun h => ?_, fun h => ⟨List.mem_append_right _ List.mem_cons_self, ym.app low1 (by omega), List.mem_append_right _ (List.mem_cons_of_mem _ List.mem_cons_self), ym.app low2 (by omega)⟩, hlo, fun x hx => ?_, by omega⟩, fun x hx => hnm x (opx x hx), ym⟩
  · have h2 := congrArg (fun s : Str => s.cps.toList) h
    simp only [app_cps] at h2
    exact cne (List.append_cancel_left h2)
  · rcases List.mem_append.mp hx with h | h
    · exact Nat.le_trans (nm8 (hnm x (sub x h))) (by decide)
    · simp only [List.mem_cons, List.not_mem_nil, or_false] at h
      rcases h with rfl | rfl <;> omega
theorem _root_.L2.Same.kp {H G F : Hp} {d c : Addr} (s : Same H G) (k : Kp d c G F) (nd : H d = none) (nc : H c = none) : Same H F := fun b u e => k b u (fun w => by rw [w, nd] at e; cases e) (fun w => by rw [w, nc] at e; cases e) (s b u e)
theorem _root_.L2.Same.kp3 {H G F : Hp} {d c tl : Addr} (s : Same H G) (k : Kp3 d c tl G F) (nd : H d = none) (nc : H c = none) (nt : H tl = none) : Same H F := fun b u e => k b u (fun w => by rw [w, nd] at e; cases e) (fun w => by rw [w, nc] at e; cases e) (fun w => by rw [w, nt] at e; cases e) (s b u e)
theorem noneB {H G : Hp} {b : Addr} (s : Same H G) (n : G b = none) : H b = none := by
  cases h : H b with
  | none => rfl
  | some u => rw [s _ _ h] at n; cases n
/-- numbers, cut -/
theorem cutI (ns : List Int) (lo hi : Option Int) : ∃ ms : List Int, cutV (ns.map V.int) lo hi = ms.map V.int ∧ ms.length = min (HT.sIx ns.length ns.length hi - HT.sIx ns.length 0 lo) (ns.length - HT.sIx ns.length 0 lo) := by
  refine ⟨(ns.drop (HT.sIx ns.length 0 lo)).take (HT.sIx ns.length ns.length hi - HT.sIx ns.length 0 lo), ?_, by rw [List.length_take, List.length_drop]⟩
  unfold cutV
  rw [List.length_map, List.map_take, List.map_drop]
theorem by_at {r s : Int} (h0 : 0 ≤ r) (h1 : r < 8) (hs : 0 ≤ s) : ∃ n : Int, atI [V.int 0, .int 1, .int 2, .int 3, .int 28, .int 29, .int 30, .int s] r = some (.int n) ∧ 0 ≤ n := by
  obtain ⟨j, rfl⟩ : ∃ j : Nat, r = (j : Int) := ⟨r.toNat, by omega⟩
  have hj : j < 8 := by omega
  match j, hj with
  | 0, _ => exact ⟨0, rfl, by decide⟩
  | 1, _ => exact ⟨1, rfl, by decide⟩
  | 2, _ => exact ⟨2, rfl, by decide⟩
  | 3, _ => exact ⟨3, rfl, by decide⟩
  | 4, _ => exact ⟨28, rfl, by decide⟩
  | 5, _ => exact ⟨29, rfl, by decide⟩
  | 6, _ => exact ⟨30, rfl, by decide⟩
  | 7, _ => exact ⟨s, rfl, hs⟩
def wds9 : List Str := ["rounds", "if", "rounds", "case", "fold", "rounds", "call", "built", "part"]
theorem wds_in : ∀ w ∈ wds9, w ∈ words7 := by decide +kernel
section
variable {P : Program} {w : World} {K : PySem.W.Frag} {mg : Str → Option Value} {base : Heap}
abbrev tLaw : Stmt := tp 25
abbrev nLaw : List Str := ["_law_script", "_law_words", "_law_k", "_law_deck_here", "_law_tower_here", "_law_by", "_law_names_here", "_law_kind", "_law_term_here"]
abbrev psLaw : List Str := ["_law_script"]
theorem scLaw : FnScope nLaw psLaw (defScope tLaw) := ⟨rfl, rfl, rfl, by decide +kernel, rfl, by decide +kernel, by decide +kernel⟩
def spLaw (K : PySem.W.Frag) : Sp := fun vs H Q _ => ∃ (a : Addr) (ns : List Int), vs = [.ref a] ∧ SqL K H a (ns.map V.int) ∧ ns.length ≤ 63 ∧ ∀ G : Hp, Q (.bl true) G
theorem okLaw {f : Addr} {fd : FuncData} {k : Nat} (F : Fun K "law" "law" tLaw f fd)
    (DT : OkdG P w K mg base CX0 (k) "_law_term" ["_law_deck_here", "_law_tools_here", "_law_known", "_law_kind", "_law_deep"] spTerm)
    (DR : OkdG P w K mg base CX0 (k) "_law_right" ["_law_term_here", "_law_by"] spRight)
    (DO : Okd P w K mg base CX0 (k) "_law_tools" ["_law_names_here", "_law_looked", "_law_faults", "_law_words"] spTools)
    (DM : Okd P w K mg base CX0 (k) "more_rounds" ["term", "by"] (spMore 63))
    (DW : Okd P w K mg base CX0 (k) "_law_tower" ["_law_deck_here", "_law_names_here"] spTower)
    (DA : Okd P w K mg base CX0 (k) "_law_data_function" ["_law_deck_here", "_law_opens", "_law_many"] spDF)
    (DD : Okd P w K mg base CX0 (k) "_law_draw" ["_law_deck_here", "_law_most"] spDraw)
    (DN : Okd P w K mg base CX0 (k) "_law_names" ["_law_deck_here", "_law_many"] spNames)
    (DK : Okd P w K mg base CX0 (k) "_law_deck" ["_law_script"] (spDeck K))
    (m_len : mg "len" = none)
    (m_max : mg "max" = none)
    (m_min : mg "min" = none)
    (m_range : mg "range" = none) : FnG P w K mg base CX0 (k + 1) f fd psLaw (spLaw K) := by
  obtain ⟨fT, fdT, GT, bT, gT, kT⟩ := DT
  obtain ⟨fR, fdR, GR, bR, gR, kR⟩ := DR
  obtain ⟨fO, fdO, GO, bO, gO, kO⟩ := DO
  obtain ⟨fM, fdM, GM, bM, gM, kM⟩ := DM
  obtain ⟨fW, fdW, GW, bW, gW, kW⟩ := DW
  obtain ⟨fA, fdA, GA, bA, gA, kA⟩ := DA
  obtain ⟨fD, fdD, GD, bD, gD, kD⟩ := DD
  obtain ⟨fN, fdN, GN, bN, gN, kN⟩ := DN
  obtain ⟨fK, fdK, GK, bK, gK, kK⟩ := DK
  refine okG F scLaw (fun vs H Q E h => ?_) (fun cdv A outer s H vs Q E still hr h => ?_)
  · obtain ⟨a, ns, rfl, _⟩ := h
    rfl
  obtain ⟨a, ns, rfl, hS, hl, q⟩ := h
  have hu : (cxOf CX0 P w K mg base nLaw "law" (defScope tLaw) f cdv A outer s H E).nox.A.units + (20 + 1) < cLine := by
    have := hr.un
    show (A.deeper _).units + (20 + 1) < cLine
    omega
  refine ⟨_, pss_cons (ps_set (i := 1) scLaw.nd rfl (.inl rfl) (pe_lst (pa_cons pe_str (pa_cons pe_str (pa_cons pe_str (pa_cons pe_str (pa_cons pe_str (pa_cons pe_str (pa_cons pe_str (pa_cons pe_str (pa_cons pe_str pa_nil)))))))))))
    (pss_cons (ps_for PassesOwn.never rfl (pi_range1 (by rfl) m_range (pa_cons (pe_callB (call_max2 rfl) (by rfl) m_max PyProof.Rows.boot_max (pa_cons pe_int (pa_cons (pe_callB (call_min2 rfl) (by rfl) m_min PyProof.Rows.boot_min (pa_cons (pe_callB call_len_seq (by rfl) m_len PySem.boot_len (pa_cons (pv 0) pa_nil)) (pa_cons pe_int pa_nil))) pa_nil))) pa_nil)) (pg_name (i := 2) scLaw.nd rfl (.inl rfl))
      (C8.pss_cut (ps_set (i := 3) scLaw.nd rfl (.inl rfl) (pe_call GK hr (by rfl) gK kK bK .nil pass0 (pa_cons (pe_op op_cat (pe_op op_cat (pe_slice sl_list (pv 0) (po_some (pv 2)) (po_some (pe_op op_add (pv 2) pe_int))) (pe_slice sl_list (pv 0) po_none (po_some (pv 2)))) (pe_slice sl_list (pv 0) (po_some (pe_op op_add (pv 2) pe_int)) po_none)) pa_nil)))
    (pss_cons (ps_set (i := 4) scLaw.nd rfl (.inl rfl) (pe_cmpR op_eq (pe_call GD hr (by rfl) gD kD bD .nil pass0 (pa_cons (pv 3) (pa_cons pe_int pa_nil))) pe_int (nomark _)))
    (C8.pss_cut (ps_set (i := 5) scLaw.nd rfl (.inl rfl) (pe_ix ix_list (pe_lst (pa_cons pe_int (pa_cons pe_int (pa_cons pe_int (pa_cons pe_int (pa_cons pe_int (pa_cons pe_int (pa_cons pe_int (pa_cons (pe_call GD hr (by rfl) gD kD bD .nil pass0 (pa_cons (pv 3) (pa_cons (pe_op op_pow pe_int pe_int) pa_nil))) pa_nil))))))))) (pe_call GD hr (by rfl) gD kD bD .nil pass0 (pa_cons (pv 3) (pa_cons pe_int pa_nil))) (fun _ _ => rfl)))
    (pss_cons (ps_set (i := 6) scLaw.nd rfl (.inl rfl) (pe_call GN hr (by rfl) gN kN bN .nil pass0 (pa_cons (pv 3) (pa_cons pe_int pa_nil))))
    (pss_cons (ps_set (i := 7) scLaw.nd rfl (.inl rfl) (pe_call GA hr (by rfl) gA kA bA .nil pass0 (pa_cons (pv 3) (pa_cons (pe_slice sl_list (pv 6) po_none (po_some pe_int)) (pa_cons (pe_call GD hr (by rfl) gD kD bD .nil pass0 (pa_cons (pv 3) (pa_cons pe_int pa_nil))) pa_nil)))))
    (C8.pss_cut (ps_set (i := 8) scLaw.nd rfl (.inl rfl) (pe_callG GT still hr (by rfl) gT kT bT .nil pass0 (pa_cons (pv 3) (pa_cons (pe_call GO hr (by rfl) gO kO bO .nil pass0 (pa_cons (pv 6) (pa_cons (pe_slice sl_list (pv 6) po_none (po_some pe_int)) (pa_cons pe_int (pa_cons (pv 1) pa_nil))))) (pa_cons (pe_lst pa_nil) (pa_cons (pv 7) (pa_cons pe_int pa_nil)))))))
    (C8.pss_cut (ps_if (pt_val (pv 4)) (pss_one (ps_set (i := 8) scLaw.nd rfl (.inl rfl) (pe_call GW hr (by rfl) gW kW bW .nil pass0 (pa_cons (pv 3) (pa_cons (pv 6) pa_nil))))) pss_nil)
    (pss_cons (ps_if (PW.pt (pw_or (pt_not (pt_val (pe_callG GR still hr (by rfl) gR kR bR .nil pass0 (pa_cons (pv 8) (pa_cons (pv 5) pa_nil))))) (pw_or1 (pt_not (pt_val (pe_callG GR still hr (by rfl) gR kR bR .nil pass0 (pa_cons (pv 8) (pa_cons pe_int pa_nil)))))))) (pss_one (ps_ret pe_bl)) pss_nil)
    (pss_one (ps_if (pt_cmpR (op_neS hr.units) (pe_call GM hr (by rfl) gM kM bM .nil pass0 (pa_cons (pe_call GM hr (by rfl) gM kM bM .nil pass0 (pa_cons (pv 8) (pa_cons pe_int pa_nil))) (pa_cons pe_int pa_nil))) (pe_call GM hr (by rfl) gM kM bM .nil pass0 (pa_cons (pv 8) (pa_cons pe_int pa_nil))) (nomark _)) (pss_one (ps_ret pe_bl)) pss_nil)))))))))))
    (pss_one (ps_ret pe_bl))), ?_⟩
  refine ⟨(by show 9 ≤ sizeLine; decide), fun aw naw => lstG naw fun H1 s1 gw => ?_⟩
  have gw : H1 aw = some (.lst (wds9.map V.str)) := gw
  have hS1 : SqL K H1 a (ns.map V.int) := hS.ext s1
  have n1 : ∀ {b : Addr} {F : Hp}, Same H1 F → F b = none → H1 b = none := fun s n => noneB s n
  refine ⟨_, rfl, a, _, rfl, .inl hS1, _, _, rfl, _, _, rfl, _, rfl, (by (repeat' split) <;> omega), (by (repeat' split) <;> omega), ?_⟩
  refine for_range (lo := 0) (fun i σ F => ∃ y2 y3 y4 y5 y6 y7 y8, σ = [some (.ref a), some (.ref aw), y2, y3, y4, y5, y6, y7, y8] ∧ Same H1 F) ⟨_, _, _, _, _, _, _, rfl, Same.refl _⟩ (fun i σ F hi z => ?_) (fun σ F z => q F)
  obtain ⟨y2, y3, y4, y5, y6, y7, y8, rfl, sF⟩ := z
  refine ⟨fun σ G => ∃ (d c : Addr), σ = [some (.ref a), some (.ref aw), some (.int (0 + (i : Int))), some (.ref d), y4, y5, y6, y7, y8] ∧ Same H1 G ∧ Dk G d c ∧ H1 d = none ∧ H1 c = none, ?_, fun σ G z => ?_⟩
  · have hS2 := hS1.ext sF
    obtain ⟨m1, e1, l1⟩ := cutI ns (some (0 + (i : Int))) (some (0 + (i : Int) + 1))
    obtain ⟨m2, e2, l2⟩ := cutI ns none (some (0 + (i : Int)))
    obtain ⟨m3, e3, l3⟩ := cutI ns (some (0 + (i : Int) + 1)) none
    have k0 : 0 + (i : Int) = ((i : Nat) : Int) := by omega
    have k1 : 0 + (i : Int) + 1 = ((i + 1 : Nat) : Int) := by omega
    rw [k1, k0, HT.sIx_nat, HT.sIx_nat] at l1
    rw [k0, HT.sIx_none, HT.sIx_nat] at l2
    rw [k1, HT.sIx_none, HT.sIx_nat] at l3
    refine ⟨_, rfl, _, rfl, 0 + (i : Int), rfl, _, rfl, _, _, rfl, rfl, 0 + (i : Int) + 1, rfl, a, _, rfl, hS2, fun p1 np1 => ?_⟩
    rw [e1]
    refine lstG np1 fun F1 t1 g1 => ?_
    refine ⟨_, rfl, _, rfl, 0 + (i : Int), rfl, a, _, rfl, hS2.ext t1, fun p2 np2 => ?_⟩
    rw [e2]
    refine lstG np2 fun F2 t2 g2 => ?_
    refine ⟨p1, p2, _, _, rfl, rfl, t2 _ _ g1, g2, szBig (by rw [List.length_map, List.length_map]; omega), fun p3 np3 => lstG np3 fun F3 t3 g3 => ?_⟩
    refine ⟨_, rfl, _, rfl, _, _, rfl, rfl, 0 + (i : Int) + 1, rfl, a, _, rfl, ((hS2.ext t1).ext t2).ext t3, fun p4 np4 => ?_⟩
    rw [e3]
    refine lstG np4 fun F4 t4 g4 => ?_
    refine ⟨p3, p4, _, _, rfl, rfl, t4 _ _ g3, g4, szBig (by rw [List.length_append, List.length_map, List.length_map, List.length_map]; omega), fun p5 np5 => lstG np5 fun F5 t5 g5 => ?_⟩
    have g5 : F5 p5 = some (.lst ((m1 ++ m2 ++ m3).map V.int)) := by rw [List.map_append, List.map_append]; exact g5
    have s5 := ((((sF.trans t1).trans t2).trans t3).trans t4).trans t5
    exact ⟨p5, m1 ++ m2 ++ m3, rfl, SqL.of g5, by rw [List.length_append, List.length_append]; omega, fun d c G sG nd nc dk => ⟨d, c, rfl, s5.trans sG, dk, n1 s5 nd, n1 s5 nc⟩⟩
  obtain ⟨d, c, rfl, sG, dk, nd, nc⟩ := z
  refine ⟨_, rfl, d, c, 8, rfl, dk, by decide, by decide, fun r0 Ga ra rb ka ea => ⟨rfl, ?_⟩⟩
  generalize decide (V.int r0 = V.int 5) = ch
  replace sG := sG.kp ka nd nc
  refine ⟨fun σ G => ∃ (n : Int), σ = [some (.ref a), some (.ref aw), some (.int (0 + (i : Int))), some (.ref d), some (.bl ch), some (.int n), y6, y7, y8] ∧ Same H1 G ∧ Dk G d c ∧ 0 ≤ n, ?_, fun σ G z => ?_⟩
  · refine ⟨_, rfl, _, _, rfl, rfl, ⟨by decide, by decide, by decide⟩, d, c, _, rfl, ea, (by decide), (by decide), fun r1 Gb h0 h1 kb eb => ?_⟩
    refine ⟨(by show 8 ≤ sizeLine; decide), fun pl npl => ?_⟩
    have ol := eb.off npl
    refine lstG npl fun Gc tc gc => ?_
    have sc := (sG.kp kb nd nc).trans tc
    refine ⟨_, rfl, d, c, 8, rfl, eb.same tc, by decide, by decide, fun r2 Gd h2 h3 kd ed => ?_⟩
    obtain ⟨n, en, hn⟩ := by_at h2 h3 h0
    exact ⟨pl, _, _, _, rfl, rfl, SqL.of (kd _ _ ol.1 ol.2 gc), en, n, rfl, sc.kp kd nd nc, ed, hn⟩
  obtain ⟨n, rfl, sH, dk, hn⟩ := z
  refine ⟨_, rfl, d, c, 6, rfl, dk, by decide, by decide, fun l xs G4 k4 e4 nl gl hlen hnm hnd hL => ?_⟩
  have ol := dk.off nl
  have lx : xs.length = 6 := hlen
  replace sH := sH.kp k4 nd nc
  refine ⟨_, rfl, _, rfl, 2, rfl, l, _, rfl, SqL.of gl, fun po no => ?_⟩
  rw [(cut02 lx).1]
  have oo := e4.off no
  refine lstG no fun G5 s5 g5 => ?_
  have e5 := e4.same s5
  have gl5 := s5 _ _ gl
  refine ⟨_, rfl, d, c, 4, rfl, e5, by decide, by decide, fun r3 G6 h0 h1 k6 e6 => ?_⟩
  have x2 : ∀ x ∈ xs.take 2, Nm x := fun x hx => hnm x (List.take_subset _ _ hx)
  refine ⟨d, c, po, xs.take 2, r3, rfl, e6, k6 _ _ oo.1 oo.2 g5, oo.1, oo.2, by rw [List.length_take]; omega, x2, h0, by omega, fun kv kk G7 k7 e7 dd df => ?_⟩
  have gl7 := k7 _ _ ol.1 ol.2 (k6 _ _ ol.1 ol.2 gl5)
  have s7 := ((sH.trans s5).kp k6 nd nc).kp k7 nd nc
  refine ⟨fun σ G => ∃ (vt : V) (t : Tm), σ = [some (.ref a), some (.ref aw), some (.int (0 + (i : Int))), some (.ref d), some (.bl ch), some (.int n), some (.ref l), some kv, some vt] ∧ Same H1 G ∧ Dk G d c ∧ G l = some (.lst (xs.map V.str)) ∧ Dd Non G t.dt vt ∧ Bg t, ?_, fun σ G z => ?_⟩
  · obtain ⟨y, h5⟩ : ∃ y, xs[5]? = some y := ⟨xs[5]'(by omega), List.getElem?_eq_getElem _⟩
    obtain ⟨NS, hNS, TT, nop, ny⟩ := tl_of lx hnm hnd (List.Perm.refl (xs.take 2)) (Nat.le_refl 2) (lo := xs.take 1) (fun z hz => List.take_subset_take_left xs (by decide : 1 ≤ 2) hz) h5
    refine ⟨_, rfl, _, rfl, _, rfl, 1, rfl, l, _, rfl, SqL.of gl7, fun pl npl => ?_⟩
    rw [show (1 : Int) = ((1 : Nat) : Int) from rfl, cutTo (by rw [List.length_map]; omega), ← List.map_take]
    have opl := e7.off npl
    refine lstG npl fun G8 s8 g8 => ?_
    have e8 := e7.same s8
    have s18 := s7.trans s8
    have ow : aw ≠ d ∧ aw ≠ c := ⟨fun w => (by rw [w, nd] at gw; cases gw), fun w => (by rw [w, nc] at gw; cases gw)⟩
    refine ⟨_, rfl, d, c, l, pl, aw, xs, xs.take 1, wds9, y, 1, rfl, e8, s8 _ _ gl7, g8, s18 _ _ gw, opl, ow, lx, h5, fun tl ao an G9 s9 e9 J ntl => ?_⟩
    have s19 := s18.trans s9
    refine ⟨Nat.zero_le _, fun kl nkl => ?_⟩
    have okl := e9.off nkl
    refine lstG nkl fun GA sA gA => ?_
    have s89 := s8.trans (s9.trans sA)
    have wk : Wk0 (xs.take 2 ++ [y]) y kk := ⟨df.sz, fun x hx => List.mem_append_left _ (df.op x hx), fun x hx => x2 x (df.op x hx), df.td, by have := df.dp; omega, by have := df.mu; omega, fun h => TT.oo (df.op y h)⟩
    refine ⟨_, rfl, NS, xs.take 2 ++ [y], d, c, tl, ao, pl, an, aw, kl, xs.take 2, xs.take 1, (xs.drop 2).take 3, wds9, y, y ++ ("c" : Str), y ++ ("n" : Str), 1, 6, kv, kk, rfl, TT, wds_in, by decide, by decide, rfl, rfl, e9.same sA, J.same sA, gA, okl.1, okl.2, dd.same s89, by decide, by decide, wk, fun v t G fl' k3 e3 J3 dt gd tn dp => ?_⟩
    have lt : l ≠ tl := fun w => by
      have := s8 _ _ gl7
      rw [w, ntl] at this
      cases this
    exact ⟨v, t, rfl, (s19.trans sA).kp3 k3 nd nc (n1 s18 ntl), e3, k3 _ _ ol.1 ol.2 lt (s89 _ _ gl7), dt, bg_of TT.lo gd tn dp⟩
  obtain ⟨vt, t, rfl, sT, dk, gl, dt, bg⟩ := z
  refine ⟨fun σ G => ∃ (vt : V) (t : Tm), σ = [some (.ref a), some (.ref aw), some (.int (0 + (i : Int))), some (.ref d), some (.bl ch), some (.int n), some (.ref l), some kv, some vt] ∧ Same H1 G ∧ Dd Non G t.dt vt ∧ Bg t, ?_, fun σ G z => ?_⟩
  · refine ⟨_, rfl, _, rfl, ite2 (fun _ => ?_) (fun _ => ⟨vt, t, rfl, sT, dt, bg⟩)⟩
    exact ⟨_, rfl, _, rfl, d, c, l, xs, rfl, dk, gl, ol.1, ol.2, lx, hnm, fun v t G kp e dt bg => ⟨v, t, rfl, sT.kp kp nd nc, dt, bg⟩⟩
  obtain ⟨vt, t, rfl, sT, dt, bg⟩ := z
  refine ⟨_, rfl, _, rfl, vt, t, n, rfl, dt, bg, hn, fun G2 s2 => ⟨_, rfl, iteF ⟨_, rfl, vt, t, 0, rfl, dt.same s2, bg, by decide, fun G3 s3 => ⟨_, rfl, iteF ?_⟩⟩⟩⟩
  have s23 := s2.trans s3
  have dpt := dp_dt t
  have bdp := bg.dp
  have dp1 := dp_dt (t.mo 1)
  rw [(mo_sz t).1] at dp1
  have b2 := bg.mo (n := 2) (by decide)
  refine ⟨_, rfl, vt, t, 1, rfl, dt.same s23, bg.nt, by decide, by omega, fun u1 G4 s4 d4 => ?_⟩
  refine ⟨u1, t.mo 1, 1, rfl, d4, mo_nt bg.nt, by decide, by omega, fun u2 G5 s5 d5 => ?_⟩
  rw [mo_mo (by decide) (by decide)] at d5
  have d5 : Dd Non G5 (t.mo 2).dt u2 := d5
  refine ⟨_, rfl, vt, t, 2, rfl, (dt.same s23).same (s4.trans s5), bg.nt, by decide, by omega, fun u3 G6 s6 d6 => ?_⟩
  refine ⟨(t.mo 2).dt, d5.same s6, d6, b2.lay, b2.eqv, _, rfl, iteF ?_⟩
  exact ⟨_, _, _, _, _, _, _, rfl, (((sT.trans s23).trans s4).trans s5).trans s6⟩
end
end Kq

namespace Kq
open PySem PySem.Spec PyProof.Rows L2 Kf Kg Kv GxR RZ Kk Ku
def KeysAre : List DictEntry → List (Str × Value) → Prop
  | [], [] => True
  | e :: es, (x, v) :: xs => (∃ t, e.key = .str x t) ∧ e.val = v ∧ KeysAre es xs
  | _, _ => False
theorem find_keys (z : Str) : ∀ {es : List DictEntry} {xs : List (Str × Value)}, KeysAre es xs → (es.find? (·.key.isStr z)).map (·.val) = xs.lookup z ∧ es.any (·.refKey) = false
  | [], [], _ => ⟨rfl, rfl⟩
  | e :: es, (x, v) :: xs, h => by
    obtain ⟨⟨t, h1⟩, h2, h3⟩ := h
    obtain ⟨i1, i2⟩ := find_keys z h3
    have e1 : e.key.isStr z = (z == x) := by
      rw [h1]
      show (x == z) = (z == x)
      by_cases c : x = z
      · subst c
        rfl
      · rw [beq_eq_false_iff_ne.mpr c, beq_eq_false_iff_ne.mpr (Ne.symm c)]
    have e2 : e.refKey = false := by
      unfold DictEntry.refKey
      rw [h1]
    refine ⟨?_, by rw [List.any_cons, e2, i2]; rfl⟩
    rw [List.find?_cons, List.lookup_cons, e1]
    cases c : (z == x) with
    | true => exact congrArg some h2
    | false => exact i1
  | [], _ :: _, h => h.elim
  | _ :: _, [], h => h.elim
theorem ns_keys {K : PySem.W.Frag} {a : Addr} {es : Array DictEntry} {n : Nat} {xs : List (Str × Value)} (l : K.lookup a = some ⟨.type "dict", none, .dict es n, #[]⟩) (h : KeysAre es.toList xs) (z : Str) : PySem.W.nsIn K a z = some (xs.lookup z) := by
  obtain ⟨i1, i2⟩ := find_keys z h
  unfold PySem.W.nsIn
  rw [l]
  simp only
  cases c : es.toList.find? (·.key.isStr z) with
  | some e =>
    rw [c] at i1
    exact congrArg some i1
  | none =>
    rw [c] at i1
    simp only [i2]
    exact congrArg some i1
inductive Rl2 (R : List Str → Value → Prop) : List (Str × List Str) → List (Str × Value) → Prop
  | nil : Rl2 R [] []
  | cons {z : Str} {rs : List Str} {u : Value} {xs : List (Str × List Str)} {ys : List (Str × Value)} : R rs u → Rl2 R xs ys → Rl2 R ((z, rs) :: xs) ((z, u) :: ys)
theorem Rl2.look {R : List Str → Value → Prop} (k : Str) : ∀ {xs : List (Str × List Str)} {ys : List (Str × Value)}, Rl2 R xs ys → (xs.lookup k = none → ys.lookup k = none) ∧ ∀ rs, xs.lookup k = some rs → ∃ u, ys.lookup k = some u ∧ R rs u
  | _, _, .nil => ⟨fun _ => rfl, fun _ h => by cases h⟩
  | _, _, .cons (z := z) (u := u) r t => by
    obtain ⟨h1, h2⟩ := t.look k
    rw [List.lookup_cons, List.lookup_cons]
    cases c : (k == z) with
    | true => exact ⟨fun h => (by cases h), fun rs h => ⟨u, rfl, by rw [← Option.some.inj h]; exact r⟩⟩
    | false => exact ⟨h1, h2⟩
theorem all_mk {l : PySem.W.OpenLaw} {w : World} {K : PySem.W.Frag} {h : Heap} {mg : Str → Option Value} {fa dB r1 r2 r3 r4 r5 r6 r7 r8 r9 r10 r11 r12 r13 r14 r15 r16 r17 r18 r19 r20 r21 r22 f1 f2 f3 f4 f5 f6 f7 f8 f9 f10 f11 f12 f13 f14 f15 f16 f17 f18 f19 f20 f21 : Addr} (X : K.In h) (G : h.Ns mainGlobals mg) (hfa : mg "law" = some (.ref fa))
    {od1 an1 od2 an2 od3 an3 od4 an4 od5 an5 od6 an6 od7 an7 od8 an8 od9 an9 od10 an10 od11 an11 od12 an12 od13 an13 od14 an14 od15 an15 od16 an16 od17 an17 od18 an18 od19 an19 od20 an20 od21 an21 dQ1 dQ2 dQ3 dQ4 dQ5 dQ6 dQ7 dQ8 dQ9 dQ10 dQ11 dQ12 dQ13 dQ14 dQ15 dQ16 dQ17 dQ18 dQ19 dQ20 dQ21 dQ22 : Option Addr} {sl1 sl2 sl3 sl4 sl5 sl6 sl7 sl8 sl9 sl10 sl11 sl12 sl13 sl14 sl15 sl16 sl17 sl18 sl19 sl20 sl21 sQ1 sQ2 sQ3 sQ4 sQ5 sQ6 sQ7 sQ8 sQ9 sQ10 sQ11 sQ12 sQ13 sQ14 sQ15 sQ16 sQ17 sQ18 sQ19 sQ20 sQ21 sQ22 : Array (Option Value)} {esB : Array DictEntry} {nB nQ1 nQ2 nQ3 nQ4 nQ5 nQ6 nQ7 nQ8 nQ9 nQ10 nQ11 nQ12 nQ13 nQ14 nQ15 nQ16 nQ17 nQ18 nQ19 nQ20 nQ21 nQ22 : Nat} {oc1 kV1 dc1 pm1 ct1 cd1 oc2 kV2 dc2 pm2 ct2 cd2 oc3 kV3 dc3 pm3 ct3 cd3 oc4 kV4 dc4 pm4 ct4 cd4 oc5 kV5 dc5 pm5 ct5 cd5 oc6 kV6 dc6 pm6 ct6 cd6 oc7 kV7 dc7 pm7 ct7 cd7 oc8 kV8 dc8 pm8 ct8 cd8 oc9 kV9 dc9 pm9 ct9 cd9 oc10 kV10 dc10 pm10 ct10 cd10 oc11 kV11 dc11 pm11 ct11 cd11 oc12 kV12 dc12 pm12 ct12 cd12 oc13 kV13 dc13 pm13 ct13 cd13 oc14 kV14 dc14 pm14 ct14 cd14 oc15 kV15 dc15 pm15 ct15 cd15 oc16 kV16 dc16 pm16 ct16 cd16 oc17 kV17 dc17 pm17 ct17 cd17 oc18 kV18 dc18 pm18 ct18 cd18 oc19 kV19 dc19 pm19 ct19 cd19 oc20 kV20 dc20 pm20 ct20 cd20 oc21 kV21 dc21 pm21 ct21 cd21 uM : Value} {iQ1 iQ2 iQ3 iQ4 iQ5 iQ6 iQ7 iQ8 iQ9 iQ10 iQ11 iQ12 iQ13 iQ14 iQ15 iQ16 iQ17 iQ18 iQ19 iQ20 iQ21 iQ22 : Array Value}
    (a1 : PySem.W.nsIn K mainGlobals "places_of" = some (some (.ref f1))) (l1 : K.lookup f1 = some ⟨oc1, od1, .func (PySem.W.fnOf "places_of" "places_of" (defArgs tPl) (defBody tPl) (defScope tPl) .none kV1 dc1 pm1 an1 cd1 ct1), sl1⟩) (q1 : PySem.W.codeIn K cd1 "places_of" = true) (k1 : PySem.W.keepIn K (.ref f1) = true)
    (a2 : PySem.W.nsIn K mainGlobals "more_rounds" = some (some (.ref f2))) (l2 : K.lookup f2 = some ⟨oc2, od2, .func (PySem.W.fnOf "more_rounds" "more_rounds" (defArgs tMore) (defBody tMore) (defScope tMore) .none kV2 dc2 pm2 an2 cd2 ct2), sl2⟩) (q2 : PySem.W.codeIn K cd2 "more_rounds" = true) (k2 : PySem.W.keepIn K (.ref f2) = true)
    (a3 : PySem.W.nsIn K mainGlobals "_law_deck" = some (some (.ref f3))) (l3 : K.lookup f3 = some ⟨oc3, od3, .func (PySem.W.fnOf "_law_deck" "_law_deck" (defArgs tDeck) (defBody tDeck) (defScope tDeck) .none kV3 dc3 pm3 an3 cd3 ct3), sl3⟩) (q3 : PySem.W.codeIn K cd3 "_law_deck" = true) (k3 : PySem.W.keepIn K (.ref f3) = true)
    (a4 : PySem.W.nsIn K mainGlobals "_law_draw" = some (some (.ref f4))) (l4 : K.lookup f4 = some ⟨oc4, od4, .func (PySem.W.fnOf "_law_draw" "_law_draw" (defArgs tDraw) (defBody tDraw) (defScope tDraw) .none kV4 dc4 pm4 an4 cd4 ct4), sl4⟩) (q4 : PySem.W.codeIn K cd4 "_law_draw" = true) (k4 : PySem.W.keepIn K (.ref f4) = true)
    (a5 : PySem.W.nsIn K mainGlobals "_law_pick" = some (some (.ref f5))) (l5 : K.lookup f5 = some ⟨oc5, od5, .func (PySem.W.fnOf "_law_pick" "_law_pick" (defArgs tPick) (defBody tPick) (defScope tPick) .none kV5 dc5 pm5 an5 cd5 ct5), sl5⟩) (q5 : PySem.W.codeIn K cd5 "_law_pick" = true) (k5 : PySem.W.keepIn K (.ref f5) = true)
    (a6 : PySem.W.nsIn K mainGlobals "_law_names" = some (some (.ref f6))) (l6 : K.lookup f6 = some ⟨oc6, od6, .func (PySem.W.fnOf "_law_names" "_law_names" (defArgs tNames) (defBody tNames) (defScope tNames) .none kV6 dc6 pm6 an6 cd6 ct6), sl6⟩) (q6 : PySem.W.codeIn K cd6 "_law_names" = true) (k6 : PySem.W.keepIn K (.ref f6) = true)
    (a7 : PySem.W.nsIn K mainGlobals "_law_data" = some (some (.ref f7))) (l7 : K.lookup f7 = some ⟨oc7, od7, .func (PySem.W.fnOf "_law_data" "_law_data" (defArgs tLData) (defBody tLData) (defScope tLData) .none kV7 dc7 pm7 an7 cd7 ct7), sl7⟩) (q7 : PySem.W.codeIn K cd7 "_law_data" = true) (k7 : PySem.W.keepIn K (.ref f7) = true)
    (a8 : PySem.W.nsIn K mainGlobals "_law_arguments" = some (some (.ref f8))) (l8 : K.lookup f8 = some ⟨oc8, od8, .func (PySem.W.fnOf "_law_arguments" "_law_arguments" (defArgs tLArgs) (defBody tLArgs) (defScope tLArgs) .none kV8 dc8 pm8 an8 cd8 ct8), sl8⟩) (q8 : PySem.W.codeIn K cd8 "_law_arguments" = true) (k8 : PySem.W.keepIn K (.ref f8) = true)
    (a9 : PySem.W.nsIn K mainGlobals "_law_own_shapes" = some (some (.ref f9))) (l9 : K.lookup f9 = some ⟨oc9, od9, .func (PySem.W.fnOf "_law_own_shapes" "_law_own_shapes" (defArgs tOwn) (defBody tOwn) (defScope tOwn) .none kV9 dc9 pm9 an9 cd9 ct9), sl9⟩) (q9 : PySem.W.codeIn K cd9 "_law_own_shapes" = true) (k9 : PySem.W.keepIn K (.ref f9) = true)
    (a10 : PySem.W.nsIn K mainGlobals "_law_other_shapes" = some (some (.ref f10))) (l10 : K.lookup f10 = some ⟨oc10, od10, .func (PySem.W.fnOf "_law_other_shapes" "_law_other_shapes" (defArgs tOther) (defBody tOther) (defScope tOther) .none kV10 dc10 pm10 an10 cd10 ct10), sl10⟩) (q10 : PySem.W.codeIn K cd10 "_law_other_shapes" = true) (k10 : PySem.W.keepIn K (.ref f10) = true)
    (a11 : PySem.W.nsIn K mainGlobals "_law_call_shapes" = some (some (.ref f11))) (l11 : K.lookup f11 = some ⟨oc11, od11, .func (PySem.W.fnOf "_law_call_shapes" "_law_call_shapes" (defArgs tCalls) (defBody tCalls) (defScope tCalls) .none kV11 dc11 pm11 an11 cd11 ct11), sl11⟩) (q11 : PySem.W.codeIn K cd11 "_law_call_shapes" = true) (k11 : PySem.W.keepIn K (.ref f11) = true)
    (a12 : PySem.W.nsIn K mainGlobals "_law_filled" = some (some (.ref f12))) (l12 : K.lookup f12 = some ⟨oc12, od12, .func (PySem.W.fnOf "_law_filled" "_law_filled" (defArgs tFil) (defBody tFil) (defScope tFil) .none kV12 dc12 pm12 an12 cd12 ct12), sl12⟩) (q12 : PySem.W.codeIn K cd12 "_law_filled" = true) (k12 : PySem.W.keepIn K (.ref f12) = true)
    (a13 : PySem.W.nsIn K mainGlobals "_law_make" = some (some (.ref f13))) (l13 : K.lookup f13 = some ⟨oc13, od13, .func (PySem.W.fnOf "_law_make" "_law_make" (defArgs tMake) (defBody tMake) (defScope tMake) .none kV13 dc13 pm13 an13 cd13 ct13), sl13⟩) (q13 : PySem.W.codeIn K cd13 "_law_make" = true) (k13 : PySem.W.keepIn K (.ref f13) = true)
    (a14 : PySem.W.nsIn K mainGlobals "_law_measured" = some (some (.ref f14))) (l14 : K.lookup f14 = some ⟨oc14, od14, .func (PySem.W.fnOf "_law_measured" "_law_measured" (defArgs tMeas) (defBody tMeas) (defScope tMeas) .none kV14 dc14 pm14 an14 cd14 ct14), sl14⟩) (q14 : PySem.W.codeIn K cd14 "_law_measured" = true) (k14 : PySem.W.keepIn K (.ref f14) = true)
    (a15 : PySem.W.nsIn K mainGlobals "_law_term" = some (some (.ref f15))) (l15 : K.lookup f15 = some ⟨oc15, od15, .func (PySem.W.fnOf "_law_term" "_law_term" (defArgs tTerm) (defBody tTerm) (defScope tTerm) .none kV15 dc15 pm15 an15 cd15 ct15), sl15⟩) (q15 : PySem.W.codeIn K cd15 "_law_term" = true) (k15 : PySem.W.keepIn K (.ref f15) = true)
    (a16 : PySem.W.nsIn K mainGlobals "_law_tools" = some (some (.ref f16))) (l16 : K.lookup f16 = some ⟨oc16, od16, .func (PySem.W.fnOf "_law_tools" "_law_tools" (defArgs tTools) (defBody tTools) (defScope tTools) .none kV16 dc16 pm16 an16 cd16 ct16), sl16⟩) (q16 : PySem.W.codeIn K cd16 "_law_tools" = true) (k16 : PySem.W.keepIn K (.ref f16) = true)
    (a17 : PySem.W.nsIn K mainGlobals "_law_data_function" = some (some (.ref f17))) (l17 : K.lookup f17 = some ⟨oc17, od17, .func (PySem.W.fnOf "_law_data_function" "_law_data_function" (defArgs tDF) (defBody tDF) (defScope tDF) .none kV17 dc17 pm17 an17 cd17 ct17), sl17⟩) (q17 : PySem.W.codeIn K cd17 "_law_data_function" = true) (k17 : PySem.W.keepIn K (.ref f17) = true)
    (a18 : PySem.W.nsIn K mainGlobals "_law_more" = some (some (.ref f18))) (l18 : K.lookup f18 = some ⟨oc18, od18, .func (PySem.W.fnOf "_law_more" "_law_more" (defArgs tLM) (defBody tLM) (defScope tLM) .none kV18 dc18 pm18 an18 cd18 ct18), sl18⟩) (q18 : PySem.W.codeIn K cd18 "_law_more" = true) (k18 : PySem.W.keepIn K (.ref f18) = true)
    (a19 : PySem.W.nsIn K mainGlobals "_law_tower" = some (some (.ref f19))) (l19 : K.lookup f19 = some ⟨oc19, od19, .func (PySem.W.fnOf "_law_tower" "_law_tower" (defArgs tTower) (defBody tTower) (defScope tTower) .none kV19 dc19 pm19 an19 cd19 ct19), sl19⟩) (q19 : PySem.W.codeIn K cd19 "_law_tower" = true) (k19 : PySem.W.keepIn K (.ref f19) = true)
    (a20 : PySem.W.nsIn K mainGlobals "_law_right" = some (some (.ref f20))) (l20 : K.lookup f20 = some ⟨oc20, od20, .func (PySem.W.fnOf "_law_right" "_law_right" (defArgs tRight) (defBody tRight) (defScope tRight) .none kV20 dc20 pm20 an20 cd20 ct20), sl20⟩) (q20 : PySem.W.codeIn K cd20 "_law_right" = true) (k20 : PySem.W.keepIn K (.ref f20) = true)
    (a21 : PySem.W.nsIn K mainGlobals "law" = some (some (.ref f21))) (l21 : K.lookup f21 = some ⟨oc21, od21, .func (PySem.W.fnOf "law" "law" (defArgs tLaw) (defBody tLaw) (defScope tLaw) .none kV21 dc21 pm21 an21 cd21 ct21), sl21⟩) (q21 : PySem.W.codeIn K cd21 "law" = true) (k21 : PySem.W.keepIn K (.ref f21) = true)
    (aM : PySem.W.nsIn K mainGlobals "MOST_TURNS" = some (some uM)) (rM : RelV (.int 30) uM)
    (aB_ : PySem.W.nsIn K mainGlobals "TERM_FORMS" = some (some (.ref dB))) (lB_ : K.lookup dB = some ⟨.type "dict", none, .dict esB nB, #[]⟩) (tB_ : PySem.W.KeysLit w.params esB.toList) (sB_ : (dB == sysModules) = false)
    (kB_ : KeysAre esB.toList [("name", .ref r1), ("fun", .ref r2), ("call", .ref r3), ("num", .ref r4), ("plus", .ref r5), ("less", .ref r6), ("truth", .ref r7), ("if", .ref r8), ("pair", .ref r9), ("first", .ref r10), ("second", .ref r11), ("left", .ref r12), ("right", .ref r13), ("case", .ref r14), ("none", .ref r15), ("more", .ref r16), ("fold", .ref r17), ("built", .ref r18), ("alike", .ref r19), ("fault", .ref r20), ("rounds", .ref r21), ("told", .ref r22)])
    (lQ1 : K.lookup r1 = some ⟨.type "tuple", dQ1, .seq iQ1 nQ1, sQ1⟩) (vQ1 : iQ1.size ≤ sizeLine ∧ Vals [V.str "name"] iQ1.toList)
    (lQ2 : K.lookup r2 = some ⟨.type "tuple", dQ2, .seq iQ2 nQ2, sQ2⟩) (vQ2 : iQ2.size ≤ sizeLine ∧ Vals [V.str "name", V.str "argument", V.str "term"] iQ2.toList)
    (lQ3 : K.lookup r3 = some ⟨.type "tuple", dQ3, .seq iQ3 nQ3, sQ3⟩) (vQ3 : iQ3.size ≤ sizeLine ∧ Vals [V.str "term", V.str "term"] iQ3.toList)
    (lQ4 : K.lookup r4 = some ⟨.type "tuple", dQ4, .seq iQ4 nQ4, sQ4⟩) (vQ4 : iQ4.size ≤ sizeLine ∧ Vals [V.str "number"] iQ4.toList)
    (lQ5 : K.lookup r5 = some ⟨.type "tuple", dQ5, .seq iQ5 nQ5, sQ5⟩) (vQ5 : iQ5.size ≤ sizeLine ∧ Vals [V.str "term", V.str "term"] iQ5.toList)
    (lQ6 : K.lookup r6 = some ⟨.type "tuple", dQ6, .seq iQ6 nQ6, sQ6⟩) (vQ6 : iQ6.size ≤ sizeLine ∧ Vals [V.str "term", V.str "term"] iQ6.toList)
    (lQ7 : K.lookup r7 = some ⟨.type "tuple", dQ7, .seq iQ7 nQ7, sQ7⟩) (vQ7 : iQ7.size ≤ sizeLine ∧ Vals [V.str "truth"] iQ7.toList)
    (lQ8 : K.lookup r8 = some ⟨.type "tuple", dQ8, .seq iQ8 nQ8, sQ8⟩) (vQ8 : iQ8.size ≤ sizeLine ∧ Vals [V.str "term", V.str "term", V.str "term"] iQ8.toList)
    (lQ9 : K.lookup r9 = some ⟨.type "tuple", dQ9, .seq iQ9 nQ9, sQ9⟩) (vQ9 : iQ9.size ≤ sizeLine ∧ Vals [V.str "term", V.str "term"] iQ9.toList)
    (lQ10 : K.lookup r10 = some ⟨.type "tuple", dQ10, .seq iQ10 nQ10, sQ10⟩) (vQ10 : iQ10.size ≤ sizeLine ∧ Vals [V.str "term"] iQ10.toList)
    (lQ11 : K.lookup r11 = some ⟨.type "tuple", dQ11, .seq iQ11 nQ11, sQ11⟩) (vQ11 : iQ11.size ≤ sizeLine ∧ Vals [V.str "term"] iQ11.toList)
    (lQ12 : K.lookup r12 = some ⟨.type "tuple", dQ12, .seq iQ12 nQ12, sQ12⟩) (vQ12 : iQ12.size ≤ sizeLine ∧ Vals [V.str "term", V.str "data"] iQ12.toList)
    (lQ13 : K.lookup r13 = some ⟨.type "tuple", dQ13, .seq iQ13 nQ13, sQ13⟩) (vQ13 : iQ13.size ≤ sizeLine ∧ Vals [V.str "data", V.str "term"] iQ13.toList)
    (lQ14 : K.lookup r14 = some ⟨.type "tuple", dQ14, .seq iQ14 nQ14, sQ14⟩) (vQ14 : iQ14.size ≤ sizeLine ∧ Vals [V.str "term", V.str "name", V.str "term", V.str "name", V.str "term"] iQ14.toList)
    (lQ15 : K.lookup r15 = some ⟨.type "tuple", dQ15, .seq iQ15 nQ15, sQ15⟩) (vQ15 : iQ15.size ≤ sizeLine ∧ Vals [V.str "data"] iQ15.toList)
    (lQ16 : K.lookup r16 = some ⟨.type "tuple", dQ16, .seq iQ16 nQ16, sQ16⟩) (vQ16 : iQ16.size ≤ sizeLine ∧ Vals [V.str "term", V.str "term"] iQ16.toList)
    (lQ17 : K.lookup r17 = some ⟨.type "tuple", dQ17, .seq iQ17 nQ17, sQ17⟩) (vQ17 : iQ17.size ≤ sizeLine ∧ Vals [V.str "term", V.str "term", V.str "name", V.str "name", V.str "term"] iQ17.toList)
    (lQ18 : K.lookup r18 = some ⟨.type "tuple", dQ18, .seq iQ18 nQ18, sQ18⟩) (vQ18 : iQ18.size ≤ sizeLine ∧ Vals [V.str "data", V.str "name", V.str "name", V.str "name", V.str "term"] iQ18.toList)
    (lQ19 : K.lookup r19 = some ⟨.type "tuple", dQ19, .seq iQ19 nQ19, sQ19⟩) (vQ19 : iQ19.size ≤ sizeLine ∧ Vals [V.str "term", V.str "term"] iQ19.toList)
    (lQ20 : K.lookup r20 = some ⟨.type "tuple", dQ20, .seq iQ20 nQ20, sQ20⟩) (vQ20 : iQ20.size ≤ sizeLine ∧ Vals [V.str "data"] iQ20.toList)
    (lQ21 : K.lookup r21 = some ⟨.type "tuple", dQ21, .seq iQ21 nQ21, sQ21⟩) (vQ21 : iQ21.size ≤ sizeLine ∧ Vals [V.str "turns", V.str "term", V.str "name", V.str "term"] iQ21.toList)
    (lQ22 : K.lookup r22 = some ⟨.type "tuple", dQ22, .seq iQ22 nQ22, sQ22⟩) (vQ22 : iQ22.size ≤ sizeLine ∧ Vals [V.str "name", V.str "fills"] iQ22.toList)
    (z1 : PySem.W.nsIn K mainGlobals "len" = some none) (z2 : PySem.W.nsIn K mainGlobals "list" = some none) (z3 : PySem.W.nsIn K mainGlobals "range" = some none) (z4 : PySem.W.nsIn K mainGlobals "reversed" = some none) (z5 : PySem.W.nsIn K mainGlobals "sum" = some none) (z6 : PySem.W.nsIn K mainGlobals "dict" = some none) (z7 : PySem.W.nsIn K mainGlobals "int" = some none) (z8 : PySem.W.nsIn K mainGlobals "repr" = some none) (z9 : PySem.W.nsIn K mainGlobals "isinstance" = some none) (z10 : PySem.W.nsIn K mainGlobals "tuple" = some none) (z11 : PySem.W.nsIn K mainGlobals "max" = some none) (z12 : PySem.W.nsIn K mainGlobals "min" = some none) (z13 : PySem.W.nsIn K mainGlobals "enumerate" = some none) :
    LawG l w K CX0 228 63 "_law_script" mg fa h := by
  have e := hfa.symm.trans (PySem.W.mg_of X G a21)
  cases e
  have F1 := fun_mk (st := tPl) l1 q1 k1
  have b1 := F1.binds (ps := ["term"]) fun _ _ _ _ _ _ us hl => match us, hl with | [_], _ => rfl
  have g_1 := PySem.W.mg_of X G a1
  have F2 := fun_mk (st := tMore) l2 q2 k2
  have b2 := F2.binds (ps := psMore) fun _ _ _ _ _ _ us hl => match us, hl with | [_, _], _ => rfl
  have g_2 := PySem.W.mg_of X G a2
  have F3 := fun_mk (st := tDeck) l3 q3 k3
  have b3 := F3.binds (ps := ["_law_script"]) fun _ _ _ _ _ _ us hl => match us, hl with | [_], _ => rfl
  have g_3 := PySem.W.mg_of X G a3
  have F4 := fun_mk (st := tDraw) l4 q4 k4
  have b4 := F4.binds (ps := ["_law_deck_here", "_law_most"]) fun _ _ _ _ _ _ us hl => match us, hl with | [_, _], _ => rfl
  have g_4 := PySem.W.mg_of X G a4
  have F5 := fun_mk (st := tPick) l5 q5 k5
  have b5 := F5.binds (ps := psPick) fun _ _ _ _ _ _ us hl => match us, hl with | [_, _], _ => rfl
  have g_5 := PySem.W.mg_of X G a5
  have F6 := fun_mk (st := tNames) l6 q6 k6
  have b6 := F6.binds (ps := ["_law_deck_here", "_law_many"]) fun _ _ _ _ _ _ us hl => match us, hl with | [_, _], _ => rfl
  have g_6 := PySem.W.mg_of X G a6
  have F7 := fun_mk (st := tLData) l7 q7 k7
  have b7 := F7.binds (ps := psLData) fun _ _ _ _ _ _ us hl => match us, hl with | [_, _, _, _], _ => rfl
  have g_7 := PySem.W.mg_of X G a7
  have F8 := fun_mk (st := tLArgs) l8 q8 k8
  have b8 := F8.binds (ps := ["_law_kind"]) fun _ _ _ _ _ _ us hl => match us, hl with | [_], _ => rfl
  have g_8 := PySem.W.mg_of X G a8
  have F9 := fun_mk (st := tOwn) l9 q9 k9
  have b9 := F9.binds (ps := psOwn) fun _ _ _ _ _ _ us hl => match us, hl with | [_, _, _, _], _ => rfl
  have g_9 := PySem.W.mg_of X G a9
  have F10 := fun_mk (st := tOther) l10 q10 k10
  have b10 := F10.binds (ps := psOther) fun _ _ _ _ _ _ us hl => match us, hl with | [_, _, _, _], _ => rfl
  have g_10 := PySem.W.mg_of X G a10
  have F11 := fun_mk (st := tCalls) l11 q11 k11
  have b11 := F11.binds (ps := psCalls) fun _ _ _ _ _ _ us hl => match us, hl with | [_, _], _ => rfl
  have g_11 := PySem.W.mg_of X G a11
  have F12 := fun_mk (st := tFil) l12 q12 k12
  have b12 := F12.binds (ps := psFil) fun _ _ _ _ _ _ us hl => match us, hl with | [_, _, _, _, _], _ => rfl
  have g_12 := PySem.W.mg_of X G a12
  have F13 := fun_mk (st := tMake) l13 q13 k13
  have b13 := F13.binds (ps := psMake) fun _ _ _ _ _ _ us hl => match us, hl with | [_, _, _, _, _], _ => rfl
  have g_13 := PySem.W.mg_of X G a13
  have F14 := fun_mk (st := tMeas) l14 q14 k14
  have b14 := F14.binds (ps := psMeas) fun _ _ _ _ _ _ us hl => match us, hl with | [_], _ => rfl
  have g_14 := PySem.W.mg_of X G a14
  have F15 := fun_mk (st := tTerm) l15 q15 k15
  have b15 := F15.binds (ps := psTerm) fun _ _ _ _ _ _ us hl => match us, hl with | [_, _, _, _, _], _ => rfl
  have g_15 := PySem.W.mg_of X G a15
  have F16 := fun_mk (st := tTools) l16 q16 k16
  have b16 := F16.binds (ps := psTools) fun _ _ _ _ _ _ us hl => match us, hl with | [_, _, _, _], _ => rfl
  have g_16 := PySem.W.mg_of X G a16
  have F17 := fun_mk (st := tDF) l17 q17 k17
  have b17 := F17.binds (ps := psDF) fun _ _ _ _ _ _ us hl => match us, hl with | [_, _, _], _ => rfl
  have g_17 := PySem.W.mg_of X G a17
  have F18 := fun_mk (st := tLM) l18 q18 k18
  have b18 := F18.binds (ps := psLM) fun _ _ _ _ _ _ us hl => match us, hl with | [_, _], _ => rfl
  have g_18 := PySem.W.mg_of X G a18
  have F19 := fun_mk (st := tTower) l19 q19 k19
  have b19 := F19.binds (ps := psTower) fun _ _ _ _ _ _ us hl => match us, hl with | [_, _], _ => rfl
  have g_19 := PySem.W.mg_of X G a19
  have F20 := fun_mk (st := tRight) l20 q20 k20
  have b20 := F20.binds (ps := psRight) fun _ _ _ _ _ _ us hl => match us, hl with | [_, _], _ => rfl
  have g_20 := PySem.W.mg_of X G a20
  have F21 := fun_mk (st := tLaw) l21 q21 k21
  have m_len := PySem.W.mg_none_of X G z1
  have m_list := PySem.W.mg_none_of X G z2
  have m_range := PySem.W.mg_none_of X G z3
  have m_reversed := PySem.W.mg_none_of X G z4
  have m_sum := PySem.W.mg_none_of X G z5
  have m_dict := PySem.W.mg_none_of X G z6
  have m_int := PySem.W.mg_none_of X G z7
  have m_repr := PySem.W.mg_none_of X G z8
  have m_isinstance := PySem.W.mg_none_of X G z9
  have m_tuple := PySem.W.mg_none_of X G z10
  have m_max := PySem.W.mg_none_of X G z11
  have m_min := PySem.W.mg_none_of X G z12
  have m_enumerate := PySem.W.mg_none_of X G z13
  have gMT := PySem.W.mg_of X G aM
  have gB := PySem.W.mg_of X G aB_
  have hB : TForms K w dB esB nB := by
    have r2 : Rl2 (fun rs u => ∃ t, u = Value.ref t ∧ ∀ G : Hp, SqT K G t (rs.map V.str)) tblT [("name", .ref r1), ("fun", .ref r2), ("call", .ref r3), ("num", .ref r4), ("plus", .ref r5), ("less", .ref r6), ("truth", .ref r7), ("if", .ref r8), ("pair", .ref r9), ("first", .ref r10), ("second", .ref r11), ("left", .ref r12), ("right", .ref r13), ("case", .ref r14), ("none", .ref r15), ("more", .ref r16), ("fold", .ref r17), ("built", .ref r18), ("alike", .ref r19), ("fault", .ref r20), ("rounds", .ref r21), ("told", .ref r22)] := (.cons ⟨r1, rfl, fun H => .inr ⟨_, iQ1, nQ1, lQ1, rfl, rfl, vQ1.1, vQ1.2⟩⟩ (.cons ⟨r2, rfl, fun H => .inr ⟨_, iQ2, nQ2, lQ2, rfl, rfl, vQ2.1, vQ2.2⟩⟩ (.cons ⟨r3, rfl, fun H => .inr ⟨_, iQ3, nQ3, lQ3, rfl, rfl, vQ3.1, vQ3.2⟩⟩ (.cons ⟨r4, rfl, fun H => .inr ⟨_, iQ4, nQ4, lQ4, rfl, rfl, vQ4.1, vQ4.2⟩⟩ (.cons ⟨r5, rfl, fun H => .inr ⟨_, iQ5, nQ5, lQ5, rfl, rfl, vQ5.1, vQ5.2⟩⟩ (.cons ⟨r6, rfl, fun H => .inr ⟨_, iQ6, nQ6, lQ6, rfl, rfl, vQ6.1, vQ6.2⟩⟩ (.cons ⟨r7, rfl, fun H => .inr ⟨_, iQ7, nQ7, lQ7, rfl, rfl, vQ7.1, vQ7.2⟩⟩ (.cons ⟨r8, rfl, fun H => .inr ⟨_, iQ8, nQ8, lQ8, rfl, rfl, vQ8.1, vQ8.2⟩⟩ (.cons ⟨r9, rfl, fun H => .inr ⟨_, iQ9, nQ9, lQ9, rfl, rfl, vQ9.1, vQ9.2⟩⟩ (.cons ⟨r10, rfl, fun H => .inr ⟨_, iQ10, nQ10, lQ10, rfl, rfl, vQ10.1, vQ10.2⟩⟩ (.cons ⟨r11, rfl, fun H => .inr ⟨_, iQ11, nQ11, lQ11, rfl, rfl, vQ11.1, vQ11.2⟩⟩ (.cons ⟨r12, rfl, fun H => .inr ⟨_, iQ12, nQ12, lQ12, rfl, rfl, vQ12.1, vQ12.2⟩⟩ (.cons ⟨r13, rfl, fun H => .inr ⟨_, iQ13, nQ13, lQ13, rfl, rfl, vQ13.1, vQ13.2⟩⟩ (.cons ⟨r14, rfl, fun H => .inr ⟨_, iQ14, nQ14, lQ14, rfl, rfl, vQ14.1, vQ14.2⟩⟩ (.cons ⟨r15, rfl, fun H => .inr ⟨_, iQ15, nQ15, lQ15, rfl, rfl, vQ15.1, vQ15.2⟩⟩ (.cons ⟨r16, rfl, fun H => .inr ⟨_, iQ16, nQ16, lQ16, rfl, rfl, vQ16.1, vQ16.2⟩⟩ (.cons ⟨r17, rfl, fun H => .inr ⟨_, iQ17, nQ17, lQ17, rfl, rfl, vQ17.1, vQ17.2⟩⟩ (.cons ⟨r18, rfl, fun H => .inr ⟨_, iQ18, nQ18, lQ18, rfl, rfl, vQ18.1, vQ18.2⟩⟩ (.cons ⟨r19, rfl, fun H => .inr ⟨_, iQ19, nQ19, lQ19, rfl, rfl, vQ19.1, vQ19.2⟩⟩ (.cons ⟨r20, rfl, fun H => .inr ⟨_, iQ20, nQ20, lQ20, rfl, rfl, vQ20.1, vQ20.2⟩⟩ (.cons ⟨r21, rfl, fun H => .inr ⟨_, iQ21, nQ21, lQ21, rfl, rfl, vQ21.1, vQ21.2⟩⟩ (.cons ⟨r22, rfl, fun H => .inr ⟨_, iQ22, nQ22, lQ22, rfl, rfl, vQ22.1, vQ22.2⟩⟩ .nil))))))))))))))))))))))
    refine ⟨⟨lB_, tB_, sB_⟩, fun z hz => ?_, fun z rs hz => ?_⟩
    · rw [ns_keys lB_ kB_, (r2.look z).1 hz]
    · obtain ⟨u, hu, t, rfl, ht⟩ := (r2.look z).2 rs hz
      exact ⟨t, by rw [ns_keys lB_ kB_, hu], ht⟩
  refine ⟨PySem.W.fnOf "law" "law" (defArgs tLaw) (defBody tLaw) (defScope tLaw) .none kV21 dc21 pm21 an21 cd21 ct21, [], spLaw K, (fun p hp => by cases hp), fun s v => .of_eq rfl, fun H a ns hl _ hH hS => ⟨a, ns, rfl, hS, hl, fun _ => rfl⟩, fun base _ _ TB => ?_⟩
  have H_draw : Okd l.prog w K mg base CX0 1 "_law_draw" ["_law_deck_here", "_law_most"] spDraw := ⟨_, _, okDraw (k := 0) F4, b4, g_4, F4.kp⟩
  have H_pick : Okd l.prog w K mg base CX0 2 "_law_pick" psPick spPick := ⟨_, _, okPick (k := 0) F5 (okDraw (k := 0) F4) b4 g_4 F4.kp m_len, b5, g_5, F5.kp⟩
  have H_names : Okd l.prog w K mg base CX0 2 "_law_names" ["_law_deck_here", "_law_many"] spNames := ⟨_, _, okNames (k := 0) F6 (okDraw (k := 0) F4) b4 g_4 F4.kp m_len m_range, b6, g_6, F6.kp⟩
  have H_deck : Okd l.prog w K mg base CX0 1 "_law_deck" ["_law_script"] (spDeck K) := ⟨_, _, okDeck (k := 0) F3 m_list m_reversed m_sum m_len, b3, g_3, F3.kp⟩
  have GT4 := okLData (P := l.prog) (w := w) (base := base) F7 b7 g_7 F4 b4 g_4 F5 b5 g_5 m_int m_len 4
  have H_data : Okd l.prog w K mg base CX0 6 "_law_data" psLData (spLData 4) := ⟨_, _, GT4, b7, g_7, F7.kp⟩
  have H_make := make_all (P := l.prog) (w := w) (base := base) ⟨_, _, F13, b13, g_13⟩ ⟨_, _, F12, b12, g_12⟩ ⟨_, _, F9, b9, g_9⟩ ⟨_, _, F10, b10, g_10⟩ ⟨_, _, F11, b11, g_11⟩ ⟨_, _, F8, b8, g_8⟩ (H_draw.up (by decide)) (H_pick.up (by decide)) m_dict m_int m_len m_repr m_isinstance m_list m_tuple
  have H_meas := meas_rec (P := l.prog) (w := w) (base := base) ⟨_, _, F14, b14, g_14⟩ m_len m_list m_max m_range m_sum 221
  have H_term : OkdG l.prog w K mg base CX0 227 "_law_term" psTerm spTerm := ⟨_, _, okTerm (k := 226) F15 H_make (H_meas.up (by decide)) m_range, b15, g_15, F15.kp⟩
  have H_tools : Okd l.prog w K mg base CX0 1 "_law_tools" psTools spTools := ⟨_, _, okTools (k := 0) F16, b16, g_16, F16.kp⟩
  have H_df : Okd l.prog w K mg base CX0 7 "_law_data_function" psDF spDF := ⟨_, _, okDF (k := 6) F17 (DA := H_data) (m_range := m_range), b17, g_17, F17.kp⟩
  have H_tower : Okd l.prog w K mg base CX0 2 "_law_tower" psTower spTower := ⟨_, _, okTower (k := 1) F19 (DD := H_draw) (m_range := m_range), b19, g_19, F19.kp⟩
  have H_more := more_rec (P := l.prog) (w := w) (base := base) ⟨_, _, F2, b2, g_2⟩ ⟨_, _, F1, b1, g_1⟩ gB hB gMT rM m_enumerate m_list m_min m_tuple 63
  have H_lm := lm_rec (P := l.prog) (w := w) (base := base) ⟨_, _, F18, b18, g_18⟩ m_isinstance m_len m_min m_tuple 64
  have H_right : OkdG l.prog w K mg base CX0 65 "_law_right" psRight spRight := ⟨_, _, okRight (k := 64) F20 (DM := H_lm) (DR := H_more) (m_isinstance := m_isinstance) (m_range := m_range) (m_repr := m_repr) (m_tuple := m_tuple), b20, g_20, F20.kp⟩
  exact okLaw (k := 227) F21 (DT := H_term) (DR := H_right.up (by decide)) (DK := H_deck.up (by decide)) (DD := H_draw.up (by decide)) (DN := H_names.up (by decide)) (DO := H_tools.up (by decide)) (DA := H_df.up (by decide)) (DW := H_tower.up (by decide)) (DM := H_more.up (by decide)) (m_len := m_len) (m_max := m_max) (m_min := m_min) (m_range := m_range)
end Kq
open PySem PySem.W PyProof.Rows
set_option maxRecDepth 100000 in
set_option maxHeartbeats 0 in
theorem PySem.Challenge.cw_kindalone_k76_more_rounds_in_terms_holds : PySem.Challenge.rw_kindalone_k76_more_rounds_in_terms.Holds := by
  w_on; o_law; k_head; (case hw => w_witness2)
  k_fill
  refine Kf.walk_ofG (l := PySem.Challenge.rw_kindalone_k76_more_rounds_in_terms) (n := 63) (k := 228) (x := "_law_script") (CX := fun _ => L2.CX0) rfl (by decide) rfl ⟨rfl, by decide, by decide⟩ (fun w h Y => PySem.W.kIn_of Y) ?F (fun _ _ _ _ _ h => h)
  case F =>
    intro w mg fa h Y KX G hmg tabs
    refine' Kq.all_mk KX G hmg ?a1 ?l1 ?q1 ?k1 ?a2 ?l2 ?q2 ?k2 ?a3 ?l3 ?q3 ?k3 ?a4 ?l4 ?q4 ?k4 ?a5 ?l5 ?q5 ?k5 ?a6 ?l6 ?q6 ?k6 ?a7 ?l7 ?q7 ?k7 ?a8 ?l8 ?q8 ?k8 ?a9 ?l9 ?q9 ?k9 ?a10 ?l10 ?q10 ?k10 ?a11 ?l11 ?q11 ?k11 ?a12 ?l12 ?q12 ?k12 ?a13 ?l13 ?q13 ?k13 ?a14 ?l14 ?q14 ?k14 ?a15 ?l15 ?q15 ?k15 ?a16 ?l16 ?q16 ?k16 ?a17 ?l17 ?q17 ?k17 ?a18 ?l18 ?q18 ?k18 ?a19 ?l19 ?q19 ?k19 ?a20 ?l20 ?q20 ?k20 ?a21 ?l21 ?q21 ?k21 ?aM ?rM ?aB_ ?lB_ ?tB_ ?sB_ ?kB_ ?lQ1 ?vQ1 ?lQ2 ?vQ2 ?lQ3 ?vQ3 ?lQ4 ?vQ4 ?lQ5 ?vQ5 ?lQ6 ?vQ6 ?lQ7 ?vQ7 ?lQ8 ?vQ8 ?lQ9 ?vQ9 ?lQ10 ?vQ10 ?lQ11 ?vQ11 ?lQ12 ?vQ12 ?lQ13 ?vQ13 ?lQ14 ?vQ14 ?lQ15 ?vQ15 ?lQ16 ?vQ16 ?lQ17 ?vQ17 ?lQ18 ?vQ18 ?lQ19 ?vQ19 ?lQ20 ?vQ20 ?lQ21 ?vQ21 ?lQ22 ?vQ22 ?z1 ?z2 ?z3 ?z4 ?z5 ?z6 ?z7 ?z8 ?z9 ?z10 ?z11 ?z12 ?z13
    (case a1 => k_is); (case l1 => k_is); (case q1 => k_is); (case k1 => k_is)
    (case a2 => k_is); (case l2 => k_is); (case q2 => k_is); (case k2 => k_is)
    (case a3 => k_is); (case l3 => k_is); (case q3 => k_is); (case k3 => k_is)
    (case a4 => k_is); (case l4 => k_is); (case q4 => k_is); (case k4 => k_is)
    (case a5 => k_is); (case l5 => k_is); (case q5 => k_is); (case k5 => k_is)
    (case a6 => k_is); (case l6 => k_is); (case q6 => k_is); (case k6 => k_is)
    (case a7 => k_is); (case l7 => k_is); (case q7 => k_is); (case k7 => k_is)
    (case a8 => k_is); (case l8 => k_is); (case q8 => k_is); (case k8 => k_is)
    (case a9 => k_is); (case l9 => k_is); (case q9 => k_is); (case k9 => k_is)
    (case a10 => k_is); (case l10 => k_is); (case q10 => k_is); (case k10 => k_is)
    (case a11 => k_is); (case l11 => k_is); (case q11 => k_is); (case k11 => k_is)
    (case a12 => k_is); (case l12 => k_is); (case q12 => k_is); (case k12 => k_is)
    (case a13 => k_is); (case l13 => k_is); (case q13 => k_is); (case k13 => k_is)
    (case a14 => k_is); (case l14 => k_is); (case q14 => k_is); (case k14 => k_is)
    (case a15 => k_is); (case l15 => k_is); (case q15 => k_is); (case k15 => k_is)
    (case a16 => k_is); (case l16 => k_is); (case q16 => k_is); (case k16 => k_is)
    (case a17 => k_is); (case l17 => k_is); (case q17 => k_is); (case k17 => k_is)
    (case a18 => k_is); (case l18 => k_is); (case q18 => k_is); (case k18 => k_is)
    (case a19 => k_is); (case l19 => k_is); (case q19 => k_is); (case k19 => k_is)
    (case a20 => k_is); (case l20 => k_is); (case q20 => k_is); (case k20 => k_is)
    (case a21 => k_is); (case l21 => k_is); (case q21 => k_is); (case k21 => k_is)
    (case aM => k_is); (case rM => exact ⟨_, rfl⟩)
    (case aB_ => k_is); (case lB_ => k_is); (case tB_ => exact ⟨⟨_, _, rfl, rfl⟩, ⟨_, _, rfl, rfl⟩, ⟨_, _, rfl, rfl⟩, ⟨_, _, rfl, rfl⟩, ⟨_, _, rfl, rfl⟩, ⟨_, _, rfl, rfl⟩, ⟨_, _, rfl, rfl⟩, ⟨_, _, rfl, rfl⟩, ⟨_, _, rfl, rfl⟩, ⟨_, _, rfl, rfl⟩, ⟨_, _, rfl, rfl⟩, ⟨_, _, rfl, rfl⟩, ⟨_, _, rfl, rfl⟩, ⟨_, _, rfl, rfl⟩, ⟨_, _, rfl, rfl⟩, ⟨_, _, rfl, rfl⟩, ⟨_, _, rfl, rfl⟩, ⟨_, _, rfl, rfl⟩, ⟨_, _, rfl, rfl⟩, ⟨_, _, rfl, rfl⟩, ⟨_, _, rfl, rfl⟩, ⟨_, _, rfl, rfl⟩, trivial⟩); (case sB_ => rfl)
    (case kB_ => exact ⟨⟨_, rfl⟩, rfl, ⟨_, rfl⟩, rfl, ⟨_, rfl⟩, rfl, ⟨_, rfl⟩, rfl, ⟨_, rfl⟩, rfl, ⟨_, rfl⟩, rfl, ⟨_, rfl⟩, rfl, ⟨_, rfl⟩, rfl, ⟨_, rfl⟩, rfl, ⟨_, rfl⟩, rfl, ⟨_, rfl⟩, rfl, ⟨_, rfl⟩, rfl, ⟨_, rfl⟩, rfl, ⟨_, rfl⟩, rfl, ⟨_, rfl⟩, rfl, ⟨_, rfl⟩, rfl, ⟨_, rfl⟩, rfl, ⟨_, rfl⟩, rfl, ⟨_, rfl⟩, rfl, ⟨_, rfl⟩, rfl, ⟨_, rfl⟩, rfl, ⟨_, rfl⟩, rfl, trivial⟩)
    (case lQ1 => k_is); (case vQ1 => exact ⟨by decide, (.cons ⟨_, rfl⟩ .nil)⟩)
    (case lQ2 => k_is); (case vQ2 => exact ⟨by decide, (.cons ⟨_, rfl⟩ (.cons ⟨_, rfl⟩ (.cons ⟨_, rfl⟩ .nil)))⟩)
    (case lQ3 => k_is); (case vQ3 => exact ⟨by decide, (.cons ⟨_, rfl⟩ (.cons ⟨_, rfl⟩ .nil))⟩)
    (case lQ4 => k_is); (case vQ4 => exact ⟨by decide, (.cons ⟨_, rfl⟩ .nil)⟩)
    (case lQ5 => k_is); (case vQ5 => exact ⟨by decide, (.cons ⟨_, rfl⟩ (.cons ⟨_, rfl⟩ .nil))⟩)
    (case lQ6 => k_is); (case vQ6 => exact ⟨by decide, (.cons ⟨_, rfl⟩ (.cons ⟨_, rfl⟩ .nil))⟩)
    (case lQ7 => k_is); (case vQ7 => exact ⟨by decide, (.cons ⟨_, rfl⟩ .nil)⟩)
    (case lQ8 => k_is); (case vQ8 => exact ⟨by decide, (.cons ⟨_, rfl⟩ (.cons ⟨_, rfl⟩ (.cons ⟨_, rfl⟩ .nil)))⟩)
    (case lQ9 => k_is); (case vQ9 => exact ⟨by decide, (.cons ⟨_, rfl⟩ (.cons ⟨_, rfl⟩ .nil))⟩)
    (case lQ10 => k_is); (case vQ10 => exact ⟨by decide, (.cons ⟨_, rfl⟩ .nil)⟩)
    (case lQ11 => k_is); (case vQ11 => exact ⟨by decide, (.cons ⟨_, rfl⟩ .nil)⟩)
    (case lQ12 => k_is); (case vQ12 => exact ⟨by decide, (.cons ⟨_, rfl⟩ (.cons ⟨_, rfl⟩ .nil))⟩)
    (case lQ13 => k_is); (case vQ13 => exact ⟨by decide, (.cons ⟨_, rfl⟩ (.cons ⟨_, rfl⟩ .nil))⟩)
    (case lQ14 => k_is); (case vQ14 => exact ⟨by decide, (.cons ⟨_, rfl⟩ (.cons ⟨_, rfl⟩ (.cons ⟨_, rfl⟩ (.cons ⟨_, rfl⟩ (.cons ⟨_, rfl⟩ .nil)))))⟩)
    (case lQ15 => k_is); (case vQ15 => exact ⟨by decide, (.cons ⟨_, rfl⟩ .nil)⟩)
    (case lQ16 => k_is); (case vQ16 => exact ⟨by decide, (.cons ⟨_, rfl⟩ (.cons ⟨_, rfl⟩ .nil))⟩)
    (case lQ17 => k_is); (case vQ17 => exact ⟨by decide, (.cons ⟨_, rfl⟩ (.cons ⟨_, rfl⟩ (.cons ⟨_, rfl⟩ (.cons ⟨_, rfl⟩ (.cons ⟨_, rfl⟩ .nil)))))⟩)
    (case lQ18 => k_is); (case vQ18 => exact ⟨by decide, (.cons ⟨_, rfl⟩ (.cons ⟨_, rfl⟩ (.cons ⟨_, rfl⟩ (.cons ⟨_, rfl⟩ (.cons ⟨_, rfl⟩ .nil)))))⟩)
    (case lQ19 => k_is); (case vQ19 => exact ⟨by decide, (.cons ⟨_, rfl⟩ (.cons ⟨_, rfl⟩ .nil))⟩)
    (case lQ20 => k_is); (case vQ20 => exact ⟨by decide, (.cons ⟨_, rfl⟩ .nil)⟩)
    (case lQ21 => k_is); (case vQ21 => exact ⟨by decide, (.cons ⟨_, rfl⟩ (.cons ⟨_, rfl⟩ (.cons ⟨_, rfl⟩ (.cons ⟨_, rfl⟩ .nil))))⟩)
    (case lQ22 => k_is); (case vQ22 => exact ⟨by decide, (.cons ⟨_, rfl⟩ (.cons ⟨_, rfl⟩ .nil))⟩)
    (case z1 => k_is); (case z2 => k_is); (case z3 => k_is); (case z4 => k_is); (case z5 => k_is); (case z6 => k_is); (case z7 => k_is); (case z8 => k_is); (case z9 => k_is); (case z10 => k_is); (case z11 => k_is); (case z12 => k_is); (case z13 => k_is)
