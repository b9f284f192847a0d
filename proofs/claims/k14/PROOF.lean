import PyProof.Rows.All
import Wide.All
import OpenK.AllK
import Wide.FinOn
import HandS.ForMost
import HandS.Rev
import HandS.StrMore
import HandS.IsInst
import HandS.Wide
import HandS.Replace
import HandS.Codes
import HandS.GenList
import HandS.AnyAll
import HandS.EndOwn
import HandS.ExcOwn
import PyProof.ReprRoads
import HandS.Walk
import HandS.Dict
import HandS.TupAny
import HandS.Style
import KE.KDictPairs
import KE.GoesMore
import HandS.Iter
import KE.KRevSl
import PyProof.Draws
import PyProof.EnumMake
import PyProof.EqKinds
import HandS.More
import PyProof.Rows.IntBool
import PyProof.CallStr
import PyProof.IsRules
import PyProof.ReprLen
import PyProof.FitsInt
import PyProof.StrLawsRepr
import HandS.FStrTup
import PyProof.Rows.RegReprOcc
import PyProof.Rows.StrCase
import KE.KDictZip
import KE.GoesZip
import HandS.RevTup
import HandS.Flow
import HandS.RaiseMore
import HandS.Star
import HandS.ForExc
import HandS.ReplaceLit
import PyProof.MeetsStr3
import PyProof.Rows.StrSplitCount
import HandS.Set
import HandS.SetBool
import HandS.TupSets
import HandS.SetFor
import HandS.SortInts
import HandS.ExcIs
import KE.KExcIs
import KE.KIsAll
import HandS.HotCalls
import HandS.TryOnly
import HandS.TupLe
import HandS.Strs
import PySem.Challenge.RW_kindalone_k14_texts_of_no_kind
set_option Elab.async false
set_option linter.all false
set_option maxRecDepth 100000
set_option maxHeartbeats 4000000
namespace Kq
open PySem PySem.Spec PyProof.Rows L2
/-! the program's defs, by their places -/
def tp (i : Nat) : Stmt := PySem.Challenge.pw_kindalone_k14_texts_of_no_kind.main.body.getD i (.Pass ⟨0, 0, 0, 0⟩)
abbrev tMixed : Stmt := tp 46
abbrev tDraw : Stmt := tp 47
/-! heaps -/
theorem newS {H : Hp} {p : Addr} {o : HO} (h : H p = none) : Same H (upd H p o) := fun b u e => by
  rw [upd_ne (ne_of_none e h)]
  exact e
/-- but for d and c all that stood stands -/
def Kp (d c : Addr) (H G : Hp) : Prop := ∀ b o, b ≠ d → b ≠ c → H b = some o → G b = some o
theorem Kp.rfl {d c : Addr} {H : Hp} : Kp d c H H := fun _ _ _ _ e => e
theorem Kp.trans {d c : Addr} {H G F : Hp} (a : Kp d c H G) (b : Kp d c G F) : Kp d c H F := fun x o h1 h2 e => b x o h1 h2 (a x o h1 h2 e)
theorem Kp.of {d c : Addr} {H G : Hp} (a : Same H G) : Kp d c H G := fun x o _ _ e => a x o e
theorem Kp.at1 {d c : Addr} {H : Hp} {o : HO} : Kp d c H (upd H d o) := fun x u h1 _ e => by rw [upd_ne h1]; exact e
theorem Kp.at2 {d c : Addr} {H : Hp} {o : HO} : Kp d c H (upd H c o) := fun x u _ h2 e => by rw [upd_ne h2]; exact e
/-- the deck of drawn cells -/
structure Dk (H : Hp) (d c : Addr) : Prop where
  ne : d ≠ c
  dd : ∃ seed k : Int, H d = some (.lst [.ref c, .int seed, .int k])
  cc : ∃ ns : List Int, H c = some (.lst (ns.map V.int)) ∧ ns.length ≤ 63
theorem Dk.same {H G : Hp} {d c : Addr} (x : Dk H d c) (s : Same H G) : Dk G d c := by
  obtain ⟨n, ⟨a, b, e⟩, ⟨ns, f, l⟩⟩ := x
  exact ⟨n, ⟨a, b, s _ _ e⟩, ⟨ns, s _ _ f, l⟩⟩
theorem sz {n : Nat} (h : n ≤ 1000) : n ≤ sizeLine := Nat.le_of_lt (small1000 h)
section
variable {P : Program} {w : World} {K : PySem.W.Frag} {mg : Str → Option Value} {base : Heap}
/-! _law_mixed -/
theorem scMixed : FnScope ["_law_cell", "_law_k", "_law_number"] ["_law_cell", "_law_k"] (defScope tMixed) := ⟨rfl, rfl, rfl, by decide +kernel, rfl, by decide +kernel, by decide +kernel⟩
def spMixed : Sp := fun vs H Q _ => ∃ a b : Int, vs = [.int a, .int b] ∧ ∀ r : Int, Q (.int r) H
theorem okMixed {f : Addr} {fd : FuncData} {k : Nat} (F : Fun K "_law_mixed" "_law_mixed" tMixed f fd) : FnOk P w K mg base CX0 (k + 1) f fd ["_law_cell", "_law_k"] spMixed := by
  refine F.ok scMixed (fun vs H Q E h => ?_) (fun cdv A outer s H vs Q E hr h => ?_)
  · obtain ⟨a, b, rfl, _⟩ := h
    rfl
  obtain ⟨a, b, rfl, q⟩ := h
  refine ⟨_, pss_cons (ps_set (i := 2) scMixed.nd rfl (.inl rfl) (pe_op op_mod (pe_op op_mul (pe_op op_add (pe_op op_add (pe_op op_mod (pv 0) pe_int) (pe_op op_mul pe_int (pv 1))) pe_int) pe_int) pe_int))
    (pss_cons (ps_set (i := 2) scMixed.nd rfl (.inl rfl) (pe_op op_mod (pe_op op_add (pe_op op_add (pe_op op_mul (pv 2) (pv 2)) (pe_op op_mul pe_int (pv 1))) pe_int) pe_int))
    (pss_one (ps_ret (pe_op op_fdiv (pe_op op_mod (pe_op op_mul (pv 2) (pe_op op_add (pe_op op_fdiv (pv 2) pe_int) pe_int)) pe_int) pe_int)))), ?_⟩
  refine ⟨_, rfl, _, _, rfl, rfl, (by show (0 : Int) < 2147483629; decide), _, rfl, _, _, rfl, rfl, .inl ⟨by decide, by decide⟩, _, _, rfl, rfl, _, _, rfl, rfl, _, _, rfl, rfl, .inr ⟨by decide, by decide⟩, _, _, rfl, rfl, (by show (0 : Int) < 2147483647; decide), ?_⟩
  generalize hx : (a % 2147483629 + 104729 * b + 1) * 48271 % 2147483647 = x
  have x0 : 0 ≤ x := by rw [← hx]; exact Int.emod_nonneg _ (by decide)
  have x1 : x < 2147483647 := by rw [← hx]; exact Int.emod_lt_of_pos _ (by decide)
  refine ⟨_, rfl, _, rfl, _, _, rfl, rfl, .inl ⟨by omega, by omega⟩, _, rfl, _, _, rfl, rfl, .inl ⟨by decide, by decide⟩, _, _, rfl, rfl, _, _, rfl, rfl, _, _, rfl, rfl, (by show (0 : Int) < 2147483587; decide), ?_⟩
  generalize hy : (x * x + 69621 * b + 7) % 2147483587 = y
  have y0 : 0 ≤ y := by rw [← hy]; exact Int.emod_nonneg _ (by decide)
  have y1 : y < 2147483587 := by rw [← hy]; exact Int.emod_lt_of_pos _ (by decide)
  refine ⟨_, rfl, _, rfl, _, _, rfl, rfl, ⟨by decide, by decide⟩, _, _, rfl, rfl, _, _, rfl, rfl, .inl ⟨by omega, by omega⟩, _, _, rfl, rfl, (by show (0 : Int) < 2305843009213693951; decide), _, _, rfl, rfl, ⟨by decide, by decide⟩, q _⟩
/-! _law_draw -/
theorem scDraw : FnScope ["_law_deck_here", "_law_most", "_law_cell"] ["_law_deck_here", "_law_most"] (defScope tDraw) := ⟨rfl, rfl, rfl, by decide +kernel, rfl, by decide +kernel, by decide +kernel⟩
def spDraw : Sp := fun vs H Q _ => ∃ (d c : Addr) (m : Int), vs = [.ref d, .int m] ∧ Dk H d c ∧ 0 < m ∧ m < 1125899906842624 ∧ ∀ (r : Int) (G : Hp), 0 ≤ r → r < m → Kp d c H G → Dk G d c → Q (.int r) G
theorem dpInts (K : PySem.W.Frag) (H : Hp) : ∀ ns : List Int, DpAll K H (ns.map V.int) (ns.map PyData.int)
  | [] => .nil
  | n :: ns => .cons (.int n) (dpInts K H ns)
theorem okDraw {f fM : Addr} {fd fdM : FuncData} {k : Nat} (F : Fun K "_law_draw" "_law_draw" tDraw f fd) (FM : Fun K "_law_mixed" "_law_mixed" tMixed fM fdM) (bM : Binds K fdM ["_law_cell", "_law_k"] []) (gM : mg "_law_mixed" = some (.ref fM)) :
    FnOk P w K mg base CX0 (k + 2) f fd ["_law_deck_here", "_law_most"] spDraw := by
  have GM : FnOk P w K mg base CX0 (k + 1) fM fdM ["_law_cell", "_law_k"] spMixed := okMixed FM
  refine F.ok scDraw (fun vs H Q E h => ?_) (fun cdv A outer s H vs Q E hr h => ?_)
  · obtain ⟨d, c, m, rfl, _⟩ := h
    rfl
  obtain ⟨d, c, m, rfl, ⟨ndc, ⟨seed, k0, hd⟩, ⟨ns, hc, hl⟩⟩, m0, m1, q⟩ := h
  refine ⟨_, pss_cons (ps_asg (pe_op op_add (pe_ix ix_list (pv 0) pe_int (fun _ _ => rfl)) pe_int) (pg_sub (pv 0) pe_int set_list))
    (pss_cons (ps_if (pt_cmpR (op_eqD hr.units) (pe_ix ix_list (pv 0) pe_int (fun _ _ => rfl)) (pe_lst pa_nil) (nomark _))
      (pss_one (ps_ret (pe_op op_mod (pe_call GM hr (by rfl) gM FM.kp bM .nil pass0 (pa_cons (pe_ix ix_list (pv 0) pe_int (fun _ _ => rfl)) (pa_cons (pe_ix ix_list (pv 0) pe_int (fun _ _ => rfl)) pa_nil))) (pv 1)))) pss_nil)
    (pss_cons (ps_set (i := 2) scDraw.nd rfl (.inl rfl) (pe_bm0 PySem.F.plainAttrs_list PySem.F.slot_list_pop PySem.F.type_list_pop mt_pop (pe_ix ix_list (pv 0) pe_int (fun _ _ => rfl))))
    (pss_cons (ps_if (pt_cmpR op_lt (pv 2) (pe_op op_pow pe_int pe_int) (nomark _))
      (pss_one (ps_ret (pe_op op_mod (pe_call GM hr (by rfl) gM FM.kp bM .nil pass0 (pa_cons (pv 2) (pa_cons (pe_ix ix_list (pv 0) pe_int (fun _ _ => rfl)) pa_nil))) (pv 1)))) pss_nil)
    (pss_cons (ps_expr (pe_bm PySem.F.plainAttrs_list PySem.F.slot_list_append PySem.F.type_list_append mt_append (pe_ix ix_list (pv 0) pe_int (fun _ _ => rfl)) (pa_cons (pe_op op_fdivW (pv 2) (pv 1)) pa_nil)))
    (pss_one (ps_ret (pe_op op_mod (pv 2) (pv 1)))))))), ?_⟩
  -- the count
  refine ⟨_, rfl, d, _, _, _, rfl, rfl, SqL.of hd, atI_nat (j := 2) rfl, _, _, rfl, rfl, _, rfl, d, _, _, 2, rfl, rfl, hd, rfl, ?_⟩
  generalize hH1 : upd H d _ = H1
  have d1 : H1 d = some (.lst [.ref c, .int seed, .int (k0 + 1)]) := by rw [← hH1, upd_same]; rfl
  have c1 : H1 c = some (.lst (ns.map V.int)) := by rw [← hH1, upd_ne ndc.symm]; exact hc
  have p1 : Kp d c H H1 := by rw [← hH1]; exact Kp.at1
  clear hH1
  -- no cell left?
  refine ⟨_, rfl, d, _, _, _, rfl, rfl, SqL.of d1, atI_nat (j := 0) rfl, Nat.zero_le _, fun p np => ?_⟩
  have sp : Same H1 (upd H1 p (.lst [])) := newS np
  have d2 := sp _ _ d1
  have c2 := sp _ _ c1
  have p2 : Kp d c H (upd H1 p (.lst [])) := p1.trans (.of sp)
  refine ⟨.list (ns.map PyData.int), .list [], .lst (SqL.of c2) (dpInts K _ ns), .lst (SqL.of upd_same) .nil, PySem.W.ke_shaped_ints ns, rfl, _, rfl, ?_⟩
  generalize upd H1 p (.lst []) = H2 at d2 c2 p2
  refine ite2 (fun _ => ?_) (fun hne => ?_)
  · refine ⟨_, rfl, d, _, _, _, rfl, rfl, SqL.of d2, atI_nat (j := 1) rfl, _, rfl, d, _, _, _, rfl, rfl, SqL.of d2, atI_nat (j := 2) rfl, _, _, rfl, fun r => ?_⟩
    exact ⟨_, rfl, _, _, rfl, rfl, m0, q _ _ (Int.emod_nonneg _ (by omega)) (Int.emod_lt_of_pos _ m0) p2 ⟨ndc, ⟨_, _, d2⟩, ⟨ns, c2, hl⟩⟩⟩
  · have nn : ns ≠ [] := fun z => hne (by rw [z]; rfl)
    obtain ⟨n, hn⟩ : ∃ n, (ns.map V.int)[(ns.map V.int).length - 1]? = some (.int n) := by
      have h0 : 0 < ns.length := List.length_pos_iff.mpr nn
      rw [List.length_map, List.getElem?_map, List.getElem?_eq_getElem (by omega)]
      exact ⟨_, rfl⟩
    have ed : (ns.map V.int).dropLast = ns.dropLast.map V.int := by rw [List.map_dropLast]
    refine ⟨_, rfl, d, _, _, _, rfl, rfl, SqL.of d2, atI_nat (j := 0) rfl, .inl ⟨rfl, _, SqL.of c2⟩, c, _, _, rfl, rfl, c2, hn, ?_⟩
    rw [ed]
    generalize hH3 : upd H2 c _ = H3
    have d3 : H3 d = some (.lst [.ref c, .int seed, .int (k0 + 1)]) := by rw [← hH3, upd_ne ndc]; exact d2
    have c3 : H3 c = some (.lst (ns.dropLast.map V.int)) := by rw [← hH3, upd_same]
    have p3 : Kp d c H H3 := by rw [← hH3]; exact p2.trans Kp.at2
    have l3 : ns.dropLast.length ≤ 62 := by rw [List.length_dropLast]; omega
    clear hH3
    refine ⟨_, rfl, _, _, rfl, rfl, ⟨by decide, by decide, by decide⟩, _, _, rfl, rfl, _, rfl, ite2 (fun _ => ?_) (fun _ => ?_)⟩
    · refine ⟨_, rfl, _, rfl, d, _, _, _, rfl, rfl, SqL.of d3, atI_nat (j := 2) rfl, _, _, rfl, fun r => ?_⟩
      exact ⟨_, rfl, _, _, rfl, rfl, m0, q _ _ (Int.emod_nonneg _ (by omega)) (Int.emod_lt_of_pos _ m0) p3 ⟨ndc, ⟨_, _, d3⟩, ⟨_, c3, by omega⟩⟩⟩
    · refine ⟨_, rfl, d, _, _, _, rfl, rfl, SqL.of d3, atI_nat (j := 0) rfl, .inl ⟨rfl, _, SqL.of c3⟩, _, rfl, _, rfl, _, _, rfl, rfl, wide_div (b := 51) m0 (by show m.natAbs < 2251799813685248; omega) (by decide) (by decide), c, _, _, rfl, rfl, c3, (by rw [List.length_map]; exact small1000 (by omega)), ?_⟩
      refine ⟨_, rfl, _, rfl, _, _, rfl, rfl, m0, q _ _ (Int.emod_nonneg _ (by omega)) (Int.emod_lt_of_pos _ m0) (p3.trans Kp.at2) ⟨ndc, ⟨seed, k0 + 1, (by rw [upd_ne ndc]; exact d3)⟩, ⟨ns.dropLast ++ [n / m], ?_, ?_⟩⟩⟩
      · rw [upd_same, List.map_append]
        rfl
      · rw [List.length_append, List.length_singleton]
        omega
end
end Kq

namespace Kr
open PySem PySem.Spec PyProof.Rows L2 RT
section
variable {prog : Program} {w : World} {A : Around} {E : Value → Shared → Prop} {s : Shared}
/-- a list grows by what a walk from behind over another list gives -/
theorem growRev {R : Result → Shared → Prop} {it l S : Addr} {its : Array Value} {res : Value} {c0 : Nat} (hh : A.handled = none) (hit : s.heap.IsRevIter it l ((its.size : Int) - 1))
    (hl : s.heap.IsList l its) (hne : l ≠ it) (hn : its.size ≤ sizeLine) (hS : s.heap.get? S = some { cls := .type "list", data := .seq #[] c0 }) (hSi : S ≠ it) (hSl : S ≠ l)
    (hR : ∀ (h' : Heap) (tk : Nat) (acc : Array Value) (c : Nat), (∀ b o, b ≠ it → b ≠ S → s.heap.get? b = some o → h'.get? b = some o) →
      h'.get? S = some { cls := .type "list", dict := none, data := .seq acc c, slots := #[] } → ItemsOf (fun i v => its[its.size - 1 - i]? = some v) acc its.size → R (.ok (.ret res)) { s with heap := h', toks := tk }) :
    wpAny (model prog w) A.in1 (Builtin.List.listExtendWith (.ref S) (.ref it) res)
      (fun fin s' => match fin with
        | .done f => R (.ok f) s'
        | .again c' => c'.quiet = true ∧ codeAny (model prog w) A c' R s') (fun e s' => R (.error e) s') s := by
  have W := (Walks.listRev (prog := prog) (w := w) (A := A.in1) hh it l hne its).toS
  have out : S ∉ [it, l] := by
    intro z
    rcases List.mem_cons.mp z with z | z
    · exact hSi z
    · exact hSl (List.mem_singleton.mp z)
  have ty : s.TypeIs (.ref it) "list_reverseiterator" := hit.typeIs
  have no : Builtin.List.listSameRef (.ref S) (.ref it) = false := by
    simp [Builtin.List.listSameRef, hSi]
  unfold Builtin.List.listExtendWith
  refine wpAny_bind (wpAny_typeOf ty ?_)
  rw [if_neg (by rw [no]; decide)]
  refine wpAny_bind (wpAny_pyIter_revIter hit ?_)
  refine wpAny_bind (wpAny_holding ?_)
  unfold Builtin.List.listLengthHint
  refine wpAny_bind (wpAny_specialOf ty RT.nolen_lri ?_)
  show wpAny _ A.in1 (specialOf (.ref it) (Str.ofString "__length_hint__") >>= _) _ _ _
  refine wpAny_bind (wpAny_specialOf ty RT.hint_lri ?_)
  generalize hid : ("list_reverseiterator.__length_hint__" : String) = nm
  wp_delta
  have sp : splitId nm = some ("list_reverseiterator", "__length_hint__") := by
    subst hid
    decide +kernel
  rw [sp]
  subst hid
  refine wpAny_bind (wpAny_isInstance (b := true) ty (by rw [isSubtype_type]; kernel_rfl) ?_)
  refine wpAny_pure ?_
  rw [if_neg (by decide)]
  have z0 : ((its.size : Nat) : Int) - 1 - ((0 : Nat) : Int) = (its.size : Int) - 1 := by omega
  have st0 : s.heap.IsRevIter it l ((its.size : Int) - 1 - ((0 : Nat) : Int)) := by rw [z0]; exact hit
  refine wpAny_pure ⟨plainId_quiet F.plain_extend_loop _, ?_⟩
  refine codeAny_extend_loopS W hn S out res its.size 0 _ _ _ rfl (Nat.zero_le _) ⟨Nat.zero_le _, st0, hl⟩ hS (ItemsOf.nil _) (fun s' acc' c' mv hS' hacc => ?_)
  rw [Moved.eq_with mv]
  refine hR s'.heap s'.toks acc' c' (fun b o h1 h2 e => mv.heap b o (fun z => ?_) e) hS' hacc
  rcases List.mem_cons.mp z with z | z
  · exact h2 z
  · exact h1 (List.mem_singleton.mp z)
theorem call_list_rev {Q : Value → Shared → Prop} {it l : Addr} {its : Array Value} (hh : A.handled = none) (hit : s.heap.IsRevIter it l ((its.size : Int) - 1)) (hl : s.heap.IsList l its) (hne : l ≠ it) (hn : its.size ≤ sizeLine)
    (hQ : ∀ (h' : Heap) (tk : Nat) (acc : Array Value) (c : Nat), (∀ b o, b ≠ it → s.heap.get? b = some o → h'.get? b = some o) →
      h'.get? s.heap.objs.size = some { cls := .type "list", dict := none, data := .seq acc c, slots := #[] } → ItemsOf (fun i v => its[its.size - 1 - i]? = some v) acc its.size → Q (.ref s.heap.objs.size) { s with heap := h', toks := tk }) :
    wpAny (model prog w) A (call (.type "list") [.ref it]) Q E s := by
  obtain ⟨oi, hoi, _⟩ := id hit
  obtain ⟨ol, hol, _⟩ := id hl
  have n1 : s.heap.objs.size ≠ it := Nat.ne_of_gt (Heap.lt_size hoi)
  have n2 : s.heap.objs.size ≠ l := Nat.ne_of_gt (Heap.lt_size hol)
  refine callType_codes (Q₁ := fun obj s₁ => obj = .ref s.heap.objs.size ∧ s₁ = { s with heap := s.heap.push { cls := .type "list", data := .seq #[] } })
    F.called_list (F.typeCall_list_1 _) F.entry_list_init (code_list_new _ ⟨rfl, rfl⟩) (fun obj s₁ h₁ => ?_)
  obtain ⟨rfl, rfl⟩ := h₁
  have hS : (s.heap.push { cls := .type "list", data := .seq #[] }).get? s.heap.objs.size
      = some { cls := .type "list", data := .seq #[] } := Heap.get?_push_size _ rfl
  refine ⟨⟨_, hS, rfl⟩, F.args_list_init_2 _ _, ?_⟩
  show wpAny _ _ (do
    let old ← Builtin.List.listItems (.ref s.heap.objs.size)
    Builtin.List.listUpdate (.ref s.heap.objs.size) (fun _ => #[])
    letGo old.toList.reverse
    Builtin.List.listExtendWith (.ref s.heap.objs.size) (.ref it) .none) _ _ _
  refine wpAny_bind ?_
  unfold Builtin.List.listItems
  refine wpAny_bind (wpAny_seqItems hS rfl (wpAny_pure ?_))
  show wpAny _ _ (do
    updateSeq s.heap.objs.size (fun _ => #[])
    letGo (#[] : Array Value).toList.reverse
    Builtin.List.listExtendWith (.ref s.heap.objs.size) (.ref it) .none) _ _ _
  refine wpAny_bind (wpAny_updateSeq hS rfl ?_)
  have hS2 := Heap.get?_update_self (Obj.mapSeq fun _ => (#[] : Array Value)) hS rfl
  refine wpAny_bind (wpAny_letGo ?_)
  generalize hh2 : (s.heap.push { cls := .type "list", data := .seq #[] }).update s.heap.objs.size (Obj.mapSeq fun _ => (#[] : Array Value)) = h2 at hS2 ⊢
  have kp : ∀ b o, s.heap.get? b = some o → h2.get? b = some o := fun b o e => by
    rw [← hh2, Heap.get?_update_other _ _ (Nat.ne_of_gt (Heap.lt_size e))]
    exact Heap.get?_push_of_some _ e
  have hl2 : h2.IsList l its := by
    obtain ⟨o, e, r⟩ := id hl
    exact ⟨o, kp _ _ e, r⟩
  refine growRev (A := A.in1) (s := { s with heap := h2 }) hh (hit.at fun o e => kp _ _ e) hl2 hne hn hS2 n1 n2 (fun h' tk acc c k e i => ?_)
  exact ⟨rfl, hQ h' tk acc c (fun b o hb hbo => k b o hb (Nat.ne_of_lt (Heap.lt_size hbo)) (kp b o hbo)) e i⟩
end
/-- list(reversed(x)), x a list -/
def tListRev (K : PySem.W.Frag) (te : TE) : TE := fun σ H Q => te σ H fun v G => ∃ (a : Addr) (xs : List V), v = .ref a ∧ SqL K G a xs ∧ ∀ q, G q = none → Q (.ref q) (upd G q (.lst xs.reverse))
theorem pe_listRev {X : Cx} {e : Expr} {te : TE} {p p2 pos pos2 : Pos} (hc : X.calm = true) (hg : Gl X "list") (hm : X.mg "list" = none) (hg2 : Gl X "reversed") (hm2 : X.mg "reversed" = none) (he : PE X e te)
    (hs : starEach [e] X.env = (false, eval e X.env) :: starEach [] X.env := by rfl)
    (hs2 : starEach [.Call (.Name "reversed" p2) [e] [] pos2] X.env = (false, eval (.Call (.Name "reversed" p2) [e] [] pos2) X.env) :: starEach [] X.env := by rfl) :
    PE X (.Call (.Name "list" p) [.Call (.Name "reversed" p2) [e] [] pos2] [] pos) (tListRev X.K te) := by
  refine ⟨fun pins s σ H Q I h => ?_⟩
  have inner := fun (Q' : Value → Shared → Prop) (k : ∀ (a : Addr) (xs : List V) (its : List Value) (s1 : Shared) (G : Hp), Inv X pins σ G s1 → SqL X.K G a xs → Vals xs its → PlainL s1.heap a its.toArray → xs.length ≤ sizeLine →
      (∀ q, G q = none → Q (.ref q) (upd G q (.lst xs.reverse))) → Q' (.ref s1.heap.objs.size) { s1 with heap := s1.heap.push (revObj a ((its.toArray.size : Int) - 1)) }) =>
    show wpAny (model X.prog X.w) X.A (eval (.Call (.Name "reversed" p2) [e] [] pos2) X.env) Q' X.xe s from
      Call_ (ld_blt I hg2 hm2 PyProof.Rows.boot_reversed (PyProof.Rows.callWith_type1 (args_cons (thn (he.run pins s σ H _ I h) fun u s1 ⟨v, G, I1, r1, a, xs, ev, hq, q⟩ => args_nil (by
        subst ev
        obtain rfl : u = Value.ref a := r1
        obtain ⟨its, rv, pl, hz⟩ := I1.list hq
        exact call_reversed_list pl.isList (k a xs its s1 G I1 hq rv pl hz q))) hs) hs rfl))
  refine Call_ (ld_blt I hg hm boot_list (PyProof.Rows.callWith_type1 (args_cons (inner _ fun a xs its s1 G I1 hq rv pl hz q => args_nil ?_) hs2) hs2 rfl))
  have k0 : ∀ b o, s1.heap.get? b = some o → (s1.heap.push (revObj a ((its.toArray.size : Int) - 1))).get? b = some o := fun b o z => Heap.get?_push_of_some _ z
  obtain ⟨ol, hol, _⟩ := id pl.isList
  have hne : a ≠ s1.heap.objs.size := Nat.ne_of_lt (Heap.lt_size hol)
  have hn : its.toArray.size ≤ sizeLine := by rw [List.size_toArray, ← rv.length]; exact hz
  generalize hh3 : s1.heap.push (revObj a ((its.toArray.size : Int) - 1)) = h3 at k0 ⊢
  have it3 : h3.IsRevIter s1.heap.objs.size a ((its.toArray.size : Int) - 1) := by
    rw [← hh3]
    exact ⟨_, Heap.get?_push_size _ rfl, rfl, rfl⟩
  have l3 : h3.IsList a its.toArray := by
    rw [← hh3]
    exact pl.isList.push _
  have lt3 : s1.heap.objs.size < h3.objs.size := by
    obtain ⟨o, e, _⟩ := id it3
    exact Heap.lt_size e
  refine call_list_rev (s := { s1 with heap := h3 }) (I1.ok.hd hc) it3 l3 hne hn fun h' tk acc c hk hS hi => ?_
  have hgo : G h3.objs.size = none := I1.hok.fresh (Nat.le_of_lt lt3)
  refine ⟨.ref h3.objs.size, upd G h3.objs.size (.lst xs.reverse), I1.laid (t' := tk) (fun b o z => hk b o (Nat.ne_of_lt (Heap.lt_size z)) (k0 b o z)) (Nat.le_of_lt lt3)
    (show ObjOk X.prog X.w _ _ _ (.lst xs.reverse) from ⟨by rw [List.length_reverse]; exact hz, acc.toList, c, vals_rev rv hi, by rw [Array.toArray_toList]; exact hS⟩), rfl, q _ hgo⟩
/-- xs.extend(t), t a tuple -/
def rExtT (K : PySem.W.Frag) : V → List V → Hp → VK → Prop := fun x vs H Q => ∃ l b xs zs, x = .ref l ∧ vs = [.ref b] ∧ H l = some (.lst xs) ∧ SqT K H b zs ∧ xs.length + zs.length ≤ sizeLine ∧ Q .non (upd H l (.lst (xs ++ zs)))
theorem mt_extT {X : Cx} : MtM X "list.extend" (rExtT X.K) := by
  intro pins s σ H x vs v us Q I rx rv h
  obtain ⟨l, b, xs, zs, rfl, rfl, hl, hb, hz, q⟩ := h
  cases rx
  obtain ⟨u, rfl, ru⟩ := rv.one
  cases ru
  obtain ⟨z1, its, n, r1, _, e1⟩ := I.lstM hl
  obtain ⟨jts, r2, ⟨o, eo, oc, m, od⟩, z2⟩ := I.tuple hb
  have n1 := r1.length
  have n2 := r2.length
  have sm : its.toArray.size + jts.toArray.size ≤ sizeLine := by
    rw [List.size_toArray, List.size_toArray]
    omega
  have ty : s.TypeIs (.ref b) "tuple" := ⟨o, eo, oc⟩
  refine wpAny_call_entry F.slot_list_extend ⟨_, e1, rfl⟩ F.entry_list_extend ?_ (F.args_list_extend_2 _ _)
  show wpAny _ _ (Builtin.List.listExtendWith (.ref l) (.ref b) .none) _ _ _
  unfold Builtin.List.listExtendWith
  refine wpAny_bind (wpAny_typeOf ty ?_)
  have yes : (Builtin.List.listSameRef (.ref l) (.ref b) || Value.type "tuple" == Value.type "list" || Value.type "tuple" == Value.type "tuple") = true := by simp
  rw [if_pos yes]
  refine wpAny_bind ?_
  unfold Builtin.List.listItems
  refine wpAny_bind (wpAny_seqItems eo od (wpAny_pure ?_))
  refine wpAny_bind ?_
  refine wpAny_bind (wpAny_seqItems e1 rfl (wpAny_pure ?_))
  have long : (!its.toArray.isEmpty && Builtin.List.listTooLong (its.toArray.size + jts.toArray.size)) = false := by
    rw [notLongL sm, Bool.and_false]
  rw [if_neg (by rw [long]; exact Bool.false_ne_true)]
  refine wpAny_bind ?_
  show wpAny _ _ (updateSeq l (· ++ jts.toArray)) _ _ _
  refine wpAny_updateSeq e1 rfl ?_ (by rw [List.size_toArray]; omega) (by rw [Array.size_append]; omega)
  refine wpAny_pure ⟨_, rfl, ?_⟩
  refine ⟨.non, _, I.lset (its' := its ++ jts) hl e1 (by simp) (r1.append r2) ?_, rfl, q⟩
  rw [List.length_append]
  exact hz
end Kr

namespace Kq
open PySem PySem.Spec PyProof.Rows L2
abbrev tDeck : Stmt := tp 45
abbrev tNames : Stmt := tp 48
theorem Kp.mk {d c p : Addr} {H G : Hp} {o : HO} (a : Kp d c H G) (h : H p = none) : Kp d c H (upd G p o) := fun b u h1 h2 e => by
  rw [upd_ne (ne_of_none e h)]
  exact a b u h1 h2 e
theorem Dk.put {G : Hp} {d c p : Addr} {o : HO} (x : Dk G d c) (h : p ≠ d) (h' : p ≠ c) : Dk (upd G p o) d c := by
  obtain ⟨n, ⟨a, b, e⟩, ⟨ns, f, l⟩⟩ := x
  exact ⟨n, ⟨a, b, by rw [upd_ne h.symm]; exact e⟩, ⟨ns, by rw [upd_ne h'.symm]; exact f, l⟩⟩
theorem Dk.off {H : Hp} {d c p : Addr} (x : Dk H d c) (h : H p = none) : p ≠ d ∧ p ≠ c := by
  obtain ⟨n, ⟨a, b, e⟩, ⟨ns, f, l⟩⟩ := x
  exact ⟨(ne_of_none e h).symm, (ne_of_none f h).symm⟩
/-! texts of letters -/
def lets : Str := "abcdefghijklmnopqrstuvwxyz"
def sg (i : Nat) : Str := ⟨#[97 + i]⟩
theorem lets_at : ∀ i : Fin 26, lets.cps.toList[i.val]? = some (97 + i.val) := by decide +kernel
theorem lets_ix : ∀ i : Fin 26, Builtin.Str.occurrences lets (sg i.val) 0 lets.length 1 = [i.val] := by decide +kernel
structure Nm (x : Str) : Prop where
  low : ∀ c ∈ x.cps.toList, 97 ≤ c ∧ c < 123
  few : x.cps.toList.length ≤ 8
  one : 1 ≤ x.cps.toList.length
theorem app_cps (x y : Str) : (x ++ y).cps.toList = x.cps.toList ++ y.cps.toList := by
  show (x.cps ++ y.cps).toList = _
  rw [Array.toList_append]
theorem join_low : ∀ ks : List Nat, (∀ k ∈ ks, k < 26) → (∀ c ∈ (Txt.join (Str.ofString "") (ks.map sg)).cps.toList, 97 ≤ c ∧ c < 123) ∧ (Txt.join (Str.ofString "") (ks.map sg)).cps.toList.length = ks.length := by
  intro ks h
  rw [show ∀ a b, Txt.join a b = Str.join a b from TL.join_eq]
  induction ks with
  | nil => exact ⟨fun c z => absurd z (by simp [Str.join, Str.empty]), by simp [Str.join, Str.empty]⟩
  | cons k ks ih =>
    have hk := h k List.mem_cons_self
    have ih := ih fun j hj => h j (List.mem_cons_of_mem _ hj)
    cases ks with
    | nil =>
      refine ⟨fun c z => ?_, rfl⟩
      have e : c = 97 + k := by simpa [Str.join, sg] using z
      omega
    | cons j r =>
      have e : Str.join (Str.ofString "") ((k :: j :: r).map sg) = sg k ++ Str.ofString "" ++ Str.join (Str.ofString "") ((j :: r).map sg) := rfl
      rw [e, app_cps, app_cps]
      have e0 : (Str.ofString "").cps.toList = [] := by decide
      rw [e0, List.append_nil]
      refine ⟨fun c z => ?_, ?_⟩
      · rcases List.mem_append.mp z with z | z
        · have e : c = 97 + k := by simpa [sg] using z
          omega
        · exact ih.1 c z
      · rw [List.length_append, ih.2]
        show 1 + _ = _
        simp only [List.length_cons]
        omega
theorem join_nm {ks : List Nat} (h : ∀ k ∈ ks, k < 26) (h1 : 1 ≤ ks.length) (h8 : ks.length ≤ 8) : Nm (Txt.join (Str.ofString "") (ks.map sg)) := by
  obtain ⟨a, b⟩ := join_low ks h
  exact ⟨a, by omega, by omega⟩
theorem cutTo {xs : List V} {j : Nat} (h : j ≤ xs.length) : cutV xs none (some (j : Int)) = xs.take j := by
  unfold cutV
  rw [HT.sIx_nat, HT.sIx_none, Nat.min_eq_left h]
  rfl
section
variable {P : Program} {w : World} {K : PySem.W.Frag} {mg : Str → Option Value} {base : Heap}
/-! _law_deck -/
theorem scDeck : FnScope ["_law_script", "_law_cells", "_law_seed", "_law_cell"] ["_law_script"] (defScope tDeck) := ⟨rfl, rfl, rfl, by decide +kernel, rfl, by decide +kernel, by decide +kernel⟩
def spDeck (K : PySem.W.Frag) : Sp := fun vs H Q _ => ∃ (a : Addr) (ns : List Int), vs = [.ref a] ∧ SqL K H a (ns.map V.int) ∧ ns.length ≤ 63 ∧ ∀ (d c : Addr) (G : Hp), Same H G → Dk G d c → Q (.ref d) G
theorem okDeck {f : Addr} {fd : FuncData} {k : Nat} (F : Fun K "_law_deck" "_law_deck" tDeck f fd) (ml : mg "list" = none) (mr : mg "reversed" = none) : FnOk P w K mg base CX0 (k + 1) f fd ["_law_script"] (spDeck K) := by
  refine F.ok scDeck (fun vs H Q E h => ?_) (fun cdv A outer s H vs Q E hr h => ?_)
  · obtain ⟨a, ns, rfl, _⟩ := h
    rfl
  obtain ⟨a, ns, rfl, hS, hl, q⟩ := h
  refine ⟨_, pss_cons (ps_set (i := 1) scDeck.nd rfl (.inl rfl) (Kr.pe_listRev rfl (by rfl) ml (by rfl) mr (pe_slice sl_list (pv 0) po_none (po_some pe_int))))
    (pss_cons (ps_set (i := 2) scDeck.nd rfl (.inl rfl) pe_int)
    (pss_cons (ps_for PassesOwn.never rfl (pi_list (pv 1)) (pg_name (i := 3) scDeck.nd rfl (.inl rfl))
      (pss_one (ps_set (i := 2) scDeck.nd rfl (.inl rfl) (pe_op op_mod (pe_op op_add (pe_op op_add (pe_op op_mul (pv 2) pe_int) (pe_op op_mod (pv 3) pe_int)) pe_int) pe_int))))
    (pss_one (ps_ret (pe_lst (pa_cons (pv 1) (pa_cons (pv 2) (pa_cons pe_int pa_nil)))))))), ?_⟩
  refine ⟨_, rfl, 63, rfl, a, _, rfl, hS, fun p np => ?_⟩
  refine ⟨p, _, rfl, SqL.of upd_same, fun c nc => ?_⟩
  have e0 : cutV (ns.map V.int) none (some 63) = (ns.take 63).map V.int := by
    rw [List.take_of_length_le hl]
    unfold cutV
    rw [HT.sIx_none, show HT.sIx (ns.map V.int).length (ns.map V.int).length (some 63) = min 63 (ns.map V.int).length from HT.sIx_nat _ _ 63, List.drop_zero, List.take_of_length_le]
    rw [List.length_map]
    omega
  rw [e0, ← List.map_reverse]
  generalize hm : (ns.take 63).reverse = ms
  have lm : ms.length ≤ 63 := by rw [← hm, List.length_reverse, List.length_take]; omega
  generalize hG : upd (upd H p _) c (.lst (ms.map V.int)) = G
  have gc : G c = some (.lst (ms.map V.int)) := by rw [← hG, upd_same]
  have sG : Same H G := by
    rw [← hG]
    rw [e0] at nc
    exact (newS np).trans (newS nc)
  refine ⟨_, rfl, c, rfl, ⟨_, SqL.of gc⟩, for_list (xs := ms.map V.int) (fun i σ F => F = G ∧ ∃ (sd : Int) (y : Option V), σ = [some (.ref a), some (.ref c), some (.int sd), y]) ⟨rfl, _, none, rfl⟩ (fun i σ F _ z => by rw [z.1]; exact SqL.of gc) (fun i x σ F hx z => ?_) (fun σ F z => ?_)⟩
  · obtain ⟨rfl, sd, y, rfl⟩ := z
    obtain ⟨n, rfl⟩ : ∃ n, x = .int n := by
      rw [List.getElem?_map] at hx
      cases hq : ms[i]? with
      | none => rw [hq] at hx; cases hx
      | some n => rw [hq] at hx; exact ⟨n, (Option.some.inj hx).symm⟩
    exact ⟨_, rfl, _, _, rfl, rfl, .inr ⟨by decide, by decide⟩, _, rfl, _, _, rfl, rfl, (by show (0 : Int) < 1000000007; decide), _, _, rfl, rfl, _, _, rfl, rfl, _, _, rfl, rfl, (by show (0 : Int) < 2147483629; decide), rfl, _, _, rfl⟩
  · obtain ⟨rfl, sd, y, rfl⟩ := z
    refine ⟨_, rfl, _, rfl, (by show 3 ≤ sizeLine; decide), fun d nd => q d c _ (sG.trans (newS nd)) ⟨(ne_of_none gc nd).symm, ⟨_, _, upd_same⟩, ⟨ms, ?_, lm⟩⟩⟩
    rw [upd_ne (ne_of_none gc nd)]
    exact gc
end
end Kq

namespace Kq
open PySem PySem.Spec PyProof.Rows L2
theorem Kp.free {d c p : Addr} {H G : Hp} (a : Kp d c H G) (k : Dk G d c) (h : G p = none) : H p = none := by
  obtain ⟨h1, h2⟩ := k.off h
  cases e : H p with
  | none => rfl
  | some o =>
    rw [a p o h1 h2 e] at h
    cases h
theorem sg_len (ks : List Nat) : ((ks.map sg).map (·.length)).sum = ks.length := by
  induction ks with
  | nil => rfl
  | cons k ks ih =>
    rw [List.map_cons, List.map_cons, List.sum_cons, ih, List.length_cons]
    show 1 + ks.length = _
    omega
theorem lets_get {r : Int} (h0 : 0 ≤ r) (h1 : r < 26) : atI lets.cps.toList r = some (97 + r.toNat) := by
  have e : r = ((r.toNat : Nat) : Int) := by omega
  have q := atI_nat (lets_at ⟨r.toNat, by omega⟩)
  rw [← show r = (((⟨r.toNat, by omega⟩ : Fin 26).val : Nat) : Int) from e] at q
  exact q
theorem cutKs {ks : List Nat} {j : Nat} (h : j ≤ ks.length) : cutV ((ks.map sg).map V.str) none (some (j : Int)) = ((ks.take j).map sg).map V.str := by
  rw [cutTo (by rw [List.length_map, List.length_map]; exact h), List.map_take, List.map_take]
theorem lets_len : lets.length ≤ sizeLine := by decide
/-! rules for the inside of a comprehension, the written part named -/
theorem slK {X : Cx} (K : PySem.W.Frag) (h : X.K = K) : SlR X (rSlL K) := by
  subst h
  exact sl_list
def rJn (K : PySem.W.Frag) : V → List V → Hp → VK → Prop := fun x xs H Q => ∃ a p, ∃ ys : List Str, x = .str a ∧ xs = [.ref p] ∧ (SqL K H p (ys.map V.str) ∨ SqT K H p (ys.map V.str)) ∧ (ys.map (·.length)).sum + ys.length * a.length ≤ 16777216 ∧ Q (.str (Txt.join a ys)) H
theorem pe_joinK {X : Cx} (K : PySem.W.Frag) (h : X.K = K) {o e : Expr} {apos pos : Pos} {to te : TE} (ho : PE X o to) (he : PE X e te) (hbase : attributeBase o "join" X.env (eval o X.env) = eval o X.env := by rfl) (hline : (apos.endLine == pos.line) = true := by rfl)
    (hs : starEach [e] X.env = [(false, eval e X.env)] := by rfl) : PE X (.Call (.Attribute o "join" apos) [e] [] pos) (tM1 (rJn K) to te) := by
  subst h
  exact pe_join ho he hs hbase hline
theorem join_cps : ∀ ks : List Nat, (Txt.join (Str.ofString "") (ks.map sg)).cps.toList = ks.map (97 + ·) := by
  intro ks
  rw [show ∀ a b, Txt.join a b = Str.join a b from TL.join_eq]
  induction ks with
  | nil => rfl
  | cons k ks ih =>
    cases ks with
    | nil => rfl
    | cons j r =>
      have e : Str.join (Str.ofString "") ((k :: j :: r).map sg) = sg k ++ Str.ofString "" ++ Str.join (Str.ofString "") ((j :: r).map sg) := rfl
      rw [e, app_cps, app_cps, ih]
      rfl
theorem nodupR {f : Nat → Str} : ∀ n, (∀ i j, i < n → j < n → f i = f j → i = j) → ((List.range n).map f).Nodup
  | 0, _ => List.nodup_nil
  | n + 1, h => by
    rw [List.range_succ, List.map_append]
    refine List.nodup_append.mpr ⟨nodupR n fun i j hi hj e => h i j (by omega) (by omega) e, (by simp), fun x hx y hy e => ?_⟩
    obtain ⟨i, hi, rfl⟩ := List.mem_map.mp hx
    have ey : y = f n := List.mem_singleton.mp hy
    rw [ey] at e
    have hi := List.mem_range.mp hi
    have := h i n (by omega) (by omega) e
    omega
/-- the beginnings of a word -/
def nmPre (ks : List Nat) (j : Nat) : Str := Txt.join (Str.ofString "") ((ks.take (j + 1)).map sg)
theorem nmPre_inj {ks : List Nat} {n i j : Nat} (hn : n ≤ ks.length) (hi : i < n) (hj : j < n) (h : nmPre ks i = nmPre ks j) : i = j := by
  have e : (ks.take (i + 1)).map (97 + ·) = (ks.take (j + 1)).map (97 + ·) := by
    rw [← join_cps, ← join_cps]
    exact congrArg (fun s : Str => s.cps.toList) h
  have e2 := congrArg List.length e
  rw [List.length_map, List.length_map, List.length_take, List.length_take] at e2
  omega
/-- a word with another letter at a place -/
def nmAt (ls : List Nat) (a k j : Nat) : Str := Txt.join (Str.ofString "") ((ls.set a ((((k : Nat) : Int) + (0 + (j : Int))) % 26).toNat).map sg)
theorem nmAt_inj {ls : List Nat} {a k i j : Nat} (ha : a < ls.length) (hi : i < 26) (hj : j < 26) (h : nmAt ls a k i = nmAt ls a k j) : i = j := by
  have e : (ls.set a ((((k : Nat) : Int) + (0 + (i : Int))) % 26).toNat).map (97 + ·) = (ls.set a ((((k : Nat) : Int) + (0 + (j : Int))) % 26).toNat).map (97 + ·) := by
    rw [← join_cps, ← join_cps]
    exact congrArg (fun s : Str => s.cps.toList) h
  have e2 := congrArg (fun l => l[a]?) e
  simp only [List.getElem?_map, List.getElem?_set_self ha, Option.map_some] at e2
  have e3 := Option.some.inj e2
  omega
section
variable {P : Program} {w : World} {K : PySem.W.Frag} {mg : Str → Option Value} {base : Heap}
abbrev nNames : List Str := ["_law_deck_here", "_law_many", "_law_letters", "_law_k", "_law_word_here", "_law_long", "_law_at", "_law_found", "_law_one"]
theorem scNames : FnScope nNames ["_law_deck_here", "_law_many"] (defScope tNames) := ⟨rfl, rfl, rfl, by decide +kernel, rfl, by decide +kernel, by decide +kernel⟩
def spNames : Sp := fun vs H Q _ => ∃ (d c : Addr) (m : Int), vs = [.ref d, .int m] ∧ Dk H d c ∧ 0 ≤ m ∧ m ≤ 8 ∧
  ∀ (l : Addr) (xs : List Str) (G : Hp), Kp d c H G → Dk G d c → H l = none → G l = some (.lst (xs.map V.str)) → xs.length = m.toNat → (∀ x ∈ xs, Nm x) → xs.Nodup → Q (.ref l) G
theorem okNames {f fD : Addr} {fd fdD : FuncData} {k : Nat} (F : Fun K "_law_names" "_law_names" tNames f fd) (GD : FnOk P w K mg base CX0 (k + 2) fD fdD ["_law_deck_here", "_law_most"] spDraw) (bD : Binds K fdD ["_law_deck_here", "_law_most"] []) (gD : mg "_law_draw" = some (.ref fD)) (kD : PySem.W.keepIn K (.ref fD) = true)
    (ml : mg "list" = none) (mr : mg "range" = none) : FnOk P w K mg base CX0 (k + 3) f fd ["_law_deck_here", "_law_many"] spNames := by
  refine F.ok scNames (fun vs H Q E h => ?_) (fun cdv A outer s H vs Q E hr h => ?_)
  · obtain ⟨d, c, m, rfl, _⟩ := h
    rfl
  obtain ⟨d, c, m, rfl, dk, m0, m1, q⟩ := h
  refine ⟨_, pss_cons (ps_set (i := 2) scNames.nd rfl (.inr rfl) pe_str)
    (pss_cons (ps_set (i := 4) scNames.nd rfl (.inr rfl) (pe_lc (own := [("_law_k", 3)]) (g := gName 3) (by rfl) scNames.nd (pi_range1 (by rfl) mr (pa_cons pe_int pa_nil)) (blkOk_by (own := [("_law_k", 3)]) (N := nNames) (sc := defScope tNames) (by decide +kernel))
        (fun _ _ _ _ _ => pg_name (i := 3) scNames.nd rfl (.inl rfl)) (fun _ _ _ _ _ => pts_nil)
        (fun _ _ _ _ _ => pe_ix ix_str (pv 2) (pe_call GD hr (by rfl) gD kD bD .nil pass0 (pa_cons (pv 0) (pa_cons pe_int pa_nil))) (fun _ _ => rfl))))
    (pss_cons (ps_set (i := 5) scNames.nd rfl (.inl rfl) (pe_op op_add pe_int (pe_call GD hr (by rfl) gD kD bD .nil pass0 (pa_cons (pv 0) (pa_cons pe_int pa_nil)))))
    (pss_cons (ps_set (i := 6) scNames.nd rfl (.inl rfl) (pe_call GD hr (by rfl) gD kD bD .nil pass0 (pa_cons (pv 0) (pa_cons (pv 5) pa_nil))))
    (pss_cons (ps_if (pt_cmpR op_eq (pe_call GD hr (by rfl) gD kD bD .nil pass0 (pa_cons (pv 0) (pa_cons pe_int pa_nil))) pe_int (nomark _))
      (pss_one (ps_ret (pe_lc (own := [("_law_k", 3)]) (g := gName 3) (by rfl) scNames.nd (pi_range1 (by rfl) mr (pa_cons (pv 1) pa_nil)) (blkOk_by (own := [("_law_k", 3)]) (N := nNames) (sc := defScope tNames) (by decide +kernel))
        (fun _ _ _ _ _ => pg_name (i := 3) scNames.nd rfl (.inl rfl)) (fun _ _ _ _ _ => pts_nil)
        (fun _ _ _ _ _ => pe_joinK K rfl pe_str (pe_slice (slK K rfl) (pv 4) po_none (po_some (pe_op op_add pe_int (pv 3)))))))) pss_nil)
    (pss_cons (ps_set (i := 7) scNames.nd rfl (.inl rfl) (pe_lst pa_nil))
    (pss_cons (ps_for PassesOwn.never rfl (pi_range1 (by rfl) mr (pa_cons (pv 1) pa_nil)) (pg_name (i := 3) scNames.nd rfl (.inl rfl))
      (pss_cons (ps_set (i := 8) scNames.nd rfl (.inl rfl) (pe_callTy call_list_of (by rfl) ml boot_list (pa_cons (pe_slice sl_list (pv 4) po_none (po_some (pv 5))) pa_nil)))
      (pss_cons (ps_asg (pe_ix ix_str (pv 2) (pe_op op_mod (pe_op op_add (pe_bm PySem.F.plainAttrs_str PySem.F.slot_str_index PySem.F.type_str_index mt_sindex (pv 2) (pa_cons (pe_ix ix_list (pv 4) (pv 6) (fun _ _ => rfl)) pa_nil)) (pv 3)) pe_int) (fun _ _ => rfl)) (pg_sub (pv 8) (pv 6) set_list))
      (pss_one (ps_expr (pe_bm PySem.F.plainAttrs_list PySem.F.slot_list_append PySem.F.type_list_append mt_append (pv 7) (pa_cons (pe_join pe_str (pv 8)) pa_nil)))))))
    (pss_one (ps_ret (pv 7))))))))), ?_⟩
  -- the word
  refine ⟨8, rfl, by decide, by decide, fun W nW => lc_range (lo := 0) (n := 8) (fun i G => Kp d c H G ∧ Dk G d c ∧ ∃ ks : List Nat, ks.length = i ∧ (∀ k ∈ ks, k < 26) ∧ G W = some (.lst ((ks.map sg).map V.str)))
    ⟨(Kp.rfl).mk nW, dk.put (dk.off nW).1 (dk.off nW).2, [], rfl, (fun _ z => nomatch z), upd_same⟩ (fun i G hi z => ?_) (fun G z => ?_)⟩
  · obtain ⟨kp, dk1, ks, lk, hk, gW⟩ := z
    refine ⟨rfl, _, rfl, _, rfl, d, c, 26, rfl, dk1, by decide, by decide, fun r G1 r0 r1 kp1 dk2 => ?_⟩
    have off := dk.off nW
    have gW1 := kp1 W _ off.1 off.2 gW
    refine ⟨_, r, 97 + r.toNat, rfl, rfl, lets_len, lets_get r0 r1, _, gW1, ?_, (kp.trans kp1).mk nW, dk2.put off.1 off.2, ks ++ [r.toNat], ?_, ?_, ?_⟩
    · rw [List.length_map, List.length_map]
      exact small1000 (by omega)
    · rw [List.length_append, lk]
      rfl
    · intro j hj
      rcases List.mem_append.mp hj with hj | hj
      · exact hk j hj
      · rw [List.mem_singleton.mp hj]
        omega
    · rw [upd_same, List.map_append, List.map_append]
      rfl
  obtain ⟨kp, dk1, ks, lk, hk, gW⟩ := z
  have off := dk.off nW
  -- long, at
  refine ⟨_, rfl, d, c, 8, rfl, dk1, by decide, by decide, fun r5 G5 a0 a1 kp5 dk5 => ⟨_, _, rfl, rfl, ?_⟩⟩
  refine ⟨_, rfl, _, rfl, d, c, _, rfl, dk5, by omega, by omega, fun r6 G6 b0 b1 kp6 dk6 => ?_⟩
  refine ⟨_, rfl, d, c, 4, rfl, dk6, by decide, by decide, fun r7 G7 c0 c1 kp7 dk7 => ?_⟩
  have kpW : Kp d c G G7 := kp5.trans (kp6.trans kp7)
  have gW7 := kpW W _ off.1 off.2 gW
  have kp7' : Kp d c H G7 := kp.trans kpW
  clear kp5 kp6 kp7 dk5 dk6 gW kp dk1 kpW
  refine ⟨rfl, _, rfl, ite2 (fun c9 => ?b1) (fun _ => ?b2)⟩
  case b1 =>
    have m9 : m < 9 := by omega
    refine ⟨_, rfl, m, rfl, by omega, by omega, fun D nD => lc_range (lo := 0) (n := m.toNat) (fun i G => Kp d c H G ∧ Dk G d c ∧ G W = some (.lst ((ks.map sg).map V.str)) ∧ ∃ xs : List Str, xs.length = i ∧ (∀ x ∈ xs, Nm x) ∧ G D = some (.lst (xs.map V.str)) ∧ xs = (List.range i).map (nmPre ks)) ?_ (fun i G hi z => ?_) (fun G z => ?_)⟩
    · exact ⟨kp7'.mk (kp7'.free dk7 nD), dk7.put (dk7.off nD).1 (dk7.off nD).2, by rw [upd_ne (ne_of_none gW7 nD)]; exact gW7, [], rfl, (fun _ z => nomatch z), upd_same, rfl⟩
    · obtain ⟨kpi, dki, gWi, xs, lx, hx, gD', exs⟩ := z
      refine ⟨rfl, ⟨_, rfl⟩, _, rfl, _, rfl, _, _, rfl, rfl, ((i + 1 : Nat) : Int), congrArg V.int (by omega), W, _, rfl, SqL.of gWi, fun p np => ?_⟩
      rw [cutKs (ks := ks) (j := i + 1) (by omega)]
      have lt : (ks.take (i + 1)).length = i + 1 := by rw [List.length_take]; omega
      refine ⟨_, p, (ks.take (i + 1)).map sg, rfl, rfl, .inl (SqL.of upd_same), ?_, xs.map V.str, ?_, ?_, ?_⟩
      · rw [sg_len, List.length_map, lt]
        show i + 1 + (i + 1) * 0 ≤ 16777216
        omega
      · rw [upd_ne (ne_of_none gD' np)]
        exact gD'
      · rw [List.length_map]
        exact small1000 (by omega)
      · have hD : H D = none := kp7'.free dk7 nD
        refine ⟨(kpi.mk (kpi.free dki np)).mk hD, (dki.put (dki.off np).1 (dki.off np).2).put (dk7.off nD).1 (dk7.off nD).2, ?_, xs ++ [Txt.join (Str.ofString "") ((ks.take (i + 1)).map sg)], ?_, ?_, ?_, ?_⟩
        · rw [upd_ne (ne_of_none gW7 nD), upd_ne (ne_of_none gWi np)]
          exact gWi
        · rw [List.length_append, lx]
          rfl
        · intro x hx'
          rcases List.mem_append.mp hx' with z | z
          · exact hx x z
          · rw [List.mem_singleton.mp z]
            exact join_nm (fun j hj => hk j (List.mem_of_mem_take hj)) (by omega) (by omega)
        · rw [upd_same, List.map_append]
          rfl
        · rw [exs, List.range_succ, List.map_append]
          rfl
    · obtain ⟨kpi, dki, gWi, xs, lx, hx, gD', exs⟩ := z
      refine q D xs G kpi dki (kp7'.free dk7 nD) gD' lx hx ?_
      rw [exs]
      exact nodupR _ fun i j hi hj e => nmPre_inj (ks := ks) (n := m.toNat) (by omega) hi hj e
  case b2 =>
    refine ⟨Nat.zero_le _, fun Fd nF => ?_⟩
    have hF : H Fd = none := kp7'.free dk7 nF
    have offF := dk7.off nF
    have nFW : W ≠ Fd := ne_of_none gW7 nF
    refine ⟨_, rfl, m, rfl, by omega, by omega, for_range (lo := 0) (n := m.toNat) (fun i σ G => ∃ y3 y8, σ = [some (.ref d), some (.int m), some (.str lets), y3, some (.ref W), some (.int (1 + r5)), some (.int r6), some (.ref Fd), y8] ∧
      Kp d c H G ∧ Dk G d c ∧ G W = some (.lst ((ks.map sg).map V.str)) ∧ ∃ xs : List Str, xs.length = i ∧ (∀ x ∈ xs, Nm x) ∧ G Fd = some (.lst (xs.map V.str)) ∧ xs = (List.range i).map (nmAt (ks.take (1 + r5).toNat) r6.toNat (ks.getD r6.toNat 0))) ?_ (fun i σ G hi z => ?_) (fun σ G z => ?_)⟩
    · exact ⟨_, _, rfl, kp7'.mk hF, dk7.put offF.1 offF.2, by rw [upd_ne nFW]; exact gW7, [], rfl, (fun _ z => nomatch z), upd_same, rfl⟩
    · obtain ⟨y3, y8, rfl, kpi, dki, gWi, xs, lx, hx, gF, exs⟩ := z
      refine ⟨_, rfl, _, rfl, (((1 + r5).toNat : Nat) : Int), congrArg V.int (by omega), W, _, rfl, SqL.of gWi, fun p np => ?_⟩
      rw [cutKs (ks := ks) (j := (1 + r5).toNat) (by omega)]
      refine ⟨p, _, rfl, .inl (SqL.of upd_same), fun o no => ?_⟩
      have kp1 : Same G (upd (upd G p (.lst (((ks.take (1 + r5).toNat).map sg).map V.str))) o (.lst (((ks.take (1 + r5).toNat).map sg).map V.str))) := (newS np).trans (newS no)
      have gW1 := kp1 _ _ gWi
      have gF1 := kp1 _ _ gF
      have oG : G o = none := (newS np).free no
      generalize hG1 : upd (upd G p _) o (.lst (((ks.take (1 + r5).toNat).map sg).map V.str)) = G1 at kp1 gW1 gF1
      have gO : G1 o = some (.lst (((ks.take (1 + r5).toNat).map sg).map V.str)) := by rw [← hG1, upd_same]
      clear hG1
      have hat : r6.toNat < ks.length := by omega
      have h26 : ks[r6.toNat] < 26 := hk _ (List.getElem_mem hat)
      have e6 : r6 = ((r6.toNat : Nat) : Int) := by omega
      have gat : atI ((ks.map sg).map V.str) r6 = some (.str (sg ks[r6.toNat])) := by
        have z := atI_nat (xs := (ks.map sg).map V.str) (j := r6.toNat) (v := .str (sg ks[r6.toNat])) (by rw [List.getElem?_map, List.getElem?_map, List.getElem?_eq_getElem hat]; rfl)
        rw [← e6] at z
        exact z
      have occ : Builtin.Str.occurrences lets (sg ks[r6.toNat]) 0 lets.length 1 = [ks[r6.toNat]] := lets_ix ⟨ks[r6.toNat], h26⟩
      generalize hv : (((ks[r6.toNat] : Nat) : Int) + (0 + (i : Int))) % 26 = v
      have v0 : 0 ≤ v := by rw [← hv]; exact Int.emod_nonneg _ (by decide)
      have v1 : v < 26 := by rw [← hv]; exact Int.emod_lt_of_pos _ (by decide)
      refine ⟨_, rfl, _, rfl, rfl, _, rfl, _, rfl, W, _, _, _, rfl, rfl, SqL.of gW1, gat, lets, _, _, _, rfl, rfl, occ, _, rfl, _, _, rfl, rfl, _, _, rfl, rfl, (by show (0 : Int) < 26; decide), _, v, 97 + v.toNat, rfl, congrArg V.int hv, lets_len, lets_get v0 v1, ?_⟩
      have lq : ((ks.take (1 + r5).toNat).map sg).length = (1 + r5).toNat := by rw [List.length_map, List.length_take]; omega
      have eix : ixN (((ks.take (1 + r5).toNat).map sg).map V.str).length r6 = some r6.toNat := by
        unfold ixN
        rw [List.length_map, lq, if_pos b0, if_pos (by omega)]
      refine ⟨_, rfl, _, rfl, o, _, _, r6.toNat, rfl, rfl, gO, eix, ?_⟩
      have eset : ((((ks.take (1 + r5).toNat).map sg).map V.str).set r6.toNat (.str ⟨#[97 + v.toNat]⟩)) = ((((ks.take (1 + r5).toNat).set r6.toNat v.toNat).map sg).map V.str) := by
        rw [List.map_set, List.map_set]
        rfl
      rw [eset]
      generalize hls : (ks.take (1 + r5).toNat).set r6.toNat v.toNat = ls
      have ll : ls.length = (1 + r5).toNat := by rw [← hls, List.length_set, List.length_take]; omega
      have hls2 : ∀ k ∈ ls, k < 26 := fun j hj => by
        rw [← hls] at hj
        rcases List.mem_or_eq_of_mem_set hj with z | z
        · exact hk j (List.mem_of_mem_take z)
        · rw [z]
          omega
      have nFo : Fd ≠ o := fun z => by
        rw [z] at gF
        rw [gF] at oG
        cases oG
      have nWo : W ≠ o := fun z => by
        rw [z] at gWi
        rw [gWi] at oG
        cases oG
      have gF2 : (upd G1 o (.lst ((ls.map sg).map V.str))) Fd = some (.lst (xs.map V.str)) := by
        rw [upd_ne nFo]
        exact gF1
      refine ⟨_, rfl, .inl ⟨rfl, _, SqL.of gF2⟩, ⟨_, rfl⟩, _, rfl, _, o, ls.map sg, rfl, rfl, .inl (SqL.of upd_same), ?_, Fd, _, _, rfl, rfl, gF2, ?_, ?_⟩
      · rw [sg_len, List.length_map, ll]
        show (1 + r5).toNat + (1 + r5).toNat * 0 ≤ 16777216
        omega
      · rw [List.length_map]
        exact small1000 (by omega)
      · have oH : H o = none := kpi.free dki oG
        have offo := dki.off oG
        refine ⟨_, _, rfl, ((kpi.trans (Kp.of kp1)).mk oH).mk hF, ((dki.same kp1).put offo.1 offo.2).put offF.1 offF.2, ?_, xs ++ [Txt.join (Str.ofString "") (ls.map sg)], ?_, ?_, ?_, ?_⟩
        · rw [upd_ne nFW, upd_ne nWo]
          exact gW1
        · rw [List.length_append, lx]
          rfl
        · intro x hx'
          rcases List.mem_append.mp hx' with z | z
          · exact hx x z
          · rw [List.mem_singleton.mp z]
            exact join_nm hls2 (by omega) (by omega)
        · rw [upd_same, List.map_append]
          rfl
        · rw [exs, List.range_succ, List.map_append, ← hls, ← hv]
          have eg : ks.getD r6.toNat 0 = ks[r6.toNat] := by simp [List.getD, List.getElem?_eq_getElem hat]
          rw [eg]
          rfl
    · obtain ⟨y3, y8, rfl, kpi, dki, gWi, xs, lx, hx, gF, exs⟩ := z
      refine ⟨_, rfl, q Fd xs G kpi dki hF gF lx hx ?_⟩
      rw [exs]
      exact nodupR _ fun i j hi hj e => nmAt_inj (by rw [List.length_take]; omega) (by omega) (by omega) e
end
end Kq

namespace Kq
open PySem PySem.Spec PyProof.Rows L2
/-- the tuples stay -/
def Tk (H G : Hp) : Prop := ∀ b xs, H b = some (.tup xs) → G b = some (.tup xs)
theorem Tk.of {H G : Hp} (s : Same H G) : Tk H G := fun b xs e => s b _ e
theorem Tk.rfl {H : Hp} : Tk H H := fun _ _ e => e
theorem Tk.trans {H G F : Hp} (a : Tk H G) (b : Tk G F) : Tk H F := fun x o e => b x o (a x o e)
theorem Tk.kp {H G : Hp} {d c : Addr} (a : Kp d c H G) (k : Dk H d c) : Tk H G := fun b xs e => by
  obtain ⟨n, ⟨s, k0, hd⟩, ⟨ns, hc, _⟩⟩ := k
  refine a b _ (fun z => ?_) (fun z => ?_) e
  · rw [z, hd] at e
    cases e
  · rw [z, hc] at e
    cases e
theorem Tk.put {H G : Hp} {p : Addr} {o : HO} (a : Tk H G) (h : ∀ xs, H p ≠ some (.tup xs)) : Tk H (upd G p o) := fun b xs e => by
  rw [upd_ne (fun z => h xs (by rw [← z]; exact e))]
  exact a b xs e
theorem cutFrom1 (x : V) (vs : List V) : cutV (x :: vs) (some 1) none = vs := by
  unfold cutV
  rw [show HT.sIx (x :: vs).length 0 (some 1) = min 1 (x :: vs).length from HT.sIx_nat _ _ 1, HT.sIx_none, List.length_cons, Nat.min_eq_left (by omega)]
  show (vs.take (vs.length + 1 - 1)) = vs
  rw [Nat.add_sub_cancel, List.take_length]
theorem notWhole (x : V) (vs : List V) : ¬ (HT.sIx (x :: vs).length 0 (some 1) = 0 ∧ HT.sIx (x :: vs).length (x :: vs).length none = (x :: vs).length) := by
  rw [show HT.sIx (x :: vs).length 0 (some 1) = min 1 (x :: vs).length from HT.sIx_nat _ _ 1, List.length_cons, Nat.min_eq_left (by omega)]
  rintro ⟨h, _⟩
  cases h
theorem smk {H G : Hp} {p : Addr} {o : HO} (a : Same H G) (h : H p = none) : Same H (upd G p o) := fun b u e => by
  rw [upd_ne (ne_of_none e h)]
  exact a b u e
end Kq

namespace Kq
open PySem PySem.Spec PyProof.Rows L2
theorem Nm.ok {x : Str} (h : Nm x) : PyData.strOk x = true := by
  unfold PyData.strOk
  rw [← Array.all_toList, List.all_eq_true]
  intro c hc
  have := (h.low c hc).2
  exact decide_eq_true (by omega)
theorem dpStrs (K : PySem.W.Frag) (H : Hp) : ∀ xs : List Str, DpAll K H (xs.map V.str) (xs.map PyData.str)
  | [] => .nil
  | x :: xs => .cons (.str x) (dpStrs K H xs)
theorem layStrs : ∀ xs : List Str, (∀ x ∈ xs, Nm x) → PyData.canLayAll0 (xs.map PyData.str) = true ∧ PyData.depthAll (xs.map PyData.str) = 0
  | [], _ => ⟨by simp [PyData.canLayAll0], by simp [PyData.depthAll]⟩
  | x :: xs, h => by
    obtain ⟨a, b⟩ := layStrs xs fun y hy => h y (List.mem_cons_of_mem _ hy)
    have c := (h x List.mem_cons_self).ok
    exact ⟨by simp [PyData.canLayAll0, PyData.canLay0, a, c], by simp [PyData.depthAll, PyData.depth, b]⟩
theorem shStrs {xs : List Str} (h : ∀ x ∈ xs, Nm x) : SeqAt.shaped (.list (xs.map PyData.str)) = true := by
  obtain ⟨a, b⟩ := layStrs xs h
  simp [SeqAt.shaped, PyData.canLay0, PyData.depth, a, b]
theorem eqvNil (xs : List Str) : PyData.eqv (.list (xs.map PyData.str)) (.list []) = xs.isEmpty := by
  cases xs <;> simp [PyData.eqv, PyData.eqvAll]
theorem isiK {X : Cx} (K : PySem.W.Frag) (h : X.K = K) : CallR X (.builtin "isinstance") (rIsi K) := by
  subst h
  exact call_isi
theorem ixTK {X : Cx} (K : PySem.W.Frag) (h : X.K = K) : IxR X (rIxT K) := by
  subst h
  exact ix_tup
section
variable {P : Program} {w : World} {K : PySem.W.Frag} {mg : Str → Option Value} {base : Heap}
theorem noFn {f : Addr} {fd : FuncData} {ps : List Str} {sp : Sp} {k : Nat} (no : ∀ vs H Q E, ¬ sp vs H Q E) : FnOk P w K mg base CX0 k f fd ps sp :=
  ⟨fun vs H Q E h => absurd h (no vs H Q E), fun A outer s H args us vs Q E _ _ _ _ h => absurd h (no vs H Q E)⟩
end
end Kq

/-! all(..) of a generator expression whose element may call defs -/
namespace Kg
open PySem PySem.Spec PyProof.Rows L2 GenW GxR
open Sem (wp)
theorem over_startC {A : Around} {elt t it : Expr} {ifs : List Expr} {scope : Scope} {pos : Pos} {iv acc : Value} {env : Env} : A.over (.compStart (.GeneratorExp elt [⟨t, it, ifs, 0⟩] scope pos) 0 iv acc env) [] = A.deeper env := by
  first
    | rfl
    | (obtain ⟨hd, d, fr, gs, u⟩ := A; simp [Around.over, Around.deeper, marksOver, frameCount, unitsOf, envsOf, guardsOf, pushEnvs, pushGuards, Code.envs, Code.env?, Code.isFrame, Code.guards, Code.isGuard, Code.weight, Code.frames, Code.isCreation, Code.isCaller, Code.cUnits])
theorem over_loopC {A : Around} {elt t it : Expr} {ifs : List Expr} {scope : Scope} {pos : Pos} {iv acc : Value} {env : Env} : A.over (.compLoop (.GeneratorExp elt [⟨t, it, ifs, 0⟩] scope pos) 0 iv acc env) [] = A.deeper env := by
  first
    | rfl
    | (obtain ⟨hd, d, fr, gs, u⟩ := A; simp [Around.over, Around.deeper, marksOver, frameCount, unitsOf, envsOf, guardsOf, pushEnvs, pushGuards, Code.envs, Code.env?, Code.isFrame, Code.guards, Code.isGuard, Code.weight, Code.frames, Code.isCreation, Code.isCaller, Code.cUnits])
/-- the scope of a generator expression within a def: its own names, those that it captures (with their places in N) -/
structure GxS (N : List Str) (sc scope : Scope) (own : List Str) (caps : List (Str × Nat)) : Prop where
  kind : scope.kind = .function
  co : scope.isCoroutine = false
  cell : ∀ y ∈ scope.names, y.2 ≠ .cell
  dot : scope.names.lookup (".0" : Str) = some NameKind.local
  nd : (own ++ caps.map (·.1)).Nodup
  caps : ∀ p ∈ caps, N[p.2]? = some p.1 ∧ scope.names.lookup p.1 = some .free
  free : ∀ y ∈ scope.names, y.2 = .free → sc.names.lookup y.1 = some .cell ∨ sc.names.lookup y.1 = some .free
  uniq : ∀ y ∈ scope.names, scope.names.lookup y.1 = some y.2
abbrev gxN (own : List Str) (caps : List (Str × Nat)) : List Str := own ++ caps.map (·.1)
abbrev gxSt (own : List Str) (caps : List (Str × Nat)) (σ : L2.St) : L2.St := own.map (fun _ => none) ++ caps.map (fun p => (σ[p.2]?).join)
abbrev gxEnv (X : Cx) (scope : Scope) (C : Addr) (code : Value) : Env := genEnv scope (cloFrom X.env.cells scope.names []) C code builtinsNs X.env
/-- the context of its frame -/
abbrev gcx (X : Cx) (A : Around) (N : List Str) (s : Shared) (H : Hp) (cenv : Env) (fp : List Addr) : Cx :=
  { X with A := A.deeper cenv, N := N, s_0 := s, H_0 := H, env := cenv, outer := X.stack, stack := cenv :: X.stack, ex := fp, fn := fun _ => false, calm := true, pn := [], xe := fun _ _ => False }
section
variable {X : Cx} {pins : List (Addr × Obj)} {σ : L2.St} {H : Hp} {s : Shared}
theorem gx_start {A : Around} {scope : Scope} {own : List Str} {caps : List (Str × Nat)} {fp : List Addr} {code : Value} {m0 : Str → Option Value} {s1 : Shared} (I : Inv X pins σ H s) (S : GxS X.N X.env.scope scope own caps) (hh : A.handled = none) (hfr : A.frames = some X.stack)
    (hfp : ∀ b ∈ fp, FpOk X pins H b ∧ b < s.heap.objs.size) (hns : s1.heap.Ns s.heap.objs.size m0) (kp : ∀ b o, s.heap.get? b = some o → s1.heap.get? b = some o) (hos : s1.os = s.os) (hb : AllBare s1.gens) :
    Inv (gcx X A (gxN own caps) s H (gxEnv X scope s.heap.objs.size code) fp) [] (gxSt own caps σ) H s1 := by
  have hfree : ∀ y ∈ scope.names, y.2 = .free → ∃ c, X.env.cells.lookup y.1 = some c := fun y hy e => by
    rcases S.free y hy e with k | k
    · exact I.ok.has _ (.inl k)
    · exact I.ok.has _ (.inr k)
  have cm : ∀ {y c}, (y, c) ∈ cloFrom X.env.cells scope.names [] → X.env.cells.lookup y = some c ∧ c < s.heap.objs.size := fun {y c} hm => by
    rcases cloFrom_mem hm with hm | ⟨h1, rfl⟩
    · cases hm
    · obtain ⟨c, hc⟩ := hfree _ h1 rfl
      rw [hc]
      obtain ⟨w, z⟩ := I.cell _ _ hc
      exact ⟨rfl, z.lt⟩
  have mem : ∀ {y c}, (cloFrom X.env.cells scope.names []).lookup y = some c → X.env.cells.lookup y = some c ∧ c < s.heap.objs.size := fun {y c} e => cm (PySem.mem_of_lookup e)
  have look : ∀ {y}, scope.names.lookup y = some .free → ∃ c, (cloFrom X.env.cells scope.names []).lookup y = some c := fun {y} hl => by
    have hy : (y, NameKind.free) ∈ scope.names := PySem.mem_of_lookup hl
    exact mem_lookup (cloFrom_has (cells := X.env.cells) (acc := []) hy)
  have nfs : ∀ b o, X.base.get? b = some o → b ∉ frs X.stack := fun b o e z => by
    rcases List.mem_cons.mp (I.stkSub b z) with z | z
    · have h1 := Heap.lt_size e
      have h2 := Nat.le_trans I.ok.bsz I.ok.above
      rw [z] at h1
      exact absurd (Nat.lt_of_lt_of_le h1 h2) (Nat.lt_irrefl _)
    · exact I.ok.nofr e z
  have okB : (gcx X A (gxN own caps) s H (gxEnv X scope s.heap.objs.size code) fp).Ok := by
    refine ⟨I.ok.mod, S.kind, I.ok.glob, rfl, Nat.le_refl _, fun y z c e1 e2 => I.ok.inj y z c (mem e1).1 (mem e2).1, fun y hy => ?_, fun y c z e => ?_, fun _ => hh, ?_, .inr ⟨rfl, rfl⟩, fun b hb => ⟨Nat.ne_of_lt (hfp b hb).2, fun y c e z => (hfp b hb).1.2.2.2.2.1 y c (mem e).1 z⟩,
      I.bs, Nat.le_trans I.ok.bsz I.sz, fun b o e hb => ?_, fun b hb z => ?_, I.stack, I.stkFree⟩
    · have hy : scope.names.lookup y = some .cell ∨ scope.names.lookup y = some .free := hy
      rcases hy with hy | hy
      · exact absurd rfl (S.cell _ (PySem.mem_of_lookup hy))
      · exact look hy
    · cases z
    · exact Around.frames_deeper hfr
    · rcases (hfp b hb).1.2.2.2.1 with z | z
      · exact I.ok.noex b o e z
      · exact absurd (Nat.lt_of_lt_of_le (Heap.lt_size e) (Nat.le_trans I.ok.bsz z)) (Nat.lt_irrefl _)
    · rcases List.mem_cons.mp (I.stkSub b z) with z | z
      · exact (hfp b hb).1.2.1 z
      · exact (hfp b hb).1.2.2.1 z
  refine ⟨okB, hos, hb, Un.kept kp, ⟨m0, hns, fun i y av e1 e2 e3 => ?_⟩, fun y c e => ?_, I.hok.fresh (Nat.le_refl _), fun y c e => ?_, fun p hp => ?_, I.hok.kept kp, ?_⟩
  · have e1 : (own ++ caps.map (·.1))[i]? = some y := e1
    have e2 : (own.map (fun _ => (none : Option V)) ++ caps.map (fun p => (σ[p.2]?).join))[i]? = some (some av) := e2
    by_cases hi : i < own.length
    · rw [List.getElem?_append_left (by rw [List.length_map]; exact hi), List.getElem?_map, List.getElem?_eq_getElem hi] at e2
      cases e2
    · rw [List.getElem?_append_right (by rw [List.length_map]; omega), List.length_map, List.getElem?_map] at e2
      rw [List.getElem?_append_right (by omega), List.getElem?_map] at e1
      cases hc : caps[i - own.length]? with
      | none => rw [hc] at e1; cases e1
      | some p =>
        rw [hc] at e1 e2
        have e1 : p.1 = y := Option.some.inj e1
        have e2 : (σ[p.2]?).join = some av := Option.some.inj e2
        obtain ⟨hN, hf⟩ := S.caps p (List.mem_of_getElem? hc)
        have hσ : σ[p.2]? = some (some av) := by
          cases q : σ[p.2]? with
          | none => rw [q] at e2; cases e2
          | some o => rw [q] at e2; exact congrArg some e2
        have hv : X.env.scope.names.lookup p.1 = some .cell ∨ X.env.scope.names.lookup p.1 = some .free := S.free (p.1, .free) (PySem.mem_of_lookup hf) rfl
        obtain ⟨m, hm, hl⟩ := I.loc
        obtain ⟨u, ru, lk⟩ := hl p.2 p.1 av hN hσ (.inr hv)
        subst e1
        refine ⟨u, ru, .inr ⟨.inr hf, ?_⟩⟩
        obtain ⟨c, hc'⟩ := look hf
        refine ⟨c, hc', ?_⟩
        rcases lk with ⟨h1, _⟩ | ⟨_, c2, h2, h3⟩
        · have h1 : X.env.scope.names.lookup p.1 = some .local := h1
          rcases hv with hv | hv
          · rw [hv] at h1; cases h1
          · rw [hv] at h1; cases h1
        · rw [(mem hc').1] at h2
          cases h2
          obtain ⟨o, ho, hd⟩ := h3
          exact ⟨o, kp _ _ ho, hd⟩
  · obtain ⟨v, o, ho, hd⟩ := I.cell y c (mem e).1
    exact ⟨v, o, kp _ _ ho, hd⟩
  · exact I.freeC y c (mem e).1
  · exact absurd (show p ∈ ([] : List (Addr × Obj)) ++ [] from hp) (by simp)
  · show (own.map (fun _ => (none : Option V)) ++ caps.map (fun p => (σ[p.2]?).join)).length = (own ++ caps.map (·.1)).length
    simp
end
/-! the protocol -/
/-- behind the whole: only the table of generators has turned, things may be new -/
def Done (Qf : Value → Shared → Prop) (b : Bool) (s : Shared) : Prop := ∀ s' : Shared, (∀ x o, s.heap.get? x = some o → s'.heap.get? x = some o) → s'.os = s.os → AllBare s'.gens → Qf (.bool b) s'
def GEndA (Qf : Value → Shared → Prop) : Nat → Shared → Shared → Prop := fun _ _ s => AllBare s.gens ∧ Done Qf true s
def GProto (Qf : Value → Shared → Prop) (a : Addr) (g : Nat) : Protocol := fun _ _ v s kap =>
  ∃ b : Bool, v = .bool b ∧ s.heap.IsGen a g ∧ s.heap.NoLimit ∧ AllBare s.gens ∧ (b = true → ∀ s' : Shared, s'.heap = s.heap → s'.os = s.os → AllBare s'.gens → kap (.send .none) s') ∧ (b = false → Done Qf false s)
section
variable {P : Program} {w : World} {A : Around} {Qf : Value → Shared → Prop} {a : Addr} {g : Nat}
/-- all's own loop -/
theorem all_drain (hh : A.handled = none) (hd : A.depth < recursionLimit) : ∀ (n : Nat) (s : Shared), s.heap.IsGen a g → s.heap.NoLimit →
    (∃ gs, s.gens[g]? = some gs ∧ gs.Goes (model P w) A.in1.in1 (fun n s₀ r s₁ => r = .ok .next ∧ GEndA Qf n s₀ s₁) (GProto Qf a g) n (.send .none) (s.setGen g .running)) →
    codeAny (model P w) A (.builtin "all.loop" ⟨[.ref a], []⟩) (fun r s' => ∃ b : Bool, r = .ok (.ret (.bool b)) ∧ Qf (.bool b) s') s := by
  intro n
  induction n with
  | zero =>
    intro s hg hl ⟨gs, hgs, hgo⟩
    refine codeAny_builtin F.entry_all_loop ?_
    rw [Around.under_plainId F.plain_all_loop _]
    show wpAny _ A.in1 (pyNext (.ref a) >>= _) _ _ s
    refine wpAny_bind (wpAny_pyNext_genexpQ (A := A.in1) (P := GEndA Qf) hh hl hd hg hgs hgo (fun v s₁ gs' hbare hv => ?_) (fun s₁ hp h' hk => ?_))
    · obtain ⟨b, rfl, hg1, hl1, hb1, ht, hf⟩ := hv
      cases b with
      | true => exact False.elim (ht rfl s₁ rfl rfl hb1)
      | false =>
        refine wpAny_bind (wpAny_holding (wpAny_truthy_bool ?_))
        refine wpAny_bind (wpAny_letGo ?_)
        simp only [Bool.false_eq_true, if_false]
        refine wpAny_bind (wpAny_rule (wpAny_pure ⟨false, rfl, hf rfl _ (fun x o e => e) rfl (allBare_setGen hb1 hbare)⟩))
    · refine wpAny_bind (wpAny_rule (wpAny_pure ⟨true, rfl, hp.2 _ hk rfl (allBare_setGen hp.1 rfl)⟩))
  | succ n ih =>
    intro s hg hl ⟨gs, hgs, hgo⟩
    have hgl : g < s.gens.size := (Array.getElem?_eq_some_iff.mp hgs).1
    refine codeAny_builtin F.entry_all_loop ?_
    rw [Around.under_plainId F.plain_all_loop _]
    show wpAny _ A.in1 (pyNext (.ref a) >>= _) _ _ s
    refine wpAny_bind (wpAny_gsz (n := g + 1) hgl (wpAny_pyNext_genexpQ (A := A.in1) (P := GEndA Qf) hh hl hd hg hgs hgo (fun v s₁ gs' hbare hv => ?_) (fun s₁ hp h' hk => ?_)))
    · intro hsz
      have hsz1 : g < s₁.gens.size := by
        have q : (s₁.setGen g gs').gens.size = s₁.gens.size := setGen_size _ _ _
        have hsz' : g + 1 ≤ (s₁.setGen g gs').gens.size := hsz
        omega
      obtain ⟨b, rfl, hg1, hl1, hb1, ht, hf⟩ := hv
      refine wpAny_bind (wpAny_holding (wpAny_truthy_bool ?_))
      refine wpAny_bind (wpAny_letGo ?_)
      cases b with
      | true =>
        simp only [if_true]
        refine wpAny_pure ⟨plainId_quiet F.plain_all_loop _, ih _ hg1 hl1 ⟨gs', setGen_at hsz1, ?_⟩⟩
        exact ht rfl _ rfl rfl (allBare_setGen (s := s₁.setGen g gs') (allBare_setGen hb1 hbare) rfl)
      | false =>
        simp only [Bool.false_eq_true, if_false]
        refine wpAny_bind (wpAny_rule (wpAny_pure ⟨false, rfl, hf rfl _ (fun x o e => e) rfl (allBare_setGen hb1 hbare)⟩))
    · intro hsz
      refine wpAny_bind (wpAny_rule (wpAny_pure ⟨true, rfl, hp.2 _ hk rfl (allBare_setGen hp.1 rfl)⟩))
theorem call_all_gen {E : Value → Shared → Prop} {n : Nat} {s : Shared} (hh : A.handled = none) (hd : A.depth < recursionLimit) (hg : s.heap.IsGen a g) (hl : s.heap.NoLimit)
    (hgo : ∃ gs, s.gens[g]? = some gs ∧ gs.Goes (model P w) A.in1.in1 (fun n s₀ r s₁ => r = .ok .next ∧ GEndA Qf n s₀ s₁) (GProto Qf a g) n (.send .none) (s.setGen g .running)) : wpAny (model P w) A (call (.builtin "all") [.ref a]) Qf E s := by
  refine call_function_tree F.kind_all F.plain_all F.entry_all (F.args_all1 _) ?_
  unfold Builtin.«all»
  refine wpAny_bind (m := oneArg "all" _) (wpAny_pure ?_)
  refine wpAny_bind (wpAny_pyIter_gen hg ?_)
  refine wpAny_pure ⟨plainId_quiet F.plain_all_loop _, codeAny_mono (all_drain hh hd n s hg hl hgo) fun r s' h => ?_⟩
  obtain ⟨b, rfl, q⟩ := h
  exact q
end
end Kg

namespace Kg
open PySem PySem.Spec PyProof.Rows L2 GenW GxR
open Sem (wp)
theorem inv_same {G : Cx} {pins : List (Addr × Obj)} {σ : L2.St} {H : Hp} {s s' : Shared} (I : Inv G pins σ H s) (hk : ∀ x o, s.heap.get? x = some o → s'.heap.get? x = some o) (ho : s'.os = s.os) (hb : AllBare s'.gens) : Inv G pins σ H s' :=
  I.call' (ch := []) ho (Un.kept hk) (I.hok.kept hk) hb fun b z => by simp at z
/-- a turn's wish -/
def Turns (J : It) (σ0 : L2.St) (vs : List Nat) (g : TG) (te : TE) (Qe : Bool → Hp → Prop) (W : Nat → Nat → Hp → Prop) : Prop :=
  ∀ i m H, W i m H → (J.stop i H ∧ Qe true H) ∨ (J.go i H ∧ ∃ Nx : Hp → Prop, (∀ H', Nx H' → ∃ m', m' < m ∧ W (i + 1) m' H') ∧ ∀ x H', J.yld i H x H' → g x σ0 H' fun σ2 H2 => wipe σ2 vs = σ0 ∧ te σ2 H2 fun y H4 => ∃ b, y = .bl b ∧ if b = true then Nx H4 else Qe false H4)
section
variable {X : Cx} {A : Around} {N : List Str} {s4 : Shared} {H0 : Hp} {cenv : Env} {fp : List Addr} {tg elt iter : Expr} {scope : Scope} {pos : Pos} {it a : Addr} {gi : Nat} {go : Obj} {J : It} {tn : Nat → Heap → Prop} {σ0 : L2.St} {vs : List Nat} {g : TG} {te : TE} {Qe : Bool → Hp → Prop} {W : Nat → Nat → Hp → Prop} {Qf : Value → Shared → Prop}
theorem gx_loop (hh : A.handled = none) (hco : cenv.scope.isCoroutine = false) (T : Turn X.prog X.w X.K tg J fp it tn) (haf : a ∉ fp) (hgen : ∀ h : Heap, h.get? a = some go → h.IsGen a gi)
    (pg : PG (gcx X A N s4 H0 cenv fp) tg g) (pe : PE (gcx X A N s4 H0 cenv fp) elt te) (turn : Turns J σ0 vs g te Qe W)
    (hfin : ∀ b s H', Inv (gcx X A N s4 H0 cenv fp) [(a, go)] σ0 H' s → Qe b H' → Done Qf b s) :
    ∀ (m n i : Nat) (H : Hp) (s₀ s : Shared), m < n → W i m H → Inv (gcx X A N s4 H0 cenv fp) [(a, go)] σ0 H s → tn i s.heap → (∀ b ∈ fp, H b = none) →
      Seg (model X.prog X.w) A (fun n s₀ r s₁ => r = .ok .next ∧ GEndA Qf n s₀ s₁) (GProto Qf a gi) n s₀ (.compLoop (.GeneratorExp elt [⟨tg, iter, [], 0⟩] scope pos) 0 (.ref it) .none cenv)
        ((model X.prog X.w).den (.compLoop (.GeneratorExp elt [⟨tg, iter, [], 0⟩] scope pos) 0 (.ref it) .none cenv)) [] s := by
  have stat : ∀ {σ' : L2.St} {H' : Hp} {s' : Shared}, Inv (gcx X A N s4 H0 cenv fp) [(a, go)] σ' H' s' → (∀ b ∈ fp, H' b = none) → ∀ b ∈ fp, FpOk (gcx X A N s4 H0 cenv fp) [(a, go)] H' b := fun {σ' H' s'} I' hn b hb =>
    ⟨hn b hb, (I'.ok.exf b hb).1, I'.ok.exfs b hb, .inl hb, fun x c e => (I'.ok.exf b hb).2 x c e, fun p hp z => by
      have hp : p ∈ [(a, go)] := hp
      rw [List.mem_singleton.mp hp] at z
      have z : a = b := z
      exact haf (by rw [z]; exact hb)⟩
  have hy : ∀ v, yieldOut cenv v = yieldValue v := fun v => by simp only [yieldOut, hco, Bool.false_eq_true, if_false]
  intro m
  induction m using Nat.strongRecOn with
  | ind m ih =>
    intro n i H s₀ s hmn hW I hst hn
    obtain ⟨n, rfl⟩ : ∃ k, n = k + 1 := ⟨n - 1, by omega⟩
    show Seg _ A _ _ _ s₀ _ ((compTurn (.GeneratorExp elt [⟨tg, iter, [], 0⟩] scope pos) 0 (.ref it) .none cenv).onRaise (leaving cenv)) [] s
    rw [compTurn_gen, Sem.onRaise_eq_wrap]
    refine seg_bind_wrap (wpAny_standAt ?_)
    rcases turn i m H hW with ⟨stop, qq⟩ | ⟨hgo, Nx, hNx, step⟩
    · refine seg_bind_wrap ?_
      rw [over_loopC]
      refine thn (T.done (gcx X A N s4 H0 cenv fp) rfl rfl rfl rfl i [(a, go)] s _ H _ I (stat I hn) hst stop) fun r s6 ⟨hr, I6⟩ => ?_
      subst hr
      exact seg_end (.ok .next) ⟨rfl, I6.bare, hfin true s6 H I6 qq⟩
    · refine seg_bind_wrap ?_
      rw [over_loopC]
      refine thn (T.item (gcx X A N s4 H0 cenv fp) rfl rfl rfl rfl i [(a, go)] s _ H _ I (stat I hn) hst hgo) fun r s6 ⟨u, hr, h6⟩ => ?_
      subst hr
      refine seg_bind_wrap ?_
      rw [over_loopC]
      refine thn h6 fun _ s7 ⟨x, H7, I7, r7, y7, st7, n7⟩ => ?_
      have I7' := I7.pinned (stat I7 n7) (T.obj _ _ st7)
      refine seg_bind_wrap ?_
      rw [over_loopC]
      refine wpAny_mono (pg.run _ s7 _ H7 x u _ I7' r7 (step x H7 y7)) (fun _ s8 ⟨σ8, H8, I8, hw8, q8⟩ => ?_) fun _ _ e => e.elim
      have fin : ∀ {s' : Shared} {H' : Hp}, Inv (gcx X A N s4 H0 cenv fp) ([(a, go)] ++ pinsAt fp s7.heap) σ8 H' s' → Inv (gcx X A N s4 H0 cenv fp) [(a, go)] σ0 H' s' ∧ tn (i + 1) s'.heap ∧ ∀ b ∈ fp, H' b = none := fun {s' H'} I' => by
        have pin' : ∀ b ∈ fp, ∀ o, s7.heap.get? b = some o → s'.heap.get? b = some o ∧ H' b = none := fun b hb o e =>
          let z := I'.pin (b, o) (List.mem_append_right _ (List.mem_append_right _ (mem_pinsAt hb e)))
          ⟨z.1, z.2.1⟩
        have hl : σ0.length = σ8.length := by rw [← hw8, wipe_length]
        refine ⟨(I'.unpinned (pins := [(a, go)])).weak hl (fun j v e => ?_), T.keep _ _ _ st7 fun b hb o e => (pin' b hb o e).1, fun b hb => ?_⟩
        · rw [← hw8] at e
          exact (wipe_some e).1
        · obtain ⟨o, e, _⟩ := T.obj _ _ st7 b hb
          exact (pin' b hb o e).2
      simp only [List.forIn_nil]
      refine seg_bind_wrap (wpAny_pure ?_)
      simp only [if_true]
      simp only [hy]
      rw [Sem.bind_eq_wrap', Sem.bind_eq_wrap', Sem.wrap_wrap, Sem.wrap_wrap]
      refine seg_wrap ?_
      rw [over_loopC]
      refine wpAny_mono (pe.run _ s8 σ8 H8 _ I8 q8) (fun v s10 ⟨y, H10, I10, r10, b, hyb, q10⟩ => ?_) fun _ _ e => e.elim
      subst hyb
      obtain rfl : v = Value.bool b := r10
      obtain ⟨J1, J2, J3⟩ := fin I10
      have hga : s10.heap.IsGen a gi := hgen _ (J1.pin (a, go) (List.mem_append_right _ (List.mem_singleton.mpr rfl))).1
      refine seg_at (seg_yield rfl rfl rfl ⟨b, rfl, hga, J1.nolimit, J1.bare, fun hb s'' e1 e2 e3 => ?_, fun hb => ?_⟩)
      · subst hb
        rw [if_pos rfl] at q10
        obtain ⟨m', hm', w'⟩ := hNx H10 q10
        refine seg_again rfl (ih m' hm' n (i + 1) H10 s'' s'' (by omega) w' (inv_same J1 (fun x o e => by rw [e1]; exact e) e2 e3) (by rw [e1]; exact J2) J3)
      · subst hb
        rw [if_neg Bool.false_ne_true] at q10
        exact hfin false s10 H10 J1 q10
theorem gx_begin (hh : A.handled = none) (hco : cenv.scope.isCoroutine = false) (T : Turn X.prog X.w X.K tg J fp it tn) (haf : a ∉ fp) (hgen : ∀ h : Heap, h.get? a = some go → h.IsGen a gi)
    (pg : PG (gcx X A N s4 H0 cenv fp) tg g) (pe : PE (gcx X A N s4 H0 cenv fp) elt te) (turn : Turns J σ0 vs g te Qe W)
    (hfin : ∀ b s H', Inv (gcx X A N s4 H0 cenv fp) [(a, go)] σ0 H' s → Qe b H' → Done Qf b s) {m : Nat} {H : Hp} {s : Shared} (w0 : W 0 m H) (I : Inv (gcx X A N s4 H0 cenv fp) [(a, go)] σ0 H s) (hst : tn 0 s.heap) (hn : ∀ b ∈ fp, H b = none) :
    Seg (model X.prog X.w) A (fun n s₀ r s₁ => r = .ok .next ∧ GEndA Qf n s₀ s₁) (GProto Qf a gi) (m + 1) s (.compStart (.GeneratorExp elt [⟨tg, iter, [], 0⟩] scope pos) 0 (.ref it) .none cenv)
      ((model X.prog X.w).den (.compStart (.GeneratorExp elt [⟨tg, iter, [], 0⟩] scope pos) 0 (.ref it) .none cenv)) [] s := by
  have loop := gx_loop (iter := iter) (scope := scope) (pos := pos) hh hco T haf hgen pg pe turn hfin m (m + 1) 0 H s s (Nat.lt_succ_self _) w0 I hst hn
  show Seg _ A _ _ _ s _ ((compStart (.GeneratorExp elt [⟨tg, iter, [], 0⟩] scope pos) 0 (.ref it) .none cenv).onRaise (leaving cenv)) [] s
  unfold compStart
  rw [Sem.onRaise_eq_wrap]
  show Seg _ A _ _ _ s _ ((ask >>= _).wrap _ _ _ _) [] s
  refine seg_bind_wrap (wpAny_askSetting ?_)
  split
  · exact seg_again rfl loop
  · first
      | exact seg_bind_wrap (wpAny_rule (seg_bind_wrap (wpAny_standAt (seg_bind_wrap (T.self _ 0 s _ _ hst (seg_again rfl loop))))))
      | (refine seg_bind_wrap (wpAny_rule ?_); show Seg _ A _ _ _ s _ ((standAt iter.pos >>= _).wrap _ _ _ _) [] s; exact seg_bind_wrap (wpAny_standAt (seg_bind_wrap (T.self _ 0 s _ _ hst (seg_again rfl loop)))))
end
/-! the rule -/
section
variable {X : Cx}
/-- all(elt for tg in iter) -/
def tAllG (P : Addr) (wi : TI) (own : List Str) (caps : List (Str × Nat)) (vs : List Nat) (g : TG) (te : TE) : TE := fun σ H Q => wi σ H fun J H1 => TabG H1 P ∧ ∀ H2, Tabbed P H1 H2 → ∃ W : Nat → Nat → Hp → Prop, (∃ m, W 0 m H2) ∧ Turns J (gxSt own caps σ) vs g te (fun b H' => Q (.bl b) H') W
theorem pe_allG {c P : Addr} {elt tg iter : Expr} {p pos gpos : Pos} {scope : Scope} {own : List Str} {caps : List (Str × Nat)} {vs : List Nat} {wi : TI} {g : TG} {te : TE} {k : Nat}
    (hr : Room k X.A) (hg : Gl X "all") (hm : X.mg "all" = none) (TB : TabB X.base X.mg c P) (hcode : X.env.code = .ref c) (S : GxS X.N X.env.scope scope own caps) (hi : PI X tg iter wi)
    (pg : ∀ (s : Shared) (H : Hp) (C : Addr) (cd : Value) (fp : List Addr), PG (gcx X X.A.in1.in1 (gxN own caps) s H (gxEnv X scope C cd) fp) tg g)
    (pe : ∀ (s : Shared) (H : Hp) (C : Addr) (cd : Value) (fp : List Addr), PE (gcx X X.A.in1.in1 (gxN own caps) s H (gxEnv X scope C cd) fp) elt te)
    (hs : ∀ v, genFold iter X.env v = pure v := by intro _; rfl)
    (he : starEach [.GeneratorExp elt [⟨tg, iter, [], 0⟩] scope gpos] X.env = (false, eval (.GeneratorExp elt [⟨tg, iter, [], 0⟩] scope gpos) X.env) :: starEach [] X.env := by rfl) :
    PE X (.Call (.Name "all" p) [.GeneratorExp elt [⟨tg, iter, [], 0⟩] scope gpos] [] pos) (tAllG P wi own caps vs g te) := by
  refine ⟨fun pins s σ H Q I h => ?_⟩
  have hfree : ∀ y ∈ scope.names, y.2 = .free → ∃ c, X.env.cells.lookup y.1 = some c := fun y hy e => by
    rcases S.free y hy e with k | k
    · exact I.ok.has _ (.inl k)
    · exact I.ok.has _ (.inr k)
  refine wpAny_Call_Name_kw (ld_blt I hg hm PyProof.Rows.boot_all ?_)
  refine PyProof.Rows.callWith_builtin1 ?_ he (by rfl)
  rw [he]
  show wpAny _ _ (spliced ((false, eval (.GeneratorExp elt [⟨tg, iter, [], 0⟩] scope gpos) X.env) :: backTo pos (starEach [] X.env))) _ _ s
  refine Calls.spliced_cons ?_
  refine wpAny_GeneratorExp_make S.co (closure_ok hfree) S.cell S.dot S.kind (by have := hr.dp; omega) ?_ hs
  refine thn (hi.run pins s σ H _ I h) fun xv s1 hx => thn hx fun itv s2 h2 => ?_
  obtain ⟨it, fp, tn, J, H1, rfl, I2, T, st2, f2, ⟨ps, hP, ht⟩, q⟩ := h2
  refine ⟨I2.nolimit, ?_⟩
  have hPs : s2.heap.get? P = some { cls := .none, data := .fields ps } := I2.hok P _ hP
  have cd : PySem.W.CodeHd s2.heap c P := TB.code.keeps I2.bk
  have sz2 : ∀ b ∈ fp, b < s2.heap.objs.size := fun b hb => by
    obtain ⟨o, e, _⟩ := T.obj _ _ st2 b hb
    exact Heap.lt_size e
  have cont : ∀ (code : Value) (h3 : Heap) (tk : Nat) (ps' more : Array Value), Heap.ExtBut P s2.heap h3 → s2.heap.objs.size ≤ h3.objs.size → h3.get? P = some { cls := .none, data := .fields ps' } → ps' = ps ++ more → TriplesOk ps'.toList →
      wpAny (model X.prog X.w) X.A (builtinsFor X.env.globals X.env.builtins) (fun bi s₄ =>
        ∀ h', h'.Ns s₄.heap.objs.size (fun y => if y = ".0" then some (.ref it) else none) → Heap.SameBut s₄.heap.objs.size (s₄.heap.push { cls := .type "frame", data := .dict #[] }) h' →
          wpAny (model X.prog X.w) X.A (spliced (backTo pos (starEach [] X.env))) (fun us s' => wpAny (model X.prog X.w) X.A (call (.builtin "all") (.ref h'.objs.size :: us)) (EP X pins σ Q) X.xe s') X.xe { s₄ with
            gens := s₄.gens.push (.fresh (.compStart (.GeneratorExp elt [⟨tg, iter, [], 0⟩] scope gpos) 0 (.ref it) .none (genEnv scope (cloFrom X.env.cells scope.names []) s₄.heap.objs.size code bi X.env))),
            toks := s₄.toks + 1 + 1 + 1,
            heap := h'.push { cls := .type "generator", data := .fields #[.int s₄.gens.size 0, .str "<genexpr>" (s₄.toks + 1), .str (X.env.qual ++ "<genexpr>") (s₄.toks + 1 + 1)] } }) X.xe { s2 with heap := h3, toks := tk } := by
    intro code h3 tk ps' more hx hsz hP3 hmore ht3
    obtain ⟨bm, ob, e1, e2, e3, e4, e5, e6, e7, e8⟩ := TB.bm
    have keep3 : ∀ b u, b ≠ P → s2.heap.get? b = some u → h3.get? b = some u := fun b u hb e => hx b u hb e
    refine wpAny_builtinsFor (m := X.mg) (by rw [I2.ok.glob]; exact (I2.mod.glob.keeps I2.bk).extBut hx TB.gP) e1 e2 (keep3 _ _ e4 (I2.bk _ _ e5)) e6 e7 e8 ?_
    intro h' hns hsb
    have I3 : Inv X pins σ (upd H1 P (.tbl (ps ++ more))) { s2 with heap := h3, toks := tk } := inv_tab (more := more) (g' := s2.gens) (d' := s2.drawn) (t' := tk) I2 hP keep3 (by rw [← hmore]; exact hP3) I2.bare
    have hT : Tabbed P H1 (upd H1 P (.tbl (ps ++ more))) := ⟨⟨ps ++ more, upd_same, by rw [← hmore]; exact ht3⟩, fun b hb => upd_ne hb⟩
    obtain ⟨W, ⟨m, w0⟩, turn⟩ := q _ hT
    have nP : ∀ b ∈ fp, b ≠ P := fun b hb z => by
      have := (f2 b hb).1
      rw [z, hP] at this
      cases this
    have f3 : ∀ b ∈ fp, FpOk X pins (upd H1 P (.tbl (ps ++ more))) b ∧ b < h3.objs.size := fun b hb => ⟨⟨by rw [upd_ne (nP b hb)]; exact (f2 b hb).1, (f2 b hb).2⟩, Nat.lt_of_lt_of_le (sz2 b hb) hsz⟩
    generalize upd H1 P (.tbl (ps ++ more)) = H3 at I3 w0 f3
    have hsz' : h'.objs.size = h3.objs.size + 1 := by rw [hsb.1, Heap.size_push]
    have keep' : ∀ b o, h3.get? b = some o → h'.get? b = some o := fun b o e => hsb.extBut b o (Nat.ne_of_lt (Heap.lt_size e)) (Heap.get?_push_of_some _ e)
    refine Calls.spliced_nil ?_
    generalize hgo : ({ cls := .type "generator", data := .fields #[.int s2.gens.size 0, .str "<genexpr>" (tk + 1), .str (X.env.qual ++ "<genexpr>") (tk + 1 + 1)] } : Obj) = go
    have hgen : ∀ hp : Heap, hp.get? h'.objs.size = some go → hp.IsGen h'.objs.size s2.gens.size := fun hp e => ⟨go, _, _, e, by rw [← hgo], by rw [← hgo], by rw [← hgo]⟩
    have hput : (h'.push go).get? h'.objs.size = some go := Heap.get?_push_size _ (by rw [← hgo]; rfl)
    have hgd : ∀ v, go.data ≠ .cell v := fun v z => by rw [← hgo] at z; cases z
    show wpAny _ _ (call (.builtin "all") [.ref h'.objs.size]) _ _ { s2 with gens := s2.gens.push (.fresh (.compStart (.GeneratorExp elt [⟨tg, iter, [], 0⟩] scope gpos) 0 (.ref it) .none (gxEnv X scope h3.objs.size code))), toks := tk + 1 + 1 + 1, heap := h'.push go }
    have keep5 : ∀ b o, h3.get? b = some o → (h'.push go).get? b = some o := fun b o e => Heap.get?_push_of_some _ (keep' b o e)
    have hb5 : AllBare (s2.gens.push (.fresh (.compStart (.GeneratorExp elt [⟨tg, iter, [], 0⟩] scope gpos) 0 (.ref it) .none (gxEnv X scope h3.objs.size code)))) := I2.bare.push rfl
    have hrun : AllBare (({ s2 with gens := s2.gens.push (.fresh (.compStart (.GeneratorExp elt [⟨tg, iter, [], 0⟩] scope gpos) 0 (.ref it) .none (gxEnv X scope h3.objs.size code))), toks := tk + 1 + 1 + 1, heap := h'.push go } : Shared).setGen s2.gens.size .running).gens := allBare_setGen hb5 rfl
    have G0 : Inv (gcx X X.A.in1.in1 (gxN own caps) { s2 with heap := h3, toks := tk } H3 (gxEnv X scope h3.objs.size code) fp) [] (gxSt own caps σ) H3 (({ s2 with gens := s2.gens.push (.fresh (.compStart (.GeneratorExp elt [⟨tg, iter, [], 0⟩] scope gpos) 0 (.ref it) .none (gxEnv X scope h3.objs.size code))), toks := tk + 1 + 1 + 1, heap := h'.push go } : Shared).setGen s2.gens.size .running) :=
      gx_start (s := { s2 with heap := h3, toks := tk }) I3 S hr.hd I3.ok.frames f3 (hns.push go) keep5 rfl hrun
    have hna : H3 h'.objs.size = none := I3.hok.fresh (by show h3.objs.size ≤ h'.objs.size; omega)
    have G1 : Inv (gcx X X.A.in1.in1 (gxN own caps) { s2 with heap := h3, toks := tk } H3 (gxEnv X scope h3.objs.size code) fp) [(h'.objs.size, go)] (gxSt own caps σ) H3 (({ s2 with gens := s2.gens.push (.fresh (.compStart (.GeneratorExp elt [⟨tg, iter, [], 0⟩] scope gpos) 0 (.ref it) .none (gxEnv X scope h3.objs.size code))), toks := tk + 1 + 1 + 1, heap := h'.push go } : Shared).setGen s2.gens.size .running) :=
      G0.pins_of fun p hp => by
        rw [List.mem_singleton.mp hp]
        refine ⟨hput, hna, ?_, fun z => ?_, hgd⟩
        · show h'.objs.size ≠ h3.objs.size
          omega
        · have z : h'.objs.size ∈ frs X.stack := z
          rcases List.mem_cons.mp (I3.stkSub _ z) with z | z
          · have h1 := I3.lt
            rw [← z] at h1
            have h1 : h'.objs.size < h3.objs.size := h1
            omega
          · exact I3.nofs (show h3.objs.size ≤ h'.objs.size by omega) z
    have st5 : tn 0 (h'.push go) := T.keep _ _ _ st2 fun b hb o e => keep5 b o (keep3 b o (nP b hb) e)
    refine call_all_gen (n := m + 1) hr.hd (by have := hr.dp; omega) (hgen _ hput) (I3.nolimit.keeps keep5) ⟨_, Array.getElem?_push_size .., rfl, ?_⟩
    refine gx_begin (A := X.A.in1.in1) (N := gxN own caps) (σ0 := gxSt own caps σ) (vs := vs) (g := g) (te := te) (Qe := fun b H' => Q (.bl b) H') (W := W) hr.hd S.co T (fun z => ?_) hgen (pg _ _ _ _ _) (pe _ _ _ _ _) turn (fun b s6 H6 J6 q6 s7 k7 o7 b7 => ?_) w0 G1 st5 (fun b hb => (f3 b hb).1.1)
    · have z2 : h'.objs.size < h3.objs.size := (f3 _ z).2
      rw [hsz'] at z2
      exact absurd z2 (by omega)
    · have I6 : Inv X pins σ H6 s6 := I3.call' (ch := fp) J6.os J6.base J6.hok J6.bare fun b hb => ⟨(f3 b hb).1.2.2.2.1, (f3 b hb).1.2.1, (f3 b hb).1.2.2.2.2.1, (f3 b hb).1.2.2.2.2.2⟩
      exact ⟨.bl b, H6, inv_same I6 k7 o7 b7, rfl, q6⟩
  cases hf : codeAmong gpos ps.toList with
  | none =>
    refine wpAny_genexprCodeX hcode (cd.code hPs ht) (cd.tab hPs) hf fun c' h' tk hx hge hlt hco' _ htab' _ => ?_
    obtain ⟨o1, vs, f1, tf, fl, tg, inF, tx, tt, op, _, _, _, _, _, _, _, _, _, htr, _⟩ := hco'
    exact cont _ h' tk _ _ hx (Nat.le_trans hge (Nat.le_of_lt hlt)) htab'.2 rfl htr
  | some cv =>
    refine wpAny_genexprCode_hit hcode (cd.code hPs ht) hf ?_
    exact cont cv s2.heap s2.toks ps #[] (Heap.ExtBut.refl _ _) (Nat.le_refl _) hPs (by simp) ht
end
end Kg

/-! defs that are called where no repr is under way -/
namespace Kf
open PySem PySem.Spec PyProof.Rows L2 LamX
/-- no repr is under way -/
abbrev Still (A : Around) : Prop := A.guards = some []
/-- a def's promise, called where no repr is under way -/
structure FnG (P : Program) (w : World) (K : PySem.W.Frag) (mg : Str → Option Value) (base : Heap) (CX : CXT) (k : Nat) (f : Addr) (fd : FuncData) (ps : List Str) (sp : Sp) : Prop where
  cnt : ∀ vs H Q E, sp vs H Q E → vs.length = ps.length
  go : ∀ (A : Around) (o : List Env) (s : Shared) (H : Hp) (r : Args) (us : List Value) (vs : List V) (Q : VK) (E : XK), Still A → Room k A → Env0 P w K mg base A o s H → BindsTo s fd r (ps.zip us) → Vals vs us → sp vs H Q E →
    codeAny (model P w) A (.call (.ref f) r) (CR CX o P w H s Q E) s
section
variable {P : Program} {w : World} {K : PySem.W.Frag} {mg : Str → Option Value} {base : Heap} {CX : CXT}
theorem FnG.of {k : Nat} {f : Addr} {fd : FuncData} {ps : List Str} {sp : Sp} (F : FnOk P w K mg base CX k f fd ps sp) : FnG P w K mg base CX k f fd ps sp :=
  ⟨F.len, fun A o s H r us vs Q E _ => F.run A o s H r us vs Q E⟩
theorem FnG.up {j k : Nat} {f : Addr} {fd : FuncData} {ps : List Str} {sp : Sp} (F : FnG P w K mg base CX j f fd ps sp) (h : j ≤ k) : FnG P w K mg base CX k f fd ps sp :=
  ⟨F.cnt, fun A o s H r us vs Q E g hr => F.go A o s H r us vs Q E g (hr.mono h)⟩
/-- a def by its body -/
theorem fnG_of {k : Nat} {f : Addr} {nm ql : Str} {prm : Arguments} {bd : List Stmt} {sco : Scope} {dV kV doc pm cdv ct oc : Value} {an od : Option Addr} {sl : Array (Option Value)} {N ps : List Str} {sp : Sp}
    (at' : K.lookup f = some ⟨oc, od, .func (PySem.W.fnOf nm ql prm bd sco dV kV doc pm an cdv ct), sl⟩) (hc : PySem.W.codeIn K cdv ql = true) (S : FnScope N ps sco) (cnt : ∀ vs H Q E, sp vs H Q E → vs.length = ps.length)
    (body : ∀ (A : Around) (o : List Env) (s : Shared) (H : Hp) (vs : List V) (Q : VK) (E : XK), Still A → Room k (A.deeper (envOfC ql sco s.heap.objs.size f cdv)) → sp vs H Q E →
      ∃ t, PSs (cxOf CX P w K mg base N ql sco f cdv A o s H E) bd t ∧ t { nx := fun _ G => Q .non G, rt := Q } (start N vs) H) : FnG P w K mg base CX (k + 1) f (PySem.W.fnOf nm ql prm bd sco dV kV doc pm an cdv ct) ps sp where
  cnt := cnt
  go := by
    intro A o s H r us vs Q E still room e0 binds vals hsp
    have hold := fun b u (z : base.get? b = some u) => (e0.bs b u z).1
    have kx := e0.mod.kin.keeps hold
    have par : ∀ z ∈ ps.zip us, sco.names.lookup z.1 = some .local ∨ (sco.names.lookup z.1 = some .cell ∧ ((cellsFrom (s.heap.objs.size + 1) sco.names []).lookup z.1).isSome = true) := by
      intro z hz
      have hm : z.1 ∈ ps := (List.of_mem_zip (a := z.1) (b := z.2) hz).1
      exact (S.par z.1 hm).imp id fun q => ⟨q, PySem.W.cellsFrom_some _ _ _ (.inl q)⟩
    refine codeAny_call_function room.depth (kx _ _ at') rfl S.co S.gen rfl (PySem.W.codeRec_of kx hc) (binds _ _ _ _ (wpAny_newFunctionEnv_cells S.kind par ?_))
    rintro env rfl s1 x
    refine ⟨(e0.mod.nolimit.keeps hold).keeps x.toInCall.keep, codeAny_func ?_⟩
    obtain ⟨t, ht, hq⟩ := body A o s H vs Q E still (room.deeper _) hsp
    refine wpAny_mono (ht.run [] s1 (start N vs) H _ (inv_start S room.hd e0 (cnt _ _ _ _ hsp) vals x) hq) ?_ (fun _ _ z => z)
    intro fl s2 z
    match fl, z with
    | .ret u, ⟨v, _, G, J, rv, q⟩ => exact ⟨v, G, J.os, J.bare, J.base, J.hok, rv, q⟩
    | .next, ⟨_, G, J, q⟩ => exact ⟨V.non, G, J.os, J.bare, J.base, J.hok, rfl, q⟩
    | .brk, ⟨_, _, _, q⟩ => exact q.elim
    | .cont, ⟨_, _, _, q⟩ => exact q.elim
/-- a def of the text that lets nothing out -/
theorem okG {x ql : Str} {st : Stmt} {f : Addr} {fd : FuncData} {N ps : List Str} {k : Nat} {sp : Sp} (F : Fun K x ql st f fd) (S : FnScope N ps (defScope st)) (cnt : ∀ vs H Q E, sp vs H Q E → vs.length = ps.length)
    (body : ∀ (cdv : Value) (A : Around) (o : List Env) (s : Shared) (H : Hp) (vs : List V) (Q : VK) (E : XK), Still A → Room k (A.deeper (envOfC ql (defScope st) s.heap.objs.size f cdv)) → sp vs H Q E →
      ∃ t, PSs (cxOf CX0 P w K mg base N ql (defScope st) f cdv A o s H E).nox (defBody st) t ∧ t { nx := fun _ G => Q .non G, rt := Q } (start N vs) H) : FnG P w K mg base CX0 (k + 1) f fd ps sp := by
  obtain ⟨oc, od, kV, doc, pm, an, cdv, ct, sl, rfl, hl, hc⟩ := F.ex
  exact fnG_of hl hc S cnt fun A o s H vs Q E g hr h => (body cdv A o s H vs Q E g hr h).imp fun t z => ⟨z.1.nox, z.2⟩
end
section
variable {X : Cx} {CX : CXT} {k : Nat} {f : Addr} {fd : FuncData} {ps : List Str} {sp : Sp} {dvs : List V} {ds : List Value} {E : XK} {x : Str} {p pos : Pos} {e : Expr} {es : List Expr} {t : TA}
theorem goG {pins : List (Addr × Obj)} {σ : L2.St} {H : Hp} {s : Shared} {Q : VK} {us : List Value} {vs : List V} (F : FnG X.prog X.w X.K X.mg X.base CX k f fd ps sp) (g : Still X.A) (hr : Room k X.A) (hb : Binds X.K fd ps ds) (hd : Vals dvs ds) (hx : Passes CX X E) (I : Inv X pins σ H s) (rv : Vals vs us)
    (h : sp (vs ++ dvs) H Q E) : wpAny (model X.prog X.w) X.A (call (.ref f) us) (EP X pins σ Q) X.xe s := by
  have both := rv.append hd
  have n : (us ++ ds).length = ps.length := both.length.symm.trans (F.cnt _ _ _ _ h)
  refine wpAny_call (codeAny_mono (F.go X.A X.stack s H ⟨us, []⟩ _ _ Q E g hr I.env0 (hb s us I.kIn n) both h) ?_)
  intro r s2 z
  match r, z with
  | .error u, z => exact hx pins σ H s u s2 I z
  | .ok (.ret u), z => exact I.after z
  | .ok .next, z => exact z.elim
  | .ok .brk, z => exact z.elim
  | .ok .cont, z => exact z.elim
/-- f(e, ..) -/
theorem pe_callG (F : FnG X.prog X.w X.K X.mg X.base CX k f fd ps sp) (g : Still X.A) (hr : Room k X.A) (hg : Gl X x) (hm : X.mg x = some (.ref f)) (hk : PySem.W.keepIn X.K (.ref f) = true) (hb : Binds X.K fd ps ds) (hd : Vals dvs ds) (hx : Passes CX X E) (ha : PA X (e :: es) t)
    (hn : (x == ("__debug__" : Str)) = false := by decide) (h1 : starEach (e :: es) X.env = (false, eval e X.env) :: starEach es X.env := by rfl) (h2 : (backTo pos (starEach es X.env)).any (·.1) = false := by rfl) : PE X (.Call (.Name x p) (e :: es) [] pos) (tCall sp dvs E t) := by
  constructor
  intro pins s σ H Q I h
  refine wpAny_Call_Name_kw (ld_glob I hg hm (PySem.W.callWith_K (h₀ := X.base) I.ok.mod.kin hk (thn (ha.run pos pins s σ H _ I h) ?_) h1 h2) hn)
  rintro us s2 ⟨vs, G, J, rv, q⟩
  exact ⟨J.kIn, goG F g hr hb hd hx J rv q⟩
end
end Kf

/-! repr of data -/
namespace Kf
open PySem PySem.Spec PyProof.Rows L2
/-- data that shows as it is, of at most so many in one another -/
structure Shows (n : Nat) (d : PyData) : Prop where
  ok : d.showable = true
  nd : d.hasDict = false
  dp : d.depth ≤ n
  sz : d.shown.length ≤ sizeLine
def rShow (K : PySem.W.Frag) (n : Nat) : List V → Hp → VK → Prop := fun xs H Q => ∃ (a : Addr) (d : PyData), xs = [.ref a] ∧ Dp K H (.ref a) d ∧ Shows n d ∧ Q (.str d.shown) H
theorem call_show {X : Cx} {n : Nat} (g : Still X.A) (hu : X.A.units + (n + 1) < cLine) : CallR X (.builtin "repr") (rShow X.K n) := by
  intro pins s σ H xs us Q I r h
  obtain ⟨a, d, rfl, hd, sh, q⟩ := h
  rw [Vals.ref1 r]
  obtain ⟨as, rd⟩ := Dp.reads I d _ (.ref a) hd rfl
  exact repr_of_reads' rd sh.ok (PyData.noDict_hsm sh.nd) g (by have := sh.dp; omega) (fun _ _ e => e) (fun h' u tk hk => ⟨.str d.shown, H, I.kept hk, ⟨u, rfl⟩, q⟩) sh.sz
end Kf

/-! things of anything: none, truths, numbers, texts, tuples, lists, the empty dict -/
namespace Kv
open PySem PySem.Spec PyProof.Rows L2 Kf
inductive Dt where
  | non
  | bl (b : Bool)
  | int (i : Int)
  | str (x : Str)
  | tup (xs : List Dt)
  | lst (xs : List Dt)
  | dct (kvs : List (Str × Int))
/-- a dict of texts with numbers -/
def dkv (kvs : List (Str × Int)) : List (Key × V) := kvs.map fun p => (.inr p.1, .int p.2)
def dkp (kvs : List (Str × Int)) : List (PyData × PyData) := kvs.map fun p => (.str p.1, .int p.2)
mutual
/-- the thing stands at v; its lists and dicts at places N -/
inductive Dd (N : Addr → Prop) (H : Hp) : Dt → V → Prop
  | non : Dd N H .non .non
  | bl (b : Bool) : Dd N H (.bl b) (.bl b)
  | int (i : Int) : Dd N H (.int i) (.int i)
  | str (x : Str) : Dd N H (.str x) (.str x)
  | tup {a : Addr} {xs : List Dt} {vs : List V} : H a = some (.tup vs) → DdL N H xs vs → Dd N H (.tup xs) (.ref a)
  | lst {a : Addr} {xs : List Dt} {vs : List V} : N a → H a = some (.lst vs) → DdL N H xs vs → Dd N H (.lst xs) (.ref a)
  | dct {a : Addr} {kvs : List (Str × Int)} : N a → H a = some (.dK (dkv kvs)) → Dd N H (.dct kvs) (.ref a)
inductive DdL (N : Addr → Prop) (H : Hp) : List Dt → List V → Prop
  | nil : DdL N H [] []
  | cons {x : Dt} {xs : List Dt} {v : V} {vs : List V} : Dd N H x v → DdL N H xs vs → DdL N H (x :: xs) (v :: vs)
end
/-- what stood of tuples, and of lists and dicts at N, stands -/
structure Kn (N : Addr → Prop) (H G : Hp) : Prop where
  tup : ∀ b xs, H b = some (.tup xs) → G b = some (.tup xs)
  lst : ∀ b xs, N b → H b = some (.lst xs) → G b = some (.lst xs)
  dic : ∀ b xs, N b → H b = some (.dK xs) → G b = some (.dK xs)
theorem Kn.of {N : Addr → Prop} {H G : Hp} (s : Same H G) : Kn N H G := ⟨fun b _ e => s b _ e, fun b _ _ e => s b _ e, fun b _ _ e => s b _ e⟩
theorem Kn.trans {N : Addr → Prop} {H G F : Hp} (a : Kn N H G) (b : Kn N G F) : Kn N H F := ⟨fun x _ e => b.tup x _ (a.tup x _ e), fun x _ n e => b.lst x _ n (a.lst x _ n e), fun x _ n e => b.dic x _ n (a.dic x _ n e)⟩
theorem Kn.rfl {N : Addr → Prop} {H : Hp} : Kn N H H := ⟨fun _ _ e => e, fun _ _ _ e => e, fun _ _ _ e => e⟩
theorem Kn.sub {N M : Addr → Prop} {H G : Hp} (k : Kn N H G) (h : ∀ b, M b → N b) : Kn M H G := ⟨k.tup, fun b xs n e => k.lst b xs (h b n) e, fun b xs n e => k.dic b xs (h b n) e⟩
/-- another list, dict or the like is put at p -/
theorem Kn.put {N : Addr → Prop} {H G : Hp} {p : Addr} {o : HO} (k : Kn N H G) (n : ¬ N p) (h : ∀ xs, H p ≠ some (.tup xs)) : Kn N H (upd G p o) := by
  refine ⟨fun b xs e => ?_, fun b u hb e => ?_, fun b u hb e => ?_⟩
  · rw [upd_ne (fun z => h xs (by rw [← z]; exact e))]
    exact k.tup b xs e
  · rw [upd_ne (fun z => n (by rw [← z]; exact hb))]
    exact k.lst b u hb e
  · rw [upd_ne (fun z => n (by rw [← z]; exact hb))]
    exact k.dic b u hb e
/-- what was free is put at p -/
theorem Kn.new {N : Addr → Prop} {H G : Hp} {p : Addr} {o : HO} (k : Kn N H G) (h : H p = none) : Kn N H (upd G p o) := by
  refine ⟨fun b xs e => ?_, fun b u hb e => ?_, fun b u hb e => ?_⟩
  · rw [upd_ne (ne_of_none e h)]
    exact k.tup b xs e
  · rw [upd_ne (ne_of_none e h)]
    exact k.lst b u hb e
  · rw [upd_ne (ne_of_none e h)]
    exact k.dic b u hb e
mutual
theorem Dd.kn {N : Addr → Prop} {H G : Hp} (k : Kn N H G) : ∀ {x : Dt} {v : V}, Dd N H x v → Dd N G x v
  | _, _, .non => .non
  | _, _, .bl b => .bl b
  | _, _, .int i => .int i
  | _, _, .str x => .str x
  | _, _, .tup h t => .tup (k.tup _ _ h) (t.kn k)
  | _, _, .lst n h t => .lst n (k.lst _ _ n h) (t.kn k)
  | _, _, .dct n h => .dct n (k.dic _ _ n h)
theorem DdL.kn {N : Addr → Prop} {H G : Hp} (k : Kn N H G) : ∀ {xs : List Dt} {vs : List V}, DdL N H xs vs → DdL N G xs vs
  | _, _, .nil => .nil
  | _, _, .cons h t => .cons (h.kn k) (t.kn k)
end
mutual
/-- at fewer, or other places, where the heap has nothing elsewhere -/
theorem Dd.at {N M : Addr → Prop} {H : Hp} (k : ∀ b u, N b → H b = some u → M b) : ∀ {x : Dt} {v : V}, Dd N H x v → Dd M H x v
  | _, _, .non => .non
  | _, _, .bl b => .bl b
  | _, _, .int i => .int i
  | _, _, .str x => .str x
  | _, _, .tup h t => .tup h (t.at k)
  | _, _, .lst n h t => .lst (k _ _ n h) h (t.at k)
  | _, _, .dct n h => .dct (k _ _ n h) h
theorem DdL.at {N M : Addr → Prop} {H : Hp} (k : ∀ b u, N b → H b = some u → M b) : ∀ {xs : List Dt} {vs : List V}, DdL N H xs vs → DdL M H xs vs
  | _, _, .nil => .nil
  | _, _, .cons h t => .cons (h.at k) (t.at k)
end
/-- at any places -/
abbrev Any : Addr → Prop := fun _ => True
theorem Dd.any {N : Addr → Prop} {H : Hp} {x : Dt} {v : V} (h : Dd N H x v) : Dd Any H x v := h.at fun _ _ _ _ => trivial
theorem DdL.any {N : Addr → Prop} {H : Hp} {x : List Dt} {v : List V} (h : DdL N H x v) : DdL Any H x v := h.at fun _ _ _ _ => trivial
theorem Dd.same {N : Addr → Prop} {H G : Hp} {x : Dt} {v : V} (h : Dd N H x v) (s : Same H G) : Dd N G x v := h.kn (.of s)
theorem DdL.same {N : Addr → Prop} {H G : Hp} {x : List Dt} {v : List V} (h : DdL N H x v) (s : Same H G) : DdL N G x v := h.kn (.of s)
section
variable {N : Addr → Prop} {H : Hp}
theorem DdL.len : ∀ {xs : List Dt} {vs : List V}, DdL N H xs vs → xs.length = vs.length
  | _, _, .nil => rfl
  | _, _, .cons _ t => congrArg (· + 1) t.len
theorem DdL.app : ∀ {xs ys : List Dt} {vs ws : List V}, DdL N H xs vs → DdL N H ys ws → DdL N H (xs ++ ys) (vs ++ ws)
  | _, _, _, _, .nil, h => h
  | _, _, _, _, .cons h t, k => .cons h (t.app k)
theorem DdL.get : ∀ {xs : List Dt} {vs : List V} {i : Nat} {v : V}, DdL N H xs vs → vs[i]? = some v → ∃ x, xs[i]? = some x ∧ Dd N H x v
  | _, _, i, v, .nil, e => by simp at e
  | _, _, 0, v, .cons (x := x) (v := w) h t, e => ⟨x, rfl, by rw [← show w = v from Option.some.inj e]; exact h⟩
  | _, _, i + 1, v, .cons h t, e => DdL.get (i := i) t e
theorem DdL.get' : ∀ {xs : List Dt} {vs : List V} {i : Nat} {x : Dt}, DdL N H xs vs → xs[i]? = some x → ∃ v, vs[i]? = some v ∧ Dd N H x v
  | _, _, i, v, .nil, e => by simp at e
  | _, _, 0, v, .cons (x := w) (v := y) h t, e => ⟨y, rfl, by rw [← show w = v from Option.some.inj e]; exact h⟩
  | _, _, i + 1, v, .cons h t, e => DdL.get' (i := i) t e
theorem DdL.drop : ∀ {xs : List Dt} {vs : List V} (n : Nat), DdL N H xs vs → DdL N H (xs.drop n) (vs.drop n)
  | _, _, 0, h => h
  | _, _, n + 1, .nil => .nil
  | _, _, n + 1, .cons _ t => t.drop n
theorem DdL.take : ∀ {xs : List Dt} {vs : List V} (n : Nat), DdL N H xs vs → DdL N H (xs.take n) (vs.take n)
  | _, _, 0, h => .nil
  | _, _, n + 1, .nil => .nil
  | _, _, n + 1, .cons h t => .cons h (t.take n)
theorem DdL.rev : ∀ {xs : List Dt} {vs : List V}, DdL N H xs vs → DdL N H xs.reverse vs.reverse
  | _, _, .nil => .nil
  | _, _, .cons (x := x) (xs := xs) (v := v) (vs := vs) h t => by
    rw [List.reverse_cons, List.reverse_cons]
    exact t.rev.app (.cons h .nil)
theorem DdL.last : ∀ {xs : List Dt} {vs : List V}, DdL N H xs vs → vs ≠ [] → ∃ ys y ws w, xs = ys ++ [y] ∧ vs = ws ++ [w] ∧ DdL N H ys ws ∧ Dd N H y w
  | _, _, .nil, n => absurd rfl n
  | _, _, .cons (x := x) (v := v) h .nil, _ => ⟨[], x, [], v, rfl, rfl, .nil, h⟩
  | _, _, .cons (x := x) (v := v) h (.cons h' t'), _ => by
    obtain ⟨ys, y, ws, w, e1, e2, k, r⟩ := DdL.last (.cons h' t') (by simp)
    exact ⟨x :: ys, y, v :: ws, w, by rw [e1]; rfl, by rw [e2]; rfl, .cons h k, r⟩
theorem DdL.strs : ∀ (xs : List Str), DdL N H (xs.map Dt.str) (xs.map V.str)
  | [] => .nil
  | x :: xs => .cons (.str x) (DdL.strs xs)
theorem DdL.ints : ∀ (xs : List Int), DdL N H (xs.map Dt.int) (xs.map V.int)
  | [] => .nil
  | x :: xs => .cons (.int x) (DdL.ints xs)
end
/-! their classes -/
def Dt.cls : Dt → String
  | .non => "NoneType"
  | .bl _ => "bool"
  | .int _ => "int"
  | .str _ => "str"
  | .tup _ => "tuple"
  | .lst _ => "list"
  | .dct _ => "dict"
theorem Dd.ty {K : PySem.W.Frag} {N : Addr → Prop} {H : Hp} {x : Dt} {v : V} (h : Dd N H x v) : TyX K H v (.type x.cls) := by
  cases h with
  | non => exact .base .non
  | bl b => exact .base (.bl b)
  | int i => exact .base (.int i)
  | str x => exact .base (.str x)
  | tup h _ => exact .base (.tup h)
  | lst _ h _ => exact .base (.lst h)
  | dct _ h => exact .base (.dK h)
def Dt.isTup : Dt → Bool
  | .tup _ => true
  | _ => false
def Dt.isStr : Dt → Bool
  | .str _ => true
  | _ => false
def Dt.isBl : Dt → Bool
  | .bl _ => true
  | _ => false
def Dt.isInt : Dt → Bool
  | .bl _ => true
  | .int _ => true
  | _ => false
def Dt.isLst : Dt → Bool
  | .lst _ => true
  | _ => false
/-- isinstance of such a thing: the answers -/
theorem kTup (K : PySem.W.Frag) : ∀ x : Dt, PySem.W.kitOne K (.type x.cls) (.type "tuple") = some x.isTup := by
  intro x
  cases x <;> (refine kit_ty ?_; simp only [Dt.cls, Dt.isTup]; decide +kernel)
theorem kStr (K : PySem.W.Frag) : ∀ x : Dt, PySem.W.kitOne K (.type x.cls) (.type "str") = some x.isStr := by
  intro x
  cases x <;> (refine kit_ty ?_; simp only [Dt.cls, Dt.isStr]; decide +kernel)
theorem kBl (K : PySem.W.Frag) : ∀ x : Dt, PySem.W.kitOne K (.type x.cls) (.type "bool") = some x.isBl := by
  intro x
  cases x <;> (refine kit_ty ?_; simp only [Dt.cls, Dt.isBl]; decide +kernel)
theorem kInt (K : PySem.W.Frag) : ∀ x : Dt, PySem.W.kitOne K (.type x.cls) (.type "int") = some x.isInt := by
  intro x
  cases x <;> (refine kit_ty ?_; simp only [Dt.cls, Dt.isInt]; decide +kernel)
theorem kLst (K : PySem.W.Frag) : ∀ x : Dt, PySem.W.kitOne K (.type x.cls) (.type "list") = some x.isLst := by
  intro x
  cases x <;> (refine kit_ty ?_; simp only [Dt.cls, Dt.isLst]; decide +kernel)
/-! as data, shown -/
mutual
def Dt.toP : Dt → PyData
  | .non => .none
  | .bl b => .bool b
  | .int i => .int i
  | .str x => .str x
  | .tup xs => .tuple (Dt.toPs xs)
  | .lst xs => .list (Dt.toPs xs)
  | .dct kvs => .dict (dkp kvs)
def Dt.toPs : List Dt → List PyData
  | [] => []
  | x :: xs => x.toP :: Dt.toPs xs
end
section
variable {X : Cx} {pins : List (Addr × Obj)} {σ : L2.St} {H : Hp} {s : Shared} {N : Addr → Prop}
theorem reads_pairs {P : Program} {w : World} {h : Heap} : ∀ {kvs : List (Str × Int)} {vs : List (Key × Value)} {es : List DictEntry}, KV (dkv kvs) vs → Pairs (mixKind P w) es vs → ReadsAll h (es.map (·.key)) ((dkp kvs).map (·.1)) [] ∧ ReadsAll h (es.map (·.val)) ((dkp kvs).map (·.2)) []
  | [], _, _, r, p => by
    unfold KV at r
    cases r
    cases p
    exact ⟨.nil, .nil⟩
  | (x, i) :: kvs, _, _, r, p => by
    unfold KV at r
    cases r with
    | cons hh t =>
      cases p with
      | cons h1 h2 t2 =>
        rename_i q qs e es
        obtain ⟨a, b⟩ := reads_pairs (P := P) (w := w) (h := h) (kvs := kvs) (by unfold KV; exact t) t2
        obtain ⟨g1, tk, g2⟩ := hh
        have h1 : keyIs q.1 e.key = true := h1
        rw [← g1] at h1
        rcases keyIs_shape h1 with ⟨j, u, z, _⟩ | ⟨y, u, z, ek⟩
        · cases z
        cases z
        obtain ⟨k0, v0⟩ := e
        cases ek
        have ev := h2.trans g2
        dsimp only at ev
        subst ev
        exact ⟨.cons (.str _ u) a, .cons (as := []) (.int _ tk) b⟩
/-- a dict, as an object -/
theorem dct_obj (I : Inv X pins σ H s) {a : Addr} {kvs : List (Str × Int)} (h : H a = some (.dK (dkv kvs))) : ∃ o es n, s.heap.get? a = some o ∧ o.cls = .type "dict" ∧ o.data = .dict es n ∧ (a == sysModules) = false ∧ ReadsAll s.heap (es.toList.map (·.key)) ((dkp kvs).map (·.1)) [] ∧ ReadsAll s.heap (es.toList.map (·.val)) ((dkp kvs).map (·.2)) [] := by
  obtain ⟨_, low, vs, kv, o, es, ep, ho, hx, hd, _, pr, _⟩ := dk_of I.hok h
  obtain ⟨r1, r2⟩ := reads_pairs (h := s.heap) kv pr
  exact ⟨o, es, ep, ho, hx.1, hd, low, r1, r2⟩
mutual
theorem Dd.reads (I : Inv X pins σ H s) : ∀ {x : Dt} {v : V}, Dd N H x v → ∀ {u : Value}, RelV v u → ∃ as, Reads s.heap u x.toP as
  | _, _, .non, _, r => by
    cases r
    exact ⟨_, .none⟩
  | _, _, .bl b, _, r => by
    cases r
    exact ⟨_, .bool b⟩
  | _, _, .int i, _, r => by
    obtain ⟨t, rfl⟩ := r
    exact ⟨_, .int i t⟩
  | _, _, .str x, _, r => by
    obtain ⟨t, rfl⟩ := r
    exact ⟨_, .str x t⟩
  | _, _, .tup h t, _, r => by
    cases r
    obtain ⟨its, rv, ⟨o, ho, hc, n, hd⟩, _⟩ := I.tuple (SqT.of h)
    obtain ⟨as, ra⟩ := t.reads I rv
    exact ⟨_, .tuple ho hc hd ra⟩
  | _, _, .lst _ h t, _, r => by
    cases r
    obtain ⟨its, rv, ⟨o, n, ho, hc, _, hd⟩, _⟩ := I.list (SqL.of h)
    obtain ⟨as, ra⟩ := t.reads I rv
    exact ⟨_, .list ho hc hd ra⟩
  | _, _, .dct _ h, _, r => by
    cases r
    obtain ⟨o, es, n, ho, hc, hd, _, h4, h5⟩ := dct_obj I h
    exact ⟨_, .dict ho hc hd h4 h5⟩
theorem DdL.reads (I : Inv X pins σ H s) : ∀ {xs : List Dt} {vs : List V}, DdL N H xs vs → ∀ {us : List Value}, Vals vs us → ∃ as, ReadsAll s.heap us (Dt.toPs xs) as
  | _, _, .nil, _, r => by
    cases r
    exact ⟨_, .nil⟩
  | _, _, .cons h t, _, r => by
    cases r with
    | cons r1 r2 =>
      obtain ⟨as, ra⟩ := h.reads I r1
      obtain ⟨bs, rb⟩ := t.reads I r2
      exact ⟨_, .cons ra rb⟩
end
theorem shownAll_le {xs : List PyData} {n : Nat} (h : ∀ t ∈ PyData.shownAll xs, t.length ≤ n) : ∀ t ∈ PyData.shownAll xs, t.length ≤ n := h
mutual
theorem Dd.reprK (I : Inv X pins σ H s) : ∀ {x : Dt} {v : V}, Dd N H x v → ∀ {u : Value}, RelV v u → x.toP.showable = true → x.toP.shown.length ≤ sizeLine → ∃ bs, ReadAtMost s.heap x.toP.depth bs ∧ ReprK X.prog X.w bs s.heap x.toP.depth u x.toP.shown
  | _, _, .non, _, r, _, _ => by
    cases r
    exact ⟨[], (fun _ h => nomatch h), by simp only [Dt.toP, PyData.shown]; exact .of_is ReprIs.none _ _ _⟩
  | _, _, .bl b, _, r, _, _ => by
    cases r
    exact ⟨[], (fun _ h => nomatch h), by simp only [Dt.toP, PyData.shown]; exact .of_is (ReprIs.bool b) _ _ _⟩
  | _, _, .int i, _, r, hs, _ => by
    obtain ⟨t, rfl⟩ := r
    exact ⟨[], (fun _ h => nomatch h), by simp only [Dt.toP, PyData.shown]; exact .of_is (ReprIs.int t (by simpa [Dt.toP, PyData.showable] using hs)) _ _ _⟩
  | _, _, .str x, _, r, _, hz => by
    obtain ⟨t, rfl⟩ := r
    exact ⟨[], (fun _ h => nomatch h), by simp only [Dt.toP, PyData.shown]; exact .of_is (ReprIs.str x t (by simpa only [Dt.toP, PyData.shown] using hz)) _ _ _⟩
  | _, _, .tup (a := a) (xs := xs) h t, _, r, hs, hz => by
    cases r
    obtain ⟨its, rv, ⟨o, ho, hc, n, hd⟩, _⟩ := I.tuple (SqT.of h)
    have hz' : (tupleText (PyData.shownAll (Dt.toPs xs))).length ≤ sizeLine := by simpa only [Dt.toP, PyData.shown] using hz
    obtain ⟨as, ra⟩ := t.reads I rv
    obtain ⟨bs, hb, hk⟩ := t.reprK I rv (by simpa [Dt.toP, PyData.showable] using hs) (fun t ht => Nat.le_trans (tupleText_mem_le ht) hz')
    have rd : Reads s.heap (.ref a) (.tuple (Dt.toPs xs)) _ := .tuple ho hc hd ra
    have na : a ∉ bs := not_mem_of_deeper rd (by simp only [PyData.depth]; omega) hb
    have le : PyData.depthAll (Dt.toPs xs) ≤ (PyData.tuple (Dt.toPs xs)).depth := by simp only [PyData.depth]; omega
    exact ⟨a :: bs, ReadAtMost.cons rd le hb, by simp only [Dt.toP, PyData.depth, PyData.shown]; exact ReprK.tuple ho hc hd na hk⟩
  | _, _, .lst (a := a) (xs := xs) (vs := vs) _ h t, _, r, hs, hz => by
    cases r
    obtain ⟨its, rv, ⟨o, n, ho, hc, _, hd⟩, _⟩ := I.list (SqL.of h)
    have hz' : (listText (PyData.shownAll (Dt.toPs xs))).length ≤ sizeLine := by simpa only [Dt.toP, PyData.shown] using hz
    obtain ⟨as, ra⟩ := t.reads I rv
    obtain ⟨bs, hb, hk⟩ := t.reprK I rv (by simpa [Dt.toP, PyData.showable] using hs) (fun t ht => Nat.le_trans (listText_mem_le ht) hz')
    have rd : Reads s.heap (.ref a) (.list (Dt.toPs xs)) _ := .list ho hc hd ra
    have na : a ∉ bs := not_mem_of_deeper rd (by simp only [PyData.depth]; omega) hb
    have le : PyData.depthAll (Dt.toPs xs) ≤ (PyData.list (Dt.toPs xs)).depth := by simp only [PyData.depth]; omega
    refine ⟨a :: bs, ReadAtMost.cons rd le hb, ?_⟩
    simp only [Dt.toP, PyData.depth, PyData.shown]
    cases its with
    | nil =>
      cases rv
      cases t
      simp only [Dt.toPs, PyData.shownAll, listText_nil]
      exact ReprK.listEmpty ho hc hd
    | cons y l => exact ReprK.list ho hc hd na (by simpa using hk.length_eq) (fun i y e => hk.item i y (by simpa using e))
  | _, _, .dct (a := a) (kvs := kvs) _ h, _, r, hs, hz => by
    cases r
    obtain ⟨o, es, n, ho, hc, hd, low, h4, h5⟩ := dct_obj I h
    have rd : Reads s.heap (.ref a) (.dict (dkp kvs)) _ := .dict ho hc hd h4 h5
    have hz' : (dictText (PyData.shownKv (dkp kvs))).length ≤ sizeLine := by simpa only [Dt.toP, PyData.shown] using hz
    obtain ⟨hs1, hs2⟩ := PyData.showableKv_split (dkp kvs) (by simpa [Dt.toP, PyData.showable] using hs)
    obtain ⟨b1, hb1, k1⟩ := ReprAllK.of_readsAll (prog := X.prog) (w := X.w) h4 hs1 (fun _ hm => nomatch hm) (fun t ht => let ⟨p, hp, hl⟩ := PyData.shownKv_key_le _ t ht; Nat.le_trans hl (Nat.le_trans (dictText_mem_le hp) hz'))
    obtain ⟨b2, hb2, k2⟩ := ReprAllK.of_readsAll (prog := X.prog) (w := X.w) h5 hs2 (fun _ hm => nomatch hm) (fun t ht => let ⟨p, hp, hl⟩ := PyData.shownKv_val_le _ t ht; Nat.le_trans hl (Nat.le_trans (dictText_mem_le hp) hz'))
    have hb : ReadAtMost s.heap (PyData.depthKv (dkp kvs)) (b1 ++ b2) := (hb1.mono (PyData.depthAll_keys_le _)).append (hb2.mono (PyData.depthAll_vals_le _))
    have le : PyData.depthKv (dkp kvs) ≤ (PyData.dict (dkp kvs)).depth := by simp only [PyData.depth]; omega
    have hna : a ∉ b1 ++ b2 := not_mem_of_deeper rd (by simp only [PyData.depth]; omega) hb
    refine ⟨a :: (b1 ++ b2), ReadAtMost.cons rd le hb, ?_⟩
    simp only [Dt.toP, PyData.depth, PyData.shown, PyData.shownKv_eq]
    exact ReprK.dict ho hc hd low hna (ReprEntriesK.of_two es.toList _ _ (k1.more_le (fun b hb => List.mem_append_left _ hb) (PyData.depthAll_keys_le _)) (k2.more_le (fun b hb => List.mem_append_right _ hb) (PyData.depthAll_vals_le _)))
theorem DdL.reprK (I : Inv X pins σ H s) : ∀ {xs : List Dt} {vs : List V}, DdL N H xs vs → ∀ {us : List Value}, Vals vs us → PyData.showableAll (Dt.toPs xs) = true → (∀ t ∈ PyData.shownAll (Dt.toPs xs), t.length ≤ sizeLine) →
    ∃ bs, ReadAtMost s.heap (PyData.depthAll (Dt.toPs xs)) bs ∧ ReprAllK X.prog X.w bs s.heap (PyData.depthAll (Dt.toPs xs)) us (PyData.shownAll (Dt.toPs xs))
  | _, _, .nil, _, r, _, _ => by
    cases r
    exact ⟨[], (fun _ h => nomatch h), .nil⟩
  | _, _, .cons (x := x) (xs := xs) h t, _, r, hs, hz => by
    cases r with
    | cons r1 r2 =>
      have hs' : x.toP.showable = true ∧ PyData.showableAll (Dt.toPs xs) = true := by simpa [Dt.toPs, PyData.showableAll] using hs
      obtain ⟨as, ha, ka⟩ := h.reprK I r1 hs'.1 (hz _ (by simp [Dt.toPs, PyData.shownAll]))
      obtain ⟨bs, hb, kb⟩ := t.reprK I r2 hs'.2 (fun t ht => hz _ (by simp [Dt.toPs, PyData.shownAll, ht]))
      have m1 : x.toP.depth ≤ PyData.depthAll (Dt.toPs (x :: xs)) := by simp only [Dt.toPs, PyData.depthAll]; omega
      have m2 : PyData.depthAll (Dt.toPs xs) ≤ PyData.depthAll (Dt.toPs (x :: xs)) := by simp only [Dt.toPs, PyData.depthAll]; omega
      refine ⟨as ++ bs, (ha.mono m1).append (hb.mono m2), ?_⟩
      simp only [Dt.toPs, PyData.shownAll]
      exact .cons ((ka.more fun b hb => List.mem_append_left _ hb).level_le m1) (kb.more_le (fun b hb => List.mem_append_right _ hb) m2)
end
/-- it is shown: within the bounds -/
structure Shw (n : Nat) (x : Dt) : Prop where
  ok : x.toP.showable = true
  dp : x.toP.depth ≤ n
  sz : x.toP.shown.length ≤ sizeLine
def rShowU (n : Nat) : List V → Hp → VK → Prop := fun xs H Q => ∃ (v : V) (x : Dt), xs = [v] ∧ Dd Any H x v ∧ Shw n x ∧ Q (.str x.toP.shown) H
theorem call_showU {n : Nat} (g : Still X.A) (hu : X.A.units + (n + 1) < cLine) : CallR X (.builtin "repr") (rShowU n) := by
  intro pins s σ H xs us Q I r h
  obtain ⟨v, x, rfl, hd, sh, q⟩ := h
  cases r with
  | cons r1 r2 =>
    cases r2
    have done : ∀ (h' : Heap) (u tk : Tok), (∀ b o, s.heap.get? b = some o → h'.get? b = some o) → EP X pins σ Q (.str x.toP.shown u) { s with heap := h', toks := tk } := fun h' u tk hk => ⟨.str _, H, I.kept hk, ⟨u, rfl⟩, q⟩
    have dpx := sh.dp
    cases hd with
    | non =>
      cases r1
      exact PySem.P.repr_of_none (done s.heap _ _ fun _ _ e => e)
    | bl b =>
      cases r1
      exact PySem.P.repr_of_bool (by simpa only [Dt.toP, PyData.shown] using done s.heap _ _ fun _ _ e => e)
    | int i =>
      obtain ⟨t, rfl⟩ := r1
      exact PySem.P.repr_of_int (by simpa [Dt.toP, PyData.showable] using sh.ok) (by simpa only [Dt.toP, PyData.shown] using done s.heap _ _ fun _ _ e => e)
    | str y =>
      obtain ⟨t, rfl⟩ := r1
      exact PySem.P.repr_of_str (by simpa only [Dt.toP, PyData.shown] using done s.heap _ _ fun _ _ e => e) (by simpa only [Dt.toP, PyData.shown] using sh.sz)
    | tup h t =>
      rename_i a ys ws
      cases r1
      obtain ⟨its, rv, ⟨o, ho, hc, m, hd⟩, _⟩ := I.tuple (SqT.of h)
      have hz' : (tupleText (PyData.shownAll (Dt.toPs ys))).length ≤ sizeLine := by simpa only [Dt.toP, PyData.shown] using sh.sz
      obtain ⟨as, ra⟩ := t.reads I rv
      obtain ⟨bs, hb, hk⟩ := t.reprK I rv (by simpa [Dt.toP, PyData.showable] using sh.ok) (fun t ht => Nat.le_trans (tupleText_mem_le ht) hz')
      have rd : Reads s.heap (.ref a) (.tuple (Dt.toPs ys)) _ := .tuple ho hc hd ra
      have na : a ∉ bs := not_mem_of_deeper rd (by simp only [PyData.depth]; omega) hb
      have dp : PyData.depthAll (Dt.toPs ys) + 1 ≤ n := by simpa only [Dt.toP, PyData.depth, Nat.add_comm] using dpx
      exact call_repr_slot (by omega) ⟨o, ho, hc⟩ PySem.F.slot_tuple_repr (call_tuple_reprK ho hc hd na hk (A := X.A.in1) g (fun b _ => Clear.nil b) (by show X.A.units + 1 + _ < cLine; omega) (fun _ _ e => e) (fun h' u tk hk' => ⟨_, _, rfl, by simpa only [Dt.toP, PyData.shown] using done h' u tk hk'⟩) hz')
    | lst _ h t =>
      rename_i a ys ws _
      cases r1
      obtain ⟨its, rv, ⟨o, m, ho, hc, _, hd⟩, _⟩ := I.list (SqL.of h)
      have hz' : (listText (PyData.shownAll (Dt.toPs ys))).length ≤ sizeLine := by simpa only [Dt.toP, PyData.shown] using sh.sz
      obtain ⟨as, ra⟩ := t.reads I rv
      obtain ⟨bs, hb, hk⟩ := t.reprK I rv (by simpa [Dt.toP, PyData.showable] using sh.ok) (fun t ht => Nat.le_trans (listText_mem_le ht) hz')
      have rd : Reads s.heap (.ref a) (.list (Dt.toPs ys)) _ := .list ho hc hd ra
      have na : a ∉ bs := not_mem_of_deeper rd (by simp only [PyData.depth]; omega) hb
      have dp : PyData.depthAll (Dt.toPs ys) + 1 ≤ n := by simpa only [Dt.toP, PyData.depth, Nat.add_comm] using dpx
      cases its with
      | nil =>
        cases rv
        cases t
        exact call_repr_slot (by omega) ⟨o, ho, hc⟩ PySem.F.slot_list_repr.toG (call_list_repr_empty ⟨o, ho, hc⟩ ho hd ⟨_, _, rfl, by
          have z := done s.heap s.toks (s.toks + 1) fun _ _ e => e
          simp only [Dt.toP, Dt.toPs, PyData.shown, PyData.shownAll, listText_nil] at z
          exact z⟩)
      | cons y l =>
        exact call_repr_slot (by omega) ⟨o, ho, hc⟩ PySem.F.slot_list_repr.toG (call_list_reprK ho hc hd na (by simpa using hk.length_eq) (fun i y e => hk.item i y (by simpa using e)) (A := X.A.in1) g (fun b _ => Clear.nil b) (by show X.A.units + 1 + _ < cLine; omega) (fun _ _ e => e) (fun h' u tk hk' => ⟨_, _, rfl, by simpa only [Dt.toP, PyData.shown] using done h' u tk hk'⟩) hz')
    | dct _ h =>
      rename_i a kvs _
      cases r1
      obtain ⟨o, es, m, ho, hc, hd, low, h4, h5⟩ := dct_obj I h
      have rd : Reads s.heap (.ref a) (.dict (dkp kvs)) _ := .dict ho hc hd h4 h5
      have hz' : (dictText (PyData.shownKv (dkp kvs))).length ≤ sizeLine := by simpa only [Dt.toP, PyData.shown] using sh.sz
      obtain ⟨hs1, hs2⟩ := PyData.showableKv_split (dkp kvs) (by simpa [Dt.toP, PyData.showable] using sh.ok)
      obtain ⟨b1, hb1, k1⟩ := ReprAllK.of_readsAll (prog := X.prog) (w := X.w) h4 hs1 (fun _ hm => nomatch hm) (fun t ht => let ⟨p, hp, hl⟩ := PyData.shownKv_key_le _ t ht; Nat.le_trans hl (Nat.le_trans (dictText_mem_le hp) hz'))
      obtain ⟨b2, hb2, k2⟩ := ReprAllK.of_readsAll (prog := X.prog) (w := X.w) h5 hs2 (fun _ hm => nomatch hm) (fun t ht => let ⟨p, hp, hl⟩ := PyData.shownKv_val_le _ t ht; Nat.le_trans hl (Nat.le_trans (dictText_mem_le hp) hz'))
      have hb : ReadAtMost s.heap (PyData.depthKv (dkp kvs)) (b1 ++ b2) := (hb1.mono (PyData.depthAll_keys_le _)).append (hb2.mono (PyData.depthAll_vals_le _))
      have hna : a ∉ b1 ++ b2 := not_mem_of_deeper rd (by simp only [PyData.depth]; omega) hb
      have dp : PyData.depthKv (dkp kvs) + 1 ≤ n := by simpa only [Dt.toP, PyData.depth, Nat.add_comm] using dpx
      exact call_repr_slot (by omega) ⟨o, ho, hc⟩ PySem.F.slot_dict_repr (call_dict_reprK ho hc hd low hna (ReprEntriesK.of_two es.toList _ _ (k1.more_le (fun b hb => List.mem_append_left _ hb) (PyData.depthAll_keys_le _)) (k2.more_le (fun b hb => List.mem_append_right _ hb) (PyData.depthAll_vals_le _))) (A := X.A.in1) g (fun b _ => Clear.nil b) (by show X.A.units + 1 + _ < cLine; omega) (fun _ _ e => e) (fun h' u tk hk => ⟨_, _, rfl, by simpa only [Dt.toP, PyData.shown, PyData.shownKv_eq] using done h' u tk hk⟩) (by rw [← PyData.shownKv_eq]; exact hz'))
end
end Kv

namespace Kg
open PySem PySem.Spec PyProof.Rows L2 GxR
/-- a def whose code object is known -/
structure FunC (K : PySem.W.Frag) (x qual : Str) (st : Stmt) (f : Addr) (fd : FuncData) (c : Addr) : Prop where
  ex : ∃ (oc : Value) (od : Option Addr) (kV doc pm : Value) (an : Option Addr) (ct : Value) (osl : Array (Option Value)),
    fd = PySem.W.fnOf x qual (defArgs st) (defBody st) (defScope st) .none kV doc pm an (.ref c) ct ∧ K.lookup f = some ⟨oc, od, .func fd, osl⟩ ∧ PySem.W.codeIn K (.ref c) qual = true
section
variable {P : Program} {w : World} {K : PySem.W.Frag} {mg : Str → Option Value} {base : Heap}
theorem FunC.ok {x qual : Str} {st : Stmt} {f : Addr} {fd : FuncData} {c : Addr} {N ps : List Str} {k : Nat} {sp : Sp} (F : FunC K x qual st f fd c) (S : FnScope N ps (defScope st)) (len : ∀ vs H Q E, sp vs H Q E → vs.length = ps.length)
    (hbody : ∀ (A : Around) (outer : List Env) (s : Shared) (H : Hp) (vs : List V) (Q : VK) (E : XK), Room k (A.deeper (envOfC qual (defScope st) s.heap.objs.size f (.ref c))) → sp vs H Q E →
      ∃ t, PSs (cxOf CX0 P w K mg base N qual (defScope st) f (.ref c) A outer s H E).nox (defBody st) t ∧ t { nx := fun _ H' => Q .non H', rt := Q } (start N vs) H) : FnOk P w K mg base CX0 (k + 1) f fd ps sp := by
  obtain ⟨oc, od, kV, doc, pm, an, ct, osl, rfl, lk, hcd⟩ := F.ex
  refine fn_of lk hcd S len fun A outer s H vs Q E hr hsp => ?_
  obtain ⟨t, h, q⟩ := hbody A outer s H vs Q E hr hsp
  exact ⟨t, h.nox, q⟩
theorem funC_mk {x qual : Str} {st : Stmt} {f c : Addr} {oc : Value} {od an : Option Addr} {osl : Array (Option Value)} {kV doc pm ct : Value} (l : K.lookup f = some ⟨oc, od, .func (PySem.W.fnOf x qual (defArgs st) (defBody st) (defScope st) .none kV doc pm an (.ref c) ct), osl⟩)
    (h : PySem.W.codeIn K (.ref c) qual = true) : FunC K x qual st f (PySem.W.fnOf x qual (defArgs st) (defBody st) (defScope st) .none kV doc pm an (.ref c) ct) c := ⟨⟨oc, od, kV, doc, pm, an, ct, osl, rfl, l, h⟩⟩
end
def gxSB (N : List Str) (sc scope : Scope) (own : List Str) (caps : List (Str × Nat)) : Bool :=
  decide (scope.kind = .function) && !scope.isCoroutine && scope.names.all (fun y => !decide (y.2 = .cell)) && decide (scope.names.lookup (".0" : Str) = some NameKind.local) && decide ((own ++ caps.map (·.1)).Nodup) &&
  caps.all (fun p => decide (N[p.2]? = some p.1) && decide (scope.names.lookup p.1 = some .free)) && scope.names.all (fun y => !decide (y.2 = .free) || decide (sc.names.lookup y.1 = some .cell) || decide (sc.names.lookup y.1 = some .free)) && scope.names.all fun y => decide (scope.names.lookup y.1 = some y.2)
theorem gxS_by {N : List Str} {sc scope : Scope} {own : List Str} {caps : List (Str × Nat)} (h : gxSB N sc scope own caps = true) : GxS N sc scope own caps := by
  unfold gxSB at h
  simp only [Bool.and_eq_true, Bool.or_eq_true, Bool.not_eq_true', decide_eq_true_eq, decide_eq_false_iff_not, List.all_eq_true] at h
  obtain ⟨⟨⟨⟨⟨⟨⟨h1, h2⟩, h3⟩, h4⟩, h5⟩, h6⟩, h7⟩, h8⟩ := h
  refine ⟨h1, h2, h3, h4, h5, h6, fun y hy e => ?_, h8⟩
  rcases h7 y hy with (z | z) | z
  · exact absurd e z
  · exact .inl z
  · exact .inr z
/-! the tables of code objects -/
def TbS (T : List Addr) (H : Hp) : Prop := ∀ p ∈ T, TabG H p
/-- all but the tables stands; they are tables -/
def Sm (T : List Addr) (H G : Hp) : Prop := (∀ b u, b ∉ T → H b = some u → G b = some u) ∧ TbS T G
theorem TbS.same {T : List Addr} {H G : Hp} (t : TbS T H) (s : Same H G) : TbS T G := fun p hp => by
  obtain ⟨ps, h1, h2⟩ := t p hp
  exact ⟨ps, s _ _ h1, h2⟩
theorem Sm.refl {T : List Addr} {H : Hp} (t : TbS T H) : Sm T H H := ⟨fun _ _ _ e => e, t⟩
theorem Sm.of {T : List Addr} {H G : Hp} (s : Same H G) (t : TbS T H) : Sm T H G := ⟨fun b u _ e => s b u e, t.same s⟩
theorem Sm.trans {T : List Addr} {H G F : Hp} (a : Sm T H G) (b : Sm T G F) : Sm T H F := ⟨fun x u h e => b.1 x u h (a.1 x u h e), b.2⟩
theorem Sm.tab {T : List Addr} {H G : Hp} {p : Addr} (hp : p ∈ T) (t : TbS T H) (h : Tabbed p H G) : Sm T H G := by
  refine ⟨fun b u hb e => ?_, fun q hq => ?_⟩
  · rw [h.2 b (fun z => hb (by rw [z]; exact hp))]
    exact e
  · by_cases z : q = p
    · rw [z]
      exact h.1
    · obtain ⟨ps, h1, h2⟩ := t q hq
      exact ⟨ps, by rw [h.2 q z]; exact h1, h2⟩
theorem TbS.off {T : List Addr} {H : Hp} {b : Addr} {u : HO} (t : TbS T H) (e : H b = some u) (n : ∀ ps, u ≠ .tbl ps) : b ∉ T := fun hb => by
  obtain ⟨ps, h1, _⟩ := t b hb
  rw [e] at h1
  exact n ps (Option.some.inj h1)
theorem Sm.at {T : List Addr} {H G : Hp} (a : Sm T H G) (t : TbS T H) {b : Addr} {u : HO} (e : H b = some u) (n : ∀ ps, u ≠ .tbl ps) : G b = some u := a.1 b u (t.off e n) e
theorem Sm.free {T : List Addr} {H G : Hp} {p : Addr} (a : Sm T H G) (h : G p = none) : H p = none := by
  cases e : H p with
  | none => rfl
  | some u =>
    by_cases hp : p ∈ T
    · obtain ⟨ps, h1, _⟩ := a.2 p hp
      rw [h] at h1
      cases h1
    · rw [a.1 p u hp e] at h
      cases h
/-! all over a list, over a tuple -/
section
variable {K : PySem.W.Frag} {a : Addr} {xs : List V} {g : TG} {te : TE} {vs : List Nat} {σ0 : L2.St} {G : Hp} {Qe : Bool → Hp → Prop}
theorem all_list (Pv : Nat → Hp → Prop) (h0 : Pv 0 G) (hl : ∀ i H, i ≤ xs.length → Pv i H → SqL K H a xs)
    (hs : ∀ i x H, xs[i]? = some x → Pv i H → g x σ0 H fun σ2 H2 => wipe σ2 vs = σ0 ∧ te σ2 H2 fun y H4 => ∃ b, y = .bl b ∧ if b = true then Pv (i + 1) H4 else Qe false H4) (hd : ∀ H, Pv xs.length H → Qe true H) :
    ∃ W : Nat → Nat → Hp → Prop, (∃ m, W 0 m G) ∧ Turns (Itl K a) σ0 vs g te Qe W := by
  refine ⟨fun i m F => m = xs.length - i ∧ i ≤ xs.length ∧ Pv i F, ⟨_, rfl, Nat.zero_le _, h0⟩, fun i m F z => ?_⟩
  obtain ⟨rfl, hi, p⟩ := z
  have q := hl i F hi p
  by_cases lt : i < xs.length
  · refine .inr ⟨⟨xs, xs[i], q, List.getElem?_eq_getElem lt⟩, Pv (i + 1), fun F' p' => ⟨xs.length - (i + 1), by omega, rfl, lt, p'⟩, fun x F' y => ?_⟩
    obtain ⟨e, y⟩ := y
    subst e
    exact hs i x _ (y xs q) p
  · have e : i = xs.length := by omega
    subst e
    exact .inl ⟨⟨xs, q, Nat.le_refl _⟩, hd F p⟩
theorem all_tup (Pv : Nat → Hp → Prop) (h0 : Pv 0 G) (hl : ∀ i H, i ≤ xs.length → Pv i H → SqT K H a xs)
    (hs : ∀ i x H, xs[i]? = some x → Pv i H → g x σ0 H fun σ2 H2 => wipe σ2 vs = σ0 ∧ te σ2 H2 fun y H4 => ∃ b, y = .bl b ∧ if b = true then Pv (i + 1) H4 else Qe false H4) (hd : ∀ H, Pv xs.length H → Qe true H) :
    ∃ W : Nat → Nat → Hp → Prop, (∃ m, W 0 m G) ∧ Turns (Itt K a) σ0 vs g te Qe W := by
  refine ⟨fun i m F => m = xs.length - i ∧ i ≤ xs.length ∧ Pv i F, ⟨_, rfl, Nat.zero_le _, h0⟩, fun i m F z => ?_⟩
  obtain ⟨rfl, hi, p⟩ := z
  have q := hl i F hi p
  by_cases lt : i < xs.length
  · refine .inr ⟨⟨xs, xs[i], q, List.getElem?_eq_getElem lt⟩, Pv (i + 1), fun F' p' => ⟨xs.length - (i + 1), by omega, rfl, lt, p'⟩, fun x F' y => ?_⟩
    obtain ⟨e, y⟩ := y
    subst e
    exact hs i x _ (y xs q) p
  · have e : i = xs.length := by omega
    subst e
    exact .inl ⟨⟨xs, q, Nat.le_refl _⟩, hd F p⟩
/-- all over what walks -/
theorem all_it {J : It} {n : Nat} {I : Hp → Prop} {Y : Nat → Hp → V → Hp → Prop} (w : Walk J n I Y) (Pv : Nat → Hp → Prop) (h0 : Pv 0 G) (hl : ∀ i H, i ≤ n → Pv i H → I H)
    (hs : ∀ i x H H', i < n → Pv i H → Y i H x H' → g x σ0 H' fun σ2 H2 => wipe σ2 vs = σ0 ∧ te σ2 H2 fun y H4 => ∃ b, y = .bl b ∧ if b = true then Pv (i + 1) H4 else Qe false H4) (hd : ∀ H, Pv n H → Qe true H) :
    ∃ W : Nat → Nat → Hp → Prop, (∃ m, W 0 m G) ∧ Turns J σ0 vs g te Qe W := by
  refine ⟨fun i m F => m = n - i ∧ i ≤ n ∧ Pv i F, ⟨_, rfl, Nat.zero_le _, h0⟩, fun i m F z => ?_⟩
  obtain ⟨rfl, hi, p⟩ := z
  have q := hl i F hi p
  by_cases lt : i < n
  · exact .inr ⟨w.goes i F lt q, Pv (i + 1), fun F' p' => ⟨n - (i + 1), by omega, rfl, lt, p'⟩, fun x F' y => hs i x F F' lt p (w.yields i F x F' lt q y)⟩
  · have e : i = n := by omega
    subst e
    exact .inl ⟨w.stops F q, hd F p⟩
theorem Sm.kn {T : List Addr} {N : Addr → Prop} {H G : Hp} (a : Sm T H G) (t : TbS T H) : Kv.Kn N H G :=
  ⟨fun b xs e => a.at t e (fun ps z => by cases z), fun b xs _ e => a.at t e (fun ps z => by cases z), fun b xs _ e => a.at t e (fun ps z => by cases z)⟩
theorem Sm.new {T : List Addr} {H G : Hp} {p : Addr} {o : HO} (a : Sm T H G) (h : H p = none) (tb : TbS T H) : Sm T H (upd G p o) := by
  refine ⟨fun b u hb e => ?_, fun q hq => ?_⟩
  · rw [upd_ne (ne_of_none e h)]
    exact a.1 b u hb e
  · obtain ⟨ps, h1, h2⟩ := a.2 q hq
    obtain ⟨ps0, h10, _⟩ := tb q hq
    exact ⟨ps, by rw [upd_ne (ne_of_none h10 h)]; exact h1, h2⟩
end
end Kg

/-! dict(..) of a tuple of pairs, a tuple of two turned about -/
namespace Kt
open PySem PySem.Spec PyProof.Rows L2
section
variable {X : Cx}
/-- tuple(l): the object is known -/
theorem call_tupleF : CallR X (.type "tuple") (fun xs H Q => ∃ p ys, xs = [.ref p] ∧ SqL X.K H p ys ∧ ∀ l (o : Obj), H l = none → o.dict = none → o.cls = .type "tuple" → Q (.ref l) (upd H l (.frz o (.tup ys)))) := by
  intro pins s σ H xs us Q I r h
  obtain ⟨p, ys, rfl, hq, q⟩ := h
  obtain ⟨u, rfl, rx⟩ := vals1 r
  cases rx
  obtain ⟨its, r', pl, hz⟩ := I.list hq
  have hlen := r'.length
  refine call_tuple_list pl.isList (fun h' kp => ?_) (by simp only [List.size_toArray] <;> omega)
  have I1 : Inv X pins σ H { s with heap := h' } := I.kept (t' := s.toks) kp
  have I2 : Inv X pins σ (upd H h'.objs.size (.frz { cls := .type "tuple", data := .seq its.toArray } (.tup ys))) { s with heap := h'.push { cls := .type "tuple", data := .seq its.toArray } } :=
    I1.laid (t' := s.toks) (fun b o e => Heap.get?_push_of_some _ e) (Nat.le_refl _) (show ObjOk X.prog X.w _ _ _ (.frz _ (.tup ys)) from ⟨Heap.get?_push_size _ rfl, hz, its, r', IsTup.new _ _⟩)
  exact ⟨.ref h'.objs.size, _, I2, rfl, q _ _ (I1.hok.fresh (Nat.le_refl _)) rfl rfl⟩
/-- () -/
def tTup0 : TE := fun _ H Q => ∀ p (o : Obj), H p = none → o.dict = none → o.cls = .type "tuple" → Q (.ref p) (upd H p (.frz o (.tup [])))
theorem pe_tup0 {x1 : Nat} {pos : Pos} : PE X (.Tuple [] x1 pos) tTup0 := by
  refine ⟨fun pins s σ H Q I h => ?_⟩
  refine wpAny_Tuple_spliced (thn ((pa_nil (X := X)).run pos pins s σ H (fun xs H1 => xs = [] ∧ H1 = H) I ⟨rfl, rfl⟩) fun us s1 ⟨xs, H1, I1, r, e1, e2⟩ => ?_)
  subst e1 e2
  cases r
  refine ⟨Nat.zero_le _, ?_⟩
  refine ⟨.ref s1.heap.objs.size, _, I1.laid (t' := s1.toks) (o := .frz { cls := .type "tuple", data := .seq ([] : List Value).toArray } (.tup [])) (fun b u e => Heap.get?_push_of_some _ e) (Nat.le_refl _) ?_, rfl, h _ _ (I1.hok.fresh (Nat.le_refl _)) rfl rfl⟩
  exact ⟨Heap.get?_push_size _ rfl, Nat.zero_le _, [], .nil, IsTup.new _ _⟩
theorem raws_of {pins : List (Addr × Obj)} {σ : L2.St} {H : Hp} {s : Shared} (I : Inv X pins σ H s) : ∀ {ps : List Addr} {kvs : List (Key × V)}, Paired (fun p kv => SqT X.K H p [kV kv.1, kv.2]) ps kvs →
    ∃ (prs : List (Key × Value)) (raws : List (Value × Value)), KV kvs prs ∧ prs.length = ps.length ∧ raws.length = ps.length ∧ ∀ (j : Nat) (u v : Value), raws[j]? = some (u, v) → ∃ (b : Addr) (k : Key), ps[j]? = some b ∧ IsTup s.heap b #[u, v] ∧ prs[j]? = some (k, v) ∧ keyIs k u = true
  | _, _, .nil => ⟨[], [], .nil, rfl, rfl, fun j u v e => by simp at e⟩
  | _, _, .cons (a := p) (b := kv) h t => by
    obtain ⟨prs, raws, r, hl, hl2, hp⟩ := raws_of I t
    obtain ⟨its, rv, ht, _⟩ := I.tuple h
    obtain ⟨u, y, ei, ru, ry⟩ := vals2 rv
    subst ei
    refine ⟨(kv.1, y) :: prs, (u, y) :: raws, .cons ⟨rfl, ry⟩ r, by rw [List.length_cons, List.length_cons, hl], by rw [List.length_cons, List.length_cons, hl2], fun j u' v' e => ?_⟩
    cases j with
    | zero =>
      have e' : (u, y) = (u', v') := Option.some.inj e
      cases e'
      exact ⟨p, kv.1, rfl, ht, rfl, kV_is (P := X.prog) (w := X.w) ru⟩
    | succ j =>
      obtain ⟨b, k, e1, e2, e3, e4⟩ := hp j u' v' (by simpa using e)
      exact ⟨b, k, by simpa using e1, e2, by simpa using e3, e4⟩
/-- dict(t) of a tuple of pairs -/
theorem call_dictF (hcalm : X.calm = true) : CallR X (.type "dict") (fun xs H Q => ∃ (a : Addr) (o : Obj) (ps : List Addr) (kvs : List (Key × V)), xs = [.ref a] ∧ H a = some (.frz o (.tup (ps.map V.ref))) ∧ o.dict = none ∧ o.cls = .type "tuple" ∧ Paired (fun p kv => SqT X.K H p [kV kv.1, kv.2]) ps kvs ∧
    ∀ p, H p = none → Q (.ref p) (upd H p (.dK (mergeK [] kvs)))) := by
  intro pins s σ H xs us Q I r q
  obtain ⟨a, o, ps, kvs, ex, hq, hod, hoc, hp, q⟩ := q
  subst ex
  obtain ⟨u, eu, rx⟩ := vals1 r
  subst eu
  cases rx
  obtain ⟨ho, hz, its, rv, o2, ho2, hc2, n2, hdat⟩ := I.hok a _ hq
  rw [ho] at ho2
  cases ho2
  have ei := refs_at rv
  subst ei
  rw [List.length_map] at hz
  obtain ⟨prs, raws, rel, hl, hl2, hpr⟩ := raws_of I hp
  have PA := PairArg.tuple (prog := X.prog) (w := X.w) a (ps.map Value.ref).toArray (fun j => (ps[j]?).getD 0) raws
  refine PySem.call_dict_pairs (knd := mixKind X.prog X.w) (kvs := prs) PA (I.ok.hd hcalm) ⟨⟨o, n2, ho, hoc, hod, hdat⟩, by simp [hl2], fun j k v e => ?_⟩ ⟨by rw [hl, hl2], fun i key v e => ?_⟩ (by rw [hl2]; exact hz) fun h' tk hd' k => ?_
  · obtain ⟨b, kk, e1, e2, e3, e4⟩ := hpr j k v e
    refine ⟨by simp [e1], .inl ?_⟩
    show s.heap.IsTuple ((ps[j]?).getD 0) #[k, v]
    rw [e1]
    exact e2
  · obtain ⟨b, kk, e1, e2, e3, e4⟩ := hpr i key v e
    exact ⟨kk, e3, e4⟩
  · have hm : (s.heap.objs.size == sysModules) = false := beq_eq_false_iff_ne.mpr (Nat.ne_of_gt I.big)
    have hlen : (mergeK [] kvs).length ≤ sizeLine := by
      refine Nat.le_trans (length_mergeK kvs []) ?_
      rw [List.length_nil, Nat.zero_add, rel.length, hl]
      exact hz
    exact ⟨.ref s.heap.objs.size, upd H s.heap.objs.size (.dK (mergeK [] kvs)), I.laid (t' := tk) (fun b o e => k b o (by simp) e) (Nat.le_refl _) (show ObjOk X.prog X.w _ _ _ (.dK (mergeK [] kvs)) from ⟨hlen, hm, merged [] prs, KV.merge rel .nil, hd'⟩), rfl, q _ (I.hok.fresh (Nat.le_refl _))⟩
end
/-! t[::-1], t of two -/
section
variable {prog : Program} {w : World} {A : Around} {E : Value → Shared → Prop} {s : Shared}
theorem getItem_two {t sl : Addr} {x y vl vu vs : Value} {Q : Value → Shared → Prop} (ht : IsTup s.heap t #[x, y]) (hs : s.heap.IsSliceOf sl vl vu vs) (pl : IsPart vl none) (pu : IsPart vu none) (ps : IsPart vs (some (-1)))
    (h : Q (.ref s.heap.objs.size) { s with heap := s.heap.push { cls := .type "tuple", data := .seq #[y, x] } }) : wpAny (model prog w) A (getItem (.ref t) (.ref sl)) Q E s := by
  have htake : sizeOk (.seq #[y, x]) := by
    show 2 ≤ sizeLine
    decide
  obtain ⟨os, hos, hcs, hds⟩ := id hs
  have hTs : s.TypeIs (.ref sl) "slice" := ⟨os, hos, hcs⟩
  unfold getItem
  try with_reducible refine wpAny_holding ?_
  first | refine wpAny_bind (wpAny_pure ?_) | skip
  refine wpAny_bind (wpAny_sequenceKey ht.typeIs (by decide) ?_)
  refine wpAny_bind (wpAny_callSpecial?_slot (name := Str.ofString "__getitem__") ht.typeIs PyProof.Rows.slot_tuple_getitem
    (wpAny_call_entry PyProof.Rows.slot_tuple_getitem ht.typeIs entry_tuple_getitem ?_ (args_tuple_getitem _ _)))
  show wpAny _ _ (Builtin.Tuple.tupleItemsOf (.ref t) >>= _) _ _ s
  refine wpAny_bind (tupleItemsOf_ ht ?_)
  refine wpAny_bind (wpAny_typeOf hTs ?_)
  rw [if_pos (by decide)]
  refine wpAny_bind ?_
  unfold Builtin.Slice.sliceApplied Builtin.Slice.sliceFields
  refine wpAny_bind (wpAny_bind (wpAny_field hos hds (x := vl) rfl (wpAny_bind (wpAny_field hos hds (x := vu) rfl (wpAny_bind (wpAny_field hos hds (x := vs) rfl (wpAny_pure ?_)))))))
  refine wpAny_bind (HT.slicePart_ ps ?_)
  show wpAny _ _ (if ((-1 : Int) == 0) = true then _ else _) _ _ s
  rw [if_neg (by decide)]
  refine wpAny_bind (HT.slicePart_ pl (wpAny_bind (HT.slicePart_ pu (wpAny_bind (wpAny_pure ?_)))))
  refine wpAny_pure ?_
  show wpAny _ _ (if (((1 : Int) == 0 && (-1 : Int) == 1 && (2 : Nat) == 2) = true) then _ else _) _ _ s
  rw [if_neg (by decide)]
  generalize hA : (List.filterMap _ (List.range _)).toArray = arr
  have eA : arr = #[y, x] := by
    rw [← hA]
    first
      | rfl
      | kernel_rfl
      | with_unfolding_all rfl
  subst eA
  show wpAny _ _ (Builtin.Tuple.tupleExact #[y, x] >>= fun v => ret v) _ _ s
  have e : ((List.range 2).filterMap fun (m : Nat) => (#[x, y] : Array Value)[((1 : Int) + (m : Int) * (-1)).toNat]?).toArray = #[y, x] := rfl
  first
    | exact wpAny_bind (m := Builtin.Tuple.tupleExact _) (wpAny_newObj_type (wpAny_pure ⟨_, rfl, wpAny_pure h⟩) htake)
    | exact wpAny_bind (m := Builtin.Tuple.tupleExact _) (wpAny_newObj_type (wpAny_bind (wpAny_pure (wpAny_pure ⟨_, rfl, wpAny_pure h⟩))) htake)
    | exact wpAny_bind (wpAny_bind (m := Builtin.Tuple.tupleExact _) (wpAny_newObj_type (wpAny_pure (wpAny_pure ⟨_, rfl, wpAny_pure h⟩)) htake))
    | exact wpAny_bind (wpAny_bind (m := Builtin.Tuple.tupleExact _) (wpAny_newObj_type (wpAny_pure ⟨_, rfl, wpAny_pure h⟩) htake))
end
section
variable {X : Cx}
def tRev2 (K : PySem.W.Frag) (te : TE) : TE := fun σ H Q => te σ H fun x H1 => ∃ a y z, x = .ref a ∧ SqT K H1 a [y, z] ∧ ∀ p, H1 p = none → Q (.ref p) (upd H1 p (.tup [z, y]))
theorem pe_rev2 {e : Expr} {te : TE} {k : Nat} {p1 p2 p3 pos : Pos} (he : PE X e te) : PE X (.Subscript e (.Slice none none (some (.UnaryOp .USub (.Constant (.int 1) k p1) p2)) p3) pos) (tRev2 X.K te) := by
  refine ⟨fun pins s σ H Q I h => ?_⟩
  refine Subscript_ (thn (he.run pins s σ H _ I h) fun v s1 ⟨x, H1, I1, r1, q1⟩ => ?_)
  obtain ⟨a, y, z, ex, hx, q⟩ := q1
  subst ex
  cases r1
  have hst : PO X (some (.UnaryOp .USub (.Constant (.int 1) k p1) p2)) (tPart (tUn (rU fun i => .int (-i)) (tC (.int 1)))) := po_some (pe_un un_neg pe_int)
  refine wpAny_Slice (thn (po_none.run pins s1 σ H1 (fun o H2 => o = none ∧ H2 = H1) I1 ⟨rfl, rfl⟩) fun vl s2 ⟨l, H2, I2, pl, el, e2⟩ => ?_)
  subst el e2
  refine thn (po_none.run pins s2 σ H2 (fun o H3 => o = none ∧ H3 = H2) I2 ⟨rfl, rfl⟩) fun vu s3 ⟨u, H3, I3, pu, eu, e3⟩ => ?_
  subst eu e3
  refine thn (hst.run pins s3 σ H3 (fun o H4 => o = some (-1) ∧ H4 = H3) I3 ⟨1, rfl, -1, rfl, rfl, rfl⟩) fun vs s4 ⟨o, H4, I4, ps, eo, e4⟩ => ?_
  subst eo e4
  have I5 : Inv X pins σ H4 { s4 with heap := s4.heap.push { cls := .type "slice", data := .fields #[vl, vu, vs] } } := I4.kept (t' := s4.toks) fun b ob q => Heap.get?_push_of_some _ q
  obtain ⟨its, r, ht, hz⟩ := I5.tuple hx
  obtain ⟨yv, zv, ei, ry, rz⟩ := vals2 r
  subst ei
  show wpAny (model X.prog X.w) X.A (subscriptTail e (.Slice none none (some (.UnaryOp .USub (.Constant (.int 1) k p1) p2)) p3) (.ref a) (.ref s4.heap.objs.size)) (EP X pins σ Q) X.xe { s4 with heap := s4.heap.push { cls := .type "slice", data := .fields #[vl, vu, vs] } }
  refine tail_any (ops := [.ref a, .ref s4.heap.objs.size]) ht.typeIs (PyProof.Rows.slot_tuple_getitem.lookup) ?_ (by with_unfolding_all rfl)
  refine getItem_two ht (Heap.IsSliceOf.new _ vl vu vs) pl pu ps ?_
  refine ⟨.ref _, _, I5.laid (t' := s4.toks) (o := .tup [z, y]) (fun b ob q => Heap.get?_push_of_some _ q) (Nat.le_refl _) ?_, rfl, q _ (I5.hok.fresh (Nat.le_refl _))⟩
  exact ⟨by show 2 ≤ sizeLine; decide, [zv, yv], .cons rz (.cons ry .nil), IsTup.new _ _⟩
end
end Kt

/-! further rules: == of tuples by texts, enumerate of a tuple, a text many times, a tuple turned about -/
namespace Kv
open PySem PySem.Spec PyProof.Rows L2 Kf
theorem vals_at : ∀ {xs : List V} {us : List Value} {i : Nat} (h : i < us.length), Vals xs us → ∃ x, xs[i]? = some x ∧ RelV x us[i]
  | _, _, i, h, .nil => absurd h (Nat.not_lt_zero _)
  | _, _, 0, h, .cons r t => ⟨_, rfl, r⟩
  | _, _, i + 1, h, .cons r t => by
    obtain ⟨x, e, q⟩ := vals_at (i := i) (Nat.lt_of_succ_lt_succ h) t
    exact ⟨x, e, q⟩
/-- at places that both have stand texts -/
def BothTxt (xs ys : List V) : Prop := ∀ (i : Nat) (u v : V), xs[i]? = some u → ys[i]? = some v → ∃ a b : Str, u = .str a ∧ v = .str b
def rEqTT (K : PySem.W.Frag) : R2 := fun x y H Q => ∃ (a b : Addr) (xs ys : List V), x = .ref a ∧ y = .ref b ∧ SqT K H a xs ∧ SqT K H b ys ∧ BothTxt xs ys ∧ Q (.bl (decide (xs = ys))) H
theorem op_eqTT {X : Cx} (hu : X.A.units + 64 < cLine) : OpR X (compareOp .Eq) (rEqTT X.K) := by
  intro pins s σ H x y v u Q I rx ry h
  obtain ⟨a, b, xs, ys, rfl, rfl, ha, hb, bt, q⟩ := h
  cases rx
  cases ry
  obtain ⟨is, r1, ⟨o1, h1, c1, n1, d1⟩, _⟩ := I.tuple ha
  obtain ⟨js, r2, ⟨o2, h2, c2, n2, d2⟩, _⟩ := I.tuple hb
  have l1 := r1.length
  have l2 := r2.length
  refine PySem.SeqAt.eq_tupleAt (e := fun i => decide (xs[i]? = ys[i]?)) ⟨o1, h1, c1, n1, d1⟩ ⟨o2, h2, c2, n2, d2⟩ (by omega) (fun j j1 j2 => ?_) ?_
  · have j1' : j < is.length := by simpa using j1
    have j2' : j < js.length := by simpa using j2
    obtain ⟨p, ep, rp⟩ := vals_at j1' r1
    obtain ⟨p', ep', rp'⟩ := vals_at j2' r2
    obtain ⟨sa, sb, rfl, rfl⟩ := bt j p p' ep ep'
    obtain ⟨t1, e1⟩ := rp
    obtain ⟨t2, e2⟩ := rp'
    have z := PySem.SeqAt.EqAt.str_str (A := X.A.in1) (s := s) sa t1 sb t2
    simp only [List.getElem_toArray, e1, e2, ep, ep']
    have e : decide (some (V.str sa) = some (V.str sb)) = (sa == sb) := by
      by_cases c : sa = sb
      · subst c
        simp
      · have : ¬ some (V.str sa) = some (V.str sb) := fun z => c (V.str.inj (Option.some.inj z))
        rw [decide_eq_false this]
        exact (beq_eq_false_iff_ne.mpr c).symm
    rw [e]
    exact z
  · have e : ((List.range (min is.toArray.size js.toArray.size)).all (fun i => decide (xs[i]? = ys[i]?)) && is.toArray.size == js.toArray.size) = decide (xs = ys) := by
      rw [List.size_toArray, List.size_toArray, ← l1, ← l2]
      by_cases c : xs = ys
      · subst c
        simp
      · rw [decide_eq_false c]
        by_cases cl : xs.length = ys.length
        · rw [Bool.and_eq_false_iff]
          left
          rw [← Bool.not_eq_true, List.all_eq_true]
          intro all
          refine c (List.ext_getElem? fun i => ?_)
          by_cases hi : i < xs.length
          · exact of_decide_eq_true (all i (List.mem_range.mpr (by omega)))
          · rw [List.getElem?_eq_none (by omega), List.getElem?_eq_none (by omega)]
        · rw [Bool.and_eq_false_iff]
          right
          exact beq_eq_false_iff_ne.mpr cl
    rw [e]
    exact ⟨.bl _, H, I, rfl, q⟩
/-! a text many times -/
theorem fold_app : ∀ (l : List (Array Nat)) (acc : Array Nat), (l.foldl (· ++ ·) acc).toList = acc.toList ++ (l.map Array.toList).flatten
  | [], acc => by simp
  | x :: l, acc => by
    rw [List.foldl_cons, fold_app l]
    simp [Array.toList_append, List.append_assoc]
theorem mul_cps (z : Str) (n : Nat) : (∀ c ∈ (Txt.mul z (n : Int)).cps.toList, c ∈ z.cps.toList) ∧ (Txt.mul z (n : Int)).cps.toList.length ≤ z.cps.toList.length * n := by
  unfold Txt.mul
  by_cases h1 : (n : Int) < 1
  · rw [if_pos h1]
    exact ⟨fun c h => absurd h (by simp [Str.empty]), by simp [Str.empty]⟩
  rw [if_neg h1]
  by_cases h2 : ((n : Int) == 1 || z.length == 0) = true
  · rw [if_pos h2]
    exact ⟨fun c h => h, Nat.le_mul_of_pos_right _ (by omega)⟩
  rw [if_neg h2]
  show (∀ c ∈ ((List.replicate (n : Int).toNat z.cps).foldl (· ++ ·) #[]).toList, c ∈ z.cps.toList) ∧ ((List.replicate (n : Int).toNat z.cps).foldl (· ++ ·) #[]).toList.length ≤ _
  rw [fold_app, Int.toNat_natCast, List.map_replicate]
  refine ⟨fun c h => ?_, ?_⟩
  · have h' : c ∈ (List.replicate n z.cps.toList).flatten := by simpa using h
    obtain ⟨l, hl, hc⟩ := List.mem_flatten.mp h'
    rw [(List.mem_replicate.mp hl).2] at hc
    exact hc
  · have e : ((#[] : Array Nat).toList ++ (List.replicate n z.cps.toList).flatten).length = n * z.cps.toList.length := by simp
    rw [e, Nat.mul_comm]
    exact Nat.le_refl _
def rMulS : R2 := fun x y H Q => ∃ (z : Str) (n : Nat), x = .str z ∧ y = .int (n : Int) ∧ n ≤ 1000 ∧ z.length ≤ sizeLine ∧ z.length * n ≤ sizeLine ∧ Q (.str (Txt.mul z (n : Int))) H
theorem op_mulS {X : Cx} : OpR X (binaryOp .Mult) rMulS := by
  intro pins s σ H x y v u Q I rx ry h
  obtain ⟨z, n, rfl, rfl, hn, hz0, hz1, q⟩ := h
  have hz : z.length ≤ 16777216 := hz0
  obtain ⟨t1, rfl⟩ := rx
  obtain ⟨t2, rfl⟩ := ry
  refine SB.mul (x := z) (n := (n : Int)) ⟨?_, fun h1 _ => ?_, fun h1 _ => ?_⟩ fun t' k => ⟨.str _, H, I.tok _, ⟨t', rfl⟩, q⟩
  · have a : decide ((n : Int) < -(2 ^ 63 : Int)) = false := decide_eq_false (by omega)
    have b : decide ((n : Int) ≥ 2 ^ 63) = false := decide_eq_false (by omega)
    rw [a, b]
    rfl
  · have h0 : (0 : Int) < (n : Int) := by omega
    have h3 : (16777216 : Int) ≤ (2 ^ 63 - 1) / (n : Int) := by
      rw [Int.le_ediv_iff_mul_le h0]
      omega
    omega
  · have le : z.length * (n : Int).toNat ≤ 16777216 := by
      rw [Int.toNat_natCast]
      exact hz1
    unfold Builtin.Str.tooLong
    exact decide_eq_false (by have : sizeLine = 16777216 := rfl; omega)
/-! a tuple turned about -/
theorem fm_congr {α β : Type} {f g : α → Option β} : ∀ {l : List α}, (∀ x ∈ l, f x = g x) → l.filterMap f = l.filterMap g
  | [], _ => rfl
  | x :: l, h => by
    rw [List.filterMap_cons, List.filterMap_cons, h x List.mem_cons_self, fm_congr fun y hy => h y (List.mem_cons_of_mem _ hy)]
section
variable {prog : Program} {w : World} {A : Around} {E : Value → Shared → Prop} {s : Shared}
theorem getItem_back {t sl : Addr} {its : Array Value} {vl vu vs : Value} {Q : Value → Shared → Prop} (ht : IsTup s.heap t its) (hz : its.size ≤ sizeLine) (hs : s.heap.IsSliceOf sl vl vu vs) (pl : IsPart vl none) (pu : IsPart vu none) (ps : IsPart vs (some (-1)))
    (h : Q (.ref s.heap.objs.size) { s with heap := s.heap.push { cls := .type "tuple", data := .seq its.toList.reverse.toArray } }) : wpAny (model prog w) A (getItem (.ref t) (.ref sl)) Q E s := by
  have htake : sizeOk (.seq its.toList.reverse.toArray) := by
    show its.toList.reverse.toArray.size ≤ sizeLine
    simpa using hz
  obtain ⟨os, hos, hcs, hds⟩ := id hs
  have hTs : s.TypeIs (.ref sl) "slice" := ⟨os, hos, hcs⟩
  unfold getItem
  try with_reducible refine wpAny_holding ?_
  first | refine wpAny_bind (wpAny_pure ?_) | skip
  refine wpAny_bind (wpAny_sequenceKey ht.typeIs (by decide) ?_)
  refine wpAny_bind (wpAny_callSpecial?_slot (name := Str.ofString "__getitem__") ht.typeIs PyProof.Rows.slot_tuple_getitem
    (wpAny_call_entry PyProof.Rows.slot_tuple_getitem ht.typeIs entry_tuple_getitem ?_ (args_tuple_getitem _ _)))
  show wpAny _ _ (Builtin.Tuple.tupleItemsOf (.ref t) >>= _) _ _ s
  refine wpAny_bind (tupleItemsOf_ ht ?_)
  refine wpAny_bind (wpAny_typeOf hTs ?_)
  rw [if_pos (by decide)]
  refine wpAny_bind ?_
  unfold Builtin.Slice.sliceApplied Builtin.Slice.sliceFields
  refine wpAny_bind (wpAny_bind (wpAny_field hos hds (x := vl) rfl (wpAny_bind (wpAny_field hos hds (x := vu) rfl (wpAny_bind (wpAny_field hos hds (x := vs) rfl (wpAny_pure ?_)))))))
  refine wpAny_bind (HT.slicePart_ ps ?_)
  show wpAny _ _ (if ((-1 : Int) == 0) = true then _ else _) _ _ s
  rw [if_neg (by decide)]
  refine wpAny_bind (HT.slicePart_ pl (wpAny_bind (HT.slicePart_ pu (wpAny_bind (wpAny_pure ?_)))))
  refine wpAny_pure ?_
  have en : Builtin.Slice.slicePlaces ((its.size : Int) - 1) (-1) (-1) = its.size := by
    unfold Builtin.Slice.slicePlaces
    simp only [show ¬ ((-1 : Int) > 0) by decide, if_false, show (- -1 : Int) = 1 by decide, Int.ediv_one]
    split <;> omega
  show wpAny _ _ (if ((((its.size : Int) - 1) == 0 && (-1 : Int) == 1 && Builtin.Slice.slicePlaces ((its.size : Int) - 1) (-1) (-1) == its.size) = true) then _ else _) _ _ s
  rw [if_neg (by simp)]
  generalize hA : (List.filterMap _ (List.range _)).toArray = arr
  have hA' : (List.filterMap (fun k : Nat => its[(((its.size : Int) - 1) + (k : Int) * (-1)).toNat]?) (List.range (Builtin.Slice.slicePlaces ((its.size : Int) - 1) (-1) (-1)))).toArray = arr := hA
  have eA : arr = its.toList.reverse.toArray := by
    rw [← hA', en]
    have e : List.filterMap (fun k : Nat => its[(((its.size : Int) - 1) + (k : Int) * (-1)).toNat]?) (List.range its.size) = List.filterMap (its[·]?) ((List.range its.size).map fun k => its.size - 1 - k) := by
      rw [List.filterMap_map]
      refine fm_congr fun k hk => ?_
      have := List.mem_range.mp hk
      show its[(((its.size : Int) - 1) + (k : Int) * (-1)).toNat]? = its[its.size - 1 - k]?
      have e2 : (((its.size : Int) - 1) + (k : Int) * (-1)).toNat = its.size - 1 - k := by omega
      rw [e2]
    rw [e, PySem.W.krv_range, List.filterMap_reverse, PySem.W.krv_all]
  subst eA
  show wpAny _ _ (Builtin.Tuple.tupleExact its.toList.reverse.toArray >>= fun v => ret v) _ _ s
  first
    | exact wpAny_bind (m := Builtin.Tuple.tupleExact _) (wpAny_newObj_type (wpAny_pure ⟨_, rfl, wpAny_pure h⟩) htake)
    | exact wpAny_bind (m := Builtin.Tuple.tupleExact _) (wpAny_newObj_type (wpAny_bind (wpAny_pure (wpAny_pure ⟨_, rfl, wpAny_pure h⟩))) htake)
end
section
variable {X : Cx}
def tRevT (K : PySem.W.Frag) (te : TE) : TE := fun σ H Q => te σ H fun x H1 => ∃ (a : Addr) (xs : List V), x = .ref a ∧ SqT K H1 a xs ∧ ∀ p, H1 p = none → Q (.ref p) (upd H1 p (.tup xs.reverse))
theorem pe_revT {e : Expr} {te : TE} {k : Nat} {p1 p2 p3 pos : Pos} (he : PE X e te) : PE X (.Subscript e (.Slice none none (some (.UnaryOp .USub (.Constant (.int 1) k p1) p2)) p3) pos) (tRevT X.K te) := by
  refine ⟨fun pins s σ H Q I h => ?_⟩
  refine Subscript_ (thn (he.run pins s σ H _ I h) fun v s1 ⟨x, H1, I1, r1, q1⟩ => ?_)
  obtain ⟨a, xs, ex, hx, q⟩ := q1
  subst ex
  cases r1
  have hst : PO X (some (.UnaryOp .USub (.Constant (.int 1) k p1) p2)) (tPart (tUn (rU fun i => .int (-i)) (tC (.int 1)))) := po_some (pe_un un_neg pe_int)
  refine wpAny_Slice (thn (po_none.run pins s1 σ H1 (fun o H2 => o = none ∧ H2 = H1) I1 ⟨rfl, rfl⟩) fun vl s2 ⟨l, H2, I2, pl, el, e2⟩ => ?_)
  subst el e2
  refine thn (po_none.run pins s2 σ H2 (fun o H3 => o = none ∧ H3 = H2) I2 ⟨rfl, rfl⟩) fun vu s3 ⟨u, H3, I3, pu, eu, e3⟩ => ?_
  subst eu e3
  refine thn (hst.run pins s3 σ H3 (fun o H4 => o = some (-1) ∧ H4 = H3) I3 ⟨1, rfl, -1, rfl, rfl, rfl⟩) fun vs s4 ⟨o, H4, I4, ps, eo, e4⟩ => ?_
  subst eo e4
  have I5 : Inv X pins σ H4 { s4 with heap := s4.heap.push { cls := .type "slice", data := .fields #[vl, vu, vs] } } := I4.kept (t' := s4.toks) fun b ob q => Heap.get?_push_of_some _ q
  obtain ⟨its, r, ht, hz⟩ := I5.tuple hx
  have lr := r.length
  show wpAny (model X.prog X.w) X.A (subscriptTail e (.Slice none none (some (.UnaryOp .USub (.Constant (.int 1) k p1) p2)) p3) (.ref a) (.ref s4.heap.objs.size)) (EP X pins σ Q) X.xe { s4 with heap := s4.heap.push { cls := .type "slice", data := .fields #[vl, vu, vs] } }
  refine tail_any (ops := [.ref a, .ref s4.heap.objs.size]) ht.typeIs (PyProof.Rows.slot_tuple_getitem.lookup) ?_ (by with_unfolding_all rfl)
  refine getItem_back ht (by rw [List.size_toArray]; omega) (Heap.IsSliceOf.new _ vl vu vs) pl pu ps ?_
  refine ⟨.ref _, _, I5.laid (t' := s4.toks) (o := .tup xs.reverse) (fun b ob q => Heap.get?_push_of_some _ q) (Nat.le_refl _) ?_, rfl, q _ (I5.hok.fresh (Nat.le_refl _))⟩
  exact ⟨by rw [List.length_reverse]; exact hz, its.reverse, r.reverse, IsTup.new _ _⟩
end
/-! a list == the empty list -/
def rEqL0 (K : PySem.W.Frag) : R2 := fun x y H Q => ∃ (a b : Addr) (xs : List V), x = .ref a ∧ y = .ref b ∧ SqL K H a xs ∧ SqL K H b [] ∧ Q (.bl xs.isEmpty) H
theorem op_eqL0 {X : Cx} (hu : X.A.units + 64 < cLine) : OpR X (compareOp .Eq) (rEqL0 X.K) := by
  intro pins s σ H x y v u Q I rx ry h
  obtain ⟨a, b, xs, rfl, rfl, ha, hb, q⟩ := h
  cases rx
  cases ry
  obtain ⟨is, r1, ⟨o1, n1, h1, c1, _, d1⟩, _⟩ := I.list ha
  obtain ⟨js, r2, ⟨o2, n2, h2, c2, _, d2⟩, _⟩ := I.list hb
  cases r2
  cases r1 with
  | nil => exact PySem.SeqAt.eq_listAt (e := fun _ => true) ⟨o1, h1, c1, n1, d1⟩ ⟨o2, h2, c2, n2, d2⟩ rfl (by omega) (fun j j1 _ => absurd j1 (Nat.not_lt_zero _)) ⟨.bl true, H, I, rfl, q⟩
  | cons r t => exact PySem.SeqAt.eq_list_lengthsAt ⟨o1, h1, c1, n1, d1⟩ ⟨o2, h2, c2, n2, d2⟩ (by simp) (by omega) ⟨.bl false, H, I, rfl, q⟩
end Kv

/-! enumerate of a tuple -/
namespace PySem
open Sem (wp)
open AutoSeq1 (wpAny_loadPart')
theorem enumT_new (l : Addr) (its : Array Value) :
    Meets (Builtin.«enumerate.__new__» ⟨[.type "enumerate", .ref l], []⟩) (fun _ R s => s.heap.IsTuple l its ∧
      R (.ok (.ret (.ref (s.heap.push { cls := .type "tuple_iterator", data := .fields #[.ref l, .int 0 0] }).objs.size)))
        { s with heap := (s.heap.push { cls := .type "tuple_iterator", data := .fields #[.ref l, .int 0 0] }).push { cls := .type "enumerate", data := .fields #[.none, .bool false, .ref s.heap.objs.size, rawInt 0, .none, .none] } }) :=
  .of_wp fun prog w A R s h => by
    obtain ⟨hp, g, d, tk, os⟩ := s
    obtain ⟨hT, h⟩ := h
    obtain ⟨o, ho, hc, n, hd⟩ := id hT
    have ff := sub_enumerate
    wp_walk using wpAny_loadPart' ho
    refine wpAny_stack_any fun st => wpAny_pure ?_
    split
    · rename_i c _ _ _ _ _
      cases (c == Value.type "enumerate")
      · wp_walk using wpAny_loadPart' ho, wpAny_pyIter_tuple hT
        exact ⟨_, rfl, h⟩
      · wp_walk using wpAny_loadPart' ho, wpAny_pyIter_tuple hT
        exact ⟨_, rfl, h⟩
    · wp_walk using wpAny_loadPart' ho, wpAny_pyIter_tuple hT
      exact ⟨_, rfl, h⟩
end PySem
namespace Kv
open PySem PySem.Spec PyProof.Rows L2 Kf
/-- the tuple at a, each item in a new pair -/
def IteT (K : PySem.W.Frag) (a : Addr) : It where
  go := fun i H => ∃ (xs : List V) (x : V), SqT K H a xs ∧ xs[i]? = some x
  yld := fun i H v G => ∃ T x, v = .ref T ∧ H T = none ∧ G = upd H T (.tup [.int (i : Nat), x]) ∧ ∀ xs, SqT K H a xs → xs[i]? = some x
  stop := fun i H => ∃ xs : List V, SqT K H a xs ∧ xs.length ≤ i
theorem turn_enumT {P : Program} {w : World} {K : PySem.W.Frag} {elts : List Expr} {kk : Nat} {tpos : Pos} (a e it : Addr) :
    Turn P w K (.Tuple elts kk tpos) (IteT K a) [e, it] e (fun i h => (∃ old, IsEnum h e it ((i : Nat) : Int) old) ∧ h.IsTupleIter it a i ∧ e ≠ it) where
  mem := by simp
  obj := by
    intro i h st b hb
    obtain ⟨⟨old, he⟩, ⟨o, ho, hc, hd⟩, _⟩ := st
    rcases (by simpa using hb : b = e ∨ b = it) with rfl | rfl
    · exact ⟨_, he, fun v q => nomatch q⟩
    · exact ⟨o, ho, fun v q => by rw [hd] at q; cases q⟩
  keep := fun i h h' st k => let ⟨⟨old, he⟩, hi, hne⟩ := st; ⟨⟨old, k e (by simp) _ he⟩, hi.at fun o q => k it (by simp) o q, hne⟩
  item := by
    intro X hP hw hK hc i pins s σ H E I hf st hg
    subst hP hw hK
    obtain ⟨⟨old, he⟩, hit, hne⟩ := st
    obtain ⟨xs, x, hq, hx⟩ := hg
    obtain ⟨its, rv, tp, hz⟩ := I.tuple hq
    obtain ⟨u, hu, ru⟩ := rv.get hx
    obtain ⟨oi, hoi, hci, hdi⟩ := id hit
    obtain ⟨ot, hot, hct, nt, hdt⟩ := id tp
    have lt : i < its.length := (List.getElem?_eq_some_iff.mp hu).1
    have ai : a ≠ it := fun z => by
      rw [z, hoi] at hot
      cases hot
      rw [hci] at hct
      exact absurd (Value.type.inj hct) (by decide)
    have ea : e ≠ a := fun z => by
      rw [← z, he] at hot
      cases hot
      exact absurd (Value.type.inj hct) (by decide)
    have hel : e < s.heap.objs.size := Heap.lt_size he
    have hil : it < s.heap.objs.size := Heap.lt_size hoi
    refine wpAny_pyNext_enum_itemD (Draws.tuple (A := X.A.in1) (I.ok.hd hc) it a ai its.toArray) he ⟨hit, ⟨ot, hot, hct, nt, hdt⟩⟩ (by simpa using lt) hne (by simp [hne, ea]) ?_
    intro u' h1 tk hu' ho hst hT hsz hk
    have eu : u' = u := by
      have z : its[i]? = some u' := by simpa using hu'
      rw [hu] at z
      exact (Option.some.inj z).symm
    subst eu
    refine ⟨_, rfl, wpAny_letOwnedTupleGo_enum (s := { s with heap := h1, toks := tk + 1 }) ho ?_⟩
    intro h2 he' sb
    have hT2 : h2.get? s.heap.objs.size = some { cls := .type "tuple", data := .seq #[.int i tk, u'] } := (sb.2 _ (Nat.ne_of_gt hel)).trans hT
    have new : ObjOk X.prog X.w (upd H s.heap.objs.size (.tup [.int (i : Nat), x])) h2 s.heap.objs.size (.tup [.int (i : Nat), x]) := ⟨by show 2 ≤ sizeLine; decide, [.int i tk, u'], .cons ⟨_, rfl⟩ (.cons ru .nil), ⟨_, hT2, rfl, _, rfl⟩⟩
    have J : Inv X pins σ (upd H s.heap.objs.size (.tup [.int (i : Nat), x])) { s with heap := h2, toks := tk + 1 } :=
      I.turnedNew (ch := [e, it]) (fun b ob hb q => (sb.2 b (fun z => hb (by simp [z]))).trans (hk b ob (fun z => hb (by simp [z])) (fun z => hb (by simp [z])) q)) hf (Nat.le_refl _) new
    refine ⟨.ref s.heap.objs.size, _, J, rfl, ⟨_, x, rfl, I.hok.fresh (Nat.le_refl _), rfl, fun ys hy => by rw [I.tuple_inj hy hq]; exact hx⟩, ⟨⟨u', ?_⟩, hst.1.at fun o q => (sb.2 it (Ne.symm hne)).trans q, hne⟩, fun b hb => ?_⟩
    · rw [show ((i + 1 : Nat) : Int) = (i : Int) + 1 by omega]
      exact he'
    · have lb : b < s.heap.objs.size := by
        rcases (by simpa using hb : b = e ∨ b = it) with rfl | rfl
        · exact hel
        · exact hil
      rw [upd_ne (Nat.ne_of_lt lb)]
      exact (hf b hb).1
  done := by
    intro X hP hw hK hc i pins s σ H E I hf st hg
    subst hP hw hK
    obtain ⟨⟨old, he⟩, hit, hne⟩ := st
    obtain ⟨xs, hq, hx⟩ := hg
    obtain ⟨its, rv, tp, hz⟩ := I.tuple hq
    obtain ⟨oi, hoi, hci, hdi⟩ := id hit
    obtain ⟨ot, hot, hct, nt, hdt⟩ := id tp
    have ai : a ≠ it := fun z => by
      rw [z, hoi] at hot
      cases hot
      rw [hci] at hct
      exact absurd (Value.type.inj hct) (by decide)
    obtain ⟨f0, f1, f2, f3, f4, f5⟩ := hf it (by simp)
    have hl := rv.length
    have none : its.toArray[i]? = none := by
      rw [List.getElem?_toArray]
      exact List.getElem?_eq_none (by omega)
    have D : Draws X.prog X.w X.A.in1 it [it, a] i (fun _ _ => True) (fun j h => j = i ∧ h.IsTupleIter it a i ∧ h.IsTuple a its.toArray) :=
      { live := fun _ _ st => let ⟨o, ho, _⟩ := st.2.1; ⟨o, ho⟩
        frame := fun _ _ _ st hk => ⟨st.1, st.2.1.at fun o e => hk it (by simp) o e, st.2.2.at fun o e => hk a (by simp) o e⟩
        item := fun j s Q E hj st _ => absurd st.1 (Nat.ne_of_lt hj)
        done := fun s Q E st hE => wpAny_nextOf_tuple_end (I.ok.hd hc) st.2.1 st.2.2 none hE }
    exact wpAny_pyNext_enum_endD D he ⟨rfl, hit, ⟨ot, hot, hct, nt, hdt⟩⟩ fun h1 eb => ⟨rfl, I.turned (t' := s.toks) (fun b o hb q => eb b o hb q) f0 f1 f3 f4 f5⟩
  self := fun A i s Q E st h => let ⟨⟨_, he⟩, _⟩ := st; wpAny_pyIter_enum he h
def iEnumT (K : PySem.W.Frag) (ta : TA) : TI := fun σ H R => ta σ H fun vs G => ∃ (a : Addr) (xs : List V), vs = [.ref a] ∧ SqT K G a xs ∧ R (IteT K a) G
theorem pi_enumT {X : Cx} {e : Expr} {ta : TA} {p pos tpos : Pos} {elts : List Expr} {kk : Nat} (hg : Gl X "enumerate") (hm : X.mg "enumerate" = none) (ha : PA X [e] ta) (hs : starEach [e] X.env = [(false, eval e X.env)] := by rfl) :
    PI X (.Tuple elts kk tpos) (.Call (.Name "enumerate" p) [e] [] pos) (iEnumT X.K ta) := by
  constructor
  intro pins s σ H R I h
  refine Call_ (ld_blt I hg hm boot_enumerate (PyProof.Rows.callWith_type1 (thn (ha.run pos pins s σ H _ I h) ?_) hs rfl))
  rintro us s1 ⟨vs, G, J, r, a, xs, rfl, hq, q⟩
  rw [Vals.ref1 r]
  obtain ⟨its, rv, tp, hz⟩ := J.tuple hq
  have IT : s1.heap.IsTuple a its.toArray := let ⟨o, ho, hc, n, hd⟩ := tp; ⟨o, ho, hc, n, hd⟩
  have sz1 : (s1.heap.push { cls := .type "tuple_iterator", data := .fields #[.ref a, .int 0 0] }).objs.size = s1.heap.objs.size + 1 := Heap.size_push ..
  refine callType_new F.called_enumerate (by decide) (F.typeCall_enumerate_1 _) (F.newCall_enumerate_1 _) (fun obj => F.args_object_init_2 obj _) F.entry_enumerate_new (enumT_new a its.toArray) ⟨IT, ?_⟩
  show _ ∧ _
  rw [sz1]
  have he := Heap.get?_push_size (s1.heap.push { cls := .type "tuple_iterator", data := .fields #[.ref a, .int 0 0] }) (o := { cls := .type "enumerate", data := .fields #[.none, .bool false, .ref s1.heap.objs.size, rawInt 0, .none, .none] }) rfl
  rw [sz1] at he
  refine ⟨⟨_, he, rfl⟩, wpAny_pyIter_enum he ?_⟩
  have J2 := J.kept (h' := (s1.heap.push { cls := .type "tuple_iterator", data := .fields #[.ref a, .int 0 0] }).push { cls := .type "enumerate", data := .fields #[.none, .bool false, .ref s1.heap.objs.size, rawInt 0, .none, .none] }) (t' := s1.toks) (fun b o x => Heap.get?_push_of_some _ (Heap.get?_push_of_some _ x))
  refine ⟨s1.heap.objs.size + 1, [s1.heap.objs.size + 1, s1.heap.objs.size], _, _, G, rfl, J2, turn_enumT a (s1.heap.objs.size + 1) s1.heap.objs.size, ⟨⟨.none, he⟩, ⟨_, Heap.get?_push_of_some _ (Heap.get?_push_size _ rfl), rfl, rfl⟩, Nat.succ_ne_self _⟩, fun b hb => ?_, q⟩
  have le : s1.heap.objs.size ≤ b := by
    rcases (by simpa using hb : b = s1.heap.objs.size + 1 ∨ b = s1.heap.objs.size) with rfl | rfl
    · exact Nat.le_add_right _ _
    · exact Nat.le_refl _
  exact J.fpOk le (J.hok.fresh le)
theorem walk_enumT {K : PySem.W.Frag} {a : Addr} {xs : List V} : Walk (IteT K a) xs.length (fun H => SqT K H a xs) (YPair (fun i => some (.int (i : Nat))) (fun i => xs[i]?)) := by
  refine ⟨fun i _ hi q => ⟨xs, xs[i], q, by simp [hi]⟩, fun _ q => ⟨xs, q, Nat.le_refl _⟩, fun i H v G _ q y => ?_⟩
  obtain ⟨T, x, h1, h2, h3, h4⟩ := y
  exact ⟨T, .int (i : Nat), x, h1, h2, h3, rfl, h4 xs q⟩
end Kv

/-! a thing of anything == a text -/
namespace PySem.SeqAt
theorem sub_str_dic : isSubtype (.type "str") (.type "dict") = pure false := by kernel_rfl
theorem dic_declines (l : Addr) (es : Array DictEntry) (n : Nat) (dd : Option Addr) (sl : Array (Option Value)) (b : Str) (u : Tok) :
    Meets (Builtin.«dict.__eq__» ⟨[.ref l, .str b u], []⟩) (fun _ R s => s.heap.get? l = some { cls := .type "dict", dict := dd, data := .dict es n, slots := sl } ∧ R (.ok (.ret .notImplemented)) s) :=
  .of_wp fun prog w A R s h => by
    obtain ⟨hp, g, d, tk, os⟩ := s
    obtain ⟨hl, h⟩ := h
    have f1 := sub_str_dic
    wp_walk using AutoSeq1.wpAny_loadPart' hl
    exact ⟨_, rfl, h⟩
theorem str_declines_dic (b : Str) (u : Tok) (l : Addr) (es : Array DictEntry) (n : Nat) (dd : Option Addr) (sl : Array (Option Value)) :
    Meets (Builtin.«str.__eq__» ⟨[.str b u, .ref l], []⟩) (fun _ R s => s.heap.get? l = some { cls := .type "dict", dict := dd, data := .dict es n, slots := sl } ∧ R (.ok (.ret .notImplemented)) s) :=
  .of_wp fun prog w A R s h => by
    obtain ⟨hp, g, d, tk, os⟩ := s
    obtain ⟨hl, h⟩ := h
    wp_walk using AutoSeq1.wpAny_loadPart' hl, wpAny_load hl
    exact ⟨_, rfl, h⟩
theorem dic_str {A : Around} {s : Shared} {l : Addr} {o : Obj} {es : Array DictEntry} {n : Nat} (b : Str) (u : Tok) (ho : s.heap.get? l = some o) (hc : o.cls = .type "dict") (hd : o.data = .dict es n) (hu : A.units < cLine) : RcAt A s (.ref l) (.str b u) false := fun prog w E Q h => by
  obtain ⟨cls, dd, data, sl⟩ := o
  simp only at hc hd
  subst hc hd
  exact rc_eq_decline_or (k := false) ⟨_, ho, rfl⟩ (typeIs_str s b u) (by decide) sub_str_dic F.slot_dict_eq F.slot_str_eq_refl
    (fun _ hq => call_meets F.slot_dict_eq ⟨_, ho, rfl⟩ F.entry_dict_eq (F.args_dict_eq_2 _ _) (dic_declines l es n dd sl b u) ⟨ho, hq⟩)
    (fun _ hq => call_meets F.slot_str_eq_refl (typeIs_str s b u) F.entry_str_eq (F.args_str_eq_2 _ _) (str_declines_dic b u l es n dd sl) ⟨ho, hq⟩)
    (fun _ hq => wpAny_of_eq (rfl : isSame (.ref l) (.str b u) = pure false) hq) (.inr hu) h
end PySem.SeqAt
namespace Kv
open PySem PySem.Spec PyProof.Rows L2 Kf
def Dt.isS (x : Dt) (z : Str) : Bool := match x with
  | .str y => decide (y = z)
  | _ => false
def rEqUS : R2 := fun x y H Q => ∃ (d : Dt) (z : Str), Dd Any H d x ∧ y = .str z ∧ Q (.bl (d.isS z)) H
theorem op_eqUS {X : Cx} (hu : X.A.units + 64 < cLine) : OpR X (compareOp .Eq) rEqUS := by
  intro pins s σ H x y v u Q I rx ry h
  obtain ⟨d, z, hd, rfl, q⟩ := h
  obtain ⟨t2, rfl⟩ := ry
  have no : d.isS z = false → EP X pins σ Q (.bool false) s := fun e => by
    rw [e] at q
    exact ⟨.bl false, H, I, rfl, q⟩
  cases hd with
  | non =>
    cases rx
    exact SeqAt.RcAt.none_str z t2 _ _ _ _ (no rfl)
  | bl b =>
    cases rx
    exact SeqAt.RcAt.bool_str b z t2 _ _ _ _ (no rfl)
  | int i =>
    obtain ⟨t1, rfl⟩ := rx
    exact SeqAt.RcAt.int_str i t1 z t2 _ _ _ _ (no rfl)
  | str y =>
    obtain ⟨t1, rfl⟩ := rx
    refine SeqAt.RcAt.str_str y t1 z t2 _ _ _ _ ?_
    have e : (y == z) = (Dt.str y).isS z := by
      show (y == z) = decide (y = z)
      by_cases c : y = z
      · subst c
        simp
      · rw [decide_eq_false c]
        exact beq_eq_false_iff_ne.mpr c
    rw [e]
    exact ⟨.bl _, H, I, rfl, q⟩
  | tup h t =>
    cases rx
    obtain ⟨its, rv, ⟨o, ho, hc, n, hd⟩, _⟩ := I.tuple (SqT.of h)
    exact SeqAt.RcAt.tuple_str z t2 ⟨o, ho, hc, n, hd⟩ (by omega) _ _ _ _ (no rfl)
  | lst _ h t =>
    cases rx
    obtain ⟨its, rv, ⟨o, n, ho, hc, _, hd⟩, _⟩ := I.list (SqL.of h)
    exact SeqAt.RcAt.list_str z t2 ⟨o, ho, hc, n, hd⟩ (by omega) _ _ _ _ (no rfl)
  | dct _ h =>
    cases rx
    obtain ⟨o, es, n, ho, hc, hd, _, _, _⟩ := dct_obj I h
    exact SeqAt.dic_str z t2 ho hc hd (by omega) _ _ _ _ (no rfl)
end Kv

/-! numbers and truths reckoned with; a thing is a truth; None among things -/
namespace Kv
open PySem PySem.Spec PyProof.Rows L2 Kf
/-- a number, or a truth as a number -/
def nu : V → Option Int
  | .int i => some i
  | .bl b => some (if b = true then (1 : Int) else 0)
  | _ => none
section
variable {X : Cx}
theorem op_addU : OpR X (binaryOp .Add) (fun x y H Q => ∃ i j, nu x = some i ∧ y = .int j ∧ Q (.int (i + j)) H) := by
  intro pins s σ H x y v u Q I rx ry h
  obtain ⟨i, j, hx, rfl, q⟩ := h
  obtain ⟨t2, rfl⟩ := ry
  cases x with
  | int a =>
    obtain ⟨t1, rfl⟩ := rx
    cases hx
    exact (op_add (X := X)) pins s σ H (.int i) (.int j) _ _ Q I ⟨t1, rfl⟩ ⟨t2, rfl⟩ ⟨i, j, rfl, rfl, q⟩
  | bl b =>
    cases rx
    cases hx
    exact PySem.IntBool.add_bool_int ⟨.int _, H, I.tok _, ⟨_, rfl⟩, q⟩
  | _ => cases hx
theorem op_subU : OpR X (binaryOp .Sub) (fun x y H Q => ∃ i j, nu x = some i ∧ y = .int j ∧ Q (.int (i - j)) H) := by
  intro pins s σ H x y v u Q I rx ry h
  obtain ⟨i, j, hx, rfl, q⟩ := h
  obtain ⟨t2, rfl⟩ := ry
  cases x with
  | int a =>
    obtain ⟨t1, rfl⟩ := rx
    cases hx
    exact (op_sub (X := X)) pins s σ H (.int i) (.int j) _ _ Q I ⟨t1, rfl⟩ ⟨t2, rfl⟩ ⟨i, j, rfl, rfl, q⟩
  | bl b =>
    cases rx
    cases hx
    exact PySem.IntBool.sub_bool_int ⟨.int _, H, I.tok _, ⟨_, rfl⟩, q⟩
  | _ => cases hx
theorem op_subV : OpR X (binaryOp .Sub) (fun x y H Q => ∃ i j, x = .int i ∧ nu y = some j ∧ Q (.int (i - j)) H) := by
  intro pins s σ H x y v u Q I rx ry h
  obtain ⟨i, j, rfl, hy, q⟩ := h
  obtain ⟨t1, rfl⟩ := rx
  cases y with
  | int a =>
    obtain ⟨t2, rfl⟩ := ry
    cases hy
    exact (op_sub (X := X)) pins s σ H (.int i) (.int j) _ _ Q I ⟨t1, rfl⟩ ⟨t2, rfl⟩ ⟨i, j, rfl, rfl, q⟩
  | bl b =>
    cases ry
    cases hy
    exact PySem.IntBool.sub_int_bool ⟨.int _, H, I.tok _, ⟨_, rfl⟩, q⟩
  | _ => cases hy
theorem op_eqU1 : OpR X (compareOp .Eq) (fun x y H Q => ∃ i j, nu x = some i ∧ y = .int j ∧ ∀ b : Bool, Q (.bl b) H) := by
  intro pins s σ H x y v u Q I rx ry h
  obtain ⟨i, j, hx, rfl, q⟩ := h
  obtain ⟨t2, rfl⟩ := ry
  cases x with
  | int a =>
    obtain ⟨t1, rfl⟩ := rx
    exact SeqAt.RcAt.int_int a t1 j t2 _ _ _ _ ⟨.bl _, H, I, rfl, q _⟩
  | bl b =>
    cases rx
    exact SeqAt.RcAt.bool_int b j t2 _ _ _ _ ⟨.bl _, H, I, rfl, q _⟩
  | _ => cases hx
theorem call_strU : CallR X (.type "str") (fun xs H Q => ∃ x i, xs = [x] ∧ nu x = some i ∧ i.natAbs < 10 ^ 45 ∧ ∀ z : Str, z.length ≤ 50 → (∀ c ∈ z.cps.toList, c < 16 ^ 8) → Q (.str z) H) := by
  intro pins s σ H xs us Q I r h
  obtain ⟨x, i, rfl, hx, hi, q⟩ := h
  obtain ⟨u, rfl, rx⟩ := vals1 r
  cases x with
  | int a =>
    obtain ⟨t, rfl⟩ := rx
    cases hx
    have hl : i.natAbs.log2 < 1920 := by
      by_cases z : i.natAbs = 0
      · rw [z]
        decide
      · have : i.natAbs.log2 < 150 := (Nat.log2_lt z).mpr (Nat.lt_of_lt_of_le hi (by decide))
        omega
    refine PySem.P.str_of_int hl ⟨.str _, H, I.tok _, ⟨_, rfl⟩, q _ ?_ ?_⟩
    · have z := int_text_length_le10 (a := i) (k := 45) (by decide) hi
      have e : (Str.ofString (toString i)).length = (toString i).length := PySem.ofString_length _
      show (Str.ofString (toString i)).length ≤ 50
      rw [e]
      omega
    · intro c hc
      have hc : c ∈ (Str.ofString (toString i)).cps.toList := hc
      rw [Str.ofString_eq_toList] at hc
      simp only [List.mem_map] at hc
      obtain ⟨ch, _, rfl⟩ := hc
      exact ch.val.toNat_lt
  | bl b =>
    cases rx
    refine PySem.P.str_of_bool ⟨.str _, H, I.tok _, ⟨_, rfl⟩, q _ ?_ ?_⟩
    · cases b <;> decide +kernel
    · cases b <;> decide +kernel
  | _ => cases hx
/-- a thing is this truth -/
def Dt.isB (x : Dt) (b : Bool) : Bool := match x with
  | .bl c => decide (c = b)
  | _ => false
theorem op_isU : OpR X (compareOp .Is) (fun x y H Q => ∃ (d : Dt) (b : Bool), Dd Any H d x ∧ y = .bl b ∧ Q (.bl (d.isB b)) H) := by
  intro pins s σ H x y v u Q I rx ry h
  obtain ⟨d, b, hd, rfl, q⟩ := h
  cases ry
  have no : d.isB b = false → EP X pins σ Q (.bool false) s := fun e => by
    rw [e] at q
    exact ⟨.bl false, H, I, rfl, q⟩
  cases hd with
  | non =>
    cases rx
    exact wpAny_is_other rfl (fun z => by cases z) (no rfl)
  | bl c =>
    cases rx
    by_cases e : c = b
    · subst e
      exact wpAny_is_self rfl ⟨.bl true, H, I, rfl, by simpa [Dt.isB] using q⟩
    · exact wpAny_is_other rfl (fun z => e (Value.bool.inj z)) (no (by simp [Dt.isB, e]))
  | int i =>
    obtain ⟨t1, rfl⟩ := rx
    exact wpAny_is_other rfl (fun z => by cases z) (no rfl)
  | str y =>
    obtain ⟨t1, rfl⟩ := rx
    exact wpAny_is_other rfl (fun z => by cases z) (no rfl)
  | tup h t =>
    cases rx
    exact wpAny_is_other rfl (fun z => by cases z) (no rfl)
  | lst _ h t =>
    cases rx
    exact wpAny_is_other rfl (fun z => by cases z) (no rfl)
  | dct _ h =>
    cases rx
    exact wpAny_is_other rfl (fun z => by cases z) (no rfl)
/-- None, a number, a truth, a tuple -/
def Plainy (H : Hp) (z : V) : Prop := z = .non ∨ (∃ i, z = .int i) ∨ (∃ b, z = .bl b) ∨ ∃ a xs, z = .ref a ∧ H a = some (.tup xs)
theorem isNone_pl {z : V} {u : Value} {H : Hp} (r : RelV z u) (f : Plainy H z) : PySem.Numpy.isNone u = isNon z := by
  rcases f with rfl | ⟨i, rfl⟩ | ⟨b, rfl⟩ | ⟨a, xs, rfl, _⟩
  · cases r; rfl
  · obtain ⟨t, rfl⟩ := r; rfl
  · cases r; rfl
  · cases r; rfl
theorem any_pl {H : Hp} : ∀ {xs : List V} {us : List Value}, Vals xs us → (∀ z ∈ xs, Plainy H z) → us.any PySem.Numpy.isNone = xs.any isNon
  | _, _, .nil, _ => rfl
  | y :: xs, u :: us, .cons r t, f => by
    rw [List.any_cons, List.any_cons, isNone_pl r (f y (List.mem_cons_self ..)), any_pl t fun z hz => f z (List.mem_cons_of_mem _ hz)]
theorem pl_eq {A : Around} {pins : List (Addr × Obj)} {σ : L2.St} {H : Hp} {s : Shared} (I : Inv X pins σ H s) (hu : A.units < cLine) {z : V} {u : Value} (r : RelV z u) (f : Plainy H z) : SeqAt.EqAt A s u .none (PySem.Numpy.isNone u) := by
  rcases f with rfl | ⟨i, rfl⟩ | ⟨b, rfl⟩ | ⟨a, xs, rfl, h⟩
  · cases r
    exact SeqAt.EqAt.same _
  · obtain ⟨t, rfl⟩ := r
    exact SeqAt.EqAt.int_none i t
  · cases r
    exact SeqAt.EqAt.bool_none b
  · cases r
    obtain ⟨its, rv, ⟨o, ho, hc, n, hd⟩, _⟩ := I.tuple (SqT.of h)
    exact SeqAt.EqAt.tuple_none ⟨o, ho, hc, n, hd⟩ hu
theorem mem_pl {A : Around} {pins : List (Addr × Obj)} {σ : L2.St} {H : Hp} {s : Shared} (I : Inv X pins σ H s) (hu : A.units < cLine) : ∀ {xs : List V} {us : List Value}, Vals xs us → (∀ z ∈ xs, Plainy H z) → ∀ u ∈ us, SeqAt.EqAt A s u .none (PySem.Numpy.isNone u)
  | _, _, .nil, _ => fun u hu' => by cases hu'
  | y :: xs, u :: us, .cons r t, f => fun u' hu' => by
    rcases List.mem_cons.mp hu' with e | hu'
    · subst e
      exact pl_eq I hu r (f y (List.mem_cons_self ..))
    · exact mem_pl I hu t (fun z hz => f z (List.mem_cons_of_mem _ hz)) u' hu'
def rNoneInU (K : PySem.W.Frag) : R2 := fun x y H Q => ∃ p xs, x = .non ∧ y = .ref p ∧ SqL K H p xs ∧ (∀ z ∈ xs, Plainy H z) ∧ Q (.bl (xs.any isNon)) H
theorem op_noneInU (hu : X.A.units + 64 < cLine) : OpR X (compareOp .In) (rNoneInU X.K) := by
  intro pins s σ H x y v u Q I rx ry h
  obtain ⟨p, xs, rfl, rfl, hq, f, q⟩ := h
  cases rx
  cases ry
  obtain ⟨its, rv, hl, _⟩ := I.list hq
  have hu1 : X.A.in1.units < cLine := by show X.A.units + 1 < cLine; omega
  refine SeqAt.in_listAt PySem.Numpy.isNone hl.isList (fun z hz => mem_pl I hu1 rv f z (by simpa using hz)) ⟨.bl _, H, I, rfl, ?_⟩
  rw [show its.toArray.any PySem.Numpy.isNone = its.any PySem.Numpy.isNone by simp, any_pl rv f]
  exact q
end
end Kv

/-! things of anything: how great they are -/
namespace Kv
open PySem PySem.Spec PyProof.Rows L2 Kf
mutual
def Dt.sz : Dt → Nat
  | .tup xs => 1 + Dt.szs xs
  | .lst xs => 1 + Dt.szs xs
  | .dct kvs => 1 + 3 * kvs.length
  | _ => 1
def Dt.szs : List Dt → Nat
  | [] => 0
  | x :: xs => x.sz + Dt.szs xs
end
theorem sz_mem : ∀ {xs : List Dt} {x : Dt}, x ∈ xs → x.sz ≤ Dt.szs xs
  | y :: ys, x, h => by
    rcases List.mem_cons.mp h with rfl | h
    · exact Nat.le_add_right _ _
    · exact Nat.le_trans (sz_mem h) (Nat.le_add_left _ _)
theorem szs_app : ∀ (xs ys : List Dt), Dt.szs (xs ++ ys) = Dt.szs xs + Dt.szs ys
  | [], ys => by show _ = 0 + _; rw [Nat.zero_add]; rfl
  | x :: xs, ys => by
    show x.sz + Dt.szs (xs ++ ys) = x.sz + Dt.szs xs + Dt.szs ys
    rw [szs_app xs ys, Nat.add_assoc]
mutual
def Dt.dp : Dt → Nat
  | .tup xs => Dt.dps xs + 1
  | .lst xs => Dt.dps xs + 1
  | .dct _ => 1
  | _ => 0
def Dt.dps : List Dt → Nat
  | [] => 0
  | x :: xs => max x.dp (Dt.dps xs)
end
def kwt : List (Str × Int) → Nat
  | [] => 3
  | p :: r => 10 * p.1.length + 60 + kwt r
mutual
def Dt.wt : Dt → Nat
  | .non => 4
  | .bl _ => 5
  | .int _ => 52
  | .str x => 10 * x.length + 2
  | .tup xs => Dt.wts xs + 3
  | .lst xs => Dt.wts xs + 3
  | .dct kvs => kwt kvs
def Dt.wts : List Dt → Nat
  | [] => 0
  | x :: xs => x.wt + 2 + Dt.wts xs
end
mutual
def Dt.fine (B : Nat) : Dt → Prop
  | .int i => i.natAbs < B
  | .str x => ∀ c ∈ x.cps.toList, c < 16 ^ 8
  | .tup xs => Dt.fines B xs
  | .lst xs => Dt.fines B xs
  | .dct kvs => ∀ p ∈ kvs, (∀ c ∈ p.1.cps.toList, c < 16 ^ 8) ∧ p.2.natAbs < B
  | _ => True
def Dt.fines (B : Nat) : List Dt → Prop
  | [] => True
  | x :: xs => x.fine B ∧ Dt.fines B xs
end
theorem int_shw {B : Nat} (hB : B ≤ 10 ^ 45) (i : Int) (h : i.natAbs < B) : (PyData.int i).showable = true ∧ (PyData.int i).depth = 0 ∧ (PyData.int i).shown.length ≤ 52 := by
  have h : i.natAbs < 10 ^ 45 := Nat.lt_of_lt_of_le h hB
  refine ⟨?_, by simp [PyData.depth], ?_⟩
  · simp only [PyData.showable]
    refine decide_eq_true ?_
    by_cases z : i.natAbs = 0
    · rw [z]
      decide
    · have : i.natAbs.log2 < 150 := (Nat.log2_lt z).mpr (Nat.lt_of_lt_of_le h (by decide))
      omega
  · have z := int_text_length_le10 (a := i) (k := 45) (by decide) h
    simp only [PyData.shown]
    have e : (Str.ofString (toString i)).length = (toString i).length := PySem.ofString_length _
    rw [e]
    omega
theorem dct_shw {B : Nat} (hB : B ≤ 10 ^ 45) : ∀ (kvs : List (Str × Int)), (∀ p ∈ kvs, (∀ c ∈ p.1.cps.toList, c < 16 ^ 8) ∧ p.2.natAbs < B) → PyData.showableKv (dkp kvs) = true ∧ PyData.depthKv (dkp kvs) = 0 ∧ ((PyData.shownKv (dkp kvs)).map (·.length)).sum + 2 * (PyData.shownKv (dkp kvs)).length + 3 ≤ kwt kvs
  | [], _ => ⟨by simp [dkp, PyData.showableKv], by simp [dkp, PyData.depthKv], by simp [dkp, PyData.shownKv, kwt]⟩
  | (x, i) :: kvs, h => by
    obtain ⟨a, b, c⟩ := dct_shw hB kvs fun p hp => h p (List.mem_cons_of_mem _ hp)
    obtain ⟨f1, f2⟩ := h (x, i) List.mem_cons_self
    obtain ⟨i1, i2, i3⟩ := int_shw hB i f2
    have e : dkp ((x, i) :: kvs) = (.str x, .int i) :: dkp kvs := rfl
    rw [e]
    refine ⟨by simp only [PyData.showableKv, a, i1]; simp [PyData.showable], by simp only [PyData.depthKv, b, i2]; simp [PyData.depth], ?_⟩
    have z : (PyData.str x).shown.length ≤ 10 * x.length + 2 := by simp only [PyData.shown]; exact PySem.StrLaws.reprText_len x f1
    have e2 : ((": " : Str)).length = 2 := by decide +kernel
    simp only [PyData.shownKv, List.map_cons, List.sum_cons, List.length_cons, kwt, strLen_append, e2]
    omega
mutual
theorem Dt.shw {B : Nat} (hB : B ≤ 10 ^ 45) : ∀ (x : Dt), x.fine B → x.toP.showable = true ∧ x.toP.depth = x.dp ∧ x.toP.shown.length ≤ x.wt
  | .non, _ => ⟨by simp [Dt.toP, PyData.showable], by simp [Dt.toP, PyData.depth, Dt.dp], by simp only [Dt.toP, PyData.shown, Dt.wt]; decide⟩
  | .bl b, _ => ⟨by simp [Dt.toP, PyData.showable], by simp [Dt.toP, PyData.depth, Dt.dp], by cases b <;> (simp only [Dt.toP, PyData.shown, Dt.wt]; decide)⟩
  | .int i, h => by
    have h : i.natAbs < B := by simpa only [Dt.fine] using h
    have h : i.natAbs < 10 ^ 45 := Nat.lt_of_lt_of_le h hB
    refine ⟨?_, by simp [Dt.toP, PyData.depth, Dt.dp], ?_⟩
    · simp only [Dt.toP, PyData.showable]
      refine decide_eq_true ?_
      by_cases z : i.natAbs = 0
      · rw [z]
        decide
      · have : i.natAbs.log2 < 150 := (Nat.log2_lt z).mpr (Nat.lt_of_lt_of_le h (by decide))
        omega
    · have z := int_text_length_le10 (a := i) (k := 45) (by decide) h
      simp only [Dt.toP, PyData.shown, Dt.wt]
      have e : (Str.ofString (toString i)).length = (toString i).length := PySem.ofString_length _
      rw [e]
      omega
  | .str x, h => by
    have h : ∀ c ∈ x.cps.toList, c < 16 ^ 8 := by simpa only [Dt.fine] using h
    exact ⟨by simp [Dt.toP, PyData.showable], by simp [Dt.toP, PyData.depth, Dt.dp], by simp only [Dt.toP, PyData.shown, Dt.wt]; exact PySem.StrLaws.reprText_len x h⟩
  | .tup xs, h => by
    obtain ⟨a, b, c⟩ := Dt.shws hB xs (by simpa only [Dt.fine] using h)
    refine ⟨by simpa only [Dt.toP, PyData.showable] using a, by simp only [Dt.toP, PyData.depth, Dt.dp]; omega, ?_⟩
    simp only [Dt.toP, PyData.shown, Dt.wt]
    have := tupleText_len_le (PyData.shownAll (Dt.toPs xs))
    omega
  | .lst xs, h => by
    obtain ⟨a, b, c⟩ := Dt.shws hB xs (by simpa only [Dt.fine] using h)
    refine ⟨by simpa only [Dt.toP, PyData.showable] using a, by simp only [Dt.toP, PyData.depth, Dt.dp]; omega, ?_⟩
    simp only [Dt.toP, PyData.shown, Dt.wt]
    have := listText_len_le (PyData.shownAll (Dt.toPs xs))
    omega
  | .dct kvs, h => by
    obtain ⟨a, b, c⟩ := dct_shw hB kvs (by simpa only [Dt.fine] using h)
    refine ⟨by simp only [Dt.toP, PyData.showable, a], by simp only [Dt.toP, PyData.depth, b, Dt.dp], ?_⟩
    simp only [Dt.toP, PyData.shown, Dt.wt]
    have := dictText_len_le (PyData.shownKv (dkp kvs))
    omega
theorem Dt.shws {B : Nat} (hB : B ≤ 10 ^ 45) : ∀ (xs : List Dt), Dt.fines B xs → PyData.showableAll (Dt.toPs xs) = true ∧ PyData.depthAll (Dt.toPs xs) = Dt.dps xs ∧ ((PyData.shownAll (Dt.toPs xs)).map (·.length)).sum + 2 * (PyData.shownAll (Dt.toPs xs)).length ≤ Dt.wts xs
  | [], _ => ⟨by simp [Dt.toPs, PyData.showableAll], by simp [Dt.toPs, PyData.depthAll, Dt.dps], by simp [Dt.toPs, PyData.shownAll]⟩
  | x :: xs, h => by
    have h : x.fine B ∧ Dt.fines B xs := by simpa only [Dt.fines] using h
    obtain ⟨a, b, c⟩ := x.shw hB h.1
    obtain ⟨a', b', c'⟩ := Dt.shws hB xs h.2
    refine ⟨by simp [Dt.toPs, PyData.showableAll, a, a'], by simp [Dt.toPs, PyData.depthAll, Dt.dps, b, b'], ?_⟩
    simp only [Dt.toPs, PyData.shownAll, List.map_cons, List.sum_cons, List.length_cons, Dt.wts]
    omega
end
/-- it is fine, and within the bounds -/
structure Fine (B n W : Nat) (x : Dt) : Prop where
  ok : x.fine B
  dp : x.dp ≤ n
  wt : x.wt ≤ W
theorem Fine.shw {B n W : Nat} {x : Dt} (h : Fine B n W x) (hB : B ≤ 10 ^ 45) (hW : W ≤ sizeLine) : Shw n x := by
  obtain ⟨a, b, c⟩ := x.shw hB h.ok
  exact ⟨a, by rw [b]; exact h.dp, Nat.le_trans c (Nat.le_trans h.wt hW)⟩
mutual
theorem Dt.fine_up {B C : Nat} (h : B ≤ C) : ∀ {x : Dt}, x.fine B → x.fine C
  | .non, _ => by simp only [Dt.fine]
  | .bl _, _ => by simp only [Dt.fine]
  | .int i, f => by
    simp only [Dt.fine] at f ⊢
    omega
  | .str x, f => by
    simp only [Dt.fine] at f ⊢
    exact f
  | .tup xs, f => by
    simp only [Dt.fine] at f ⊢
    exact Dt.fines_up h f
  | .lst xs, f => by
    simp only [Dt.fine] at f ⊢
    exact Dt.fines_up h f
  | .dct kvs, f => by
    simp only [Dt.fine] at f ⊢
    exact fun p hp => ⟨(f p hp).1, Nat.lt_of_lt_of_le (f p hp).2 h⟩
theorem Dt.fines_up {B C : Nat} (h : B ≤ C) : ∀ {xs : List Dt}, Dt.fines B xs → Dt.fines C xs
  | [], _ => by simp only [Dt.fines]
  | x :: xs, f => by
    simp only [Dt.fines] at f ⊢
    exact ⟨Dt.fine_up h f.1, Dt.fines_up h f.2⟩
end
theorem Fine.mono {A B n W m V : Nat} {x : Dt} (h : Fine A n W x) (ha : A ≤ B) (hn : n ≤ m) (hw : W ≤ V) : Fine B m V x := ⟨Dt.fine_up ha h.ok, Nat.le_trans h.dp hn, Nat.le_trans h.wt hw⟩
mutual
theorem Dt.sz_wt : ∀ x : Dt, x.sz ≤ x.wt
  | .non => by simp only [Dt.sz, Dt.wt]; omega
  | .bl _ => by simp only [Dt.sz, Dt.wt]; omega
  | .int _ => by simp only [Dt.sz, Dt.wt]; omega
  | .str _ => by simp only [Dt.sz, Dt.wt]; omega
  | .tup xs => by
    have := Dt.szs_wts xs
    simp only [Dt.sz, Dt.wt]
    omega
  | .lst xs => by
    have := Dt.szs_wts xs
    simp only [Dt.sz, Dt.wt]
    omega
  | .dct kvs => by
    have : ∀ l : List (Str × Int), 1 + 3 * l.length ≤ kwt l := by
      intro l
      induction l with
      | nil => simp [kwt]
      | cons p r ih => simp only [kwt, List.length_cons]; omega
    simp only [Dt.sz, Dt.wt]
    exact this kvs
theorem Dt.szs_wts : ∀ xs : List Dt, Dt.szs xs ≤ Dt.wts xs
  | [] => by simp only [Dt.szs, Dt.wts]; omega
  | x :: xs => by
    have := x.sz_wt
    have := Dt.szs_wts xs
    simp only [Dt.szs, Dt.wts]
    omega
end
theorem len_szs : ∀ xs : List Dt, xs.length ≤ Dt.szs xs
  | [] => Nat.zero_le _
  | x :: xs => by
    have := len_szs xs
    have : 1 ≤ x.sz := by cases x <;> simp only [Dt.sz] <;> omega
    simp only [Dt.szs, List.length_cons]
    omega
theorem wts_app : ∀ (xs ys : List Dt), Dt.wts (xs ++ ys) = Dt.wts xs + Dt.wts ys
  | [], ys => by simp only [List.nil_append, Dt.wts]; omega
  | x :: xs, ys => by
    simp only [List.cons_append, Dt.wts]
    rw [wts_app xs ys]
    omega
theorem dps_app : ∀ (xs ys : List Dt), Dt.dps (xs ++ ys) = max (Dt.dps xs) (Dt.dps ys)
  | [], ys => by simp only [List.nil_append, Dt.dps]; omega
  | x :: xs, ys => by
    simp only [List.cons_append, Dt.dps]
    rw [dps_app xs ys]
    omega
theorem fines_app {B : Nat} : ∀ (xs ys : List Dt), Dt.fines B (xs ++ ys) ↔ Dt.fines B xs ∧ Dt.fines B ys
  | [], ys => by simp only [List.nil_append, Dt.fines, true_and]
  | x :: xs, ys => by
    simp only [List.cons_append, Dt.fines]
    rw [fines_app xs ys, and_assoc]
end Kv

/-! the end of a law whose defs show things -/
namespace Kf
open PySem PySem.Spec PyProof.Rows L2 LamX
/-- the heap at the law's call: the written part, the tables cs, the script -/
structure Beg (h : Heap) (K : PySem.W.Frag) (mg : Str → Option Value) (cs : List (Addr × Addr)) (a : Addr) (us : Array Value) : Prop where
  kin : K.In h
  gl : h.Ns mainGlobals mg
  bl : ∃ m, h.Ns builtinsNs m ∧ ∀ y : Str, y ≠ "__name__" → m y = bootBuiltins y
  nl : h.NoLimit
  tb : ∀ p ∈ cs, h.get? p.2 = some { cls := .none, data := .fields #[] }
  nk : ∀ p ∈ cs, K.lookup p.2 = none
  cd : ∀ p ∈ cs, PySem.W.CodeHd h p.1 p.2
  bm : ∃ (z : Addr) (q : Obj), mg "__builtins__" = some (.ref z) ∧ z ≠ builtinsNs ∧ h.get? z = some q ∧ q.cls = .type "module" ∧ q.dict = some builtinsNs ∧ q.data = .plain
  sc : h.get? a = some { cls := .type "list", data := .seq us }
/-- tracked are the tables, and perhaps the script -/
structure Fit (H : Hp) (K : PySem.W.Frag) (cs : List (Addr × Addr)) (a : Addr) : Prop where
  tb : ∀ p ∈ cs, H p.2 = some (.tbl #[])
  no : ∀ b u, H b = some u → (∃ p ∈ cs, p.2 = b ∧ u = .tbl #[]) ∨ (b = a ∧ K.lookup a = none ∧ ∃ o xs, u = .frz o (.lst xs))
section
variable {h : Heap} {K : PySem.W.Frag} {mg : Str → Option Value} {cs : List (Addr × Addr)} {a : Addr} {us : Array Value} {H : Hp}
theorem Fit.off (F : Fit H K cs a) (B : Beg h K mg cs a us) {b : Addr} {o : Obj} (e : h.get? b = some o) (n1 : ∀ vs n, o.data ≠ .seq vs n) (n2 : o.data ≠ .fields #[]) : H b = none := by
  match q : H b with
  | none => rfl
  | some u =>
    rcases F.no b u q with ⟨p, hp, rfl, _⟩ | ⟨rfl, _⟩
    · have z := (B.tb p hp).symm.trans e
      exact absurd (congrArg Obj.data (Option.some.inj z)).symm n2
    · have z := B.sc.symm.trans e
      exact absurd (congrArg Obj.data (Option.some.inj z)).symm (n1 _ _)
theorem Fit.dic (F : Fit H K cs a) (B : Beg h K mg cs a us) {b : Addr} {m : Str → Option Value} (N : h.Ns b m) : (hidT h H).Ns b m := by
  obtain ⟨o, es, n, e, d, r⟩ := N
  refine ⟨o, es, n, hidT_get e (F.off B e ?_ ?_), d, r⟩
  · intro vs k z
    rw [d] at z
    cases z
  · intro z
    rw [d] at z
    cases z
theorem Fit.kin (F : Fit H K cs a) (B : Beg h K mg cs a us) : K.In (hidT h H) := fun b o e => hidT_get (B.kin b o e) <| by
  match q : H b with
  | none => rfl
  | some u =>
    rcases F.no b u q with ⟨p, hp, rfl, _⟩ | ⟨rfl, n, _⟩
    · rw [B.nk p hp] at e
      cases e
    · rw [n] at e
      cases e
theorem Fit.mod (F : Fit H K cs a) (B : Beg h K mg cs a us) : L2.Mod K mg (hidT h H) := by
  obtain ⟨m, m1, m2⟩ := B.bl
  obtain ⟨c, c1, c2⟩ := B.nl
  exact ⟨F.kin B, F.dic B B.gl, ⟨m, F.dic B m1, m2⟩, ⟨c, F.dic B c1, c2⟩⟩
theorem Fit.tabs (F : Fit H K cs a) (B : Beg h K mg cs a us) : ∀ p ∈ cs, TabB (hidT h H) mg p.1 p.2 := by
  intro p hp
  have tp := B.tb p hp
  have gP : mainGlobals ≠ p.2 := by
    intro z
    obtain ⟨o, es, n, e, d, _⟩ := B.gl
    rw [z, tp] at e
    cases e
    cases d
  refine ⟨?_, ?_, gP⟩
  · obtain ⟨o, vs, fl, tf, fg, tg, iF, tx, tt, e, r1, r2, r3, r⟩ := B.cd p hp
    refine ⟨o, vs, fl, tf, fg, tg, iF, tx, tt, hidT_get e (F.off B e (fun vs n z => ?_) (fun z => ?_)), r1, r2, r3, r⟩
    · rw [r2] at z
      cases z
    · rw [r2] at z
      cases z
      simp at r3
  · obtain ⟨z, q, b1, b2, b3, b4, b5, b6⟩ := B.bm
    refine ⟨z, q, b1, b2, fun y => ?_, fun y => ?_, hidT_get b3 (F.off B b3 (fun vs n y => ?_) (fun y => ?_)), b4, b5, b6⟩
    · obtain ⟨o, es, n, e, d, _⟩ := B.gl
      rw [← y, b3] at e
      cases e
      rw [b6] at d
      cases d
    · rw [y, tp] at b3
      cases b3
      cases b6
    · rw [b6] at y
      cases y
    · rw [b6] at y
      cases y
/-- what stood stands, behind the call -/
theorem Fit.old (F : Fit H K cs a) (B : Beg h K mg cs a us) {P : Program} {w : World} {G : Hp} {h' : Heap} (U : Un [] [] H G h h') (o1 : HOk P w H h) (o2 : HOk P w G h') : OldK h h' := by
  have tab : ∀ p ∈ cs, ∃ m : Array Value, h'.get? p.2 = some { cls := .none, data := .fields m } := fun p hp => by
    obtain ⟨m, z⟩ := U.tbls p.2 #[] (F.tb p hp)
    exact ⟨_, o2 p.2 _ z⟩
  have rest : ∀ b o, h.get? b = some o → (∃ p ∈ cs, p.2 = b) ∨ h'.get? b = some o := fun b o e => by
    match q : H b with
    | none => exact .inr (U.keep b o e q (by simp) (by simp))
    | some u =>
      rcases F.no b u q with ⟨p, hp, z, _⟩ | ⟨_, _, ob, xs, rfl⟩
      · exact .inl ⟨p, hp, z⟩
      · have e1 := (o1 b _ q).1
        have e2 := (o2 b _ (U.frzs b ob _ q)).1
        rw [e] at e1
        cases e1
        exact .inr e2
  constructor
  · intro b o e
    rcases rest b o e with ⟨p, hp, rfl⟩ | z
    · obtain ⟨m, hm⟩ := tab p hp
      have tp := B.tb p hp
      rw [tp] at e
      cases e
      exact .inr (.inl ⟨((B.cd p hp).tab tp).isCodeTable, rfl, #[], m, rfl, by rw [Array.empty_append]; exact hm⟩)
    · exact .inl z
  · intro b o e
    rcases rest b o e with ⟨p, hp, rfl⟩ | z
    · obtain ⟨m, hm⟩ := tab p hp
      exact ⟨_, hm⟩
    · exact ⟨o, z⟩
end
/-- such a heap there is -/
theorem fit_of {h : Heap} {K : PySem.W.Frag} {mg : Str → Option Value} {cs : List (Addr × Addr)} {a : Addr} {vs : List Value} {ns : List Int} (P : Program) (w : World) (B : Beg h K mg cs a vs.toArray) (hi : IntsAre vs ns) (hl : ns.length ≤ sizeLine) :
    ∃ H : Hp, Fit H K cs a ∧ SqL K H a (ns.map V.int) ∧ HOk P w H h := by
  have lv := hi.length
  have isT : ∀ b, (∃ p ∈ cs, p.2 = b) → h.get? b = some { cls := .none, data := .fields #[] } := by
    rintro b ⟨p, hp, rfl⟩
    exact B.tb p hp
  have na : ¬ ∃ p ∈ cs, p.2 = a := fun z => by
    have y := congrArg Obj.data (Option.some.inj ((isT a z).symm.trans B.sc))
    cases y
  open Classical in
  let T : Hp := fun b => if ∃ p ∈ cs, p.2 = b then some (.tbl #[]) else none
  have Ty : ∀ p ∈ cs, T p.2 = some (.tbl #[]) := fun p hp => if_pos ⟨p, hp, rfl⟩
  have Tn : ∀ b u, T b = some u → (∃ p ∈ cs, p.2 = b) ∧ u = .tbl #[] := fun b u z => by
    by_cases c : ∃ p ∈ cs, p.2 = b
    · exact ⟨c, (Option.some.inj ((if_pos c).symm.trans z)).symm⟩
    · have y := (if_neg c).symm.trans z
      cases y
  match hk : K.lookup a with
  | some o =>
    have e := B.kin a o hk
    rw [B.sc] at e
    cases e
    refine ⟨T, ⟨Ty, fun b u z => ?_⟩, .inr ⟨_, vs.toArray, _, hk, rfl, rfl, rfl, by rw [List.size_toArray, lv]; exact hl, by simpa using vals_ints hi⟩, fun b u z => ?_⟩
    · obtain ⟨⟨p, hp, e⟩, e2⟩ := Tn b u z
      exact .inl ⟨p, hp, e, e2⟩
    · obtain ⟨c, rfl⟩ := Tn b u z
      exact isT b c
  | none =>
    refine ⟨upd T a (.frz { cls := .type "list", data := .seq vs.toArray } (.lst (ns.map V.int))), ⟨fun p hp => ?_, fun b u z => ?_⟩, .inl (.inr ⟨_, upd_same⟩), fun b u z => ?_⟩
    · rw [upd_ne (fun y => na ⟨p, hp, y⟩)]
      exact Ty p hp
    · by_cases c : b = a
      · subst c
        rw [upd_same] at z
        cases z
        exact .inr ⟨rfl, hk, _, _, rfl⟩
      · rw [upd_ne c] at z
        obtain ⟨⟨p, hp, e⟩, e2⟩ := Tn b u z
        exact .inl ⟨p, hp, e, e2⟩
    · by_cases c : b = a
      · subst c
        rw [upd_same] at z
        cases z
        exact ⟨B.sc, by rw [List.length_map]; exact hl, vs, _, vals_ints hi, B.sc⟩
      · rw [upd_ne c] at z
        obtain ⟨c, rfl⟩ := Tn b u z
        exact isT b c
/-- what is known of the law's promise at the head's heap -/
def LawG (l : PySem.W.OpenLaw) (w : World) (K : PySem.W.Frag) (CX : CXT) (k n : Nat) (x : Str) (mg : Str → Option Value) (fa : Addr) (h : Heap) : Prop :=
  ∃ (fd : FuncData) (cs : List (Addr × Addr)) (sp : Sp), (∀ p ∈ cs, h.get? p.2 = some { cls := .none, data := .fields #[] } ∧ K.lookup p.2 = none ∧ PySem.W.CodeHd h p.1 p.2) ∧ (∀ (s : Shared) (u : Value), BindsTo s fd ⟨[u], []⟩ [(x, u)]) ∧
    (∀ (H : Hp) (a : Addr) (ns : List Int), ns.length ≤ n → (∀ z ∈ ns, Builtin.Int.intBits z ≤ 1048576) → (∀ p ∈ cs, H p.2 = some (.tbl #[])) → SqL K H a (ns.map V.int) → sp [.ref a] H (fun v _ => v = .bl true) E0) ∧
    ∀ base : Heap, K.In base → base.Ns mainGlobals mg → (∀ p ∈ cs, TabB base mg p.1 p.2) → FnG l.prog w K mg base CX k fa fd [x] sp
/-- the end; names: the defs with generator expressions -/
theorem walk_ofG {l : PySem.W.OpenLaw} {n k : Nat} {q : Program} {loose : List Str} {XP : (Str → Option Value) → Heap → Prop} {YP : World → Heap → Prop} {d : DefRec} {K : Params → PySem.W.Frag} {CX : World → CXT} {x : Str}
    (hn : l.most = some n) (hz : n ≤ sizeLine) (hdf : d.params.defaults = []) (hr : Room k callerA) (hY : ∀ (w : World) (h : Heap), YP w h → (K w.params).In h)
    (F : ∀ (w : World) (mg : Str → Option Value) (fa : Addr) (h : Heap), YP w h → (K w.params).In h → h.Ns mainGlobals mg → mg d.name = some (.ref fa) →
      (∀ e ∈ recsOf q, ∃ (a : Addr) (o : Obj) (fd : FuncData) (c p : Addr), mg e.name = some (.ref a) ∧ h.get? a = some o ∧ o.data = .func fd ∧ fd.code = .ref c ∧ h.IsCode c p #[] ∧ h.TableAt c p #[]) → LawG l w (K w.params) (CX w) k n x mg fa h)
    (hX : ∀ (w : World) (H : Hp) (s : Shared) (e : Value) (t : Shared), CX w [] H s E0 e t → False) :
    PySem.W.WalkO q loose XP YP l.row.toRowW d [] (fun f vs => PySem.call f vs) := by
  refine Att.attach_callB hn hdf ?_
  intro w s₀ s mg mb fa o pm cd doc a vs ns G Y _ _ _ hmg ha hi hlen bits hg
  have KX := hY w _ Y
  obtain ⟨fd, cs, sp, tabs, bind, start, run⟩ := F w mg fa _ Y KX G.T.g hmg fun e he => G.T.tab e he
  have B : Beg s.heap (K w.params) mg cs a vs.toArray := ⟨KX, G.T.g, ⟨mb, G.T.b, G.T.builtins⟩, G.T.nolimit, fun p hp => (tabs p hp).1, fun p hp => (tabs p hp).2.1, fun p hp => (tabs p hp).2.2, G.T.bmain, ha⟩
  obtain ⟨H, Ft, sq, ok⟩ := fit_of l.prog w B hi (Nat.le_trans hlen hz)
  have e0 : Env0 l.prog w (K w.params) mg (hidT s.heap H) callerA [] s H := ⟨rfl, Ft.mod B, fun b u e => of_hidT e, Nat.le_of_eq (hidT_size _ _), trivial, by simp [frs], ok, .of_eq hg⟩
  refine codeAny_mono ((run _ (Ft.kin B) (Ft.dic B G.T.g) (Ft.tabs B)).go callerA [] s H ⟨[.ref a], []⟩ [.ref a] [.ref a] _ E0 rfl hr e0 (bind s (.ref a)) (.cons rfl .nil) (start H a ns hlen bits Ft.tb sq)) ?_
  intro r t z
  match r, z with
  | .error e, z => exact (hX w H s e t z).elim
  | .ok .next, z => exact z.elim
  | .ok .brk, z => exact z.elim
  | .ok .cont, z => exact z.elim
  | .ok (.ret u), ⟨v, G', os, bare, un, ok', rv, e⟩ =>
    have e : v = .bl true := e
    subst e
    obtain rfl : u = Value.bool true := rv
    exact ⟨rfl, Ft.old B un ok ok', os, bare⟩
end Kf

/-! the signs of a repr: texts of letters, tuples -/
namespace Kf
open PySem PySem.Spec PyProof.Rows L2 PySem.Builtin.Str
/-- of small letters alone -/
def Low (x : Str) : Prop := ∀ c ∈ x.cps.toList, 97 ≤ c ∧ c < 123
theorem ch_low : ∀ i : Fin 26, reprChar 39 (97 + i.val) = [97 + i.val] := by decide +kernel
theorem ch_low' {c : Nat} (h : 97 ≤ c ∧ c < 123) : reprChar 39 c = [c] := by
  have z := ch_low ⟨c - 97, by omega⟩
  have e : 97 + (c - 97) = c := by omega
  simp only [e] at z
  exact z
theorem fold_low : ∀ (l : List Nat) (acc : Array Nat), (∀ c ∈ l, 97 ≤ c ∧ c < 123) → (l.foldl (fun out c => out ++ (reprChar 39 c).toArray) acc).toList = acc.toList ++ l
  | [], acc, _ => by simp
  | c :: l, acc, h => by
    rw [List.foldl_cons, fold_low l _ fun d hd => h d (List.mem_cons_of_mem _ hd), ch_low' (h c List.mem_cons_self)]
    simp
theorem quote_low {x : Str} (h : Low x) : reprQuote x = 39 := by
  unfold reprQuote
  have e : x.cps.contains 39 = false := by
    rw [← Bool.not_eq_true]
    intro z
    have m : (39 : Nat) ∈ x.cps := by simpa using z
    have := h 39 (Array.mem_def.mp m)
    omega
  rw [e]
  rfl
theorem repr_low {x : Str} (h : Low x) : (reprText x).cps.toList = 39 :: (x.cps.toList ++ [39]) := by
  unfold reprText
  rw [quote_low h, ← Array.foldl_toList, Array.toList_push, fold_low _ _ h]
  rfl
theorem cnt_low {x : Str} (h : Low x) : cnt 40 (reprText x).cps.toList = 0 := by
  rw [repr_low h, cnt_cons, cnt_append]
  have z : ∀ l : List Nat, (∀ c ∈ l, 97 ≤ c ∧ c < 123) → cnt 40 l = 0 := by
    intro l
    induction l with
    | nil => intro _; rfl
    | cons c l ih =>
      intro h
      rw [cnt_cons, ih fun d hd => h d (List.mem_cons_of_mem _ hd)]
      have := h c List.mem_cons_self
      rw [if_neg (by omega)]
      rfl
  rw [z _ h]
  decide
theorem len_low {x : Str} (h : Low x) : (reprText x).length = x.cps.toList.length + 2 := by
  show (reprText x).cps.size = _
  rw [← Array.length_toList, repr_low h]
  simp
theorem cps_app (x y : Str) : (x ++ y).cps.toList = x.cps.toList ++ y.cps.toList := by
  show (x.cps ++ y.cps).toList = _
  rw [Array.toList_append]
theorem cnt_tup (ts : List Str) : cnt 40 (tupleText ts).cps.toList = 1 + (ts.map fun t => cnt 40 t.cps.toList).sum := by
  unfold tupleText
  rw [cps_app, cps_app, cnt_append, cnt_append, cnt_join_sum]
  have e1 : cnt 40 (("(" : Str)).cps.toList = 1 := by decide +kernel
  have e2 : cnt 40 ((", " : Str)).cps.toList = 0 := by decide +kernel
  have e3 : cnt 40 (((if ts.length == 1 then ",)" else ")" : String) : Str)).cps.toList = 0 := by split <;> decide +kernel
  rw [e1, e2, e3, Int.mul_zero]
  omega
theorem count_par (x : Str) : Txt.count x "(" = cnt 40 x.cps.toList := by
  have e : (("(" : String) : Str) = ⟨#[40]⟩ := by decide +kernel
  rw [e]
  exact count_cnt x 40
end Kf

namespace Kq
open PySem PySem.Spec PyProof.Rows L2 Kf Kg Kv GxR
/-! what is a data kind, a kind -/
def isLo (c : Nat) : Bool := decide (c ∈ lets.cps.toList)
def nmS (x : Str) : Bool := decide (1 ≤ x.length) && decide (x.length ≤ 8) && x.cps.toList.all isLo
def nmD : Dt → Bool
  | .str x => nmS x
  | _ => false
def ar (w : Str) : Option Nat :=
  if w = "open" then some 1 else if w = "num" then some 0 else if w = "truth" then some 0 else if w = "pair" then some 2 else if w = "either" then some 2 else if w = "list" then some 1 else if w = "fun" then some 2 else none
def nm1 : List Dt → Bool
  | x :: _ => nmD x
  | [] => false
/-- the form alone -/
def frm : Dt → Bool
  | .tup (.str w :: xs) => !decide (w = "fun") && (match ar w with | some k => decide (xs.length = k) | none => false) && (!decide (w = "open") || nm1 xs)
  | _ => false
/-- the parts that are kinds -/
def prt : Dt → List Dt
  | .tup (.str w :: xs) => if w = "open" then [] else xs
  | _ => []
theorem prt_sz : ∀ x : Dt, Dt.szs (prt x) + 1 ≤ x.sz
  | .tup [] => Nat.le_refl _
  | .tup (.str w :: xs) => by
    have e : (Dt.tup (.str w :: xs)).sz = 1 + (1 + Dt.szs xs) := by simp only [Dt.sz, Dt.szs]
    rw [e]
    show Dt.szs (if w = "open" then [] else xs) + 1 ≤ _
    by_cases h : w = "open"
    · rw [if_pos h]
      simp only [Dt.szs]
      omega
    · rw [if_neg h]
      omega
  | .tup (.non :: xs) => by show 0 + 1 ≤ 1 + _; omega
  | .tup (.bl _ :: xs) => by show 0 + 1 ≤ 1 + _; omega
  | .tup (.int _ :: xs) => by show 0 + 1 ≤ 1 + _; omega
  | .tup (.tup _ :: xs) => by show 0 + 1 ≤ 1 + _; omega
  | .tup (.lst _ :: xs) => by show 0 + 1 ≤ 1 + _; omega
  | .tup (.dct _ :: xs) => by show 0 + 1 ≤ 1 + _; omega
  | .lst xs => by show 0 + 1 ≤ 1 + _; omega
  | .non => Nat.le_refl _
  | .bl _ => Nat.le_refl _
  | .int _ => Nat.le_refl _
  | .str _ => Nat.le_refl _
  | .dct _ => by show 0 + 1 ≤ 1 + _; omega
theorem sz_pos : ∀ x : Dt, 1 ≤ x.sz := fun x => by
  have := prt_sz x
  omega
/-- a data kind: the form, and the parts are so -/
def dat (x : Dt) : Bool := frm x && (prt x).attach.all fun y => dat y.1
termination_by x.sz
decreasing_by
  have h1 := prt_sz x
  have h2 := sz_mem y.2
  omega
theorem dat_eq (x : Dt) : dat x = (frm x && (prt x).all dat) := by
  rw [dat]
  congr 1
  rw [List.all_subtype (g := dat)]
  · simp
  · intro x h
    rfl
end Kq

namespace Kq
open PySem PySem.Spec PyProof.Rows L2 Kf Kg Kv GxR
abbrev tName : Stmt := tp 18
abbrev tTagged : Stmt := tp 19
theorem take_allL {α : Type} {f : α → Bool} {xs : List α} {i : Nat} {x : α} (hx : xs[i]? = some x) (h : (xs.take i).all f = true) (e : f x = true) : (xs.take (i + 1)).all f = true := by
  rw [List.take_add_one, hx, List.all_append, h]
  simp [e]
theorem not_allL {α : Type} {f : α → Bool} {xs : List α} {i : Nat} {x : α} (hx : xs[i]? = some x) (e : f x = false) : xs.all f = false := by
  rw [← Bool.not_eq_true, List.all_eq_true]
  intro z
  rw [z x (List.mem_of_getElem? hx)] at e
  cases e
section
variable {P : Program} {w : World} {K : PySem.W.Frag} {mg : Str → Option Value} {base : Heap}
/-! is_name -/
theorem scName : FnScope ["thing"] ["thing"] (defScope tName) := ⟨rfl, rfl, rfl, by decide +kernel, rfl, by decide +kernel, by decide +kernel⟩
def spName (T : List Addr) : Sp := fun vs H Q _ => ∃ (v : V) (x : Dt), vs = [v] ∧ Dd Any H x v ∧ x.wt ≤ sizeLine ∧ TbS T H ∧ ∀ G : Hp, Sm T H G → Q (.bl (nmD x)) G
theorem okName {f c p : Addr} {fd : FuncData} {k : Nat} {T : List Addr} {u1 u2 : Value} (F : FunC K "is_name" "is_name" tName f fd c) (TB : TabB base mg c p) (hp : p ∈ T)
    (gL : mg "LETTERS" = some u1) (rL : RelV (.str lets) u1) (gN : mg "LONGEST_NAME" = some u2) (rN : RelV (.int 8) u2)
    (ma : mg "all" = none) (mi : mg "isinstance" = none) (ms : mg "str" = none) (ml : mg "len" = none) : FnOk P w K mg base CX0 (k + 4) f fd ["thing"] (spName T) := by
  refine F.ok scName (fun vs H Q E h => ?_) (fun A outer s H vs Q E hr h => ?_)
  · obtain ⟨v, x, rfl, _⟩ := h
    rfl
  obtain ⟨v, x, rfl, hd, hw, tb, q⟩ := h
  refine ⟨_, pss_cons (ps_if (PW.pt (pw_or (pt_not (pt_val (pe_callB (isiK K rfl) (by rfl) mi PyProof.Rows.boot_isinstance (pa_cons (pv 0) (pa_cons (pe_bltn (v := .ty "str") (by rfl) ms PyProof.Rows.boot_str rfl) pa_nil)))))
      (pw_or1 (pt_not (pt_chain op_le op_le pe_int (pe_callB call_len_str (by rfl) ml PySem.boot_len (pa_cons (pv 0) pa_nil)) (pe_glob (v := .int 8) (by rfl) gN rN))))))
      (pss_one (ps_ret pe_bl)) pss_nil)
    (pss_one (ps_ret (pe_allG (c := c) (P := p) (own := ["letter"]) (caps := []) (vs := [0]) (g := gName 0) hr (by rfl) ma TB rfl
    (gxS_by (N := ["thing"]) (sc := defScope tName) (by decide +kernel)) (pi_str (pv 0))
    (fun _ _ _ _ _ => pg_name (i := 0) (show (["letter"] : List Str).Nodup by decide +kernel) rfl (.inl rfl)) (fun _ _ _ _ _ => pe_cmpR op_in_sign (pv 0) (pe_glob (v := .str lets) (by rfl) gL rL) rfl)))), ?_⟩
  refine ⟨_, rfl, _, _, _, _, x.isStr, rfl, .ty "str", hd.ty, kStr K x, _, rfl, ?_⟩
  refine ite2 (fun e => iteT ?_) (fun e => ?_)
  · have e1 : nmD x = false := by
      cases x <;> first | rfl | cases e
    have z := q _ (Sm.refl tb)
    rw [e1] at z
    exact z
  obtain ⟨y, rfl⟩ : ∃ y, x = .str y := by
    cases x with
    | str y => exact ⟨y, rfl⟩
    | _ => exact absurd rfl e
  cases hd
  have hl : y.length ≤ sizeLine := by
    have : (Dt.str y).wt = 10 * y.length + 2 := by simp only [Dt.wt]
    omega
  have no : (decide (1 ≤ y.length) && decide (y.length ≤ 8)) = false → Q (.bl false) H := fun e => by
    have z := q _ (Sm.refl tb)
    have e2 : nmD (.str y) = false := by
      show (decide (1 ≤ y.length) && decide (y.length ≤ 8) && _) = false
      rw [e, Bool.false_and]
    rw [e2] at z
    exact z
  refine ⟨_, rfl, y, rfl, hl, _, _, rfl, rfl, _, rfl, ite2 (fun e1 => ?_) (fun e1 => ?_)⟩
  rotate_left
  · refine ⟨_, rfl, iteT (no ?_)⟩
    have : ¬ ((1 : Int) ≤ (y.length : Int)) := fun z => e1 (decide_eq_true z)
    rw [decide_eq_false (show ¬ 1 ≤ y.length by omega), Bool.false_and]
  have h1 : 1 ≤ y.length := by
    have : (1 : Int) ≤ (y.length : Int) := of_decide_eq_true e1
    omega
  refine ⟨_, _, rfl, rfl, _, rfl, ite2 (fun e2 => no ?_) (fun e2 => ?_)⟩
  · have : ¬ ((y.length : Int) ≤ 8) := fun z => by
      rw [decide_eq_true z] at e2
      cases e2
    rw [decide_eq_false (show ¬ y.length ≤ 8 by omega), Bool.and_false]
  have h2 : y.length ≤ 8 := by
    have : (y.length : Int) ≤ 8 := by
      by_cases z : (y.length : Int) ≤ 8
      · exact z
      · rw [decide_eq_false z] at e2
        exact absurd rfl e2
    omega
  have et : nmD (.str y) = y.cps.toList.all isLo := by
    show (decide (1 ≤ y.length) && decide (y.length ≤ 8) && _) = _
    rw [decide_eq_true h1, decide_eq_true h2]
    rfl
  refine ⟨_, rfl, y, rfl, tb p hp, fun H2 htab => ?_⟩
  have s2 : Sm T H H2 := Sm.tab hp tb htab
  refine all_it walk_str (fun i F => Sm T H F ∧ (y.cps.toList.take i).all isLo = true) ⟨s2, rfl⟩ (fun i F _ _ => trivial) (fun i x F F' hi z yy => ?_) (fun F z => ?_)
  · obtain ⟨sF, al⟩ := z
    obtain ⟨rfl, c, hc, rfl⟩ := yy
    have hc' : y.cps.toList[i]? = some c := by rw [Array.getElem?_toList]; exact hc
    refine ⟨rfl, _, rfl, c, lets, rfl, rfl, _, rfl, ite2 (fun e => ⟨sF, take_allL hc' al e⟩) (fun e => ?_)⟩
    have z := q _ sF
    rw [et, not_allL hc' (by simpa [isLo] using e)] at z
    exact z
  · obtain ⟨sF, al⟩ := z
    have el : y.cps.toList.take y.cps.size = y.cps.toList := by
      rw [← Array.length_toList, List.take_length]
    rw [el] at al
    have z := q _ sF
    rw [et, al] at z
    exact z
end
end Kq

namespace Kq
open PySem PySem.Spec PyProof.Rows L2 Kf Kg Kv GxR
abbrev tForm : Stmt := tp 23
abbrev tWithin : Stmt := tp 24
/-- this word and so many parts behind it -/
def tagD (x : Dt) (z : Str) (m : Nat) : Bool := match x with
  | .tup (y :: ys) => decide (ys.length = m) && y.isS z
  | _ => false
theorem Dd.tupS {N : Addr → Prop} {H : Hp} {xs : List Dt} {v : V} (h : Dd N H (.tup xs) v) : ∃ a vs, v = .ref a ∧ H a = some (.tup vs) ∧ DdL N H xs vs := by
  cases h with
  | tup h t => exact ⟨_, _, rfl, h, t⟩
theorem DdL.see {N : Addr → Prop} {H : Hp} {xs : List Dt} {vs : List V} (h : DdL N H xs vs) : (xs = [] ∧ vs = []) ∨ ∃ y ys w ws, xs = y :: ys ∧ vs = w :: ws ∧ Dd N H y w ∧ DdL N H ys ws := by
  cases h with
  | nil => exact .inl ⟨rfl, rfl⟩
  | cons h t => exact .inr ⟨_, _, _, _, rfl, rfl, h, t⟩
/-- the table of forms -/
structure Forms (K : PySem.W.Frag) (w : World) (dA : Addr) (es : Array DictEntry) (n : Nat) : Prop where
  dict : KDict K w dA es n
  no : ∀ z : Str, ar z = none → PySem.W.nsIn K dA z = some none
  yes : ∀ (z : Str) (m : Nat), ar z = some m → ∃ (t : Addr) (ys : List V), PySem.W.nsIn K dA z = some (some (.ref t)) ∧ ys.length = m ∧ ∀ G : Hp, SqT K G t ys
section
variable {P : Program} {w : World} {K : PySem.W.Frag} {mg : Str → Option Value} {base : Heap}
/-! is_tagged -/
theorem scTagged : FnScope ["thing", "word", "many"] ["thing", "word", "many"] (defScope tTagged) := ⟨rfl, rfl, rfl, by decide +kernel, rfl, by decide +kernel, by decide +kernel⟩
def spTagged : Sp := fun vs H Q _ => ∃ (v : V) (x : Dt) (z : Str) (m : Nat), vs = [v, .str z, .int (m : Int)] ∧ Dd Any H x v ∧ Q (.bl (tagD x z m)) H
theorem okTagged {f : Addr} {fd : FuncData} {k : Nat} (F : Fun K "is_tagged" "is_tagged" tTagged f fd) (mi : mg "isinstance" = none) (mt : mg "tuple" = none) (ml : mg "len" = none) : FnOk P w K mg base CX0 (k + 1) f fd ["thing", "word", "many"] spTagged := by
  refine F.ok scTagged (fun vs H Q E h => ?_) (fun cdv A outer s H vs Q E hr h => ?_)
  · obtain ⟨v, x, z, m, rfl, _⟩ := h
    rfl
  obtain ⟨v, x, z, m, rfl, hd, q⟩ := h
  refine ⟨_, pss_one (ps_ret (pe_and (pe_callB (isiK K rfl) (by rfl) mi PyProof.Rows.boot_isinstance (pa_cons (pv 0) (pa_cons (pe_bltn (v := .ty "tuple") (by rfl) mt PyProof.Rows.boot_tuple rfl) pa_nil)))
    (pe_and (pe_cmpR op_eq (pe_callB call_len_seq (by rfl) ml PySem.boot_len (pa_cons (pv 0) pa_nil)) (pe_op op_add (pv 2) pe_int) (nomark _))
    (pe_one (pe_cmpR (op_eqUS hr.units) (pe_ix ix_tup (pv 0) pe_int (fun _ _ => rfl)) (pv 1) (nomark _)))))), ?_⟩
  refine ⟨_, rfl, _, _, _, _, x.isTup, rfl, .ty "tuple", hd.ty, kTup K x, _, rfl, ite2 (fun e => ?_) (fun e => ?_)⟩
  rotate_left
  · have e1 : tagD x z m = false := by
      cases x <;> first | rfl | exact absurd rfl e
    rw [e1] at q
    exact q
  obtain ⟨xs, rfl⟩ : ∃ xs, x = .tup xs := by
    cases x with
    | tup xs => exact ⟨xs, rfl⟩
    | _ => cases e
  obtain ⟨a, us, rfl, ha, hL⟩ := Dd.tupS hd
  have ll := hL.len
  refine ⟨_, rfl, a, us, rfl, .inr (SqT.of ha), _, rfl, _, _, rfl, rfl, rfl, _, rfl, ite2 (fun e => ?_) (fun e => ?_)⟩
  · have e1 : (us.length : Int) = (m : Int) + 1 := V.int.inj (of_decide_eq_true e)
    rcases DdL.see hL with ⟨rfl, rfl⟩ | ⟨y, ys, w, ws, rfl, rfl, h, t⟩
    · have : ((0 : Nat) : Int) = (m : Int) + 1 := e1
      omega
    · refine ⟨_, rfl, a, _, _, _, rfl, rfl, SqT.of ha, atI_nat (j := 0) rfl, _, rfl, y, z, h, rfl, ?_⟩
      have l2 := t.len
      have e2 : tagD (.tup (y :: ys)) z m = y.isS z := by
        show (decide (ys.length = m) && _) = _
        rw [List.length_cons] at e1
        rw [decide_eq_true (by omega), Bool.true_and]
      rw [e2] at q
      exact q
  · have e1 : ¬ (us.length : Int) = (m : Int) + 1 := fun z => e (decide_eq_true (by rw [z]))
    have e2 : tagD (.tup xs) z m = false := by
      cases xs with
      | nil => rfl
      | cons y ys =>
        show (decide (ys.length = m) && _) = _
        rw [List.length_cons] at ll
        rw [decide_eq_false (by omega), Bool.false_and]
    rw [e2] at q
    exact q
/-! kinds_within -/
theorem scWithin : FnScope ["kind"] ["kind"] (defScope tWithin) := ⟨rfl, rfl, rfl, by decide +kernel, rfl, by decide +kernel, by decide +kernel⟩
def spWithin (N : Addr → Prop) : Sp := fun vs H Q _ => ∃ (v : V) (x : Dt), vs = [v] ∧ Dd N H x v ∧ frm x = true ∧ ∀ (p : Addr) (us : List V) (G : Hp), Same H G → G p = some (.tup us) → DdL N G (prt x) us → Q (.ref p) G
theorem okWithin {f : Addr} {fd : FuncData} {k : Nat} {N : Addr → Prop} (F : Fun K "kinds_within" "kinds_within" tWithin f fd) : FnOk P w K mg base CX0 (k + 1) f fd ["kind"] (spWithin N) := by
  refine F.ok scWithin (fun vs H Q E h => ?_) (fun cdv A outer s H vs Q E hr h => ?_)
  · obtain ⟨v, t, rfl, _⟩ := h
    rfl
  obtain ⟨v, x, rfl, hd, hf, q⟩ := h
  obtain ⟨wd, xs, rfl⟩ : ∃ wd xs, x = .tup (.str wd :: xs) := by
    unfold frm at hf
    split at hf
    · exact ⟨_, _, rfl⟩
    · cases hf
  obtain ⟨a, us, rfl, ha, hL⟩ := Dd.tupS hd
  obtain ⟨us, rfl, hL2⟩ : ∃ ys, us = .str wd :: ys ∧ DdL N H xs ys := by
    cases hL with
    | cons h t =>
      cases h
      exact ⟨_, rfl, t⟩
  refine ⟨_, pss_cons (ps_if (pt_cmpR op_eq (pe_ix ix_tup (pv 0) pe_int (fun _ _ => rfl)) pe_str (nomark _)) (pss_one (ps_ret (pe_tup pa_nil))) pss_nil)
    (pss_one (ps_ret (pe_slice sl_tup (pv 0) (po_some pe_int) po_none))), ?_⟩
  have ep : prt (.tup (.str wd :: xs)) = if wd = "open" then [] else xs := rfl
  rw [ep] at q
  refine ⟨_, rfl, a, _, _, _, rfl, rfl, SqT.of ha, atI_nat (j := 0) rfl, rfl, _, rfl, ?_⟩
  refine ite2 (fun e => ?_) (fun e => ?_)
  · have e1 : wd = "open" := V.str.inj (of_decide_eq_true e)
    rw [if_pos e1] at q
    exact ⟨Nat.zero_le _, fun p np => q p [] _ (newS np) upd_same .nil⟩
  · have e1 : ¬ wd = "open" := fun z => e (decide_eq_true (by rw [z]))
    rw [if_neg e1] at q
    refine ⟨_, rfl, 1, rfl, a, _, rfl, SqT.of ha, notWhole _ _, fun p np => ?_⟩
    rw [cutFrom1]
    exact q p us _ (newS np) upd_same (hL2.same (newS np))
end
end Kq

namespace Kq
open PySem PySem.Spec PyProof.Rows L2 Kf Kg Kv GxR
theorem frm_eq (wd : Str) (xs : List Dt) : frm (.tup (.str wd :: xs)) = (!decide (wd = "fun") && (match ar wd with | some k => decide (xs.length = k) | none => false) && (!decide (wd = "open") || nm1 xs)) := rfl
def u0s (ws : List V) : Nat := ws.length + 1
section
variable {P : Program} {w : World} {K : PySem.W.Frag} {mg : Str → Option Value} {base : Heap}
theorem scForm : FnScope ["thing", "word"] ["thing"] (defScope tForm) := ⟨rfl, rfl, rfl, by decide +kernel, rfl, by decide +kernel, by decide +kernel⟩
def spForm (T : List Addr) : Sp := fun vs H Q _ => ∃ (v : V) (x : Dt), vs = [v] ∧ Dd Any H x v ∧ x.wt ≤ sizeLine ∧ TbS T H ∧ ∀ G : Hp, Sm T H G → Q (.bl (frm x)) G
theorem okForm {f fN dA : Addr} {fd fdN : FuncData} {k : Nat} {T : List Addr} {es : Array DictEntry} {n : Nat} (F : Fun K "has_data_form" "has_data_form" tForm f fd)
    (GN : FnOk P w K mg base CX0 (k + 4) fN fdN ["thing"] (spName T)) (bN : Binds K fdN ["thing"] []) (gN : mg "is_name" = some (.ref fN)) (kN : PySem.W.keepIn K (.ref fN) = true)
    (gD : mg "KIND_FORMS" = some (.ref dA)) (hD : Forms K w dA es n)
    (mi : mg "isinstance" = none) (mt : mg "tuple" = none) (ms : mg "str" = none) (ml : mg "len" = none) : FnOk P w K mg base CX0 (k + 5) f fd ["thing"] (spForm T) := by
  refine F.ok scForm (fun vs H Q E h => ?_) (fun cdv A outer s H vs Q E hr h => ?_)
  · obtain ⟨v, x, rfl, _⟩ := h
    rfl
  obtain ⟨v, x, rfl, hd, hw, tb, q⟩ := h
  refine ⟨_, pss_cons (ps_if (PW.pt (pw_or (pt_not (pt_val (pe_callB (isiK K rfl) (by rfl) mi PyProof.Rows.boot_isinstance (pa_cons (pv 0) (pa_cons (pe_bltn (v := .ty "tuple") (by rfl) mt PyProof.Rows.boot_tuple rfl) pa_nil)))))
      (pw_or (pt_not (pt_truth (pv 0) (by intro _; rfl)))
      (pw_or1 (pt_not (pt_val (pe_callB (isiK K rfl) (by rfl) mi PyProof.Rows.boot_isinstance (pa_cons (pe_ix ix_tup (pv 0) pe_int (fun _ _ => rfl)) (pa_cons (pe_bltn (v := .ty "str") (by rfl) ms PyProof.Rows.boot_str rfl) pa_nil)))))))))
      (pss_one (ps_ret pe_bl)) pss_nil)
    (pss_cons (ps_set (i := 1) scForm.nd rfl (.inl rfl) (pe_ix ix_tup (pv 0) pe_int (fun _ _ => rfl)))
    (pss_cons (ps_if (PW.pt (pw_or (pt_cmpR op_eq (pv 1) pe_str (nomark _)) (pw_or (pt_cmpR (op_notIn_kd hD.dict) (pv 1) (pe_glob (v := .ref dA) (by rfl) gD rfl) rfl)
      (pw_or1 (pt_cmpR op_ne (pe_callB call_len_seq (by rfl) ml PySem.boot_len (pa_cons (pv 0) pa_nil)) (pe_op op_add (pe_callB call_len_seq (by rfl) ml PySem.boot_len (pa_cons (pe_ix ix_kdict (pe_glob (v := .ref dA) (by rfl) gD rfl) (pv 1) (fun _ _ => rfl)) pa_nil)) pe_int) (nomark _))))))
      (pss_one (ps_ret pe_bl)) pss_nil)
    (pss_one (ps_ret (pe_or (pe_cmpR op_ne (pv 1) pe_str (nomark _)) (pe_one (pe_call GN hr (by rfl) gN kN bN .nil pass0 (pa_cons (pe_ix ix_tup (pv 0) pe_int (fun _ _ => rfl)) pa_nil)))))))), ?_⟩
  have no : frm x = false → Q (.bl false) H := fun e => by
    have z := q _ (Sm.refl tb)
    rw [e] at z
    exact z
  refine ⟨_, rfl, _, _, _, _, x.isTup, rfl, .ty "tuple", hd.ty, kTup K x, _, rfl, ite2 (fun e => iteT (no ?_)) (fun e => ?_)⟩
  · cases x <;> first | rfl | cases e
  obtain ⟨xs, rfl⟩ : ∃ xs, x = .tup xs := by
    cases x with
    | tup xs => exact ⟨xs, rfl⟩
    | _ => exact absurd rfl e
  obtain ⟨a, us, rfl, ha, hL⟩ := Dd.tupS hd
  refine ⟨_, rfl, _, .inr (.inl ⟨us, SqT.of ha, rfl⟩), ite2 (fun e => iteT (no ?_)) (fun e => ?_)⟩
  · rcases DdL.see hL with ⟨rfl, rfl⟩ | ⟨y, ys, w, ws, rfl, rfl, h, t⟩
    · rfl
    · cases e
  rcases DdL.see hL with ⟨rfl, rfl⟩ | ⟨y, ys, u0, ws, rfl, rfl, hy, hys⟩
  · exact absurd rfl e
  have hix : atI (u0 :: ws) 0 = some u0 := atI_nat (j := 0) rfl
  refine ⟨_, rfl, a, _, _, _, rfl, rfl, SqT.of ha, hix, _, _, _, _, y.isStr, rfl, .ty "str", hy.ty, kStr K y, _, rfl, ite2 (fun e => no ?_) (fun e => ?_)⟩
  · cases y <;> first | rfl | cases e
  obtain ⟨wd, rfl⟩ : ∃ z, y = .str z := by
    cases y with
    | str z => exact ⟨z, rfl⟩
    | _ => exact absurd rfl e
  cases hy
  refine ⟨_, rfl, a, _, _, _, rfl, rfl, SqT.of ha, hix, ?_⟩
  refine ⟨_, rfl, rfl, _, rfl, ite2 (fun e => iteT (no ?_)) (fun e => ?_)⟩
  · have e1 : wd = "fun" := V.str.inj (of_decide_eq_true e)
    rw [frm_eq, decide_eq_true e1]
    rfl
  have e1 : ¬ wd = "fun" := fun z => e (decide_eq_true (by rw [z]))
  cases har : ar wd with
  | none =>
    refine ⟨_, rfl, wd, none, rfl, rfl, hD.no wd har, _, rfl, iteT (iteT (no ?_))⟩
    rw [frm_eq, har, Bool.and_false]
    rfl
  | some m =>
    obtain ⟨t, zs, ht, lz, hs⟩ := hD.yes wd m har
    refine ⟨_, rfl, wd, _, rfl, rfl, ht, _, rfl, iteF ?_⟩
    have ly := hys.len
    refine ⟨_, rfl, a, _, rfl, .inr (SqT.of ha), _, rfl, dA, wd, .ref t, rfl, rfl, ⟨es, n, _, hD.dict.at_, hD.dict.lit, ht, rfl⟩, t, zs, rfl, .inr (hs _), _, _, rfl, rfl, rfl, _, rfl, ite2 (fun e => no ?_) (fun e => ?_)⟩
    · have e2 : ¬ ys.length = m := fun z => by
        have : ((u0s ws : Nat) : Int) = (zs.length : Int) + 1 := by
          unfold u0s
          omega
        rw [show decide (V.int ((V.str wd :: ws).length : Int) = _) = true from decide_eq_true (congrArg V.int this)] at e
        cases e
      rw [frm_eq, har]
      show (_ && decide (ys.length = m) && _) = false
      rw [decide_eq_false e2, Bool.and_false, Bool.false_and]
    have e2 : ys.length = m := by
      by_cases z : ys.length = m
      · exact z
      · refine absurd ?_ e
        have : ¬ ((u0s ws : Nat) : Int) = (zs.length : Int) + 1 := by
          unfold u0s
          omega
        rw [show decide (V.int ((V.str wd :: ws).length : Int) = _) = false from decide_eq_false (fun h => this (V.int.inj h))]
        rfl
    have ef : frm (.tup (.str wd :: ys)) = (!decide (wd = "open") || nm1 ys) := by
      rw [frm_eq, har, decide_eq_false e1]
      show (true && decide (ys.length = m) && _) = _
      rw [decide_eq_true e2]
      rfl
    refine ⟨_, rfl, rfl, _, rfl, ite2 (fun e => ?_) (fun e => ?_)⟩
    · have z := q _ (Sm.refl tb)
      have e3 : ¬ wd = "open" := fun z => by
        rw [z] at e
        revert e
        decide
      rw [ef, decide_eq_false e3] at z
      exact z
    · have e3 : wd = "open" := by
        by_cases z : wd = "open"
        · exact z
        · refine absurd ?_ e
          rw [decide_eq_false (fun h => z (V.str.inj h))]
          rfl
      subst e3
      have hm : m = 1 := by
        have : ar "open" = some 1 := by decide +kernel
        rw [this] at har
        exact (Option.some.inj har).symm
      rcases DdL.see hys with ⟨rfl, rfl⟩ | ⟨y, ys', u1, ws', rfl, rfl, hy, _⟩
      · rw [hm] at e2
        cases e2
      have hwy : y.wt ≤ sizeLine := by
        have : (Dt.tup (.str "open" :: y :: ys')).wt = Dt.wts (.str "open" :: y :: ys') + 3 := by simp only [Dt.wt]
        have : Dt.wts (.str "open" :: y :: ys') = (Dt.str "open").wt + 2 + (y.wt + 2 + Dt.wts ys') := by simp only [Dt.wts]
        omega
      refine ⟨_, rfl, a, _, _, _, rfl, rfl, SqT.of ha, atI_nat (j := 1) rfl, u1, y, rfl, hy, hwy, tb, fun G sG => ?_⟩
      have z := q _ sG
      rw [ef] at z
      exact z
end
end Kq

namespace Kq
open PySem PySem.Spec PyProof.Rows L2 Kf Kg Kv GxR
abbrev tIsData : Stmt := tp 22
theorem prt_wt (x : Dt) : Dt.wts (prt x) ≤ x.wt := by
  unfold prt
  split
  · rename_i w xs
    have e : (Dt.tup (.str w :: xs)).wt = (Dt.str w).wt + 2 + Dt.wts xs + 3 := by simp only [Dt.wt, Dt.wts]
    by_cases h : w = "open"
    · rw [if_pos h]
      simp only [Dt.wts]
      omega
    · rw [if_neg h]
      omega
  · simp only [Dt.wts]
    omega
theorem szs1 (x : Dt) : Dt.szs [x] = x.sz := by simp only [Dt.szs, Nat.add_zero]
theorem wts1 (x : Dt) : Dt.wts [x] = x.wt + 2 := by simp only [Dt.wts, Nat.add_zero]
/-- the places of a heap -/
abbrev Pl (H : Hp) : Addr → Prop := fun b => ∃ u, H b = some u
theorem _root_.Kv.Dd.pl {N : Addr → Prop} {H : Hp} {x : Dt} {v : V} (h : Dd N H x v) : Dd (Pl H) H x v := h.at fun b u _ e => ⟨u, e⟩
theorem _root_.Kv.DdL.pl {N : Addr → Prop} {H : Hp} {x : List Dt} {v : List V} (h : DdL N H x v) : DdL (Pl H) H x v := h.at fun b u _ e => ⟨u, e⟩
section
variable {P : Program} {w : World} {K : PySem.W.Frag} {mg : Str → Option Value} {base : Heap}
theorem scIsData : FnScope ["thing", "waiting", "part"] ["thing"] (defScope tIsData) := ⟨rfl, rfl, rfl, by decide +kernel, rfl, by decide +kernel, by decide +kernel⟩
def spIsData (T : List Addr) : Sp := fun vs H Q _ => ∃ (v : V) (x : Dt), vs = [v] ∧ Dd Any H x v ∧ x.wt + 2 ≤ sizeLine ∧ TbS T H ∧ ∀ G : Hp, Sm T H G → Q (.bl (dat x)) G
theorem okIsData {f fF fW : Addr} {fd fdF fdW : FuncData} {k : Nat} {T : List Addr} (F : Fun K "is_data" "is_data" tIsData f fd)
    (GF : FnOk P w K mg base CX0 (k + 5) fF fdF ["thing"] (spForm T)) (bF : Binds K fdF ["thing"] []) (gF : mg "has_data_form" = some (.ref fF)) (kF : PySem.W.keepIn K (.ref fF) = true)
    (GW : ∀ N : Addr → Prop, FnOk P w K mg base CX0 (k + 5) fW fdW ["kind"] (spWithin N)) (bW : Binds K fdW ["kind"] []) (gW : mg "kinds_within" = some (.ref fW)) (kW : PySem.W.keepIn K (.ref fW) = true) : FnOk P w K mg base CX0 (k + 6) f fd ["thing"] (spIsData T) := by
  refine F.ok scIsData (fun vs H Q E h => ?_) (fun cdv A outer s H vs Q E hr h => ?_)
  · obtain ⟨v, x, rfl, _⟩ := h
    rfl
  obtain ⟨v, x, rfl, hd, hw, tb, q⟩ := h
  refine ⟨_, pss_cons (ps_set (i := 1) scIsData.nd rfl (.inl rfl) (pe_lst (pa_cons (pv 0) pa_nil)))
    (pss_cons (ps_while PassesOwn.never (pt_truth (pv 1) (by intro _; rfl))
      (pss_cons (ps_set (i := 2) scIsData.nd rfl (.inl rfl) (pe_bm0 PySem.F.plainAttrs_list PySem.F.slot_list_pop PySem.F.type_list_pop mt_pop (pv 1)))
      (pss_cons (ps_if (pt_not (pt_val (pe_call GF hr (by rfl) gF kF bF .nil pass0 (pa_cons (pv 2) pa_nil)))) (pss_one (ps_ret pe_bl)) pss_nil)
      (pss_one (ps_expr (pe_bm PySem.F.plainAttrs_list PySem.F.slot_list_extend PySem.F.type_list_extend Kr.mt_extT (pv 1) (pa_cons (pe_call (GW (Pl H)) hr (by rfl) gW kW bW .nil pass0 (pa_cons (pv 2) pa_nil)) pa_nil)))))))
    (pss_one (ps_ret pe_bl))), ?_⟩
  refine ⟨_, rfl, (by show 1 ≤ sizeLine; decide), fun wa nwa => ?_⟩
  have nW : ¬ Pl H wa := fun ⟨u, e⟩ => by
    rw [nwa] at e
    cases e
  let Iv : Nat → L2.St → Hp → Prop := fun m σ G => ∃ ws vs y, m = Dt.szs ws ∧ σ = [some v, some (.ref wa), y] ∧ Sm T H G ∧ G wa = some (.lst vs) ∧ DdL (Pl H) G ws vs ∧ Dt.wts ws ≤ x.wt + 2 ∧ dat x = ws.all dat
  have I0 : Iv (Dt.szs [x]) [some v, some (.ref wa), none] (upd H wa (.lst [v])) := ⟨[x], [v], none, rfl, rfl, (Sm.refl tb).new nwa tb, upd_same, .cons (hd.pl.same (newS nwa)) .nil, by rw [wts1]; omega, by simp⟩
  refine ⟨Iv, ⟨_, I0⟩, fun m σ G z => ?_⟩
  obtain ⟨ws, vs, y, rfl, rfl, sG, gw, rL, hwt, hdat⟩ := z
  refine ⟨_, rfl, _, .inl ⟨vs, SqL.of gw, rfl⟩, ?_⟩
  refine ite2 (fun e => ?_) (fun e => ?_)
  · have nn : vs ≠ [] := fun z => by
      rw [z] at e
      cases e
    obtain ⟨xs, u, zs, p, rfl, rfl, rx, ru⟩ := rL.last nn
    refine ⟨fun σ' G' => ∃ m', m' < _ ∧ Iv m' σ' G', fun σ' G' z => z, ?_⟩
    refine ⟨_, rfl, .inl ⟨rfl, _, SqL.of gw⟩, wa, _, p, rfl, rfl, gw, ?_, ?_⟩
    · rw [List.length_append, List.length_singleton, Nat.add_sub_cancel, List.getElem?_concat_length]
    rw [List.dropLast_concat]
    have ntG : ∀ xs, G wa ≠ some (.tup xs) := fun _ z => by rw [gw] at z; cases z
    have k1 : Kn (Pl H) G (upd G wa (.lst zs)) := Kn.rfl.put nW ntG
    have s1 : Sm T H (upd G wa (.lst zs)) := sG.new nwa tb
    rw [wts_app, wts1] at hwt
    refine ⟨_, rfl, p, u, rfl, (ru.kn k1).any, by omega, s1.2, fun G2 s2 => ⟨_, rfl, ite2 (fun e => ?_) (fun e => ?_)⟩⟩
    · have z := q _ (s1.trans s2)
      have ed : dat x = false := by
        rw [hdat, List.all_append, List.all_cons, dat_eq u, show frm u = false by simpa using e]
        simp
      rw [ed] at z
      exact z
    have hf : frm u = true := by simpa using e
    have k2 : Kn (Pl H) (upd G wa (.lst zs)) G2 := s2.kn s1.2
    have gw2 : G2 wa = some (.lst zs) := s2.at s1.2 upd_same (fun ps z => by cases z)
    refine ⟨_, rfl, .inl ⟨rfl, _, SqL.of gw2⟩, _, rfl, p, u, rfl, (ru.kn k1).kn k2, hf, fun pa us G3 s3 gp rp => ?_⟩
    have gw3 := s3 _ _ gw2
    have lx := rx.len
    have lp := rp.len
    have l1 := len_szs xs
    have l2 := Dt.szs_wts xs
    have l3 := len_szs (prt u)
    have l4 := Dt.szs_wts (prt u)
    have l5 := prt_wt u
    have l6 := prt_sz u
    refine ⟨wa, pa, zs, us, rfl, rfl, gw3, SqT.of gp, by omega, ?_⟩
    have nt3 : ∀ xs, G3 wa ≠ some (.tup xs) := fun _ z => by rw [gw3] at z; cases z
    have k3 : Kn (Pl H) G2 G3 := .of s3
    have k4 : Kn (Pl H) G3 (upd G3 wa (.lst (zs ++ us))) := Kn.rfl.put nW nt3
    have s4 : Sm T H (upd G3 wa (.lst (zs ++ us))) := ((s1.trans s2).trans (Sm.of s3 s2.2)).new nwa tb
    refine ⟨Dt.szs (xs ++ prt u), ?_, xs ++ prt u, zs ++ us, _, rfl, rfl, s4, upd_same, ?_, ?_, ?_⟩
    · rw [szs_app, szs_app, szs1]
      omega
    · exact ((((rx.kn k1).kn k2).kn k3).kn k4).app (rp.kn k4)
    · rw [wts_app]
      omega
    · rw [hdat, List.all_append, List.all_append, List.all_cons, dat_eq u, hf]
      simp
  · have ev : vs = [] := by
      cases vs with
      | nil => rfl
      | cons a b => exact absurd rfl e
    subst ev
    cases rL
    have z := q _ sG
    rw [hdat] at z
    exact z
end
end Kq

namespace Kq
open PySem PySem.Spec PyProof.Rows L2 Kf Kg Kv GxR
abbrev tIsFirst : Stmt := tp 25
abbrev tIsArg : Stmt := tp 26
/-- from arguments of p to a data kind -/
def chD (p : Dt → Bool) (x : Dt) : Bool := match x with
  | .tup [.str z, a, b] => if z = "fun" then p a && chD p b else dat x
  | _ => dat x
termination_by x.sz
decreasing_by
  simp only [Dt.sz, Dt.szs]
  omega
theorem chD_fn (p : Dt → Bool) (a b : Dt) : chD p (.tup [.str "fun", a, b]) = (p a && chD p b) := by
  rw [chD]
  exact if_pos rfl
theorem tag_fn {x : Dt} (h : tagD x "fun" 2 = true) : ∃ a b, x = .tup [.str "fun", a, b] := by
  unfold tagD at h
  split at h
  · rename_i y ys
    obtain ⟨h1, h2⟩ := Bool.and_eq_true_iff.mp h
    have h1 := of_decide_eq_true h1
    obtain ⟨a, b, rfl⟩ : ∃ a b, ys = [a, b] := by
      match ys, h1 with
      | [a, b], _ => exact ⟨a, b, rfl⟩
    cases y with
    | str z => exact ⟨a, b, by rw [show z = "fun" from of_decide_eq_true h2]⟩
    | _ => cases h2
  · cases h
theorem tag_fn' (a b : Dt) : tagD (.tup [.str "fun", a, b]) "fun" 2 = true := by
  show (decide ([a, b].length = 2) && decide (("fun" : Str) = "fun")) = true
  simp
theorem chD_no (p : Dt → Bool) {x : Dt} (h : tagD x "fun" 2 = false) : chD p x = dat x := by
  unfold chD
  split
  · rename_i z a b
    by_cases e : z = "fun"
    · subst e
      rw [tag_fn'] at h
      cases h
    · exact if_neg e
  · rfl
theorem dat_fn (a b : Dt) : dat (.tup [.str "fun", a, b]) = false := by
  rw [dat_eq]
  have : frm (.tup [.str "fun", a, b]) = false := by
    unfold frm
    simp
  rw [this]
  rfl
def fstD (x : Dt) : Bool := tagD x "fun" 2 && chD dat x
def argD (x : Dt) : Bool := dat x || fstD x
def kndD (x : Dt) : Bool := chD argD x
theorem wt3 (u a b : Dt) : (Dt.tup [u, a, b]).wt = u.wt + a.wt + b.wt + 9 := by
  simp only [Dt.wt, Dt.wts]
  omega
theorem sz3 (u a b : Dt) : (Dt.tup [u, a, b]).sz = u.sz + a.sz + b.sz + 1 := by
  simp only [Dt.sz, Dt.szs]
  omega
theorem Dd.tup3 {N : Addr → Prop} {H : Hp} {u a b : Dt} {v : V} (h : Dd N H (.tup [u, a, b]) v) : ∃ p x y z, v = .ref p ∧ H p = some (.tup [x, y, z]) ∧ Dd N H u x ∧ Dd N H a y ∧ Dd N H b z := by
  obtain ⟨p, vs, rfl, hp, hL⟩ := Dd.tupS h
  cases hL with
  | cons h1 t =>
    cases t with
    | cons h2 t =>
      cases t with
      | cons h3 t =>
        cases t
        exact ⟨p, _, _, _, rfl, hp, h1, h2, h3⟩
section
variable {P : Program} {w : World} {K : PySem.W.Frag} {mg : Str → Option Value} {base : Heap}
theorem scIsFirst : FnScope ["thing", "rest"] ["thing"] (defScope tIsFirst) := ⟨rfl, rfl, rfl, by decide +kernel, rfl, by decide +kernel, by decide +kernel⟩
def spYes (T : List Addr) (p : Dt → Bool) : Sp := fun vs H Q _ => ∃ (v : V) (x : Dt), vs = [v] ∧ Dd Any H x v ∧ x.wt + 2 ≤ sizeLine ∧ TbS T H ∧ ∀ G : Hp, Sm T H G → Q (.bl (p x)) G
theorem okIsFirst {f fT fD : Addr} {fd fdT fdD : FuncData} {k : Nat} {T : List Addr} (F : Fun K "is_first" "is_first" tIsFirst f fd)
    (GT : FnOk P w K mg base CX0 (k + 6) fT fdT ["thing", "word", "many"] spTagged) (bT : Binds K fdT ["thing", "word", "many"] []) (gT : mg "is_tagged" = some (.ref fT)) (kT : PySem.W.keepIn K (.ref fT) = true)
    (GD : FnOk P w K mg base CX0 (k + 6) fD fdD ["thing"] (spIsData T)) (bD : Binds K fdD ["thing"] []) (gD : mg "is_data" = some (.ref fD)) (kD : PySem.W.keepIn K (.ref fD) = true) : FnOk P w K mg base CX0 (k + 7) f fd ["thing"] (spYes T fstD) := by
  refine F.ok scIsFirst (fun vs H Q E h => ?_) (fun cdv A outer s H vs Q E hr h => ?_)
  · obtain ⟨v, x, rfl, _⟩ := h
    rfl
  obtain ⟨v, x, rfl, hd, hw, tb, q⟩ := h
  refine ⟨_, pss_cons (ps_if (pt_not (pt_val (pe_call GT hr (by rfl) gT kT bT .nil pass0 (pa_cons (pv 0) (pa_cons pe_str (pa_cons pe_int pa_nil)))))) (pss_one (ps_ret pe_bl)) pss_nil)
    (pss_cons (ps_set (i := 1) scIsFirst.nd rfl (.inl rfl) (pv 0))
    (pss_cons (ps_while PassesOwn.never (pt_val (pe_call GT hr (by rfl) gT kT bT .nil pass0 (pa_cons (pv 1) (pa_cons pe_str (pa_cons pe_int pa_nil)))))
      (pss_cons (ps_if (pt_not (pt_val (pe_call GD hr (by rfl) gD kD bD .nil pass0 (pa_cons (pe_ix ix_tup (pv 1) pe_int (fun _ _ => rfl)) pa_nil)))) (pss_one (ps_ret pe_bl)) pss_nil)
      (pss_one (ps_set (i := 1) scIsFirst.nd rfl (.inl rfl) (pe_ix ix_tup (pv 1) pe_int (fun _ _ => rfl))))))
    (pss_one (ps_ret (pe_call GD hr (by rfl) gD kD bD .nil pass0 (pa_cons (pv 1) pa_nil)))))), ?_⟩
  refine ⟨_, rfl, v, x, "fun", 2, rfl, hd, _, rfl, ite2 (fun e => ?_) (fun e => ?_)⟩
  · have z := q _ (Sm.refl tb)
    have e1 : fstD x = false := by
      unfold fstD
      rw [show tagD x "fun" 2 = false by simpa using e, Bool.false_and]
    rw [e1] at z
    exact z
  have et : fstD x = chD dat x := by
    unfold fstD
    rw [show tagD x "fun" 2 = true by simpa using e, Bool.true_and]
  let Iv : Nat → L2.St → Hp → Prop := fun m σ G => ∃ y u, m = y.sz ∧ σ = [some v, some u] ∧ Sm T H G ∧ Dd Any G y u ∧ y.wt ≤ x.wt ∧ chD dat x = chD dat y
  refine ⟨_, rfl, Iv, ⟨_, x, v, rfl, rfl, Sm.refl tb, hd, Nat.le_refl _, rfl⟩, fun m σ G z => ?_⟩
  obtain ⟨y, u, rfl, rfl, sG, hy, hyw, hc⟩ := z
  refine ⟨_, rfl, u, y, "fun", 2, rfl, hy, _, rfl, ite2 (fun e => ?_) (fun e => ?_)⟩
  · obtain ⟨a, b, rfl⟩ := tag_fn e
    obtain ⟨p, x0, y0, z0, rfl, hp, _, ha, hb⟩ := Dd.tup3 hy
    rw [wt3] at hyw
    refine ⟨fun σ' G' => ∃ m', m' < _ ∧ Iv m' σ' G', fun σ' G' z => z, ?_⟩
    refine ⟨_, rfl, p, _, _, _, rfl, rfl, SqT.of hp, atI_nat (j := 1) rfl, y0, a, rfl, ha, by omega, sG.2, fun G2 s2 => ⟨_, rfl, ite2 (fun e => ?_) (fun e => ?_)⟩⟩
    · have z := q _ (sG.trans s2)
      rw [et, hc, chD_fn, show dat a = false by simpa using e] at z
      exact z
    refine ⟨_, rfl, p, _, _, _, rfl, rfl, SqT.of (s2.at sG.2 hp fun ps z => by cases z), atI_nat (j := 2) rfl, b.sz, ?_, b, z0, rfl, rfl, sG.trans s2, hb.kn (s2.kn sG.2), by omega, ?_⟩
    · rw [sz3]
      omega
    · rw [hc, chD_fn, show dat a = true by simpa using e, Bool.true_and]
  · refine ⟨_, rfl, u, y, rfl, hy, by omega, sG.2, fun G2 s2 => ?_⟩
    have z := q _ (sG.trans s2)
    rw [et, hc, chD_no _ (by simpa using e)] at z
    exact z
theorem scIsArg : FnScope ["thing"] ["thing"] (defScope tIsArg) := ⟨rfl, rfl, rfl, by decide +kernel, rfl, by decide +kernel, by decide +kernel⟩
theorem okIsArg {f fT fD : Addr} {fd fdT fdD : FuncData} {k : Nat} {T : List Addr} (F : Fun K "is_argument" "is_argument" tIsArg f fd)
    (GT : FnOk P w K mg base CX0 (k + 7) fT fdT ["thing"] (spYes T fstD)) (bT : Binds K fdT ["thing"] []) (gT : mg "is_first" = some (.ref fT)) (kT : PySem.W.keepIn K (.ref fT) = true)
    (GD : FnOk P w K mg base CX0 (k + 7) fD fdD ["thing"] (spIsData T)) (bD : Binds K fdD ["thing"] []) (gD : mg "is_data" = some (.ref fD)) (kD : PySem.W.keepIn K (.ref fD) = true) : FnOk P w K mg base CX0 (k + 8) f fd ["thing"] (spYes T argD) := by
  refine F.ok scIsArg (fun vs H Q E h => ?_) (fun cdv A outer s H vs Q E hr h => ?_)
  · obtain ⟨v, x, rfl, _⟩ := h
    rfl
  obtain ⟨v, x, rfl, hd, hw, tb, q⟩ := h
  refine ⟨_, pss_one (ps_ret (pe_or (pe_call GD hr (by rfl) gD kD bD .nil pass0 (pa_cons (pv 0) pa_nil)) (pe_one (pe_call GT hr (by rfl) gT kT bT .nil pass0 (pa_cons (pv 0) pa_nil))))), ?_⟩
  refine ⟨_, rfl, v, x, rfl, hd, hw, tb, fun G sG => ⟨_, rfl, ite2 (fun e => ?_) (fun e => ?_)⟩⟩
  · have z := q _ sG
    unfold argD at z
    rw [e] at z
    exact z
  · refine ⟨_, rfl, v, x, rfl, hd.kn (sG.kn tb), hw, sG.2, fun G2 s2 => ?_⟩
    have z := q _ (sG.trans s2)
    unfold argD at z
    rw [show dat x = false by simpa using e, Bool.false_or] at z
    exact z
end
end Kq

namespace Kq
open PySem PySem.Spec PyProof.Rows L2 Kf Kg Kv GxR
abbrev tIsKind : Stmt := tp 27
section
variable {P : Program} {w : World} {K : PySem.W.Frag} {mg : Str → Option Value} {base : Heap}
/-! is_kind -/
theorem scIsKind : FnScope ["thing", "rest"] ["thing"] (defScope tIsKind) := ⟨rfl, rfl, rfl, by decide +kernel, rfl, by decide +kernel, by decide +kernel⟩
theorem okIsKind {f fT fD fA : Addr} {fd fdT fdD fdA : FuncData} {k : Nat} {T : List Addr} (F : Fun K "is_kind" "is_kind" tIsKind f fd)
    (GT : FnOk P w K mg base CX0 (k + 8) fT fdT ["thing", "word", "many"] spTagged) (bT : Binds K fdT ["thing", "word", "many"] []) (gT : mg "is_tagged" = some (.ref fT)) (kT : PySem.W.keepIn K (.ref fT) = true)
    (GA : FnOk P w K mg base CX0 (k + 8) fA fdA ["thing"] (spYes T argD)) (bA : Binds K fdA ["thing"] []) (gA : mg "is_argument" = some (.ref fA)) (kA : PySem.W.keepIn K (.ref fA) = true)
    (GD : FnOk P w K mg base CX0 (k + 8) fD fdD ["thing"] (spIsData T)) (bD : Binds K fdD ["thing"] []) (gD : mg "is_data" = some (.ref fD)) (kD : PySem.W.keepIn K (.ref fD) = true) : FnOk P w K mg base CX0 (k + 9) f fd ["thing"] (spYes T kndD) := by
  refine F.ok scIsKind (fun vs H Q E h => ?_) (fun cdv A outer s H vs Q E hr h => ?_)
  · obtain ⟨v, x, rfl, _⟩ := h
    rfl
  obtain ⟨v, x, rfl, hd, hw, tb, q⟩ := h
  refine ⟨_, pss_cons (ps_set (i := 1) scIsKind.nd rfl (.inl rfl) (pv 0))
    (pss_cons (ps_while PassesOwn.never (pt_val (pe_call GT hr (by rfl) gT kT bT .nil pass0 (pa_cons (pv 1) (pa_cons pe_str (pa_cons pe_int pa_nil)))))
      (pss_cons (ps_if (pt_not (pt_val (pe_call GA hr (by rfl) gA kA bA .nil pass0 (pa_cons (pe_ix ix_tup (pv 1) pe_int (fun _ _ => rfl)) pa_nil)))) (pss_one (ps_ret pe_bl)) pss_nil)
      (pss_one (ps_set (i := 1) scIsKind.nd rfl (.inl rfl) (pe_ix ix_tup (pv 1) pe_int (fun _ _ => rfl))))))
    (pss_one (ps_ret (pe_call GD hr (by rfl) gD kD bD .nil pass0 (pa_cons (pv 1) pa_nil))))), ?_⟩
  let Iv : Nat → L2.St → Hp → Prop := fun m σ G => ∃ y u, m = y.sz ∧ σ = [some v, some u] ∧ Sm T H G ∧ Dd Any G y u ∧ y.wt ≤ x.wt ∧ kndD x = chD argD y
  refine ⟨_, rfl, Iv, ⟨_, x, v, rfl, rfl, Sm.refl tb, hd, Nat.le_refl _, rfl⟩, fun m σ G z => ?_⟩
  obtain ⟨y, u, rfl, rfl, sG, hy, hyw, hc⟩ := z
  refine ⟨_, rfl, u, y, "fun", 2, rfl, hy, _, rfl, ite2 (fun e => ?_) (fun e => ?_)⟩
  · obtain ⟨a, b, rfl⟩ := tag_fn e
    obtain ⟨p, x0, y0, z0, rfl, hp, _, ha, hb⟩ := Dd.tup3 hy
    rw [wt3] at hyw
    refine ⟨fun σ' G' => ∃ m', m' < _ ∧ Iv m' σ' G', fun σ' G' z => z, ?_⟩
    refine ⟨_, rfl, p, _, _, _, rfl, rfl, SqT.of hp, atI_nat (j := 1) rfl, y0, a, rfl, ha, by omega, sG.2, fun G2 s2 => ⟨_, rfl, ite2 (fun e => ?_) (fun e => ?_)⟩⟩
    · have z := q _ (sG.trans s2)
      rw [hc, chD_fn, show argD a = false by simpa using e] at z
      exact z
    refine ⟨_, rfl, p, _, _, _, rfl, rfl, SqT.of (s2.at sG.2 hp fun ps z => by cases z), atI_nat (j := 2) rfl, b.sz, ?_, b, z0, rfl, rfl, sG.trans s2, hb.kn (s2.kn sG.2), by omega, ?_⟩
    · rw [sz3]
      omega
    · rw [hc, chD_fn, show argD a = true by simpa using e, Bool.true_and]
  · refine ⟨_, rfl, u, y, rfl, hy, by omega, sG.2, fun G2 s2 => ?_⟩
    have z := q _ (sG.trans s2)
    rw [hc, chD_no _ (by simpa using e)] at z
    exact z
end
end Kq

/-! kinds as trees, their words and the roles of these -/
namespace Kq
open PySem PySem.Spec PyProof.Rows L2 Kf Kg Kv GxR
inductive Kt where
  | op (n : Str)
  | num
  | tru
  | pr (a b : Kt)
  | ei (a b : Kt)
  | li (a : Kt)
  | fn (a b : Kt)
namespace Kt
def wd : Kt → Str
  | op _ => "open"
  | num => "num"
  | tru => "truth"
  | pr _ _ => "pair"
  | ei _ _ => "either"
  | li _ => "list"
  | fn _ _ => "fun"
def d : Kt → Dt
  | op n => .tup [.str "open", .str n]
  | num => .tup [.str "num"]
  | tru => .tup [.str "truth"]
  | pr a b => .tup [.str "pair", a.d, b.d]
  | ei a b => .tup [.str "either", a.d, b.d]
  | li a => .tup [.str "list", a.d]
  | fn a b => .tup [.str "fun", a.d, b.d]
/-- its names are names -/
def ok : Kt → Prop
  | op n => nmS n = true
  | num => True
  | tru => True
  | pr a b => a.ok ∧ b.ok
  | ei a b => a.ok ∧ b.ok
  | li a => a.ok
  | fn a b => a.ok ∧ b.ok
/-- a data kind -/
def isD : Kt → Bool
  | op _ => true
  | num => true
  | tru => true
  | pr a b => a.isD && b.isD
  | ei a b => a.isD && b.isD
  | li a => a.isD
  | fn _ _ => false
/-- from arguments of p to a data kind -/
def ch (p : Kt → Bool) : Kt → Bool
  | fn a b => p a && b.ch p
  | k => k.isD
def isF : Kt → Bool
  | fn a b => a.isD && b.ch isD
  | _ => false
def isA (k : Kt) : Bool := k.isD || k.isF
def isK (k : Kt) : Bool := k.ch isA
end Kt
/-- a name or a kind, as it stands behind a word -/
inductive It' where
  | nm (n : Str)
  | kd (k : Kt)
namespace It'
def d : It' → Dt
  | nm n => .str n
  | kd k => k.d
def rl : It' → Str
  | nm _ => "name"
  | kd _ => "kind"
def ok : It' → Prop
  | nm n => nmS n = true
  | kd k => k.ok
def wd : It' → Str
  | nm n => n
  | kd k => k.wd
end It'
/-- what stands behind the word -/
def Kt.ps : Kt → List It'
  | .op n => [.nm n]
  | .num => []
  | .tru => []
  | .pr a b => [.kd a, .kd b]
  | .ei a b => [.kd a, .kd b]
  | .li a => [.kd a]
  | .fn a b => [.kd a, .kd b]
def It'.ps : It' → List It'
  | .nm _ => []
  | .kd k => k.ps
theorem Kt.d_eq (k : Kt) : k.d = .tup (.str k.wd :: k.ps.map It'.d) := by cases k <;> rfl
theorem Kt.ps_ok {k : Kt} (h : k.ok) : ∀ i ∈ k.ps, i.ok := by
  intro i hi
  cases k <;> simp only [Kt.ps, List.mem_cons, List.not_mem_nil, or_false] at hi
  · subst hi; exact h
  · rcases hi with rfl | rfl
    · exact h.1
    · exact h.2
  · rcases hi with rfl | rfl
    · exact h.1
    · exact h.2
  · subst hi; exact h
  · rcases hi with rfl | rfl
    · exact h.1
    · exact h.2
/-- the items, one behind the other, as they are written -/
def Kt.tk : Kt → List It'
  | .op n => [.kd (.op n), .nm n]
  | .num => [.kd .num]
  | .tru => [.kd .tru]
  | .pr a b => .kd (.pr a b) :: (a.tk ++ b.tk)
  | .ei a b => .kd (.ei a b) :: (a.tk ++ b.tk)
  | .li a => .kd (.li a) :: a.tk
  | .fn a b => .kd (.fn a b) :: (a.tk ++ b.tk)
def It'.tk : It' → List It'
  | .nm n => [.nm n]
  | .kd k => k.tk
def tks (is : List It') : List It' := is.flatMap It'.tk
theorem It'.tk_eq (i : It') : i.tk = i :: tks i.ps := by
  cases i with
  | nm n => rfl
  | kd k => cases k <;> simp [It'.tk, Kt.tk, It'.ps, Kt.ps, tks]
theorem tks_cons (i : It') (is : List It') : tks (i :: is) = i :: tks (i.ps ++ is) := by
  unfold tks
  rw [List.flatMap_cons, It'.tk_eq, List.flatMap_append]
  rfl
theorem tk_ok {i : It'} (h : i.ok) : ∀ j ∈ i.tk, j.ok := by
  cases i with
  | nm n =>
    intro j hj
    rw [List.mem_singleton.mp hj]
    exact h
  | kd k =>
    have h : k.ok := h
    show ∀ j ∈ k.tk, j.ok
    induction k with
    | op n =>
      intro j hj
      simp only [Kt.tk, List.mem_cons, List.not_mem_nil, or_false] at hj
      rcases hj with rfl | rfl
      · exact h
      · exact h
    | num =>
      intro j hj
      rw [List.mem_singleton.mp hj]
      exact h
    | tru =>
      intro j hj
      rw [List.mem_singleton.mp hj]
      exact h
    | pr a b iha ihb =>
      intro j hj
      rcases List.mem_cons.mp hj with rfl | hj
      · exact h
      rcases List.mem_append.mp hj with hj | hj
      · exact iha h.1 h.1 j hj
      · exact ihb h.2 h.2 j hj
    | ei a b iha ihb =>
      intro j hj
      rcases List.mem_cons.mp hj with rfl | hj
      · exact h
      rcases List.mem_append.mp hj with hj | hj
      · exact iha h.1 h.1 j hj
      · exact ihb h.2 h.2 j hj
    | li a iha =>
      intro j hj
      rcases List.mem_cons.mp hj with rfl | hj
      · exact h
      · exact iha h h j hj
    | fn a b iha ihb =>
      intro j hj
      rcases List.mem_cons.mp hj with rfl | hj
      · exact h
      rcases List.mem_append.mp hj with hj | hj
      · exact iha h.1 h.1 j hj
      · exact ihb h.2 h.2 j hj
/-- one item put together with what was put together behind it -/
def put1 (i : It') (D : List Dt) : List Dt := match i with
  | .nm n => .str n :: D
  | .kd k => .tup (.str k.wd :: D.take k.ps.length) :: D.drop k.ps.length
def fold1 (is : List It') : List Dt := is.foldr put1 []
/-- each item has as much behind it as it asks -/
def Fit : List It' → Prop
  | [] => True
  | i :: is => i.ps.length ≤ (fold1 is).length ∧ Fit is
theorem tks_put : ∀ (n : Nat) (is js : List It'), (tks is).length ≤ n → Fit js → Fit (tks is ++ js) ∧ fold1 (tks is ++ js) = is.map It'.d ++ fold1 js
  | n, [], js, _, h => ⟨h, rfl⟩
  | 0, i :: is, js, hn, _ => by
    rw [tks_cons] at hn
    simp at hn
  | n + 1, i :: is, js, hn, h => by
    rw [tks_cons] at hn
    rw [List.length_cons] at hn
    obtain ⟨h1, h2⟩ := tks_put n (i.ps ++ is) js (by omega) h
    rw [tks_cons, List.cons_append]
    refine ⟨⟨?_, h1⟩, ?_⟩
    · rw [h2, List.length_append, List.length_map, List.length_append]
      omega
    · show put1 i (fold1 (tks (i.ps ++ is) ++ js)) = _
      rw [h2]
      cases i with
      | nm n => rfl
      | kd k =>
        show Dt.tup (.str k.wd :: _) :: _ = k.d :: _
        have e : (List.map It'.d (It'.ps (.kd k) ++ is) ++ fold1 js) = (k.ps.map It'.d) ++ (is.map It'.d ++ fold1 js) := by
          rw [List.map_append, List.append_assoc]
          rfl
        have el : (k.ps.map It'.d).length = k.ps.length := List.length_map _
        rw [e, ← el, List.take_left, List.drop_left, Kt.d_eq]
        rfl
theorem Fit.drop : ∀ {is : List It'} (n : Nat), Fit is → Fit (is.drop n)
  | _, 0, h => h
  | [], n + 1, _ => True.intro
  | i :: is, n + 1, h => Fit.drop (is := is) n h.2
/-- a kind's items, put together, are the kind -/
theorem kd_put (k : Kt) : Fit (It'.kd k).tk ∧ fold1 (It'.kd k).tk = [k.d] := by
  have h := tks_put _ [.kd k] [] (Nat.le_refl _) True.intro
  have e : tks [It'.kd k] ++ [] = (It'.kd k).tk := by simp [tks]
  rw [e] at h
  exact ⟨h.1, h.2⟩
/-- the table of roles -/
def tblK : List (Str × List Str) := [("open", ["name"]), ("num", []), ("truth", []), ("pair", ["kind", "kind"]), ("either", ["kind", "kind"]), ("list", ["kind"]), ("fun", ["kind", "kind"])]
theorem tblK_wd (k : Kt) : tblK.lookup k.wd = some (k.ps.map It'.rl) := by cases k <;> rfl
theorem tblK_ar (z : Str) : ar z = (tblK.lookup z).map List.length := by
  unfold ar tblK
  by_cases h1 : z = "open"
  · subst h1; rfl
  by_cases h2 : z = "num"
  · subst h2; rfl
  by_cases h3 : z = "truth"
  · subst h3; rfl
  by_cases h4 : z = "pair"
  · subst h4; rfl
  by_cases h5 : z = "either"
  · subst h5; rfl
  by_cases h6 : z = "list"
  · subst h6; rfl
  by_cases h7 : z = "fun"
  · subst h7; rfl
  rw [if_neg h1, if_neg h2, if_neg h3, if_neg h4, if_neg h5, if_neg h6, if_neg h7]
  simp only [List.lookup_cons, beq_eq_false_iff_ne.mpr h1, beq_eq_false_iff_ne.mpr h2, beq_eq_false_iff_ne.mpr h3, beq_eq_false_iff_ne.mpr h4, beq_eq_false_iff_ne.mpr h5, beq_eq_false_iff_ne.mpr h6, beq_eq_false_iff_ne.mpr h7, List.lookup_nil]
  rfl
theorem Kt.ext : ∀ {a b : Kt}, a.wd = b.wd → a.ps = b.ps → a = b := by
  intro a b h1 h2
  cases a <;> cases b <;> simp only [Kt.ps, List.cons.injEq, It'.kd.injEq, It'.nm.injEq, and_true, true_and, reduceCtorEq, and_false, false_and] at h2 <;> first
    | rfl
    | (subst h2; rfl)
    | (obtain ⟨rfl, rfl⟩ := h2; rfl)
    | exact absurd h1 (by decide)
    | (exfalso; exact absurd h1 (by simp only [Kt.wd]; decide))
theorem It'.ps_rl {i j : It'} (h : i.wd = j.wd) (r : i.rl = j.rl) : i.ps.map It'.rl = j.ps.map It'.rl := by
  cases i with
  | nm n =>
    cases j with
    | nm m => rfl
    | kd b => exact absurd (show ("name" : Str) = "kind" from r) (by decide)
  | kd a =>
    cases j with
    | nm m => exact absurd (show ("kind" : Str) = "name" from r) (by decide)
    | kd b =>
      have h : a.wd = b.wd := h
      have e := tblK_wd a
      rw [h, tblK_wd b] at e
      exact (Option.some.inj e).symm
theorem It'.ext {i j : It'} (h : i.wd = j.wd) (r : i.rl = j.rl) (p : i.ps = j.ps) : i = j := by
  cases i with
  | nm n =>
    cases j with
    | nm m => exact congrArg It'.nm h
    | kd b => exact absurd (show ("name" : Str) = "kind" from r) (by decide)
  | kd a =>
    cases j with
    | nm m => exact absurd (show ("kind" : Str) = "name" from r) (by decide)
    | kd b => exact congrArg It'.kd (Kt.ext h p)
/-- unlike things have unlike words -/
theorem tks_inj : ∀ (n : Nat) (is js : List It'), (tks is).length ≤ n → is.map It'.rl = js.map It'.rl → (tks is).map It'.wd = (tks js).map It'.wd → is = js
  | n, [], [], _, _, _ => rfl
  | n, [], j :: js, _, r, _ => by simp at r
  | n, i :: is, [], _, r, _ => by simp at r
  | 0, i :: is, j :: js, hn, _, _ => by
    rw [tks_cons] at hn
    simp at hn
  | n + 1, i :: is, j :: js, hn, r, h => by
    rw [tks_cons] at hn
    rw [List.length_cons] at hn
    rw [tks_cons, tks_cons, List.map_cons, List.map_cons] at h
    rw [List.map_cons, List.map_cons] at r
    obtain ⟨h1, h2⟩ := List.cons.inj h
    obtain ⟨r1, r2⟩ := List.cons.inj r
    have pr := It'.ps_rl h1 r1
    have e := tks_inj n (i.ps ++ is) (j.ps ++ js) (by omega) (by rw [List.map_append, List.map_append, pr, r2]) h2
    have l : i.ps.length = j.ps.length := by
      have := congrArg List.length pr
      rw [List.length_map, List.length_map] at this
      exact this
    obtain ⟨e1, e2⟩ := List.append_inj e l
    rw [It'.ext h1 r1 e1, e2]
theorem kd_inj {a b : Kt} (h : (It'.kd a).tk.map It'.wd = (It'.kd b).tk.map It'.wd) : a = b := by
  have e : ∀ k : Kt, tks [It'.kd k] = (It'.kd k).tk := fun k => by simp [tks]
  have q := tks_inj _ [.kd a] [.kd b] (Nat.le_refl _) rfl (by rw [e, e]; exact h)
  exact It'.kd.inj (List.cons.inj q).1
/-! kinds as data -/
theorem dat_d : ∀ {k : Kt}, k.ok → dat k.d = k.isD
  | .op n, h => by
    rw [dat_eq]
    show (frm (.tup [.str "open", .str n]) && true) = true
    rw [frm_eq, show ar "open" = some 1 from rfl]
    have h : nmS n = true := h
    show (true && true && (false || nmS n) && true) = true
    rw [h]
    rfl
  | .num, _ => by
    rw [dat_eq]
    decide +kernel
  | .tru, _ => by
    rw [dat_eq]
    decide +kernel
  | .pr a b, h => by
    rw [dat_eq]
    show (frm (.tup [.str "pair", a.d, b.d]) && (dat a.d && (dat b.d && true))) = (a.isD && b.isD)
    rw [frm_eq, dat_d h.1, dat_d h.2, Bool.and_true]
    rfl
  | .ei a b, h => by
    rw [dat_eq]
    show (frm (.tup [.str "either", a.d, b.d]) && (dat a.d && (dat b.d && true))) = (a.isD && b.isD)
    rw [frm_eq, dat_d h.1, dat_d h.2, Bool.and_true]
    rfl
  | .li a, h => by
    rw [dat_eq]
    show (frm (.tup [.str "list", a.d]) && (dat a.d && true)) = a.isD
    rw [frm_eq, dat_d (k := a) h, Bool.and_true]
    rfl
  | .fn a b, _ => dat_fn _ _
theorem tag_no : ∀ {k : Kt}, (∀ a b, k ≠ .fn a b) → tagD k.d "fun" 2 = false
  | .op n, _ => rfl
  | .num, _ => rfl
  | .tru, _ => rfl
  | .pr a b, _ => by
    show (decide (2 = 2) && decide (("pair" : Str) = "fun")) = false
    decide
  | .ei a b, _ => by
    show (decide (2 = 2) && decide (("either" : Str) = "fun")) = false
    decide
  | .li a, _ => rfl
  | .fn a b, h => absurd rfl (h a b)
theorem chD_d {p : Dt → Bool} {q : Kt → Bool} (pq : ∀ k, k.ok → p k.d = q k) : ∀ {k : Kt}, k.ok → chD p k.d = k.ch q
  | .fn a b, h => by
    show chD p (.tup [.str "fun", a.d, b.d]) = (q a && b.ch q)
    rw [chD_fn, pq a h.1, chD_d pq h.2]
  | .op n, h => by rw [chD_no p (tag_no fun a b z => by cases z), dat_d h]; rfl
  | .num, h => by rw [chD_no p (tag_no fun a b z => by cases z), dat_d h]; rfl
  | .tru, h => by rw [chD_no p (tag_no fun a b z => by cases z), dat_d h]; rfl
  | .pr a b, h => by rw [chD_no p (tag_no fun a b z => by cases z), dat_d h]; rfl
  | .ei a b, h => by rw [chD_no p (tag_no fun a b z => by cases z), dat_d h]; rfl
  | .li a, h => by rw [chD_no p (tag_no fun a b z => by cases z), dat_d h]; rfl
theorem argD_d {k : Kt} (h : k.ok) : argD k.d = k.isA := by
  show (dat k.d || (tagD k.d "fun" 2 && chD dat k.d)) = (k.isD || k.isF)
  rw [dat_d h]
  congr 1
  by_cases c : ∃ a b, k = .fn a b
  · obtain ⟨a, b, rfl⟩ := c
    rw [show tagD (Kt.fn a b).d "fun" 2 = true from tag_fn' _ _, Bool.true_and, chD_d (q := Kt.isD) (fun k => dat_d) h]
    rfl
  · rw [tag_no fun a b z => c ⟨a, b, z⟩, Bool.false_and]
    cases k <;> first | rfl | exact absurd ⟨_, _, rfl⟩ c
theorem kndD_d {k : Kt} (h : k.ok) : kndD k.d = k.isK := chD_d (q := Kt.isA) (fun k => argD_d) h
/-! data as kinds -/
theorem nm1_at {x : Dt} {xs : List Dt} (h : nm1 (x :: xs) = true) : ∃ n, x = .str n ∧ nmS n = true := by
  cases x with
  | str n => exact ⟨n, rfl, h⟩
  | _ => cases h
theorem kt_dat : ∀ (n : Nat) (x : Dt), x.sz ≤ n → dat x = true → ∃ k : Kt, k.ok ∧ k.isD = true ∧ k.d = x
  | 0, x, hn, _ => by
    have := sz_pos x
    omega
  | n + 1, x, hn, h => by
    rw [dat_eq] at h
    obtain ⟨h1, h2⟩ := Bool.and_eq_true_iff.mp h
    obtain ⟨wd, xs, rfl⟩ : ∃ wd xs, x = .tup (.str wd :: xs) := by
      unfold frm at h1
      split at h1
      · exact ⟨_, _, rfl⟩
      · cases h1
    rw [frm_eq] at h1
    obtain ⟨h3, h4⟩ := Bool.and_eq_true_iff.mp h1
    obtain ⟨h5, h6⟩ := Bool.and_eq_true_iff.mp h3
    have sub : ∀ y ∈ prt (.tup (.str wd :: xs)), ∃ k : Kt, k.ok ∧ k.isD = true ∧ k.d = y := fun y hy => by
      have a1 := prt_sz (.tup (.str wd :: xs))
      have a2 := sz_mem hy
      exact kt_dat n y (by omega) (List.all_eq_true.mp h2 y hy)
    have prs : wd ≠ "open" → prt (.tup (.str wd :: xs)) = xs := fun z => by
      show (if wd = "open" then [] else xs) = xs
      rw [if_neg z]
    cases har : ar wd with
    | none => rw [har] at h6; cases h6
    | some m =>
      rw [har] at h6
      replace h6 : xs.length = m := of_decide_eq_true h6
      unfold ar at har
      repeat' split at har
      all_goals first | cases har | skip
      · rename_i c
        subst c
        match xs, h6 with
        | [y], _ =>
          obtain ⟨nn, rfl, hnm⟩ := nm1_at (show nm1 [y] = true by simpa using h4)
          exact ⟨.op nn, hnm, rfl, rfl⟩
      · rename_i _ c
        subst c
        match xs, h6 with
        | [], _ => exact ⟨.num, True.intro, rfl, rfl⟩
      · rename_i _ _ c
        subst c
        match xs, h6 with
        | [], _ => exact ⟨.tru, True.intro, rfl, rfl⟩
      · rename_i c1 _ _ c
        subst c
        rw [prs c1] at sub
        match xs, h6 with
        | [y, z], _ =>
          obtain ⟨a, a1, a2, rfl⟩ := sub y (by simp)
          obtain ⟨b, b1, b2, rfl⟩ := sub z (by simp)
          exact ⟨.pr a b, ⟨a1, b1⟩, by show (a.isD && b.isD) = true; rw [a2, b2]; rfl, rfl⟩
      · rename_i c1 _ _ _ c
        subst c
        rw [prs c1] at sub
        match xs, h6 with
        | [y, z], _ =>
          obtain ⟨a, a1, a2, rfl⟩ := sub y (by simp)
          obtain ⟨b, b1, b2, rfl⟩ := sub z (by simp)
          exact ⟨.ei a b, ⟨a1, b1⟩, by show (a.isD && b.isD) = true; rw [a2, b2]; rfl, rfl⟩
      · rename_i c1 _ _ _ _ c
        subst c
        rw [prs c1] at sub
        match xs, h6 with
        | [y], _ =>
          obtain ⟨a, a1, a2, rfl⟩ := sub y (by simp)
          exact ⟨.li a, a1, a2, rfl⟩
      · rename_i c
        subst c
        cases h5
theorem kt_ch {p : Dt → Bool} {q : Kt → Bool} (pq : ∀ x, p x = true → ∃ k : Kt, k.ok ∧ q k = true ∧ k.d = x) : ∀ (n : Nat) (x : Dt), x.sz ≤ n → chD p x = true → ∃ k : Kt, k.ok ∧ k.ch q = true ∧ k.d = x
  | 0, x, hn, _ => by
    have := sz_pos x
    omega
  | n + 1, x, hn, h => by
    cases c : tagD x "fun" 2 with
    | true =>
      obtain ⟨a, b, rfl⟩ := tag_fn c
      rw [chD_fn] at h
      obtain ⟨h1, h2⟩ := Bool.and_eq_true_iff.mp h
      obtain ⟨ka, a1, a2, rfl⟩ := pq a h1
      rw [sz3] at hn
      obtain ⟨kb, b1, b2, rfl⟩ := kt_ch pq n b (by omega) h2
      exact ⟨.fn ka kb, ⟨a1, b1⟩, by show (q ka && kb.ch q) = true; rw [a2, b2]; rfl, rfl⟩
    | false =>
      rw [chD_no p c] at h
      obtain ⟨k, k1, k2, rfl⟩ := kt_dat _ x (Nat.le_refl _) h
      refine ⟨k, k1, ?_, rfl⟩
      cases k <;> first | exact k2 | cases k2
theorem kt_arg {x : Dt} (h : argD x = true) : ∃ k : Kt, k.ok ∧ k.isA = true ∧ k.d = x := by
  unfold argD at h
  rcases Bool.or_eq_true_iff.mp h with h | h
  · obtain ⟨k, k1, k2, rfl⟩ := kt_dat _ x (Nat.le_refl _) h
    exact ⟨k, k1, by show (k.isD || k.isF) = true; rw [k2]; rfl, rfl⟩
  · unfold fstD at h
    obtain ⟨h1, h2⟩ := Bool.and_eq_true_iff.mp h
    obtain ⟨k, k1, k2, rfl⟩ := kt_ch (q := Kt.isD) (fun x hx => kt_dat _ x (Nat.le_refl _) hx) _ x (Nat.le_refl _) h2
    refine ⟨k, k1, ?_, rfl⟩
    cases k with
    | fn a b =>
      show (false || (a.isD && b.ch Kt.isD)) = true
      exact k2
    | _ => exact Bool.or_eq_true_iff.mpr (.inl k2)
/-! how much is written -/
theorem it_wt (i : It') : (i.tk.map fun j => j.wd.length + 1).sum ≤ i.d.wt := by
  cases i with
  | nm n =>
    show n.length + 1 + 0 ≤ (Dt.str n).wt
    simp only [Dt.wt]
    omega
  | kd k =>
    show (k.tk.map fun j => j.wd.length + 1).sum ≤ k.d.wt
    induction k with
    | op n =>
      show 4 + 1 + (n.length + 1 + 0) ≤ (Dt.tup [.str "open", .str n]).wt
      simp only [Dt.wt, Dt.wts]
      omega
    | num => decide +kernel
    | tru => decide +kernel
    | pr a b iha ihb =>
      show 4 + 1 + ((a.tk ++ b.tk).map fun j => j.wd.length + 1).sum ≤ (Dt.tup [.str "pair", a.d, b.d]).wt
      rw [List.map_append, List.sum_append]
      simp only [Dt.wt, Dt.wts]
      omega
    | ei a b iha ihb =>
      show 6 + 1 + ((a.tk ++ b.tk).map fun j => j.wd.length + 1).sum ≤ (Dt.tup [.str "either", a.d, b.d]).wt
      rw [List.map_append, List.sum_append, wt3, show (Dt.str "either").wt = 62 by decide +kernel]
      omega
    | li a iha =>
      show 4 + 1 + (a.tk.map fun j => j.wd.length + 1).sum ≤ (Dt.tup [.str "list", a.d]).wt
      simp only [Dt.wt, Dt.wts]
      omega
    | fn a b iha ihb =>
      show 3 + 1 + ((a.tk ++ b.tk).map fun j => j.wd.length + 1).sum ≤ (Dt.tup [.str "fun", a.d, b.d]).wt
      rw [List.map_append, List.sum_append, wt3, show (Dt.str "fun").wt = 32 by decide +kernel]
      omega
theorem tk_len (i : It') : i.tk.length ≤ i.d.wt := by
  refine Nat.le_trans ?_ (it_wt i)
  generalize i.tk = l
  induction l with
  | nil => exact Nat.zero_le _
  | cons j l ih =>
    rw [List.map_cons, List.sum_cons, List.length_cons]
    omega
end Kq

/-! things of anything: how great each part by itself is -/
namespace Kv
open PySem PySem.Spec PyProof.Rows L2 Kf
/-- signs below 128, no more than so many -/
structure Asc (L : Nat) (x : Str) : Prop where
  lo : ∀ c ∈ x.cps.toList, c < 128
  len : x.length ≤ L
mutual
def Dt.loc (L B : Nat) : Dt → Prop
  | .int i => i.natAbs < B
  | .str x => Asc L x
  | .tup xs => xs.length ≤ L ∧ Dt.locs L B xs
  | .lst xs => xs.length ≤ L ∧ Dt.locs L B xs
  | .dct kvs => kvs.length ≤ 1 ∧ ∀ p ∈ kvs, Asc L p.1 ∧ p.2.natAbs < B
  | _ => True
def Dt.locs (L B : Nat) : List Dt → Prop
  | [] => True
  | x :: xs => x.loc L B ∧ Dt.locs L B xs
end
theorem locs_iff {L B : Nat} : ∀ {xs : List Dt}, Dt.locs L B xs ↔ ∀ x ∈ xs, x.loc L B
  | [] => ⟨fun _ _ h => (nomatch h), fun _ => by simp only [Dt.locs]⟩
  | x :: xs => by
    simp only [Dt.locs]
    rw [locs_iff (xs := xs)]
    exact ⟨fun h y hy => by
      rcases List.mem_cons.mp hy with rfl | hy
      · exact h.1
      · exact h.2 y hy, fun h => ⟨h x List.mem_cons_self, fun y hy => h y (List.mem_cons_of_mem _ hy)⟩⟩
theorem Asc.up {L M : Nat} {x : Str} (h : Asc L x) (l : L ≤ M) : Asc M x := ⟨h.lo, Nat.le_trans h.len l⟩
mutual
theorem Dt.loc_up {L M B C : Nat} (l : L ≤ M) (b : B ≤ C) : ∀ {x : Dt}, x.loc L B → x.loc M C
  | .non, _ => by simp only [Dt.loc]
  | .bl _, _ => by simp only [Dt.loc]
  | .int i, h => by
    simp only [Dt.loc] at h ⊢
    omega
  | .str x, h => by
    simp only [Dt.loc] at h ⊢
    exact h.up l
  | .tup xs, h => by
    simp only [Dt.loc] at h ⊢
    exact ⟨Nat.le_trans h.1 l, Dt.locs_up l b h.2⟩
  | .lst xs, h => by
    simp only [Dt.loc] at h ⊢
    exact ⟨Nat.le_trans h.1 l, Dt.locs_up l b h.2⟩
  | .dct kvs, h => by
    simp only [Dt.loc] at h ⊢
    exact ⟨h.1, fun p hp => ⟨(h.2 p hp).1.up l, Nat.lt_of_lt_of_le (h.2 p hp).2 b⟩⟩
theorem Dt.locs_up {L M B C : Nat} (l : L ≤ M) (b : B ≤ C) : ∀ {xs : List Dt}, Dt.locs L B xs → Dt.locs M C xs
  | [], _ => by simp only [Dt.locs]
  | x :: xs, h => by
    simp only [Dt.locs] at h ⊢
    exact ⟨Dt.loc_up l b h.1, Dt.locs_up l b h.2⟩
end
mutual
theorem Dt.loc_wt {L B : Nat} : ∀ {x : Dt}, x.loc L B → x.wt + 2 ≤ (10 * L + 70) * x.sz
  | .non, _ => by simp only [Dt.wt, Dt.sz]; omega
  | .bl _, _ => by simp only [Dt.wt, Dt.sz]; omega
  | .int i, _ => by simp only [Dt.wt, Dt.sz]; omega
  | .str x, h => by
    simp only [Dt.loc] at h
    have := h.len
    simp only [Dt.wt, Dt.sz]
    omega
  | .tup xs, h => by
    simp only [Dt.loc] at h
    have := Dt.locs_wt h.2
    simp only [Dt.wt, Dt.sz]
    rw [Nat.mul_add]
    omega
  | .lst xs, h => by
    simp only [Dt.loc] at h
    have := Dt.locs_wt h.2
    simp only [Dt.wt, Dt.sz]
    rw [Nat.mul_add]
    omega
  | .dct [], _ => by simp only [Dt.wt, Dt.sz, kwt, List.length_nil]; omega
  | .dct [p], h => by
    simp only [Dt.loc] at h
    have := (h.2 p List.mem_cons_self).1.len
    simp only [Dt.wt, Dt.sz, kwt, List.length_cons, List.length_nil]
    omega
  | .dct (p :: q :: r), h => by
    simp only [Dt.loc, List.length_cons] at h
    omega
theorem Dt.locs_wt {L B : Nat} : ∀ {xs : List Dt}, Dt.locs L B xs → Dt.wts xs ≤ (10 * L + 70) * Dt.szs xs
  | [], _ => by simp only [Dt.wts, Dt.szs]; omega
  | x :: xs, h => by
    simp only [Dt.locs] at h
    have h1 := Dt.loc_wt h.1
    have h2 := Dt.locs_wt h.2
    simp only [Dt.wts, Dt.szs]
    rw [Nat.mul_add]
    omega
end
mutual
theorem Dt.loc_fine {L B : Nat} : ∀ {x : Dt}, x.loc L B → x.fine B
  | .non, _ => by simp only [Dt.fine]
  | .bl _, _ => by simp only [Dt.fine]
  | .int i, h => by
    simp only [Dt.loc] at h
    simp only [Dt.fine]
    exact h
  | .str x, h => by
    simp only [Dt.loc] at h
    simp only [Dt.fine]
    exact fun c hc => Nat.lt_of_lt_of_le (h.lo c hc) (by decide)
  | .tup xs, h => by
    simp only [Dt.loc] at h
    simp only [Dt.fine]
    exact Dt.locs_fine h.2
  | .lst xs, h => by
    simp only [Dt.loc] at h
    simp only [Dt.fine]
    exact Dt.locs_fine h.2
  | .dct kvs, h => by
    simp only [Dt.loc] at h
    simp only [Dt.fine]
    exact fun p hp => ⟨fun c hc => Nat.lt_of_lt_of_le ((h.2 p hp).1.lo c hc) (by decide), (h.2 p hp).2⟩
theorem Dt.locs_fine {L B : Nat} : ∀ {xs : List Dt}, Dt.locs L B xs → Dt.fines B xs
  | [], _ => by simp only [Dt.fines]
  | x :: xs, h => by
    simp only [Dt.locs] at h
    simp only [Dt.fines]
    exact ⟨Dt.loc_fine h.1, Dt.locs_fine h.2⟩
end
theorem dps_mem' : ∀ {xs : List Dt} {x : Dt}, x ∈ xs → x.dp ≤ Dt.dps xs
  | y :: ys, x, h => by
    simp only [Dt.dps]
    rcases List.mem_cons.mp h with rfl | h
    · omega
    · have := dps_mem' h
      omega
theorem dps_le' {n : Nat} : ∀ {xs : List Dt}, (∀ x ∈ xs, x.dp ≤ n) → Dt.dps xs ≤ n
  | [], _ => by simp only [Dt.dps]; omega
  | x :: xs, h => by
    have h1 := h x List.mem_cons_self
    have h2 := dps_le' (xs := xs) fun y hy => h y (List.mem_cons_of_mem _ hy)
    simp only [Dt.dps]
    omega
theorem dp_tup (xs : List Dt) : (Dt.tup xs).dp = Dt.dps xs + 1 := by simp only [Dt.dp]
theorem dp_lst (xs : List Dt) : (Dt.lst xs).dp = Dt.dps xs + 1 := by simp only [Dt.dp]
theorem dp_str (x : Str) : (Dt.str x).dp = 0 := by simp only [Dt.dp]
theorem loc_tup {L B : Nat} {xs : List Dt} : (Dt.tup xs).loc L B ↔ xs.length ≤ L ∧ ∀ x ∈ xs, x.loc L B := by
  simp only [Dt.loc, locs_iff]
theorem loc_lst {L B : Nat} {xs : List Dt} : (Dt.lst xs).loc L B ↔ xs.length ≤ L ∧ ∀ x ∈ xs, x.loc L B := by
  simp only [Dt.loc, locs_iff]
theorem loc_str {L B : Nat} {x : Str} : (Dt.str x).loc L B ↔ Asc L x := by
  simp only [Dt.loc]
theorem loc_int {L B : Nat} {i : Int} : (Dt.int i).loc L B ↔ i.natAbs < B := by
  simp only [Dt.loc]
theorem ascLit {L : Nat} {x : Str} (h : (x.cps.toList.all fun c => decide (c < 128)) = true) (l : x.length ≤ L) : Asc L x := ⟨fun c hc => of_decide_eq_true (List.all_eq_true.mp h c hc), l⟩
theorem asc_app {L M : Nat} {x y : Str} (h : Asc L x) (k : Asc M y) : Asc (L + M) (x ++ y) := by
  refine ⟨fun c hc => ?_, ?_⟩
  · have e : (x ++ y).cps.toList = x.cps.toList ++ y.cps.toList := by
      show (x.cps ++ y.cps).toList = _
      rw [Array.toList_append]
    rw [e] at hc
    rcases List.mem_append.mp hc with z | z
    · exact h.lo c z
    · exact k.lo c z
  · have h1 := h.len
    have h2 := k.len
    have : (x ++ y).length = x.length + y.length := by
      show (x.cps ++ y.cps).size = _
      rw [Array.size_append]
      rfl
    omega
theorem asc_upper {L : Nat} {x : Str} (h : Asc L x) : Asc L (Txt.upper x) := by
  rw [upper_ascii h.lo]
  refine ⟨fun c hc => ?_, ?_⟩
  · have hc : c ∈ (x.cps.map up1).toList := hc
    rw [Array.toList_map, List.mem_map] at hc
    obtain ⟨d, hd, rfl⟩ := hc
    have := h.lo d hd
    unfold up1
    split <;> omega
  · have e : (Str.mk (x.cps.map up1)).length = x.length := by
      show (x.cps.map up1).size = x.cps.size
      exact Array.size_map
    rw [e]
    exact h.len
theorem dch (n : Nat) : (Nat.digitChar n).toNat < 128 := by
  by_cases h : n < 16
  · have z : ∀ i : Fin 16, (Nat.digitChar i.val).toNat < 128 := by decide
    exact z ⟨n, h⟩
  · have e : Nat.digitChar n = '*' := by
      unfold Nat.digitChar
      repeat rw [if_neg (by omega)]
    rw [e]
    decide
theorem core_asc : ∀ (fuel n : Nat) (ds : List Char), (∀ c ∈ ds, c.toNat < 128) → ∀ c ∈ Nat.toDigitsCore 10 fuel n ds, c.toNat < 128
  | 0, n, ds, h, c, hc => h c (by simpa [Nat.toDigitsCore] using hc)
  | fuel + 1, n, ds, h, c, hc => by
    have h2 : ∀ c ∈ (Nat.digitChar (n % 10) :: ds), c.toNat < 128 := fun c hc => by
      rcases List.mem_cons.mp hc with rfl | hc
      · exact dch _
      · exact h c hc
    unfold Nat.toDigitsCore at hc
    dsimp only at hc
    split at hc
    · exact h2 c hc
    · exact core_asc fuel _ _ h2 c hc
theorem int_asc (i : Int) : ∀ c ∈ (Str.ofString (toString i)).cps.toList, c < 128 := by
  intro c hc
  rw [Str.ofString_eq_toList] at hc
  have hc : c ∈ (toString i).toList.map Char.toNat := by simpa using hc
  obtain ⟨ch, hch, rfl⟩ := List.mem_map.mp hc
  have dig : ∀ n : Nat, ∀ ch ∈ (Nat.repr n).toList, ch.toNat < 128 := fun n ch h => by
    have h : ch ∈ Nat.toDigits 10 n := by simpa [Nat.repr] using h
    exact core_asc _ _ [] (fun c z => absurd z List.not_mem_nil) ch h
  cases i with
  | ofNat n => exact dig n ch hch
  | negSucc n =>
    have e : (toString (Int.negSucc n)).toList = '-' :: (Nat.repr (n + 1)).toList := by
      show ("-" ++ Nat.repr (n + 1)).toList = _
      rw [String.toList_append]
      rfl
    rw [e] at hch
    rcases List.mem_cons.mp hch with rfl | h
    · decide
    · exact dig _ ch h
/-- str(number), a truth too: few signs -/
theorem call_strA {X : Cx} : CallR X (.type "str") (fun xs H Q => ∃ x i, xs = [x] ∧ nu x = some i ∧ i.natAbs < 10 ^ 45 ∧ ∀ z : Str, Asc 50 z → Q (.str z) H) := by
  intro pins s σ H xs us Q I r h
  obtain ⟨x, i, rfl, hx, hi, q⟩ := h
  obtain ⟨u, rfl, rx⟩ := vals1 r
  cases x with
  | int a =>
    obtain ⟨t, rfl⟩ := rx
    cases hx
    have hl : i.natAbs.log2 < 1920 := by
      by_cases z : i.natAbs = 0
      · rw [z]
        decide
      · have : i.natAbs.log2 < 150 := (Nat.log2_lt z).mpr (Nat.lt_of_lt_of_le hi (by decide))
        omega
    refine PySem.P.str_of_int hl ⟨.str _, H, I.tok _, ⟨_, rfl⟩, q _ ⟨?_, ?_⟩⟩
    · exact int_asc i
    · have z := int_text_length_le10 (a := i) (k := 45) (by decide) hi
      have e : (Str.ofString (toString i)).length = (toString i).length := PySem.ofString_length _
      show (Str.ofString (toString i)).length ≤ 50
      rw [e]
      omega
  | bl b =>
    cases rx
    refine PySem.P.str_of_bool ⟨.str _, H, I.tok _, ⟨_, rfl⟩, q _ ⟨?_, ?_⟩⟩
    · cases b <;> decide +kernel
    · cases b <;> decide +kernel
  | _ => cases hx
end Kv

namespace Kq
open PySem PySem.Spec PyProof.Rows L2 Kf Kg Kv GxR
abbrev tData : Stmt := tp 50
abbrev tCarried : Stmt := tp 51
abbrev tCalled : Stmt := tp 49
abbrev Non : Addr → Prop := fun _ => False
theorem _root_.Kv.Kn.tk {H G : Hp} (k : Tk H G) : Kn Non H G := ⟨k, fun _ _ n _ => n.elim, fun _ _ n _ => n.elim⟩
def db : Nat → Nat
  | 0 => 300
  | n + 1 => 2 * db n + 300
theorem db_ge : ∀ n, 300 ≤ db n
  | 0 => Nat.le_refl _
  | n + 1 => by
    have := db_ge n
    show 300 ≤ 2 * db n + 300
    omega
theorem nmS_of {x : Str} (h : Nm x) : nmS x = true := by
  have hl : x.cps.toList.length = x.length := Array.length_toList
  have h1 := h.one
  have h2 := h.few
  unfold nmS
  rw [decide_eq_true (by omega), decide_eq_true (by omega), Bool.true_and, Bool.true_and, List.all_eq_true]
  intro c hc
  obtain ⟨c0, c1⟩ := h.low c hc
  unfold isLo
  refine decide_eq_true ?_
  have e : c = 97 + (c - 97) := by omega
  rw [e]
  exact List.mem_of_getElem? (lets_at ⟨c - 97, by omega⟩)
theorem nmS_len {x : Str} (h : nmS x = true) : x.length ≤ 8 := by
  unfold nmS at h
  exact of_decide_eq_true (Bool.and_eq_true_iff.mp (Bool.and_eq_true_iff.mp h).1).2
theorem wlen : ("open" : Str).length = 4 ∧ ("num" : Str).length = 3 ∧ ("truth" : Str).length = 5 ∧ ("pair" : Str).length = 4 ∧ ("either" : Str).length = 6 ∧ ("list" : Str).length = 4 ∧ ("fun" : Str).length = 3 := by decide +kernel
abbrev BB : Nat := 1000100
/-- a drawn data kind -/
structure Kx (g : Nat) (x : Dt) : Prop where
  is : dat x = true
  wt : x.wt ≤ db g
  lo : x.loc 20 BB
  dp : x.dp ≤ g + 1
theorem asc_nm {n : Str} (h : nmS n = true) : Asc 8 n := by
  have hl : n.cps.toList.length = n.length := Array.length_toList
  have ll : ∀ c ∈ lets.cps.toList, c < 128 := by decide +kernel
  unfold nmS at h
  obtain ⟨h1, h2⟩ := Bool.and_eq_true_iff.mp h
  refine ⟨fun c hc => ?_, nmS_len (by unfold nmS; exact h)⟩
  have z := List.all_eq_true.mp h2 c hc
  unfold isLo at z
  exact ll c (of_decide_eq_true z)
theorem lo1 {s : Str} (h : Asc 20 s) : (Dt.tup [.str s]).loc 20 BB := by
  simp only [Dt.loc, Dt.locs, and_true]
  exact ⟨Nat.le_of_ble_eq_true rfl, h⟩
theorem lo2 {s : Str} {a : Dt} (h : Asc 20 s) (ha : a.loc 20 BB) : (Dt.tup [.str s, a]).loc 20 BB := by
  simp only [Dt.loc, Dt.locs, and_true]
  exact ⟨Nat.le_of_ble_eq_true rfl, h, ha⟩
theorem lo3 {s : Str} {a b : Dt} (h : Asc 20 s) (ha : a.loc 20 BB) (hb : b.loc 20 BB) : (Dt.tup [.str s, a, b]).loc 20 BB := by
  simp only [Dt.loc, Dt.locs, and_true]
  exact ⟨Nat.le_of_ble_eq_true rfl, h, ha, hb⟩
theorem lo_nm {n : Str} (h : nmS n = true) : (Dt.str n).loc 20 BB := by
  rw [loc_str]
  exact (asc_nm h).up (by decide)
theorem frm_ok {wd : Str} {xs : List Dt} (h1 : decide (wd = "fun") = false) (h2 : ar wd = some xs.length) (h3 : (!decide (wd = "open") || nm1 xs) = true) : frm (.tup (.str wd :: xs)) = true := by
  rw [frm_eq, h1, h2, h3]
  simp
theorem dat_two {wd : Str} {a b : Dt} (h : wd = "pair" ∨ wd = "either") (ha : dat a = true) (hb : dat b = true) : dat (.tup [.str wd, a, b]) = true := by
  rw [dat_eq]
  rcases h with rfl | rfl
  · have e : prt (.tup [.str "pair", a, b]) = [a, b] := rfl
    have e2 : frm (.tup [.str "pair", a, b]) = true := frm_ok (by decide +kernel) (show ar "pair" = some 2 by decide +kernel) (by rw [show decide (("pair" : Str) = "open") = false by decide +kernel]; rfl)
    rw [e, e2]
    simp [ha, hb]
  · have e : prt (.tup [.str "either", a, b]) = [a, b] := rfl
    have e2 : frm (.tup [.str "either", a, b]) = true := frm_ok (by decide +kernel) (show ar "either" = some 2 by decide +kernel) (by rw [show decide (("either" : Str) = "open") = false by decide +kernel]; rfl)
    rw [e, e2]
    simp [ha, hb]
theorem dat_lst {a : Dt} (ha : dat a = true) : dat (.tup [.str "list", a]) = true := by
  rw [dat_eq]
  have e : prt (.tup [.str "list", a]) = [a] := rfl
  have e2 : frm (.tup [.str "list", a]) = true := frm_ok (by decide +kernel) (show ar "list" = some 1 by decide +kernel) (by rw [show decide (("list" : Str) = "open") = false by decide +kernel]; rfl)
  rw [e, e2]
  simp [ha]
theorem dat_opn {n : Str} (h : nmS n = true) : dat (.tup [.str "open", .str n]) = true := by
  rw [dat_eq]
  have e : prt (.tup [.str "open", .str n]) = [] := rfl
  have e2 : frm (.tup [.str "open", .str n]) = true := by
    exact frm_ok (by decide +kernel) (show ar "open" = some 1 by decide +kernel) (by show (_ || nmS n) = true; rw [h, Bool.or_true])
  rw [e, e2]
  rfl
theorem dat_num : dat (.tup [.str "num"]) = true := by
  rw [dat_eq]
  have e : prt (.tup [.str "num"]) = [] := rfl
  have e2 : frm (.tup [.str "num"]) = true := by rw [frm_eq]; decide +kernel
  rw [e, e2]
  rfl
theorem dat_tru : dat (.tup [.str "truth"]) = true := by
  rw [dat_eq]
  have e : prt (.tup [.str "truth"]) = [] := rfl
  have e2 : frm (.tup [.str "truth"]) = true := by rw [frm_eq]; decide +kernel
  rw [e, e2]
  rfl
theorem wt_str (x : Str) : (Dt.str x).wt = 10 * x.length + 2 := by simp only [Dt.wt]
theorem wt_t1 (a : Dt) : (Dt.tup [a]).wt ≤ a.wt + 9 := by simp only [Dt.wt, Dt.wts]; omega
theorem wt_t2 (a b : Dt) : (Dt.tup [a, b]).wt ≤ a.wt + b.wt + 9 := by simp only [Dt.wt, Dt.wts]; omega
theorem wt_t3 (a b c : Dt) : (Dt.tup [a, b, c]).wt ≤ a.wt + b.wt + c.wt + 9 := by simp only [Dt.wt, Dt.wts]; omega
abbrev psData : List Str := ["_law_deck_here", "_law_opens", "_law_deep"]
abbrev nData : List Str := ["_law_deck_here", "_law_opens", "_law_deep", "_law_way", "_law_first"]
section
variable {P : Program} {w : World} {K : PySem.W.Frag} {mg : Str → Option Value} {base : Heap}
theorem scData : FnScope nData psData (defScope tData) := ⟨rfl, rfl, rfl, by decide +kernel, rfl, by decide +kernel, by decide +kernel⟩
def spData (n : Nat) : Sp := fun vs H Q _ => ∃ (d c o : Addr) (xs : List Str) (g : Nat), vs = [.ref d, .ref o, .int (g : Int)] ∧ g + 1 ≤ n ∧ Dk H d c ∧ H o = some (.lst (xs.map V.str)) ∧ o ≠ d ∧ o ≠ c ∧ 1 ≤ xs.length ∧ xs.length ≤ 26 ∧ (∀ x ∈ xs, nmS x = true) ∧
  ∀ (v : V) (x : Dt) (G : Hp), Kp d c H G → Dk G d c → Dd Non G x v → Kx g x → Q v G
theorem okData1 {f fD : Addr} {fd fdD : FuncData} {n : Nat} (F : Fun K "_law_data" "_law_data" tData f fd) (bF : Binds K fd psData []) (gF : mg "_law_data" = some (.ref f))
    (GD : FnOk P w K mg base CX0 (n + 2) fD fdD ["_law_deck_here", "_law_most"] spDraw) (bD : Binds K fdD ["_law_deck_here", "_law_most"] []) (gD : mg "_law_draw" = some (.ref fD)) (kD : PySem.W.keepIn K (.ref fD) = true) (ml : mg "len" = none) (mm : mg "min" = none)
    (GI : FnOk P w K mg base CX0 (n + 2) f fd psData (spData n)) : FnOk P w K mg base CX0 (n + 3) f fd psData (spData (n + 1)) := by
  refine F.ok scData (fun vs H Q E h => ?_) (fun cdv A outer s H vs Q E hr h => ?_)
  · obtain ⟨d, c, o, xs, g, rfl, _⟩ := h
    rfl
  obtain ⟨d, c, o, xs, g, rfl, hg, dk, ho, od, oc, l0, lx, hx, q⟩ := h
  refine ⟨_, pss_cons (ps_set (i := 3) scData.nd rfl (.inl rfl) (pe_call GD hr (by rfl) gD kD bD .nil pass0 (pa_cons (pv 0) (pa_cons pe_int pa_nil))))
    (pss_cons (ps_if (PW.pt (pw_or (pt_cmpR op_eq (pv 2) pe_int (nomark _)) (pw_or1 (pt_cmpR op_lt (pv 3) pe_int (nomark _)))))
      (pss_one (ps_ret (pe_ix ix_list (pe_lst (pa_cons (pe_tup (pa_cons pe_str pa_nil)) (pa_cons (pe_tup (pa_cons pe_str pa_nil)) (pa_cons (pe_tup (pa_cons pe_str (pa_cons (pe_ix ix_list (pv 1) (pe_call GD hr (by rfl) gD kD bD .nil pass0 (pa_cons (pv 0) (pa_cons (pe_callB call_len_seq (by rfl) ml PySem.boot_len (pa_cons (pv 1) pa_nil)) pa_nil))) (fun _ _ => rfl)) pa_nil))) pa_nil))))
        (pe_callB (call_min2 rfl) (by rfl) mm (by decide +kernel) (pa_cons pe_int (pa_cons (pe_call GD hr (by rfl) gD kD bD .nil pass0 (pa_cons (pv 0) (pa_cons pe_int pa_nil))) pa_nil))) (fun _ _ => rfl)))) pss_nil)
    (pss_cons (ps_if (pt_cmpR op_lt (pv 3) pe_int (nomark _))
      (pss_cons (ps_set (i := 4) scData.nd rfl (.inl rfl) (pe_call GI hr (by rfl) gF F.kp bF .nil pass0 (pa_cons (pv 0) (pa_cons (pv 1) (pa_cons (pe_op op_sub (pv 2) pe_int) pa_nil)))))
      (pss_one (ps_ret (pe_tup (pa_cons (pe_ix ix_list (pe_lst (pa_cons pe_str (pa_cons pe_str pa_nil))) (pe_op op_mod (pv 3) pe_int) (fun _ _ => rfl)) (pa_cons (pv 4) (pa_cons (pe_call GI hr (by rfl) gF F.kp bF .nil pass0 (pa_cons (pv 0) (pa_cons (pv 1) (pa_cons (pe_op op_sub (pv 2) pe_int) pa_nil)))) pa_nil))))))) pss_nil)
    (pss_one (ps_ret (pe_tup (pa_cons pe_str (pa_cons (pe_call GI hr (by rfl) gF F.kp bF .nil pass0 (pa_cons (pv 0) (pa_cons (pv 1) (pa_cons (pe_op op_sub (pv 2) pe_int) pa_nil)))) pa_nil))))))), ?_⟩
  have dg := db_ge g
  obtain ⟨w1, w2, w3, w4, w5, w6, w7⟩ := wlen
  refine ⟨_, rfl, d, c, 10, rfl, dk, by decide, by decide, fun way G1 w0 w1' kp1 dk1 => ?_⟩
  have ho1 := kp1 o _ od oc ho
  refine ⟨_, rfl, rfl, _, rfl, (fun h3 => ite2 (fun _ => iteT h3) (fun hdeep => ⟨_, rfl, _, _, rfl, rfl, _, rfl, ite2 (fun _ => h3) (fun _ => ?deep)⟩)) ?leaf⟩
  case leaf =>
    refine ⟨(by show 1 ≤ sizeLine; decide), fun p1 n1 => ⟨(by show 1 ≤ sizeLine; decide), fun p2 n2 => ?_⟩⟩
    have s1 := newS (o := .tup [.str "num"]) n1
    have s2 := newS (o := .tup [.str "truth"]) n2
    have dk2 := dk1.same (s1.trans s2)
    have ho2 := (s1.trans s2) _ _ ho1
    refine ⟨_, rfl, _, rfl, _, rfl, o, _, rfl, .inl (SqL.of ho2), d, c, _, rfl, dk2, ?_, ?_, fun r G3 r0 r1 kp3 dk3 => ?_⟩
    · rw [List.length_map]
      omega
    · rw [List.length_map]
      omega
    rw [List.length_map] at r1
    have lr : r.toNat < xs.length := by omega
    have er : r = ((r.toNat : Nat) : Int) := by omega
    have gat : atI (xs.map V.str) r = some (.str xs[r.toNat]) := by
      have z := atI_nat (xs := xs.map V.str) (j := r.toNat) (v := .str xs[r.toNat]) (by rw [List.getElem?_map, List.getElem?_eq_getElem lr]; rfl)
      rw [← er] at z
      exact z
    have hn := hx _ (List.getElem_mem lr)
    generalize xs[r.toNat] = nm at gat hn
    refine ⟨o, _, _, _, rfl, rfl, SqL.of (kp3 o _ od oc ho2), gat, (by show 2 ≤ sizeLine; decide), fun p3 n3 => ⟨(by show 3 ≤ sizeLine; decide), fun l nl => ?_⟩⟩
    have s3 := newS (o := .tup [.str "open", .str nm]) n3
    have s4 := newS (o := .lst [V.ref p1, .ref p2, .ref p3]) nl
    have dk4 := dk3.same (s3.trans s4)
    refine ⟨_, rfl, d, c, 4, rfl, dk4, by decide, by decide, fun r2 G5 a0 a1 kp5 dk5 => ?_⟩
    have tk3 := Tk.kp kp3 dk2
    have tk5 := Tk.kp kp5 dk4
    have g1 := tk5 _ _ (s4 _ _ (s3 _ _ (tk3 _ _ (s2 p1 _ upd_same))))
    have g2 := tk5 _ _ (s4 _ _ (s3 _ _ (tk3 p2 _ upd_same)))
    have g3 := tk5 _ _ (s4 p3 _ upd_same)
    have off := (dk3.same s3).off nl
    have gl := kp5 l _ off.1 off.2 upd_same
    have kpA : Kp d c H G5 := (((kp1.trans (Kp.of (s1.trans s2))).trans kp3).trans (Kp.of (s3.trans s4))).trans kp5
    refine ⟨_, _, rfl, ?_⟩
    have key : ∃ (v : V) (x : Dt), atI [V.ref p1, V.ref p2, V.ref p3] (if r2 < 2 then r2 else 2) = some v ∧ Dd Non G5 x v ∧ Kx g x := by
      by_cases h2 : r2 < 2
      · rw [if_pos h2]
        have e2 : r2 = 0 ∨ r2 = 1 := by omega
        rcases e2 with rfl | rfl
        · refine ⟨_, _, rfl, .tup g1 (.cons (.str _) .nil), dat_num, ?_, lo1 (ascLit (by decide +kernel) (by decide +kernel)), by simp only [Dt.dp, Dt.dps]; omega⟩
          have := wt_t1 (.str "num")
          rw [wt_str, w2] at this
          omega
        · refine ⟨_, _, rfl, .tup g2 (.cons (.str _) .nil), dat_tru, ?_, lo1 (ascLit (by decide +kernel) (by decide +kernel)), by simp only [Dt.dp, Dt.dps]; omega⟩
          have := wt_t1 (.str "truth")
          rw [wt_str, w3] at this
          omega
      · rw [if_neg h2]
        refine ⟨_, _, rfl, .tup g3 (.cons (.str _) (.cons (.str _) .nil)), dat_opn hn, ?_, lo2 (ascLit (by decide +kernel) (by decide +kernel)) (lo_nm hn), by simp only [Dt.dp, Dt.dps]; omega⟩
        have := wt_t2 (.str "open") (.str nm)
        rw [wt_str, wt_str, w1] at this
        have := nmS_len hn
        omega
    obtain ⟨v, x, e1, e2, e3⟩ := key
    exact ⟨l, _, _, v, rfl, rfl, SqL.of gl, e1, q v x _ kpA dk5 e2 e3⟩
  case deep =>
    obtain ⟨j, rfl⟩ : ∃ j, g = j + 1 := by
      cases g with
      | zero => exact absurd (decide_eq_true rfl) hdeep
      | succ j => exact ⟨j, rfl⟩
    have ej : ((j + 1 : Nat) : Int) - 1 = ((j : Nat) : Int) := by omega
    have eL : [V.ref d, V.ref o, V.int (((j + 1 : Nat) : Int) - 1)] = [V.ref d, V.ref o, V.int ((j : Nat) : Int)] := by rw [ej]
    have dj := db_ge j
    have edb : db (j + 1) = 2 * db j + 300 := rfl
    refine ⟨_, rfl, _, _, rfl, rfl, _, rfl, ite2 (fun hw8 => ?_) (fun _ => ?_)⟩
    · refine ⟨_, rfl, _, rfl, _, rfl, _, _, rfl, rfl, d, c, o, xs, j, eL, by omega, dk1, ho1, od, oc, l0, lx, hx, fun va a G3 kp3 dk3 ra da => ?_⟩
      refine ⟨(by show 2 ≤ sizeLine; decide), fun l nl => ?_⟩
      have sl := newS (o := .lst [V.str "pair", .str "either"]) nl
      obtain ⟨wd, hwd, hw'⟩ : ∃ wd : Str, atI [V.str "pair", V.str "either"] (way % 2) = some (.str wd) ∧ (wd = "pair" ∨ wd = "either") := by
        have e2 : way % 2 = 0 ∨ way % 2 = 1 := by omega
        rcases e2 with e | e
        · rw [e]
          exact ⟨"pair", rfl, .inl rfl⟩
        · rw [e]
          exact ⟨"either", rfl, .inr rfl⟩
      refine ⟨_, rfl, _, _, rfl, rfl, (by show (0 : Int) < 2; decide), l, _, _, _, rfl, rfl, SqL.of upd_same, hwd, _, rfl, ?_⟩
      have dk4 := dk3.same sl
      have ho4 := sl _ _ (kp3 o _ od oc ho1)
      refine ⟨_, rfl, _, rfl, _, rfl, _, _, rfl, rfl, d, c, o, xs, j, eL, by omega, dk4, ho4, od, oc, l0, lx, hx, fun vb b G5 kp5 dk5 rb db' => ?_⟩
      refine ⟨(by show 3 ≤ sizeLine; decide), fun p np => ?_⟩
      have sp := newS (o := .tup [V.str wd, va, vb]) np
      have ra5 := ((ra.same sl).kn (Kn.tk (Tk.kp kp5 dk4))).same sp
      refine q _ (.tup [.str wd, a, b]) _ (((((kp1.trans kp3).trans (Kp.of sl)).trans kp5)).trans (Kp.of sp)) (dk5.same sp) (.tup upd_same (.cons (.str _) (.cons ra5 (.cons (rb.same sp) .nil)))) ⟨dat_two hw' da.is db'.is, ?_, lo3 (by rcases hw' with rfl | rfl <;> exact ascLit (by decide +kernel) (by decide +kernel)) da.lo db'.lo, by have := da.dp; have := db'.dp; simp only [Dt.dp, Dt.dps]; omega⟩
      have h1 := wt_t3 (.str wd) a b
      have h2 := da.wt
      have h3 := db'.wt
      rw [wt_str] at h1
      have h4 : wd.length ≤ 6 := by rcases hw' with rfl | rfl <;> omega
      omega
    · refine ⟨_, rfl, _, rfl, _, rfl, _, _, rfl, rfl, d, c, o, xs, j, eL, by omega, dk1, ho1, od, oc, l0, lx, hx, fun va a G3 kp3 dk3 ra da => ?_⟩
      refine ⟨(by show 2 ≤ sizeLine; decide), fun p np => ?_⟩
      have sp := newS (o := .tup [V.str "list", va]) np
      refine q _ (.tup [.str "list", a]) _ ((kp1.trans kp3).trans (Kp.of sp)) (dk3.same sp) (.tup upd_same (.cons (.str _) (.cons (ra.same sp) .nil))) ⟨dat_lst da.is, ?_, lo2 (ascLit (by decide +kernel) (by decide +kernel)) da.lo, by have := da.dp; simp only [Dt.dp, Dt.dps]; omega⟩
      have h1 := wt_t2 (.str "list") a
      have h2 := da.wt
      rw [wt_str, w6] at h1
      omega
theorem okData {f fD : Addr} {fd fdD : FuncData} (F : Fun K "_law_data" "_law_data" tData f fd) (bF : Binds K fd psData []) (gF : mg "_law_data" = some (.ref f))
    (GD : ∀ k, FnOk P w K mg base CX0 (k + 2) fD fdD ["_law_deck_here", "_law_most"] spDraw) (bD : Binds K fdD ["_law_deck_here", "_law_most"] []) (gD : mg "_law_draw" = some (.ref fD)) (kD : PySem.W.keepIn K (.ref fD) = true) (ml : mg "len" = none) (mm : mg "min" = none) :
    ∀ n, FnOk P w K mg base CX0 (n + 2) f fd psData (spData n)
  | 0 => noFn fun vs H Q E h => by
    obtain ⟨d, c, o, xs, g, _, hg, _⟩ := h
    omega
  | n + 1 => okData1 F bF gF (GD n) bD gD kD ml mm (okData F bF gF GD bD gD kD ml mm n)
end
end Kq

namespace Kq
open PySem PySem.Spec PyProof.Rows L2 Kf Kg Kv GxR
def ws8 : List Str := ["num", "open", "fun", "name", "yes", "list", "told", "fault"]
theorem ws8_ok : ∀ i : Fin 8, ((ws8.drop i.val ++ ws8.take i.val).take 4).length = 4 ∧ (∀ x ∈ (ws8.drop i.val ++ ws8.take i.val).take 4, nmS x = true) ∧ ((ws8.drop i.val ++ ws8.take i.val).take 4).Nodup := by decide +kernel
theorem cutHi (xs : List V) (n : Nat) : cutV xs none (some (n : Int)) = xs.take n := by
  unfold cutV
  rw [HT.sIx_nat, HT.sIx_none]
  show xs.take (min n xs.length) = _
  by_cases h : n ≤ xs.length
  · rw [Nat.min_eq_left h]
  · rw [Nat.min_eq_right (by omega), List.take_length, List.take_of_length_le (by omega)]
theorem cutLo (xs : List V) (n : Nat) : cutV xs (some (n : Int)) none = xs.drop n := by
  unfold cutV
  rw [HT.sIx_nat, HT.sIx_none]
  by_cases h : n ≤ xs.length
  · rw [Nat.min_eq_left h, List.take_of_length_le]
    rw [List.length_drop]
    exact Nat.le_refl _
  · rw [Nat.min_eq_right (by omega), List.drop_length, List.drop_of_length_le (by omega), List.take_nil]
/-- four unlike names -/
structure N4 (xs : List Str) : Prop where
  len : xs.length = 4
  nm : ∀ x ∈ xs, nmS x = true
  nd : xs.Nodup
section
variable {P : Program} {w : World} {K : PySem.W.Frag} {mg : Str → Option Value} {base : Heap}
abbrev psCalled : List Str := ["_law_deck_here", "_law_many"]
abbrev nCalled : List Str := ["_law_deck_here", "_law_many", "_law_words", "_law_at"]
theorem scCalled : FnScope nCalled psCalled (defScope tCalled) := ⟨rfl, rfl, rfl, by decide +kernel, rfl, by decide +kernel, by decide +kernel⟩
def spCalled : Sp := fun vs H Q _ => ∃ (d c : Addr), vs = [.ref d, .int 4] ∧ Dk H d c ∧ ∀ (l : Addr) (xs : List Str) (G : Hp), Kp d c H G → Dk G d c → H l = none → G l = some (.lst (xs.map V.str)) → N4 xs → Q (.ref l) G
theorem okCalled {f fD fN : Addr} {fd fdD fdN : FuncData} {k : Nat} (F : Fun K "_law_called" "_law_called" tCalled f fd)
    (GD : FnOk P w K mg base CX0 k fD fdD ["_law_deck_here", "_law_most"] spDraw) (bD : Binds K fdD ["_law_deck_here", "_law_most"] []) (gD : mg "_law_draw" = some (.ref fD)) (kD : PySem.W.keepIn K (.ref fD) = true)
    (GN : FnOk P w K mg base CX0 k fN fdN ["_law_deck_here", "_law_many"] spNames) (bN : Binds K fdN ["_law_deck_here", "_law_many"] []) (gN : mg "_law_names" = some (.ref fN)) (kN : PySem.W.keepIn K (.ref fN) = true) : FnOk P w K mg base CX0 (k + 1) f fd psCalled spCalled := by
  refine F.ok scCalled (fun vs H Q E h => ?_) (fun cdv A outer s H vs Q E hr h => ?_)
  · obtain ⟨d, c, rfl, _⟩ := h
    rfl
  obtain ⟨d, c, rfl, dk, q⟩ := h
  refine ⟨_, pss_cons (ps_set (i := 2) scCalled.nd rfl (.inl rfl) (pe_lst (pa_cons pe_str (pa_cons pe_str (pa_cons pe_str (pa_cons pe_str (pa_cons pe_str (pa_cons pe_str (pa_cons pe_str (pa_cons pe_str pa_nil))))))))))
    (pss_cons (ps_if (pt_cmpR op_eq (pe_call GD hr (by rfl) gD kD bD .nil pass0 (pa_cons (pv 0) (pa_cons pe_int pa_nil))) pe_int (nomark _))
      (pss_cons (ps_set (i := 3) scCalled.nd rfl (.inl rfl) (pe_call GD hr (by rfl) gD kD bD .nil pass0 (pa_cons (pv 0) (pa_cons pe_int pa_nil))))
      (pss_one (ps_ret (pe_slice sl_list (pe_op op_cat (pe_slice sl_list (pv 2) (po_some (pv 3)) po_none) (pe_slice sl_list (pv 2) po_none (po_some (pv 3)))) po_none (po_some (pv 1)))))) pss_nil)
    (pss_one (ps_ret (pe_call GN hr (by rfl) gN kN bN .nil pass0 (pa_cons (pv 0) (pa_cons (pv 1) pa_nil)))))), ?_⟩
  refine ⟨(by show 8 ≤ sizeLine; decide), fun W nW => ?_⟩
  have sW := newS (o := .lst (ws8.map V.str)) nW
  have gW : (upd H W (.lst (ws8.map V.str))) W = some (.lst (ws8.map V.str)) := upd_same
  have offW := dk.off nW
  have dk1 := dk.same sW
  refine ⟨_, rfl, d, c, 4, rfl, dk1, by decide, by decide, fun r G1 r0 r1 kp1 dk1' => ⟨rfl, _, rfl, ite2 (fun _ => ?_) (fun _ => ?_)⟩⟩
  · refine ⟨_, rfl, d, c, 8, rfl, dk1', by decide, by decide, fun at' G2 a0 a1 kp2 dk2 => ?_⟩
    have gW2 := kp2 W _ offW.1 offW.2 (kp1 W _ offW.1 offW.2 gW)
    obtain ⟨i, rfl⟩ : ∃ i : Nat, at' = (i : Int) := ⟨at'.toNat, by omega⟩
    refine ⟨_, rfl, _, rfl, (i : Int), rfl, W, _, rfl, SqL.of gW2, fun p1 n1 => ?_⟩
    have s1 := newS (o := .lst (cutV (ws8.map V.str) (some (i : Int)) none)) n1
    refine ⟨_, rfl, _, rfl, (i : Int), rfl, W, _, rfl, SqL.of (s1 _ _ gW2), fun p2 n2 => ?_⟩
    have s2 := newS (o := .lst (cutV (ws8.map V.str) none (some (i : Int)))) n2
    rw [cutLo] at s1 n2 s2
    rw [cutHi] at s2
    rw [cutLo, cutHi]
    refine ⟨p1, p2, _, _, rfl, rfl, s2 p1 _ upd_same, upd_same, ?_, fun p3 n3 => ?_⟩
    · rw [List.length_drop, List.length_take]
      exact sz (by
        have : (ws8.map V.str).length = 8 := rfl
        omega)
    have s3 := newS (o := .lst ((ws8.map V.str).drop i ++ (ws8.map V.str).take i)) n3
    refine ⟨_, rfl, ((4 : Nat) : Int), rfl, p3, _, rfl, SqL.of upd_same, fun p4 n4 => ?_⟩
    rw [cutHi]
    obtain ⟨h1, h2, h3⟩ := ws8_ok ⟨i, by omega⟩
    have s4 := newS (o := .lst (((ws8.map V.str).drop i ++ (ws8.map V.str).take i).take 4)) n4
    have sA := (s1.trans s2).trans (s3.trans s4)
    have kA : Kp d c H (upd (upd (upd (upd G2 p1 (.lst ((ws8.map V.str).drop i))) p2 (.lst ((ws8.map V.str).take i))) p3 (.lst ((ws8.map V.str).drop i ++ (ws8.map V.str).take i))) p4 (.lst (((ws8.map V.str).drop i ++ (ws8.map V.str).take i).take 4))) := (((Kp.of sW).trans kp1).trans kp2).trans (Kp.of sA)
    have nH : H p4 = none := by
      have k3 : Kp d c H (upd (upd (upd G2 p1 (.lst ((ws8.map V.str).drop i))) p2 (.lst ((ws8.map V.str).take i))) p3 (.lst ((ws8.map V.str).drop i ++ (ws8.map V.str).take i))) := (((Kp.of sW).trans kp1).trans kp2).trans (Kp.of ((s1.trans s2).trans s3))
      exact k3.free (dk2.same ((s1.trans s2).trans s3)) n4
    refine q p4 ((ws8.drop i ++ ws8.take i).take 4) _ kA (dk2.same sA) nH ?_ ⟨h1, h2, h3⟩
    rw [upd_same, List.map_take, List.map_append, List.map_drop, List.map_take]
  · refine ⟨_, rfl, _, rfl, d, c, 4, rfl, dk1', by decide, by decide, fun l xs G2 kp2 dk2 nl gl lx hx nd => ?_⟩
    have k1 : Kp d c H G1 := (Kp.of sW).trans kp1
    exact q l xs G2 (k1.trans kp2) dk2 (k1.free dk1' nl) gl ⟨lx, fun x h => nmS_of (hx x h), nd⟩
/-! _law_carried -/
abbrev psCarried : List Str := ["_law_deck_here", "_law_opens"]
abbrev nCarried : List Str := ["_law_deck_here", "_law_opens", "_law_many", "_law_found", "_law_k"]
theorem scCarried : FnScope nCarried psCarried (defScope tCarried) := ⟨rfl, rfl, rfl, by decide +kernel, rfl, by decide +kernel, by decide +kernel⟩
theorem chD_dat {x : Dt} (h : dat x = true) : chD dat x = true := by
  cases c : tagD x "fun" 2 with
  | false => rw [chD_no dat c]; exact h
  | true =>
    obtain ⟨a, b, rfl⟩ := tag_fn c
    rw [dat_fn] at h
    cases h
theorem arg_ch {x : Dt} (h : chD dat x = true) : argD x = true := by
  unfold argD fstD
  cases c : tagD x "fun" 2 with
  | false => rw [chD_no dat c] at h; rw [h]; rfl
  | true => rw [h]; simp
def spCarried : Sp := fun vs H Q _ => ∃ (d c o : Addr) (xs : List Str), vs = [.ref d, .ref o] ∧ Dk H d c ∧ H o = some (.lst (xs.map V.str)) ∧ o ≠ d ∧ o ≠ c ∧ 1 ≤ xs.length ∧ xs.length ≤ 26 ∧ (∀ x ∈ xs, nmS x = true) ∧
  ∀ (v : V) (x : Dt) (G : Hp), Kp d c H G → Dk G d c → Dd Non G x v → argD x = true → x.wt ≤ 3000 → x.loc 20 BB → x.dp ≤ 4 → Q v G
theorem okCarried {f fD fA : Addr} {fd fdD fdA : FuncData} {k : Nat} (F : Fun K "_law_carried" "_law_carried" tCarried f fd)
    (GD : FnOk P w K mg base CX0 k fD fdD ["_law_deck_here", "_law_most"] spDraw) (bD : Binds K fdD ["_law_deck_here", "_law_most"] []) (gD : mg "_law_draw" = some (.ref fD)) (kD : PySem.W.keepIn K (.ref fD) = true)
    (GA : FnOk P w K mg base CX0 k fA fdA psData (spData 4)) (bA : Binds K fdA psData []) (gA : mg "_law_data" = some (.ref fA)) (kA : PySem.W.keepIn K (.ref fA) = true) (mr : mg "range" = none) : FnOk P w K mg base CX0 (k + 1) f fd psCarried spCarried := by
  refine F.ok scCarried (fun vs H Q E h => ?_) (fun cdv A outer s H vs Q E hr h => ?_)
  · obtain ⟨d, c, o, xs, rfl, _⟩ := h
    rfl
  obtain ⟨d, c, o, xs, rfl, dk, ho, od, oc, l0, lx, hx, q⟩ := h
  refine ⟨_, pss_cons (ps_set (i := 2) scCarried.nd rfl (.inl rfl) (pe_ix ix_list (pe_lst (pa_cons pe_int (pa_cons pe_int (pa_cons pe_int (pa_cons pe_int pa_nil))))) (pe_call GD hr (by rfl) gD kD bD .nil pass0 (pa_cons (pv 0) (pa_cons pe_int pa_nil))) (fun _ _ => rfl)))
    (pss_cons (ps_set (i := 3) scCarried.nd rfl (.inl rfl) (pe_call GA hr (by rfl) gA kA bA .nil pass0 (pa_cons (pv 0) (pa_cons (pv 1) (pa_cons pe_int pa_nil)))))
    (pss_cons (ps_for PassesOwn.never rfl (pi_range1 (by rfl) mr (pa_cons (pv 2) pa_nil)) (pg_name (i := 4) scCarried.nd rfl (.inl rfl))
      (pss_one (ps_set (i := 3) scCarried.nd rfl (.inl rfl) (pe_tup (pa_cons pe_str (pa_cons (pe_call GA hr (by rfl) gA kA bA .nil pass0 (pa_cons (pv 0) (pa_cons (pv 1) (pa_cons pe_int pa_nil)))) (pa_cons (pv 3) pa_nil)))))))
    (pss_one (ps_ret (pv 3))))), ?_⟩
  refine ⟨(by show 4 ≤ sizeLine; decide), fun l nl => ?_⟩
  have sl := newS (o := .lst [.int 0, .int 0, .int 1, .int 2]) nl
  have offl := dk.off nl
  refine ⟨_, rfl, d, c, 4, rfl, dk.same sl, by decide, by decide, fun r G1 r0 r1 kp1 dk1 => ?_⟩
  obtain ⟨m, hm, hm2⟩ : ∃ m : Nat, atI [V.int 0, V.int 0, V.int 1, V.int 2] r = some (.int (m : Int)) ∧ m ≤ 2 := by
    have er : r = 0 ∨ r = 1 ∨ r = 2 ∨ r = 3 := by omega
    rcases er with rfl | rfl | rfl | rfl
    · exact ⟨0, rfl, by decide⟩
    · exact ⟨0, rfl, by decide⟩
    · exact ⟨1, rfl, by decide⟩
    · exact ⟨2, rfl, by decide⟩
  refine ⟨l, _, _, _, rfl, rfl, SqL.of (kp1 l _ offl.1 offl.2 upd_same), hm, ?_⟩
  have kpA : Kp d c H G1 := (Kp.of sl).trans kp1
  have ho1 := kpA o _ od oc ho
  have edb : db 1 = 900 := rfl
  obtain ⟨w1, w2, w3, w4, w5, w6, w7⟩ := wlen
  refine ⟨_, rfl, _, rfl, d, c, o, xs, 1, rfl, by decide, dk1, ho1, od, oc, l0, lx, hx, fun v x G2 kp2 dk2 hv kx => ?_⟩
  refine ⟨_, rfl, (m : Int), rfl, by omega, by omega, for_range (lo := 0) (n := m) (fun i σ G => ∃ y4 v x, σ = [some (.ref d), some (.ref o), some (.int (m : Int)), some v, y4] ∧ Kp d c H G ∧ Dk G d c ∧ Dd Non G x v ∧ chD dat x = true ∧ x.wt ≤ 900 + 1000 * i ∧ x.loc 20 BB ∧ x.dp ≤ 2 + i) ⟨_, v, x, rfl, kpA.trans kp2, dk2, hv, chD_dat kx.is, by have := kx.wt; omega, kx.lo, kx.dp⟩ (fun i σ G hi z => ?_) (fun σ G z => ?_)⟩
  · obtain ⟨y4, v, x, rfl, kpG, dkG, hvG, hc, hwt, hlo, hdp⟩ := z
    refine ⟨_, rfl, _, rfl, d, c, o, xs, 1, rfl, by decide, dkG, kpG o _ od oc ho, od, oc, l0, lx, hx, fun v' x' G3 kp3 dk3 hv' kx' => ?_⟩
    refine ⟨_, rfl, (by show 3 ≤ sizeLine; decide), fun p np => ?_⟩
    have sp := newS (o := .tup [V.str "fun", v', v]) np
    have hv3 := (hvG.kn (Kn.tk (Tk.kp kp3 dkG))).same sp
    refine ⟨_, _, .tup [.str "fun", x', x], rfl, (kpG.trans kp3).trans (Kp.of sp), dk3.same sp, .tup upd_same (.cons (.str _) (.cons (hv'.same sp) (.cons hv3 .nil))), ?_, ?_, lo3 (ascLit (by decide +kernel) (by decide +kernel)) kx'.lo hlo, by have := kx'.dp; simp only [Dt.dp, Dt.dps]; omega⟩
    · rw [chD_fn, kx'.is, hc]
      rfl
    · have h1 := wt_t3 (.str "fun") x' x
      have h2 := kx'.wt
      rw [wt_str, w7] at h1
      omega
  · obtain ⟨y4, v, x, rfl, kpG, dkG, hvG, hc, hwt, hlo, hdp⟩ := z
    exact ⟨_, rfl, q v x G kpG dkG hvG (arg_ch hc) (by omega) hlo (by omega)⟩
end
end Kq

/-! d.get(k) of a dict of the module; statements and expressions that are never reached -/
namespace Kk
open PySem PySem.Spec PyProof.Rows L2
theorem ps_no {X : Cx} {st : Stmt} : PS X st (fun _ _ _ => False) := ⟨fun _ _ _ _ _ _ h => h.elim⟩
theorem pss_no {X : Cx} {b : List Stmt} : PSs X b (fun _ _ _ => False) := ⟨fun _ _ _ _ _ _ h => h.elim⟩
theorem pe_no {X : Cx} {e : Expr} : PE X e (fun _ _ _ => False) := ⟨fun _ _ _ _ _ _ h => h.elim⟩
section
variable {X : Cx} {d : Addr} {es : Array DictEntry} {n : Nat}
def tKGet (K : PySem.W.Frag) (d : Addr) (to ty : TE) : TE := fun σ H Q => to σ H fun x H1 => x = .ref d ∧ ty σ H1 fun y H2 => ∃ (z : Str) (r : Option Value) (v : V), y = .str z ∧ PySem.W.nsIn K d z = some r ∧ RelV v (r.getD .none) ∧ Q v H2
theorem pe_kget {o e : Expr} {apos cpos : Pos} {to ty : TE} (D : KDict X.K X.w d es n) (ho : PE X o to) (he : PE X e ty) (m : M1 X o "get" apos e cpos) : PE X (.Call (.Attribute o "get" apos) [e] [] cpos) (tKGet X.K d to ty) := by
  refine ⟨fun pins s σ H Q I h => ?_⟩
  refine wpAny_Call_method m.base m.few m.line PySem.F.plainAttrs_dict PySem.F.slot_dict_get PySem.F.type_dict_get (thn (ho.run pins s σ H _ I h) fun u s1 ⟨x, H1, I1, rx, ex, q1⟩ => ?_)
  subst ex
  obtain rfl : u = Value.ref d := rx
  have M := PySem.W.mapOf_K (prog := X.prog) (w := X.w) I1.kIn D.at_ D.lit
  refine ⟨M.typeIs, M.noDict, ?_⟩
  rw [m.trees]
  refine Calls.callWith_builtin rfl (Calls.evalArgs_plain (Calls.spliced_cons (thn (he.run pins s1 σ H1 _ I1 q1) fun iv s2 ⟨y, H2, I2, ry, z, r, v, ey, e, rv, q2⟩ => Calls.spliced_nil ?_)))
  subst ey
  obtain ⟨t, rfl⟩ := (show ∃ t, iv = Value.str z t from ry)
  have M2 := PySem.W.mapOf_K (prog := X.prog) (w := X.w) I2.kIn D.at_ D.lit
  refine call_meetsIn PySem.F.slot_dict_get M2.typeIs PySem.F.entry_dict_get (PySem.F.args_dict_get_2 _ _) (meets_dict_get _ d (PySem.strKind_is X.prog X.w z t) D.low) ⟨_, M2, ?_⟩
  rw [PySem.W.find_K D.at_ e]
  exact ⟨v, H2, I2.tok _, rv, q2⟩
end
end Kk

/-! list(zip(a, b)) -/
namespace Kz
open PySem PySem.Spec PyProof.Rows L2
section
variable {prog : Program} {w : World} {A : Around} {E : Value → Shared → Prop} {s : Shared} {z TI TO i1 i2 T : Addr} {fp1 fp2 : List Addr} {n1 n2 i : Nat} {P1 P2 : Nat → Value → Prop} {St1 St2 : Nat → Heap → Prop} {f : Bool} {oT : Obj}
/-- a turn of the zip while its tuple T is out -/
theorem outItem {Q : Value → Shared → Prop} (S : ZipSep2 z TI TO i1 i2 fp1 fp2) (D1 : Draws prog w A i1 fp1 n1 P1 St1) (D2 : Draws prog w A i2 fp2 n2 P2 St2)
    (hz : IsZipHeld s.heap z TI TO T f) (hT : s.heap.get? T = some oT) (hTI : IsTupOf2 s.heap TI (.ref i1) (.ref i2)) (st1 : St1 i s.heap) (st2 : St2 i s.heap) (l1 : i < n1) (l2 : i < n2)
    (q : ∀ x1 x2 h' tk, P1 i x1 → P2 i x2 → IsZipHeld h' z TI TO T true → St1 (i + 1) h' → St2 (i + 1) h' → IsTupOf2 h' s.heap.objs.size x1 x2 → h'.objs.size = s.heap.objs.size + 1 →
      (∀ c o, c ≠ z → c ≠ i1 → c ≠ i2 → s.heap.get? c = some o → h'.get? c = some o) → Q (.ref s.heap.objs.size) { s with heap := h', toks := tk }) :
    wpAny (model prog w) A (Builtin.«zip.__next__» ⟨[.ref z], []⟩) (fun fin s' => ∃ v, fin = .done (.ret v) ∧ Q v s') E s := by
  obtain ⟨hp, g, d, tk0, os⟩ := s
  show wpAny _ _ (field (.ref z) 2 >>= _) _ _ _
  refine wpAny_bind (wpAny_field hz rfl (x := .bool false) rfl ?_)
  show wpAny _ _ (field (.ref z) 3 >>= _) _ _ _
  refine wpAny_bind (wpAny_field hz rfl (x := .ref TI) rfl ?_)
  refine wpAny_bind (wpAny_seqItems hTI rfl ?_)
  show wpAny _ _ (Builtin.SmallTypes.ownedTupleIsFree (.ref z) >>= _) _ _ _
  refine wpAny_bind (wpAny_tupleHeld_zip hz hT fun ha za sa => ?_)
  replace sa : Heap.SameBut z hp ha := sa
  simp only [Bool.false_eq_true, if_false]
  refine wpAny_bind ?_
  rw [← Array.forIn_toList]
  simp only [List.forIn_cons, List.forIn_nil]
  refine wpAny_bind (wpAny_bind (wpAny_holding ?_))
  show wpAny _ _ (Builtin.SmallTypes.nextOf (.ref i1) >>= _) _ _ ⟨ha, g, d, tk0, os⟩
  refine wpAny_bind (D1.item i ⟨ha, g, d, tk0, os⟩ _ _ l1 (D1.over st1 sa S.zf1) fun x1 hb tkb px1 tb sb => wpAny_pure ?_)
  replace sb : Heap.SameBut i1 ha hb := sb
  refine wpAny_pure ?_
  refine wpAny_bind (wpAny_bind (wpAny_holding ?_))
  show wpAny _ _ (Builtin.SmallTypes.nextOf (.ref i2) >>= _) _ _ ⟨hb, g, d, tkb, os⟩
  refine wpAny_bind (D2.item i ⟨hb, g, d, tkb, os⟩ _ _ l2 (D2.over (D2.over st2 sa S.zf2) sb S.sep1_2) fun x2 hc tkc px2 tc sc => wpAny_pure ?_)
  replace sc : Heap.SameBut i2 hb hc := sc
  refine wpAny_pure (wpAny_pure ?_)
  show wpAny _ _ (newTuple [x1, x2] >>= _) _ _ ⟨hc, g, d, tkc, os⟩
  refine wpAny_bind (wpAny_newTuple ?_)
  have sz : hc.objs.size = hp.objs.size := by rw [sc.1, sb.1, sa.1]
  have zc : IsZipHeld hc z TI TO T true := sc.extBut _ _ S.zi2 (sb.extBut _ _ S.zi1 za)
  have kc : ∀ c o, c ≠ z → c ≠ i1 → c ≠ i2 → hp.get? c = some o → hc.get? c = some o := fun c o c1 c2 c3 e => sc.extBut _ _ c3 (sb.extBut _ _ c2 (sa.extBut _ _ c1 e))
  have ub : ∀ b o, hc.get? b = some o → (hc.push { cls := .type "tuple", data := .seq #[x1, x2] }).get? b = some o := fun b o e => Heap.get?_push_of_some _ e
  refine wpAny_pure ⟨_, rfl, ?_⟩
  show Q (.ref hc.objs.size) _
  have pp : IsTupOf2 (hc.push { cls := .type "tuple", data := .seq #[x1, x2] }) hc.objs.size x1 x2 := Heap.get?_push_size _ rfl
  have ps : (hc.push { cls := .type "tuple", data := .seq #[x1, x2] }).objs.size = hc.objs.size + 1 := Heap.size_push ..
  rw [sz] at pp ps ⊢
  exact q x1 x2 _ tkc px1 px2 (ub _ _ zc) (D1.frame _ _ _ (D1.over tb sc S.sep2_1) fun b _ o e => ub b o e) (D2.frame _ _ _ tc fun b _ o e => ub b o e) pp ps fun c o c1 c2 c3 e => ub _ _ (kc c o c1 c2 c3 e)
theorem outEnd {Q : Fin → Shared → Prop} (S : ZipSep2 z TI TO i1 i2 fp1 fp2) (D1 : Draws prog w A i1 fp1 n1 P1 St1) (D2 : Draws prog w A i2 fp2 n2 P2 St2)
    (hz : IsZipHeld s.heap z TI TO T f) (hT : s.heap.get? T = some oT) (hTI : IsTupOf2 s.heap TI (.ref i1) (.ref i2)) (st1 : St1 i s.heap) (st2 : St2 i s.heap) (l1 : i ≤ n1) (l2 : i ≤ n2) (last : i = n1 ∨ i = n2)
    (q : ∀ h' tk e, (∀ c o, c ≠ z → c ≠ i1 → c ≠ i2 → s.heap.get? c = some o → h'.get? c = some o) → (∃ o, h'.get? e = some o ∧ o.cls = .type "StopIteration") → E (.ref e) { s with heap := h', toks := tk }) :
    wpAny (model prog w) A (Builtin.«zip.__next__» ⟨[.ref z], []⟩) Q E s := by
  obtain ⟨hp, g, d, tk0, os⟩ := s
  show wpAny _ _ (field (.ref z) 2 >>= _) _ _ _
  refine wpAny_bind (wpAny_field hz rfl (x := .bool false) rfl ?_)
  show wpAny _ _ (field (.ref z) 3 >>= _) _ _ _
  refine wpAny_bind (wpAny_field hz rfl (x := .ref TI) rfl ?_)
  refine wpAny_bind (wpAny_seqItems hTI rfl ?_)
  show wpAny _ _ (Builtin.SmallTypes.ownedTupleIsFree (.ref z) >>= _) _ _ _
  refine wpAny_bind (wpAny_tupleHeld_zip hz hT fun ha za sa => ?_)
  replace sa : Heap.SameBut z hp ha := sa
  simp only [Bool.false_eq_true, if_false]
  refine wpAny_bind ?_
  rw [← Array.forIn_toList]
  simp only [List.forIn_cons, List.forIn_nil]
  refine wpAny_bind (wpAny_bind (wpAny_holding ?_))
  show wpAny _ _ (Builtin.SmallTypes.nextOf (.ref i1) >>= _) _ _ ⟨ha, g, d, tk0, os⟩
  by_cases lt : i < n1
  · refine wpAny_bind (D1.item i ⟨ha, g, d, tk0, os⟩ _ _ lt (D1.over st1 sa S.zf1) fun x1 hb tkb px1 tb sb => wpAny_pure ?_)
    replace sb : Heap.SameBut i1 ha hb := sb
    refine wpAny_pure ?_
    refine wpAny_bind (wpAny_bind (wpAny_holding ?_))
    show wpAny _ _ (Builtin.SmallTypes.nextOf (.ref i2) >>= _) _ _ ⟨hb, g, d, tkb, os⟩
    have e2 : i = n2 := by omega
    refine wpAny_bind (D2.done ⟨hb, g, d, tkb, os⟩ _ _ (by rw [← e2]; exact D2.over (D2.over st2 sa S.zf2) sb S.sep1_2) fun hc e sc he => ?_)
    replace sc : Heap.ExtBut i2 hb hc := sc
    exact q hc tkb e (fun c o c1 c2 c3 u => sc _ _ c3 (sb.extBut _ _ c2 (sa.extBut _ _ c1 u))) he
  · have e1 : i = n1 := by omega
    refine wpAny_bind (D1.done ⟨ha, g, d, tk0, os⟩ _ _ (by rw [← e1]; exact D1.over st1 sa S.zf1) fun hb e sb he => ?_)
    replace sb : Heap.ExtBut i1 ha hb := sb
    exact q hb tk0 e (fun c o c1 c2 c3 u => sb _ _ c2 (sa.extBut _ _ c1 u)) he
/-- the zip before its turn i: nothing is out yet, or a tuple is -/
def Zs (z TI TO : Addr) (h : Heap) : Prop := (∃ o, h.get? TO = some o) ∧ ((IsZip h z TI TO .none ∧ ∃ a b, IsTupOf2 h TO a b) ∨ ∃ T f oT, IsZipHeld h z TI TO T f ∧ h.get? T = some oT ∧ T ≠ z ∧ oT.cls = .type "tuple")
theorem zNext {Q : Option Value → Shared → Prop} (S : ZipSep2 z TI TO i1 i2 fp1 fp2) (D1 : Draws prog w A.in1 i1 fp1 n1 P1 St1) (D2 : Draws prog w A.in1 i2 fp2 n2 P2 St2)
    (hz : Zs z TI TO s.heap) (hTI : IsTupOf2 s.heap TI (.ref i1) (.ref i2)) (hi : ∀ T, s.heap.get? T = none → T ≠ i1 ∧ T ≠ i2) (ho : ∀ T f oT, IsZipHeld s.heap z TI TO T f → s.heap.get? T = some oT → T ≠ i1 ∧ T ≠ i2) (st1 : St1 i s.heap) (st2 : St2 i s.heap) (l1 : i < n1) (l2 : i < n2)
    (q : ∀ x1 x2 h' tk, P1 i x1 → P2 i x2 → Zs z TI TO h' → IsTupOf2 h' TI (.ref i1) (.ref i2) → (∀ T f oT, IsZipHeld h' z TI TO T f → h'.get? T = some oT → T ≠ i1 ∧ T ≠ i2) → St1 (i + 1) h' → St2 (i + 1) h' → IsTupOf2 h' s.heap.objs.size x1 x2 → h'.objs.size = s.heap.objs.size + 1 →
      (∀ c o, c ≠ z → c ≠ TO → c ≠ i1 → c ≠ i2 → s.heap.get? c = some o → h'.get? c = some o) → Q (some (.ref s.heap.objs.size)) { s with heap := h', toks := tk }) :
    wpAny (model prog w) A (pyNext (.ref z)) Q E s := by
  obtain ⟨⟨oO, eO⟩, hz⟩ := hz
  rcases hz with ⟨hz, a, b, hTO⟩ | ⟨T, f, oT, hz, hT, hne, hcl⟩
  · refine wpAny_pyNext_zipD2_item S D1 D2 hz hTI hTO st1 st2 l1 l2 fun x1 x2 h' tk p1 p2 z' TO' t1 t2 nw sz kp => ?_
    have lt : z < s.heap.objs.size := Heap.lt_size hz
    have nf : s.heap.get? s.heap.objs.size = none := by
      cases e : s.heap.get? s.heap.objs.size with
      | none => rfl
      | some o => exact absurd (Heap.lt_size e) (Nat.lt_irrefl _)
    refine q x1 x2 h' tk p1 p2 ⟨⟨_, TO'⟩, .inr ⟨s.heap.objs.size, false, _, z', nw, Nat.ne_of_gt lt, rfl⟩⟩ (kp _ _ S.TIz S.TITO S.TIi1 S.TIi2 hTI) (fun T f oT hz2 hT2 => ?_) t1 t2 nw sz kp
    have e := z'.symm.trans hz2
    have e2 : T = s.heap.objs.size := by
      injection e with e
      injection e with _ _ e _
      injection e with e
      have q0 := congrArg (fun (t : Array Value) => t[0]?) e
      have q1 : some (rawInt (s.heap.objs.size : Int)) = some (rawInt (T : Int)) := q0
      injection q1 with q1
      injection q1 with q1
      exact (Int.ofNat.inj q1).symm
    rw [e2]
    exact hi _ nf
  · have ty : s.TypeIs (.ref z) "zip" := ⟨_, hz, rfl⟩
    unfold pyNext
    refine wpAny_bind (wpAny_attempt (wpAny_callSpecial?_slot (name := Str.ofString "__next__") ty F.slot_zip_next (wpAny_call_entry F.slot_zip_next ty F.entry_zip_next
      (outItem S D1 D2 hz hT hTI st1 st2 l1 l2 fun x1 x2 h' tk p1 p2 z' t1 t2 nw sz kp => wpAny_pure ?_) (F.args_zip_next_1 _))))
    obtain ⟨n1, n2⟩ := ho T f oT hz hT
    have hT' := kp _ _ hne n1 n2 hT
    refine q x1 x2 h' tk p1 p2 ⟨⟨_, kp _ _ S.TOz S.Ti1 S.Ti2 eO⟩, .inr ⟨T, true, oT, z', hT', hne, hcl⟩⟩ (kp _ _ S.TIz S.TIi1 S.TIi2 hTI) (fun T2 f2 o2 hz2 hT2 => ?_) t1 t2 nw sz fun c o c1 _ c3 c4 e => kp c o c1 c3 c4 e
    have e := z'.symm.trans hz2
    have e2 : T2 = T := by
      injection e with e
      injection e with _ _ e _
      injection e with e
      have q0 := congrArg (fun (t : Array Value) => t[0]?) e
      have q1 : some (rawInt (T : Int)) = some (rawInt (T2 : Int)) := q0
      injection q1 with q1
      injection q1 with q1
      exact (Int.ofNat.inj q1).symm
    rw [e2]
    exact ⟨n1, n2⟩
theorem zDone {Q : Option Value → Shared → Prop} (S : ZipSep2 z TI TO i1 i2 fp1 fp2) (D1 : Draws prog w A.in1 i1 fp1 n1 P1 St1) (D2 : Draws prog w A.in1 i2 fp2 n2 P2 St2)
    (hz : Zs z TI TO s.heap) (hTI : IsTupOf2 s.heap TI (.ref i1) (.ref i2)) (st1 : St1 i s.heap) (st2 : St2 i s.heap) (l1 : i ≤ n1) (l2 : i ≤ n2) (last : i = n1 ∨ i = n2)
    (q : ∀ h' tk, (∀ c o, c ≠ z → c ≠ TO → c ≠ i1 → c ≠ i2 → s.heap.get? c = some o → h'.get? c = some o) → Q none { s with heap := h', toks := tk }) :
    wpAny (model prog w) A (pyNext (.ref z)) Q E s := by
  obtain ⟨⟨oO, eO⟩, hz⟩ := hz
  rcases hz with ⟨hz, a, b, hTO⟩ | ⟨T, f, oT, hz, hT, hne, hcl⟩
  · exact wpAny_pyNext_zipD2_end S D1 D2 hz hTI hTO st1 st2 l1 l2 last q
  · have ty : s.TypeIs (.ref z) "zip" := ⟨_, hz, rfl⟩
    unfold pyNext
    refine wpAny_bind (wpAny_attempt (wpAny_callSpecial?_slot (name := Str.ofString "__next__") ty F.slot_zip_next (wpAny_call_entry F.slot_zip_next ty F.entry_zip_next
      (outEnd S D1 D2 hz hT hTI st1 st2 l1 l2 last fun h' tk e kp he => ?_) (F.args_zip_next_1 _))))
    obtain ⟨o, ho, hc⟩ := he
    refine wpAny_bind (wpAny_isInstance (T := "StopIteration") (b := true) ⟨o, ho, hc⟩ isSubtype_stop ?_)
    exact wpAny_pure (q _ _ fun c o c1 _ c3 c4 e => kp c o c1 c3 c4 e)
end
theorem nolen_zip : typeLookup (.type "zip") "__len__" = pure none := by rw [typeLookup_type, builtinLookup_eq_fast]; kernel_rfl
theorem nohint_zip : typeLookup (.type "zip") "__length_hint__" = pure none := by rw [typeLookup_type, builtinLookup_eq_fast]; kernel_rfl
/-- the pairs stand -/
def Prs (G : Hp) (ts : List Addr) (xs ys : List V) : Prop := ∀ (j : Nat) (t : Addr) (x y : V), ts[j]? = some t → xs[j]? = some x → ys[j]? = some y → G t = some (.tup [x, y])
section
variable {A : Around} {X : Cx} {pins : List (Addr × Obj)} {σ : L2.St} {z TI TO i1 i2 D : Addr} {fp1 fp2 : List Addr} {n1 n2 n : Nat} {P1 P2 : Nat → Value → Prop} {St1 St2 : Nat → Heap → Prop} {R : Result → Shared → Prop} {res : Value} {xs ys : List V} {H : Hp}
theorem zLoop (S : ZipSep2 z TI TO i1 i2 fp1 fp2) (D1 : Draws X.prog X.w A.in1.in1 i1 fp1 n1 P1 St1) (D2 : Draws X.prog X.w A.in1.in1 i2 fp2 n2 P2 St2) (hn : n = min n1 n2) (hz : n ≤ sizeLine)
    (r1 : ∀ i v, P1 i v → ∃ x, xs[i]? = some x ∧ RelV x v) (r2 : ∀ i v, P2 i v → ∃ y, ys[i]? = some y ∧ RelV y v) (nD1 : D ∉ fp1) (nD2 : D ∉ fp2) (hD : H D = none)
    (q : ∀ (s' : Shared) (G' : Hp) (ts : List Addr), Inv X pins σ G' s' → Same H G' → G' D = some (.lst (ts.map V.ref)) → ts.length = n → Prs G' ts xs ys → (∀ t ∈ ts, H t = none) → R (.ok (.ret res)) s') :
    ∀ (k i : Nat) (s : Shared) (G : Hp) (ts : List Addr), n - i = k → i ≤ n → Inv X pins σ G s → (∀ b ∈ [z, TI, TO, i1, i2], FpOk X pins G b) → Zs z TI TO s.heap → IsTupOf2 s.heap TI (.ref i1) (.ref i2) →
      (∀ T f oT, IsZipHeld s.heap z TI TO T f → s.heap.get? T = some oT → T ≠ i1 ∧ T ≠ i2) → St1 i s.heap → St2 i s.heap → Same H G → G D = some (.lst (ts.map V.ref)) → ts.length = i → Prs G ts xs ys → (∀ t ∈ ts, H t = none) →
      codeAny (model X.prog X.w) A (.builtin "list.extend.loop" ⟨[.ref D, .ref z, res], []⟩) R s := by
  intro k
  induction k with
  | zero =>
    intro i s G ts hk hi I hf hzs hTI ho t1 t2 sm gD lt pr nw
    have ei : i = n := by omega
    refine codeAny_builtin F.entry_extend_loop ?_
    rw [Around.under_plainId F.plain_extend_loop _]
    show wpAny _ A.in1 (pyNext (.ref z) >>= _) _ _ s
    refine wpAny_bind (zDone S D1 D2 hzs hTI t1 t2 (by omega) (by omega) (by omega) fun h' tk kp => ?_)
    refine wpAny_pure (q _ G ts (I.turnedL (ch := [z, TI, TO, i1, i2]) (fun c o hb e => kp c o (fun u => hb (by simp [u])) (fun u => hb (by simp [u])) (fun u => hb (by simp [u])) (fun u => hb (by simp [u])) e) hf) sm gD (by omega) pr nw)
  | succ k ih =>
    intro i s G ts hk hi I hf hzs hTI ho t1 t2 sm gD lt pr nw
    have hlt : i < n := by omega
    have live : ∀ b ∈ [z, TI, TO, i1, i2], b < s.heap.objs.size := fun b hb => by
      have hzl : z < s.heap.objs.size := by
        rcases hzs.2 with ⟨e, _⟩ | ⟨_, _, _, e, _⟩
        · exact Heap.lt_size e
        · exact Heap.lt_size e
      have hb : b = z ∨ b = TI ∨ b = TO ∨ b = i1 ∨ b = i2 := by simpa using hb
      rcases hb with e | e | e | e | e
      · rw [e]; exact hzl
      · rw [e]; exact Heap.lt_size hTI
      · rw [e]; obtain ⟨_, e⟩ := hzs.1; exact Heap.lt_size e
      · rw [e]; obtain ⟨_, e⟩ := D1.live _ _ t1; exact Heap.lt_size e
      · rw [e]; obtain ⟨_, e⟩ := D2.live _ _ t2; exact Heap.lt_size e
    have nDc : ∀ b ∈ [z, TI, TO, i1, i2], D ≠ b := fun b hb e => by
      have h0 := (hf b hb).1
      rw [← e, gD] at h0
      cases h0
    refine codeAny_builtin F.entry_extend_loop ?_
    rw [Around.under_plainId F.plain_extend_loop _]
    show wpAny _ A.in1 (pyNext (.ref z) >>= _) _ _ s
    refine wpAny_bind (zNext S D1 D2 hzs hTI (fun T e => ?_) ho t1 t2 (by omega) (by omega) fun x1 x2 h' tk p1 p2 zs' ti' ho' u1 u2 nt sz kp => ?_)
    · obtain ⟨_, e1⟩ := D1.live _ _ t1
      obtain ⟨_, e2⟩ := D2.live _ _ t2
      exact ⟨fun w => (by rw [w, e1] at e; cases e), fun w => (by rw [w, e2] at e; cases e)⟩
    obtain ⟨x, hx, rx⟩ := r1 i x1 p1
    obtain ⟨y, hy, ry⟩ := r2 i x2 p2
    have gT : G s.heap.objs.size = none := I.hok.fresh (Nat.le_refl _)
    have new : ObjOk X.prog X.w (upd G s.heap.objs.size (.tup [x, y])) h' s.heap.objs.size (.tup [x, y]) := ⟨by show 2 ≤ sizeLine; decide, [x1, x2], .cons rx (.cons ry .nil), ⟨_, nt, rfl, _, rfl⟩⟩
    have I1 : Inv X pins σ (upd G s.heap.objs.size (.tup [x, y])) { s with heap := h', toks := tk } :=
      I.turnedNew (ch := [z, TI, TO, i1, i2]) (fun c o hb e => kp c o (fun u => hb (by simp [u])) (fun u => hb (by simp [u])) (fun u => hb (by simp [u])) (fun u => hb (by simp [u])) e) hf (Nat.le_refl _) new
    have DT : D ≠ s.heap.objs.size := ne_of_none gD gT
    have gD1 : upd G s.heap.objs.size (.tup [x, y]) D = some (.lst (ts.map V.ref)) := by rw [upd_ne DT]; exact gD
    obtain ⟨_, its, c0, rv, _, raw⟩ := I1.lstM gD1
    have ln := rv.length
    rw [List.length_map] at ln
    show wpAny _ A.in1 (updateSeq D (·.push (.ref s.heap.objs.size)) >>= _) _ _ _
    refine wpAny_bind ?_
    refine wpAny_updateSeq raw rfl ?_ (by rw [List.size_toArray]; omega) (by rw [Array.size_push, List.size_toArray]; omega)
    have I2 := I1.lset (ys := (ts ++ [s.heap.objs.size]).map V.ref) (its' := its ++ [Value.ref s.heap.objs.size]) (t' := tk) gD1 raw (f := (·.push (Value.ref s.heap.objs.size))) (by simp) (by rw [List.map_append]; exact rv.append (.cons rfl .nil)) (by rw [List.length_map, List.length_append]; simp only [List.length_cons, List.length_nil]; omega)
    have oth : ∀ b o, b ≠ D → h'.get? b = some o → (h'.update D (Obj.mapSeq (·.push (Value.ref s.heap.objs.size)))).get? b = some o := fun b o hb e => (Heap.get?_update_other _ _ (Ne.symm hb)).trans e
    have smT : ∀ t o, G t = some o → t ≠ D → upd (upd G s.heap.objs.size (.tup [x, y])) D (.lst ((ts ++ [s.heap.objs.size]).map V.ref)) t = some o := fun t o e hd => by
      rw [upd_ne hd, upd_ne (ne_of_none e gT)]
      exact e
    refine wpAny_pure ⟨plainId_quiet F.plain_extend_loop _, ih (i + 1) _ _ (ts ++ [s.heap.objs.size]) (by omega) hlt I2 (fun b hb => ?_) ?_ (oth _ _ (Ne.symm (nDc TI (by simp))) ti') (fun T f oT e1 e2 => ?_) (D1.frame _ _ _ u1 fun b hb o e => oth b o (fun w => nD1 (w ▸ hb)) e) (D2.frame _ _ _ u2 fun b hb o e => oth b o (fun w => nD2 (w ▸ hb)) e)
      ?sm upd_same (by rw [List.length_append]; simp only [List.length_cons, List.length_nil]; omega) ?pr (fun t ht => ?_)⟩
    · refine ⟨?_, (hf b hb).2⟩
      rw [upd_ne (Ne.symm (nDc b hb)), upd_ne (Nat.ne_of_lt (live b hb))]
      exact (hf b hb).1
    · obtain ⟨⟨oO, eO⟩, zz⟩ := zs'
      refine ⟨⟨oO, oth _ _ (Ne.symm (nDc TO (by simp))) eO⟩, ?_⟩
      rcases zz with ⟨hz, a, b, hTO⟩ | ⟨T, f, oT, hz, hT, hne, hcl⟩
      · exact .inl ⟨oth _ _ (Ne.symm (nDc z (by simp))) hz, a, b, oth _ _ (Ne.symm (nDc TO (by simp))) hTO⟩
      · refine .inr ⟨T, f, oT, oth _ _ (Ne.symm (nDc z (by simp))) hz, oth _ _ (fun w => ?_) hT, hne, hcl⟩
        rw [w] at hT
        have q0 := raw.symm.trans hT
        injection q0 with q0
        rw [← q0] at hcl
        injection hcl with hcl
        exact absurd hcl (by decide)
    · have e1 : IsZipHeld h' z TI TO T f := (Heap.get?_update_other _ _ (nDc z (by simp))).symm.trans e1
      by_cases w : D = T
      · exact ⟨fun u => nDc i1 (by simp) (w.trans u), fun u => nDc i2 (by simp) (w.trans u)⟩
      · exact ho' T f oT e1 ((Heap.get?_update_other _ _ w).symm.trans e2)
    case sm => exact fun t o e => smT t o (sm t o e) (fun w => by rw [w, hD] at e; cases e)
    case pr =>
      intro j t a b e1 e2 e3
      by_cases hj : j < ts.length
      · rw [List.getElem?_append_left hj] at e1
        have g := pr j t a b e1 e2 e3
        exact smT t _ g fun w => by rw [w, gD] at g; cases g
      · have hj2 : j < (ts ++ [s.heap.objs.size]).length := (List.getElem?_eq_some_iff.mp e1).1
        rw [List.length_append] at hj2
        simp only [List.length_cons, List.length_nil] at hj2
        have ej : j = i := by omega
        subst ej
        rw [List.getElem?_append_right (by omega), show j - ts.length = 0 by omega] at e1
        cases e1
        rw [hx] at e2
        rw [hy] at e3
        cases e2
        cases e3
        rw [upd_ne (Ne.symm DT)]
        exact upd_same
    · rcases List.mem_append.mp ht with h | h
      · exact nw t h
      · rw [List.mem_singleton.mp h]
        cases e : H s.heap.objs.size with
        | none => rfl
        | some o => rw [sm _ _ e] at gT; cases gT
/-- listExtendWith of a zip -/
theorem zGrow {s : Shared} (T : s.TypeIs (.ref z) "zip") (hz : IsZip s.heap z TI TO .none) (hne : D ≠ z) (eD : s.heap.get? D = some { cls := .type "list", data := .seq #[] })
    (k : ∀ h', (∀ b o, b ≠ D → s.heap.get? b = some o → h'.get? b = some o) → (∃ c0, h'.get? D = some { cls := .type "list", data := .seq #[] c0 }) → codeAny (model X.prog X.w) A (.builtin "list.extend.loop" ⟨[.ref D, .ref z, res], []⟩) R { s with heap := h' }) :
    wpAny (model X.prog X.w) A.in1 (Builtin.List.listExtendWith (.ref D) (.ref z) res)
      (fun fin s' => match fin with
        | .done f => R (.ok f) s'
        | .again c' => c'.quiet = true ∧ codeAny (model X.prog X.w) A c' R s') (fun e s' => R (.error e) s') s := by
  unfold Builtin.List.listExtendWith
  refine wpAny_bind (wpAny_typeOf T ?_)
  have no : Builtin.List.listSameRef (.ref D) (.ref z) = false := by simp [Builtin.List.listSameRef, hne]
  rw [if_neg (by rw [no]; decide)]
  refine wpAny_bind (wpAny_pyIter_zip hz ?_)
  refine wpAny_bind (wpAny_holding ?_)
  unfold Builtin.List.listLengthHint
  refine wpAny_bind (wpAny_specialOf T nolen_zip ?_)
  show wpAny _ A.in1 (specialOf (.ref z) (Str.ofString "__length_hint__") >>= _) _ _ _
  refine wpAny_bind (wpAny_specialOf T nohint_zip ?_)
  refine wpAny_pure ?_
  show wpAny _ A.in1 (rule "list.extend.makes-room" >>= fun _ => Builtin.List.listTouch (.ref D) >>= fun _ => again (.builtin "list.extend.loop" ⟨[.ref D, .ref z, res], []⟩)) _ _ _
  refine wpAny_bind (wpAny_rule (wpAny_bind ?_))
  show wpAny _ A.in1 (updateSeq D (·.push .none) >>= fun _ => updateSeq D (·.pop)) _ _ _
  refine wpAny_bind (wpAny_updateSeq eD rfl ?_)
  have e2 := Heap.get?_update_self (Obj.mapSeq (·.push Value.none)) eD rfl
  refine wpAny_updateSeq e2 rfl ?_
  have e3 := Heap.get?_update_self (Obj.mapSeq (·.pop)) e2 rfl
  exact wpAny_pure ⟨plainId_quiet F.plain_extend_loop _, k _ (fun b o hb e => (Heap.get?_update_other _ _ (Ne.symm hb)).trans ((Heap.get?_update_other _ _ (Ne.symm hb)).trans e)) ⟨_, e3⟩⟩
theorem neN (a b : Nat) (h : a < b ∨ b < a) : a ≠ b := by omega
theorem nin2 (D B l : Nat) (h1 : D < B ∨ B < D) (h2 : D < l ∨ l < D) : D ∉ [B, l] := by
  simp only [List.mem_cons, List.not_mem_nil, or_false]
  omega
theorem sepN (B l1 l2 : Nat) (h1 : l1 < B) (h2 : l2 < B) : ZipSep2 (B + 4) (B + 2) (B + 3) B (B + 1) [B, l1] [B + 1, l2] :=
  ⟨neN _ _ (by omega), neN _ _ (by omega), neN _ _ (by omega), neN _ _ (by omega), List.mem_cons_self, nin2 _ _ _ (by omega) (by omega), nin2 _ _ _ (by omega) (by omega), neN _ _ (by omega), List.mem_cons_self,
    nin2 _ _ _ (by omega) (by omega), nin2 _ _ _ (by omega) (by omega), nin2 _ _ _ (by omega) (by omega), nin2 _ _ _ (by omega) (by omega)⟩
theorem ninN (D B l : Nat) (h : B < D) (hl : l < D) : D ∉ [B, l] := by
  simp only [List.mem_cons, List.not_mem_nil, or_false]
  omega
theorem inN (B b : Nat) (h : b = B + 4 ∨ b = B + 2 ∨ b = B + 3 ∨ b = B ∨ b = B + 1) : B ≤ b ∧ b < B + 5 := by omega
theorem vback {xs : List V} {its : List Value} {i : Nat} {v : Value} (r : Vals xs its) (e : its[i]? = some v) : ∃ x, xs[i]? = some x ∧ RelV x v := by
  have h := (List.getElem?_eq_some_iff.mp e).1
  rw [← r.length] at h
  obtain ⟨u, hu, ru⟩ := r.get (List.getElem?_eq_getElem h)
  rw [e] at hu
  cases hu
  exact ⟨_, List.getElem?_eq_getElem h, ru⟩
/-- what list(zip(a, b)) asks -/
def tZipL (K : PySem.W.Frag) (ta : TA) : TE := fun σ H Q => ta σ H fun vs G => ∃ (a b : Addr) (xs ys : List V), vs = [.ref a, .ref b] ∧ ((SqL K G a xs ∧ SqL K G b ys) ∨ (SqT K G a xs ∧ SqT K G b ys)) ∧
  ∀ (q : Addr) (ts : List Addr) (F : Hp), Same G F → G q = none → F q = some (.lst (ts.map V.ref)) → ts.length = min xs.length ys.length → Prs F ts xs ys → (∀ t ∈ ts, G t = none) → Q (.ref q) F
theorem zList {Q0 Q : Value → Shared → Prop} {E : Value → Shared → Prop} {s1 : Shared} {o1 o2 : Obj} {v1 v2 : Value} {H1 H2 : Heap → Prop} {l1 l2 : Addr} (hh : A.handled = none) (I : Inv X pins σ H s1) (B1 : Begins v1 o1 H1) (B2 : Begins v2 o2 H2) (h1 : H1 s1.heap) (h2 : H2 s1.heap)
    (L1 : l1 < s1.heap.objs.size) (L2 : l2 < s1.heap.objs.size)
    (D1 : ∀ A' : Around, A'.handled = none → Draws X.prog X.w A' s1.heap.objs.size [s1.heap.objs.size, l1] n1 P1 St1) (D2 : ∀ A' : Around, A'.handled = none → Draws X.prog X.w A' (s1.heap.objs.size + 1) [s1.heap.objs.size + 1, l2] n2 P2 St2)
    (hn : n = min n1 n2) (hz : n ≤ sizeLine) (r1 : ∀ i v, P1 i v → ∃ x, xs[i]? = some x ∧ RelV x v) (r2 : ∀ i v, P2 i v → ∃ y, ys[i]? = some y ∧ RelV y v)
    (b1 : ∀ h', h'.get? s1.heap.objs.size = some o1 → (∀ c o, s1.heap.get? c = some o → h'.get? c = some o) → St1 0 h') (b2 : ∀ h', h'.get? (s1.heap.objs.size + 1) = some o2 → (∀ c o, s1.heap.get? c = some o → h'.get? c = some o) → St2 0 h')
    (q : ∀ (s' : Shared) (G' : Hp) (ts : List Addr) (D : Addr), Inv X pins σ G' s' → Same H G' → H D = none → G' D = some (.lst (ts.map V.ref)) → ts.length = n → Prs G' ts xs ys → (∀ t ∈ ts, H t = none) → Q (.ref D) s')
    (q0 : ∀ v s2, wpAny (model X.prog X.w) A (call (.type "list") [v]) Q E s2 → Q0 v s2) : wpAny (model X.prog X.w) A (call (.type "zip") [v1, v2]) Q0 E s1 := by
  refine zip_begins2 B1 B2 h1 h2 fun h' hz0 hTI hTO e1 e2 sz kp => q0 _ _ ?_
  generalize hB : s1.heap.objs.size = B at *
  have dz : h'.objs.size ≠ B + 4 := by omega
  refine callType_codes (Q₁ := fun obj s₁ => obj = .ref h'.objs.size ∧ s₁ = { s1 with heap := h'.push { cls := .type "list", data := .seq #[] } })
    F.called_list (F.typeCall_list_1 _) F.entry_list_init (code_list_new _ ⟨rfl, rfl⟩) (fun obj s₁ h₁ => ?_)
  obtain ⟨rfl, rfl⟩ := h₁
  have eD : (h'.push { cls := .type "list", data := .seq #[] }).get? h'.objs.size = some { cls := .type "list", data := .seq #[] } := Heap.get?_push_size _ rfl
  refine ⟨⟨_, eD, rfl⟩, F.args_list_init_2 _ _, ?_⟩
  show wpAny _ _ (do
    let old ← Builtin.List.listItems (.ref h'.objs.size)
    Builtin.List.listUpdate (.ref h'.objs.size) (fun _ => #[])
    letGo old.toList.reverse
    Builtin.List.listExtendWith (.ref h'.objs.size) (.ref (B + 4)) .none) _ _ _
  refine wpAny_bind ?_
  unfold Builtin.List.listItems
  refine wpAny_bind (wpAny_seqItems eD rfl (wpAny_pure ?_))
  show wpAny _ _ (do
    updateSeq h'.objs.size (fun _ => #[])
    letGo (#[] : Array Value).toList.reverse
    Builtin.List.listExtendWith (.ref h'.objs.size) (.ref (B + 4)) .none) _ _ _
  refine wpAny_bind (wpAny_updateSeq eD rfl ?_)
  have eD2 := Heap.get?_update_self (Obj.mapSeq fun _ => (#[] : Array Value)) eD rfl
  refine wpAny_bind (wpAny_letGo ?_)
  generalize hh2 : (h'.push { cls := .type "list", data := .seq #[] }).update h'.objs.size (Obj.mapSeq fun _ => (#[] : Array Value)) = g2 at eD2 ⊢
  have k2 : ∀ b o, h'.get? b = some o → g2.get? b = some o := fun b o e => by
    rw [← hh2, Heap.get?_update_other _ _ (Nat.ne_of_gt (Heap.lt_size e))]
    exact Heap.get?_push_of_some _ e
  refine zGrow (X := X) (s := { s1 with heap := g2 }) ⟨_, k2 _ _ hz0, rfl⟩ (k2 _ _ hz0) dz eD2 fun g3 k3 e3 => ?_
  obtain ⟨c0, e3⟩ := e3
  have k23 : ∀ b o, h'.get? b = some o → g3.get? b = some o := fun b o e => k3 b o (Nat.ne_of_lt (Heap.lt_size e)) (k2 b o e)
  have kall : ∀ b o, s1.heap.get? b = some o → g3.get? b = some o := fun b o e => k23 b o (kp b o e)
  have hle : s1.heap.objs.size ≤ h'.objs.size := by omega
  have hD : H h'.objs.size = none := I.hok.fresh hle
  have I3 : Inv X pins σ (upd H h'.objs.size (.lst [])) { s1 with heap := g3 } := I.laid (t' := s1.toks) kall hle (show ObjOk X.prog X.w _ _ _ (.lst []) from ⟨Nat.zero_le _, [], c0, .nil, e3⟩)
  have S := sepN B l1 l2 L1 L2
  refine zLoop (A := A.in1) S (D1 _ hh) (D2 _ hh) hn hz r1 r2 (D := h'.objs.size) (xs := xs) (ys := ys) ?_ ?_ hD (fun s' G' ts I' sm gD lt pr nw => ⟨rfl, q s' G' ts _ I' sm hD gD lt pr nw⟩) n 0 _ (upd H h'.objs.size (.lst [])) [] (by omega) (Nat.zero_le _) I3 (fun b hb => ?_) ⟨⟨_, k23 _ _ hTO⟩, .inl ⟨k23 _ _ hz0, _, _, k23 _ _ hTO⟩⟩ (k23 _ _ hTI) (fun T f oT e1 e2 => ?_) (b1 _ (k23 _ _ e1) kall) (b2 _ (k23 _ _ e2) kall)
    (fun t o e => by rw [upd_ne (ne_of_none e hD)]; exact e) upd_same rfl (fun j t x y e => by simp at e) (fun t h => absurd h List.not_mem_nil)
  · exact ninN _ _ _ (by omega) (Nat.lt_of_lt_of_le L1 (by omega))
  · exact ninN _ _ _ (by omega) (Nat.lt_of_lt_of_le L2 (by omega))
  · have hb : b = B + 4 ∨ b = B + 2 ∨ b = B + 3 ∨ b = B ∨ b = B + 1 := by simpa using hb
    have l0 := inN B b hb
    have lb : s1.heap.objs.size ≤ b ∧ b ≠ h'.objs.size := ⟨by rw [hB]; exact l0.1, Nat.ne_of_lt (by omega)⟩
    refine I.fpOk lb.1 ?_
    rw [upd_ne lb.2]
    exact I.hok.fresh lb.1
  · have e := (k23 _ _ hz0).symm.trans e1
    injection e with e
    injection e with _ _ e _
    injection e with e
    have q0 := congrArg (fun (t : Array Value) => t[0]?) e
    have q1 : some Value.none = some (rawInt (T : Int)) := q0
    injection q1 with q1
    cases q1
end
section
variable {X : Cx}
theorem pe_listZip {e e2 : Expr} {ta : TA} {p p2 pos pos2 : Pos} (hc : X.calm = true) (hg : Gl X "list") (hm : X.mg "list" = none) (hg2 : Gl X "zip") (hm2 : X.mg "zip" = none) (ha : PA X [e, e2] ta)
    (hs : starEach [e, e2] X.env = (false, eval e X.env) :: starEach [e2] X.env := by rfl) (hpl : (backTo pos2 (starEach [e2] X.env)).any (·.1) = false := by rfl)
    (hs2 : starEach [.Call (.Name "zip" p2) [e, e2] [] pos2] X.env = (false, eval (.Call (.Name "zip" p2) [e, e2] [] pos2) X.env) :: starEach [] X.env := by rfl) :
    PE X (.Call (.Name "list" p) [.Call (.Name "zip" p2) [e, e2] [] pos2] [] pos) (tZipL X.K ta) := by
  refine ⟨fun pins s σ H Q I h => ?_⟩
  refine Call_ (ld_blt I hg hm boot_list (PyProof.Rows.callWith_type1 (args_cons (Call_ (ld_blt I hg2 hm2 PyProof.Rows.boot_zip (PyProof.Rows.callWith_type1 (thn (ha.run pos2 pins s σ H _ I h) fun us s1 ⟨vs, G, I1, rr, a, b, xs, ys, ev, sq, q⟩ => ?_) hs hpl))) hs2) hs2 rfl))
  subst ev
  cases rr with
  | cons ra rr =>
    cases rr with
    | cons rb rr =>
      cases rr
      cases ra
      cases rb
      have hd : X.A.handled = none := I1.ok.hd hc
      have fin : ∀ (s' : Shared) (G' : Hp) (ts : List Addr) (D : Addr), Inv X pins σ G' s' → Same G G' → G D = none → G' D = some (.lst (ts.map V.ref)) → ts.length = min xs.length ys.length → Prs G' ts xs ys → (∀ t ∈ ts, G t = none) → EP X pins σ Q (.ref D) s' :=
        fun s' G' ts D I' sm hD gD lt pr nw => ⟨.ref D, G', I', rfl, q D ts G' sm hD gD lt pr nw⟩
      rcases sq with ⟨sx, sy⟩ | ⟨sx, sy⟩
      · obtain ⟨its, rv, p1, z1⟩ := I1.list sx
        obtain ⟨jts, rw, p2, z2⟩ := I1.list sy
        have n1 := rv.length
        have n2 := rw.length
        refine zList (n := min its.toArray.size jts.toArray.size) hd I1 (begins_list a its.toArray) (begins_list b jts.toArray) p1.isList p2.isList p1.lt p2.lt (fun A' h' => .list h' _ a (Nat.ne_of_lt p1.lt) its.toArray) (fun A' h' => .list h' _ b (Nat.ne_of_lt (Nat.lt_succ_of_lt p2.lt)) jts.toArray) rfl ?_
          (fun i v e => ?_) (fun i v e => ?_) (fun h' e k => ⟨⟨_, e, rfl, rfl⟩, ?_⟩) (fun h' e k => ⟨⟨_, e, rfl, rfl⟩, ?_⟩) (fun s' G' ts D I' sm hD gD lt pr nw => fin s' G' ts D I' sm hD gD (by rw [lt, List.size_toArray, List.size_toArray, n1, n2]) pr nw) (fun v s2 hv => args_nil hv)
        · rw [List.size_toArray]
          omega
        · exact vback rv (by simpa using e)
        · exact vback rw (by simpa using e)
        · exact p1.isList.at fun o u => k _ _ u
        · exact p2.isList.at fun o u => k _ _ u
      · obtain ⟨its, rv, p1, z1⟩ := I1.tuple sx
        obtain ⟨jts, rw, p2, z2⟩ := I1.tuple sy
        have l1 : a < s1.heap.objs.size := let ⟨_, e, _⟩ := p1; Heap.lt_size e
        have l2 : b < s1.heap.objs.size := let ⟨_, e, _⟩ := p2; Heap.lt_size e
        have p1 : s1.heap.IsTuple a its.toArray := p1
        have p2 : s1.heap.IsTuple b jts.toArray := p2
        have n1 := rv.length
        have n2 := rw.length
        refine zList (n := min its.toArray.size jts.toArray.size) hd I1 (begins_tuple a its.toArray) (begins_tuple b jts.toArray) p1 p2 l1 l2 (fun A' h' => .tuple h' _ a (Nat.ne_of_lt l1) its.toArray) (fun A' h' => .tuple h' _ b (Nat.ne_of_lt (Nat.lt_succ_of_lt l2)) jts.toArray) rfl ?_
          (fun i v e => ?_) (fun i v e => ?_) (fun h' e k => ⟨⟨_, e, rfl, rfl⟩, ?_⟩) (fun h' e k => ⟨⟨_, e, rfl, rfl⟩, ?_⟩) (fun s' G' ts D I' sm hD gD lt pr nw => fin s' G' ts D I' sm hD gD (by rw [lt, List.size_toArray, List.size_toArray, n1, n2]) pr nw) (fun v s2 hv => args_nil hv)
        · rw [List.size_toArray]
          omega
        · exact vback rv (by simpa using e)
        · exact vback rw (by simpa using e)
        · exact p1.at fun o u => k _ _ u
        · exact p2.at fun o u => k _ _ u
end
end Kz

/-! list(reversed(t)), t a tuple -/
namespace Kp
open PySem PySem.Spec PyProof.Rows L2 RT
theorem nolen_rt : typeLookup (.type "reversed") "__len__" = pure none := by rw [typeLookup_type, builtinLookup_eq_fast]; kernel_rfl
theorem slot_rt_hint : Slot "reversed" "__length_hint__" "reversed.__length_hint__" :=
  .of (owner := "reversed") (n := "__length_hint__") (by rw [typeLookup_type, builtinLookup_eq_fast]; kernel_rfl) (by decide +kernel) (by decide +kernel) (by decide +kernel) (by first | exact .inl (by decide +kernel) | exact .inr (by decide +kernel)) (by rw [isSubtype_type]; kernel_rfl)
theorem entry_rt_hint : entryFor table "reversed.__length_hint__" = some Builtin.«reversed.__length_hint__» := entryFor_of_tree (by kernel_rfl)
theorem args_rt_hint (a : Value) : argsOk "reversed.__length_hint__" ⟨[a], []⟩ := by
  unfold argsOk
  rw [signature?_of (id := "reversed.__length_hint__") (n := "__length_hint__".toList.reverse) (o := "reversed".toList.reverse) (by kernel_rfl) owner_rt]
  kernel_rfl
section
variable {prog : Program} {w : World} {A : Around} {E : Value → Shared → Prop} {s : Shared}
theorem rtHint {it t : Addr} {n : Nat} {items : Array Value} {Q : Bool → Shared → Prop} (hit : IsRt s.heap it t ((n : Int) - 1)) (ht : IsTup s.heap t items) (e : items.size = n) (hn : n ≤ sizeLine)
    (hlen : ∀ (A : Around) (E : Value → Shared → Prop) (Q : Value → Shared → Prop), Q (.int items.size (s.toks + 1)) { s with toks := s.toks + 1 + 1 } → wpAny (model prog w) A (call (.builtin "len") [.ref t]) Q E s)
    (q : ∀ b tk, Q b { s with toks := tk }) : wpAny (model prog w) A (Builtin.List.listLengthHint (.ref it)) Q E s := by
  have ty := hit.typeIs
  obtain ⟨o, ho, hc, hd⟩ := id hit
  unfold Builtin.List.listLengthHint
  refine wpAny_bind (wpAny_specialOf ty nolen_rt ?_)
  show wpAny _ A (specialOf (.ref it) (Str.ofString "__length_hint__") >>= _) _ _ _
  refine wpAny_bind (wpAny_specialOf ty slot_rt_hint.lookup ?_)
  generalize hid : ("reversed.__length_hint__" : String) = nm
  wp_delta
  have sp : splitId nm = some ("reversed", "__length_hint__") := by
    subst hid
    decide +kernel
  rw [sp]
  subst hid
  refine wpAny_bind (wpAny_isInstance (b := true) ty (by rw [isSubtype_type]; kernel_rfl) ?_)
  rw [if_neg (by decide)]
  dsimp only
  rw [if_neg (by decide +kernel)]
  refine wpAny_bind (wpAny_rule ?_)
  refine wpAny_bind (wpAny_of_eq (slot_rt_hint.bind _) ?_)
  dsimp only
  refine wpAny_bind (wpAny_attempt (wpAny_call_entry slot_rt_hint ty entry_rt_hint ?_ (args_rt_hint _)))
  unfold Builtin.«reversed.__length_hint__»
  refine wpAny_bind (wpAny_of_eq (a := Value.ref it) rfl ?_)
  try dsimp only
  refine wpAny_bind (wpAny_field ho hd (x := .ref t) rfl ?_)
  try dsimp only
  rw [if_neg (show ¬ ((Value.ref t == Value.none) = true) from Bool.false_ne_true)]
  try dsimp only
  refine wpAny_bind (hlen _ _ _ ?_)
  try dsimp only
  refine wpAny_bind (wpAny_of_eq (a := some ((items.size : Nat) : Int)) rfl ?_)
  try dsimp only
  refine wpAny_bind (wpAny_field (s := { s with toks := s.toks + 1 + 1 }) ho hd (x := rawInt ((n : Int) - 1)) rfl ?_)
  show wpAny _ _ (if ((items.size : Nat) : Int) < (n : Int) - 1 + 1 then _ else _) _ _ _
  rw [if_neg (by omega)]
  unfold retInt
  refine wpAny_bind (wpAny_mkInt ?_)
  refine wpAny_pure ⟨_, rfl, ?_⟩
  dsimp only
  refine wpAny_bind (wpAny_of_eq (a := some ((n : Int) - 1 + 1)) rfl ?_)
  dsimp only
  rw [sizeLine_eq] at hn
  have e1 : (n : Int) - 1 + 1 = (n : Int) := by omega
  rw [e1]
  have f1 : Builtin.List.listFitsIndex (n : Int) = true := by
    unfold Builtin.List.listFitsIndex
    simp
    omega
  rw [if_neg (by rw [f1]; decide), if_neg (by omega), if_neg (by rw [Int.toNat_natCast, notLongL (by rw [sizeLine_eq]; exact hn)]; decide)]
  exact wpAny_pure (q _ _)
/-- reversed(t), gone through -/
theorem walkRt (hh : A.handled = none) (it t : Addr) (hne : t ≠ it) (items : Array Value) (hn : items.size ≤ sizeLine) :
    Walks prog w A it [it, t] [it] items.size (fun i v => items[items.size - 1 - i]? = some v) (fun i h => i ≤ items.size ∧ IsRt h it t ((items.size : Int) - 1 - (i : Int)) ∧ IsTup h t items) where
  sub := fun b hb => by simp at hb; simp [hb]
  frame := fun _ _ _ x hk => ⟨x.1, x.2.1.at fun o e => hk it (by simp) o e, (let ⟨o, e, r⟩ := x.2.2; ⟨o, hk t (by simp) o e, r⟩)⟩
  item := fun i s Q E hi x hQ => by
    have e : (items.size : Int) - 1 - (i : Int) = ((items.size - 1 - i : Nat) : Int) := by omega
    have hit := x.2.1
    rw [e] at hit
    have hx : items[items.size - 1 - i]? = some (items[items.size - 1 - i]'(by omega)) := Array.getElem?_eq_getElem (by omega)
    refine next_rt_item hit x.2.2 hx hn fun g hit' hs' => ?_
    have e2 : ((items.size - 1 - i : Nat) : Int) - 1 = (items.size : Int) - 1 - ((i + 1 : Nat) : Int) := by omega
    rw [e2] at hit'
    exact hQ _ g _ hx ⟨hi, hit', (let ⟨o, eo, r⟩ := x.2.2; ⟨o, (hs'.2 t hne).trans eo, r⟩)⟩ fun b o hb eo => hs'.extBut b o (fun u => hb (by simp [u])) eo
  done := fun s Q E x hQ => by
    have e : (items.size : Int) - 1 - (items.size : Int) = -1 := by omega
    have hit := x.2.1
    rw [e] at hit
    exact next_rt_end hh hit fun g eb => hQ g s.toks fun b o hb eo => eb b o (fun u => hb (by simp [u])) eo
  self := fun i s Q E x hQ => iter_rt x.2.1 hQ
theorem call_list_rt {Q : Value → Shared → Prop} {it t : Addr} {its : Array Value} (hh : A.handled = none) (hit : IsRt s.heap it t ((its.size : Int) - 1)) (ht : IsTup s.heap t its) (hne : t ≠ it) (hn : its.size ≤ sizeLine)
    (hQ : ∀ (g : Heap) (tk : Nat) (acc : Array Value) (c : Nat), (∀ b o, b ≠ it → s.heap.get? b = some o → g.get? b = some o) →
      g.get? s.heap.objs.size = some { cls := .type "list", dict := none, data := .seq acc c, slots := #[] } → ItemsOf (fun i v => its[its.size - 1 - i]? = some v) acc its.size → Q (.ref s.heap.objs.size) { s with heap := g, toks := tk }) :
    wpAny (model prog w) A (call (.type "list") [.ref it]) Q E s := by
  obtain ⟨oi, hoi, _⟩ := id hit
  obtain ⟨ol, hol, _⟩ := id ht
  have n1 : s.heap.objs.size ≠ it := Nat.ne_of_gt (Heap.lt_size hoi)
  have n2 : s.heap.objs.size ≠ t := Nat.ne_of_gt (Heap.lt_size hol)
  refine callType_codes (Q₁ := fun obj s₁ => obj = .ref s.heap.objs.size ∧ s₁ = { s with heap := s.heap.push { cls := .type "list", data := .seq #[] } })
    F.called_list (F.typeCall_list_1 _) F.entry_list_init (code_list_new _ ⟨rfl, rfl⟩) (fun obj s₁ h₁ => ?_)
  obtain ⟨rfl, rfl⟩ := h₁
  have eD : (s.heap.push { cls := .type "list", data := .seq #[] }).get? s.heap.objs.size = some { cls := .type "list", data := .seq #[] } := Heap.get?_push_size _ rfl
  refine ⟨⟨_, eD, rfl⟩, F.args_list_init_2 _ _, ?_⟩
  show wpAny _ _ (do
    let old ← Builtin.List.listItems (.ref s.heap.objs.size)
    Builtin.List.listUpdate (.ref s.heap.objs.size) (fun _ => #[])
    letGo old.toList.reverse
    Builtin.List.listExtendWith (.ref s.heap.objs.size) (.ref it) .none) _ _ _
  refine wpAny_bind ?_
  unfold Builtin.List.listItems
  refine wpAny_bind (wpAny_seqItems eD rfl (wpAny_pure ?_))
  show wpAny _ _ (do
    updateSeq s.heap.objs.size (fun _ => #[])
    letGo (#[] : Array Value).toList.reverse
    Builtin.List.listExtendWith (.ref s.heap.objs.size) (.ref it) .none) _ _ _
  refine wpAny_bind (wpAny_updateSeq eD rfl ?_)
  have eD2 := Heap.get?_update_self (Obj.mapSeq fun _ => (#[] : Array Value)) eD rfl
  refine wpAny_bind (wpAny_letGo ?_)
  generalize hh2 : (s.heap.push { cls := .type "list", data := .seq #[] }).update s.heap.objs.size (Obj.mapSeq fun _ => (#[] : Array Value)) = g2 at eD2 ⊢
  generalize hS : s.heap.objs.size = D at *
  have kp : ∀ b o, s.heap.get? b = some o → g2.get? b = some o := fun b o e => by
    rw [← hh2, Heap.get?_update_other _ _ (Nat.ne_of_gt (by rw [← hS]; exact Heap.lt_size e))]
    exact Heap.get?_push_of_some _ e
  have it2 : IsRt g2 it t ((its.size : Int) - 1) := hit.at fun o e => kp _ _ e
  have ht2 : IsTup g2 t its := let ⟨o, e, r⟩ := ht; ⟨o, kp _ _ e, r⟩
  have ty : (⟨g2, s.gens, s.drawn, s.toks, s.os⟩ : Shared).TypeIs (.ref it) "reversed" := it2.typeIs
  have lt : ∀ b o, s.heap.get? b = some o → b ≠ D := fun b o e => by rw [← hS]; exact Nat.ne_of_lt (Heap.lt_size e)
  unfold Builtin.List.listExtendWith
  refine wpAny_bind (wpAny_typeOf ty ?_)
  have no : Builtin.List.listSameRef (.ref D) (.ref it) = false := by simp [Builtin.List.listSameRef, n1]
  rw [if_neg (by rw [no]; decide)]
  refine wpAny_bind (iter_rt it2 ?_)
  refine wpAny_bind (wpAny_holding ?_)
  refine rtHint (n := its.size) it2 ht2 rfl hn (fun A E Q k => len_tuple ht2 (by rw [sizeLine_eq] at hn; omega) k) fun b tk => ?_
  have W := (walkRt (prog := prog) (w := w) (A := A.in1.in1) hh it t hne its hn).toS
  have out : D ∉ [it, t] := by
    intro z
    rcases List.mem_cons.mp z with z | z
    · exact n1 z
    · exact n2 (List.mem_singleton.mp z)
  have z0 : ((its.size : Nat) : Int) - 1 - ((0 : Nat) : Int) = (its.size : Int) - 1 := by omega
  have loop : ∀ (g3 : Heap) (c : Nat), (∀ b o, b ≠ D → g2.get? b = some o → g3.get? b = some o) → g3.get? D = some { cls := .type "list", data := .seq #[] c } →
      codeAny (model prog w) A.in1 (.builtin "list.extend.loop" ⟨[.ref D, .ref it, .none], []⟩) (wants (fun r s₂ => r = .none ∧ Q (.ref D) s₂) E) { s with heap := g3, toks := tk } := fun g3 c k3 e3 => by
    have st0 : IsRt g3 it t ((its.size : Int) - 1 - ((0 : Nat) : Int)) := by rw [z0]; exact it2.at fun o e => k3 _ _ (Ne.symm n1) e
    refine codeAny_extend_loopS W hn D out .none its.size 0 _ _ _ rfl (Nat.zero_le _) ⟨Nat.zero_le _, st0, (let ⟨o, e, r⟩ := ht2; ⟨o, k3 _ _ (Ne.symm n2) e, r⟩)⟩ e3 (ItemsOf.nil _) (fun s' acc' c' mv hS' hacc => ?_)
    rw [Moved.eq_with mv]
    refine ⟨rfl, hQ s'.heap s'.toks acc' c' (fun b o h1 e => mv.heap b o (fun z => ?_) (k3 b o (lt b o e) (kp b o e))) hS' hacc⟩
    rcases List.mem_cons.mp z with z | z
    · exact lt b o e z
    · exact h1 (List.mem_singleton.mp z)
  cases b with
  | false =>
    rw [if_neg (by decide +kernel)]
    exact wpAny_pure ⟨plainId_quiet F.plain_extend_loop _, loop _ _ (fun _ _ _ e => e) eD2⟩
  | true =>
    rw [if_pos (by decide +kernel)]
    refine wpAny_bind (wpAny_rule (wpAny_bind ?_))
    show wpAny _ _ (updateSeq D (·.push .none) >>= fun _ => updateSeq D (·.pop)) _ _ _
    refine wpAny_bind (wpAny_updateSeq eD2 rfl ?_)
    have e2 := Heap.get?_update_self (Obj.mapSeq (·.push Value.none)) eD2 rfl
    refine wpAny_updateSeq e2 rfl ?_
    have e3 := Heap.get?_update_self (Obj.mapSeq (·.pop)) e2 rfl
    exact wpAny_pure ⟨plainId_quiet F.plain_extend_loop _, loop _ _ (fun b o hb e => (Heap.get?_update_other _ _ (Ne.symm hb)).trans ((Heap.get?_update_other _ _ (Ne.symm hb)).trans e)) e3⟩
end
/-- list(reversed(t)), t a tuple -/
def tListRevT (K : PySem.W.Frag) (te : TE) : TE := fun σ H Q => te σ H fun v G => ∃ (a : Addr) (xs : List V), v = .ref a ∧ SqT K G a xs ∧ ∀ q, G q = none → Q (.ref q) (upd G q (.lst xs.reverse))
theorem pe_listRevT {X : Cx} {e : Expr} {te : TE} {p p2 pos pos2 : Pos} (hc : X.calm = true) (hg : Gl X "list") (hm : X.mg "list" = none) (hg2 : Gl X "reversed") (hm2 : X.mg "reversed" = none) (he : PE X e te)
    (hs : starEach [e] X.env = (false, eval e X.env) :: starEach [] X.env := by rfl)
    (hs2 : starEach [.Call (.Name "reversed" p2) [e] [] pos2] X.env = (false, eval (.Call (.Name "reversed" p2) [e] [] pos2) X.env) :: starEach [] X.env := by rfl) :
    PE X (.Call (.Name "list" p) [.Call (.Name "reversed" p2) [e] [] pos2] [] pos) (tListRevT X.K te) := by
  refine ⟨fun pins s σ H Q I h => ?_⟩
  refine Call_ (ld_blt I hg hm boot_list (PyProof.Rows.callWith_type1 (args_cons (Call_ (ld_blt I hg2 hm2 PyProof.Rows.boot_reversed (PyProof.Rows.callWith_type1 (args_cons (thn (he.run pins s σ H _ I h) fun u s1 ⟨v, G, I1, r1, a, xs, ev, hq, q⟩ => args_nil ?_) hs) hs rfl))) hs2) hs2 rfl))
  subst ev
  obtain rfl : u = Value.ref a := r1
  obtain ⟨its, rv, pl, hz⟩ := I1.tuple hq
  have hl := rv.length
  have hn := line63
  have sz : its.toArray.size ≤ sizeLine := by rw [List.size_toArray, ← hl]; exact hz
  refine call_reversed_tup pl (fun A E Q k => len_tuple pl (by rw [sizeLine_eq] at sz; omega) k) (args_nil ?_)
  have k0 : ∀ b o, s1.heap.get? b = some o → (s1.heap.push (rtObj a ((its.toArray.size : Int) - 1))).get? b = some o := fun b o z => Heap.get?_push_of_some _ z
  have la : a ≠ s1.heap.objs.size := by
    obtain ⟨o, e, _⟩ := pl
    exact Nat.ne_of_lt (Heap.lt_size e)
  generalize hh3 : s1.heap.push (rtObj a ((its.toArray.size : Int) - 1)) = h3 at k0 ⊢
  have it3 : IsRt h3 s1.heap.objs.size a ((its.toArray.size : Int) - 1) := by
    rw [← hh3]
    exact ⟨_, Heap.get?_push_size _ rfl, rfl, rfl⟩
  have t3 : IsTup h3 a its.toArray := let ⟨o, e, r⟩ := pl; ⟨o, k0 _ _ e, r⟩
  have lt3 : s1.heap.objs.size < h3.objs.size := by
    obtain ⟨o, e, _⟩ := id it3
    exact Heap.lt_size e
  refine call_list_rt (s := { s1 with heap := h3, toks := s1.toks + 1 + 1 }) (I1.ok.hd hc) it3 t3 la sz fun g tk acc c hk hS hi => ?_
  have hgo : G h3.objs.size = none := I1.hok.fresh (Nat.le_of_lt lt3)
  exact ⟨.ref h3.objs.size, upd G h3.objs.size (.lst xs.reverse), I1.laid (t' := tk) (fun b o z => hk b o (Nat.ne_of_lt (Heap.lt_size z)) (k0 b o z)) (Nat.le_of_lt lt3)
    (show ObjOk X.prog X.w _ _ _ (.lst xs.reverse) from ⟨by rw [List.length_reverse]; exact hz, acc.toList, c, vals_rev rv hi, by rw [Array.toArray_toList]; exact hS⟩), rfl, q _ hgo⟩
end Kp

/-! del xs[a:] -/
namespace Kd
open PySem PySem.Spec PyProof.Rows L2
theorem cut_off {sel : Nat → Bool} {a : Nat} : ∀ (xs : List Value) (i : Nat), (∀ k, i ≤ k → k < i + xs.length → sel k = decide (a ≤ k)) → ((xs.zipIdx i).filterMap fun p => if sel p.2 = true then none else some p.1) = xs.take (a - i)
  | [], i, _ => by simp
  | x :: xs, i, h => by
    have h0 := h i (Nat.le_refl _) (by rw [List.length_cons]; omega)
    have ih := cut_off (sel := sel) (a := a) xs (i + 1) fun k h1 h2 => h k (by omega) (by rw [List.length_cons]; omega)
    rw [List.zipIdx_cons, List.filterMap_cons, ih]
    by_cases c : a ≤ i
    · rw [if_pos (by rw [h0]; exact decide_eq_true c), show a - i = 0 by omega, show a - (i + 1) = 0 by omega]
      simp
    · rw [if_neg (by rw [h0, decide_eq_false c]; exact Bool.false_ne_true), show a - i = (a - (i + 1)) + 1 by omega, List.take_succ_cons]
section
variable {prog : Program} {w : World} {A : Around} {E : Value → Shared → Prop} {s : Shared}
theorem delSlice {l sl : Addr} {its : List Value} {n a : Nat} {vl vu : Value} {Q : Unit → Shared → Prop} (e : s.heap.get? l = some { cls := .type "list", data := .seq its.toArray n }) (hs : s.heap.IsSliceOf sl vl vu .none)
    (pl : IsPart vl (some (a : Int))) (pu : IsPart vu none) (ha : a ≤ its.length) (hz : its.length ≤ sizeLine)
    (h : ∀ f : Array Value → Array Value, f its.toArray = (its.take a).toArray → Q () { s with heap := s.heap.update l (Obj.mapSeq f) }) : wpAny (model prog w) A (delItem (.ref l) (.ref sl)) Q E s := by
  obtain ⟨os, hos, hcs, hds⟩ := id hs
  have hTs : s.TypeIs (.ref sl) "slice" := ⟨os, hos, hcs⟩
  have ty : s.TypeIs (.ref l) "list" := ⟨_, e, rfl⟩
  refine wpAny_delItem_slot ty (by decide) F.slot_list_delitem ?_
  refine wpAny_call_entry F.slot_list_delitem ty F.entry_list_delitem ?_ (F.args_list_delitem_2 _ _)
  show wpAny _ _ (Builtin.List.listSubscript? (.ref sl) >>= _) _ _ s
  refine wpAny_bind ?_
  unfold Builtin.List.listSubscript?
  refine wpAny_bind (wpAny_specialOf hTs slice_no_index ?_)
  simp only [Option.isNone_none, if_true]
  refine wpAny_pure ?_
  show wpAny _ _ (typeOf (.ref sl) >>= _) _ _ s
  refine wpAny_bind (wpAny_typeOf hTs ?_)
  first
    | rw [if_neg (by decide)]
    | refine PySem.W.KFB.if_not (by decide) ?_
  rw [listSliceParts_eq]
  refine wpAny_bind (wpAny_bind (wpAny_field hos hds (x := .none) rfl (wpAny_bind (wpAny_listPart .none ?_))))
  rw [if_neg (by decide)]
  refine wpAny_bind (wpAny_field hos hds (x := vl) rfl (wpAny_bind (wpAny_listPart pl ?_)))
  refine wpAny_bind (wpAny_field hos hds (x := vu) rfl (wpAny_bind (wpAny_listPart pu (wpAny_pure ?_))))
  unfold Builtin.List.listItems
  refine wpAny_bind (wpAny_bind (wpAny_seqItems e rfl (wpAny_pure ?_)))
  have bd : sliceBounds (some (a : Int)) none none its.toArray.size = ((a : Int), (its.length : Int), 1) := by
    unfold sliceBounds
    simp
    omega
  refine wpAny_bind (wpAny_of_eq ((sliceIndices_raw (some (a : Int)) none none its.toArray.size (by simp)).trans (congrArg (pure : Int × Int × Int → Sem (Int × Int × Int)) bd)) ?_)
  refine wpAny_bind (wpAny_rule ?_)
  have cut := cut_off (a := a) (sel := fun k => if (1 : Int) > 0 then decide ((a : Int) ≤ (k : Int)) && decide ((k : Int) < (its.length : Int)) && (((k : Int) - (a : Int)) % 1 == 0) else decide ((its.length : Int) < (k : Int)) && decide ((k : Int) ≤ (a : Int)) && (((a : Int) - (k : Int)) % (-1) == 0)) its 0 fun k _ h2 => by
    rw [if_pos (by decide), Int.emod_one]
    rw [Nat.zero_add] at h2
    have e2 : decide ((k : Int) < (its.length : Int)) = true := decide_eq_true (by omega)
    rw [e2, Bool.and_true]
    have e3 : decide ((a : Int) ≤ (k : Int)) = decide (a ≤ k) := by
      by_cases c : a ≤ k
      · rw [decide_eq_true c, decide_eq_true (by omega)]
      · rw [decide_eq_false c, decide_eq_false (by omega)]
    rw [e3]
    simp
  rw [Nat.sub_zero] at cut
  have cut2 := congrArg List.toArray cut
  have lt : (its.take a).length ≤ its.length := by rw [List.length_take]; omega
  refine wpAny_bind (m := updateSeq l _) (wpAny_updateSeq e rfl ?_ (by rw [List.size_toArray]; omega) (Nat.le_trans (Nat.le_of_eq (congrArg Array.size cut2)) (by rw [List.size_toArray]; omega)))
  refine wpAny_bind (wpAny_letGo ?_)
  exact wpAny_pure ⟨.none, rfl, h _ cut2⟩
end
section
variable {X : Cx}
/-- del xs[a:], a list that may change -/
def tDelFrom (to ta : TE) : TS := fun D σ H => to σ H fun x H1 => tPart ta σ H1 fun o H2 => ∃ (l : Addr) (xs : List V) (a : Nat), x = .ref l ∧ o = some (a : Int) ∧ H2 l = some (.lst xs) ∧ a ≤ xs.length ∧ D.nx σ (upd H2 l (.lst (xs.take a)))
theorem ps_delFrom {o i : Expr} {to ta : TE} {p tpos pos : Pos} (ho : PE X o to) (hi : PE X i ta) : PS X (.Delete [.Subscript o (.Slice (some i) none none p) tpos] pos) (tDelFrom to ta) := by
  refine ⟨fun pins s σ H D I h => ?_⟩
  refine wpAny_Delete (wpAny_deleteEach_cons (wpAny_delete_Subscript (thn (ho.run pins s σ H _ I h) fun u s1 ⟨x, H1, I1, rx, q1⟩ => ?_)))
  refine wpAny_Slice (thn ((po_some hi).run pins s1 σ H1 (fun o H2 => ∃ (l : Addr) (xs : List V) (a : Nat), x = .ref l ∧ o = some (a : Int) ∧ H2 l = some (.lst xs) ∧ a ≤ xs.length ∧ D.nx σ (upd H2 l (.lst (xs.take a)))) I1 q1) fun vl s2 ⟨lo, H2, I2, pl, q2⟩ => ?_)
  obtain ⟨l, xs, a, ex, el, hH, ha, q2⟩ := q2
  subst ex el
  cases (show u = Value.ref l from rx)
  refine thn (po_none.run pins s2 σ H2 (fun o H3 => o = none ∧ H3 = H2) I2 ⟨rfl, rfl⟩) fun vu s3 ⟨w1, H3, I3, pu, eu, e3⟩ => ?_
  subst eu e3
  refine thn (po_none.run pins s3 σ H3 (fun o H4 => o = none ∧ H4 = H3) I3 ⟨rfl, rfl⟩) fun vs s4 ⟨o4, H4, I4, ps, eo, e4⟩ => ?_
  subst eo e4
  cases ps
  have I5 : Inv X pins σ H4 { s4 with heap := s4.heap.push { cls := .type "slice", data := .fields #[vl, vu, .none] } } := I4.kept (t' := s4.toks) fun b ob q => Heap.get?_push_of_some _ q
  obtain ⟨z, its, n, r, hl, e⟩ := I5.lstM hH
  refine delSlice e (Heap.IsSliceOf.new _ vl vu .none) pl pu (by omega) (by omega) fun f hf => wpAny_deleteEach_nil ⟨σ, _, I5.lset (t' := s4.toks) hH e hf (r.take a) (by rw [List.length_take]; omega), q2⟩
end
end Kd

namespace Kq
open PySem PySem.Spec PyProof.Rows L2 Kf Kg Kv GxR Kk
abbrev tFormOf : Stmt := tp 33
/-- the table of the roles behind each word -/
structure RForms (K : PySem.W.Frag) (w : World) (dA : Addr) (es : Array DictEntry) (n : Nat) : Prop where
  dict : KDict K w dA es n
  yes : ∀ (z : Str) (rs : List Str), tblK.lookup z = some rs → ∃ t : Addr, PySem.W.nsIn K dA z = some (some (.ref t)) ∧ ∀ F : Hp, SqT K F t (rs.map V.str)
  no : ∀ z : Str, tblK.lookup z = none → PySem.W.nsIn K dA z = some none
/-- the table of what is written by how many: neither kinds nor names are -/
structure CForms (K : PySem.W.Frag) (w : World) (dC : Addr) (es : Array DictEntry) (n : Nat) : Prop where
  dict : KDict K w dC es n
  kind : PySem.W.nsIn K dC "kind" = some none
  name : PySem.W.nsIn K dC "name" = some none
theorem CForms.no {K : PySem.W.Frag} {w : World} {dC : Addr} {es : Array DictEntry} {n : Nat} (h : CForms K w dC es n) (i : It') : PySem.W.nsIn K dC i.rl = some none := by
  cases i
  · exact h.name
  · exact h.kind
theorem It'.notBl (i : It') : i.d.isBl = false := by
  cases i with
  | nm n => rfl
  | kd k => cases k <;> rfl
section
variable {P : Program} {w : World} {K : PySem.W.Frag} {mg : Str → Option Value} {base : Heap} {dA dC : Addr} {esA esC : Array DictEntry} {nA nC : Nat}
/-! form_of -/
theorem scFormOf : FnScope ["role", "word"] ["role", "word"] (defScope tFormOf) := ⟨rfl, rfl, rfl, by decide +kernel, rfl, by decide +kernel, by decide +kernel⟩
/-- roles of kinds and names -/
def KN (r : Str) : Prop := r = "kind" ∨ r = "name"
def spFormOf (K : PySem.W.Frag) : Sp := fun vs H Q _ => ∃ (r z : Str), vs = [.str r, .str z] ∧ KN r ∧ (∀ rs, r = "kind" → tblK.lookup z = some rs → ∀ (t : Addr) (G : Hp), Same H G → (∀ F : Hp, SqT K F t (rs.map V.str)) → Q (.ref t) G) ∧ ((r = "name" ∨ tblK.lookup z = none) → ∀ G : Hp, Same H G → Q .non G)
theorem okFormOf {f : Addr} {fd : FuncData} {k : Nat} (F : Fun K "form_of" "form_of" tFormOf f fd) (gA : mg "KIND_FORMS" = some (.ref dA)) (hA : RForms K w dA esA nA) : FnOk P w K mg base CX0 (k + 1) f fd ["role", "word"] (spFormOf K) := by
  refine F.ok scFormOf (fun vs H Q E h => ?_) (fun cdv A outer s H vs Q E hr h => ?_)
  · obtain ⟨r, z, rfl, _⟩ := h
    rfl
  obtain ⟨r, z, rfl, hr, q1, q2⟩ := h
  refine ⟨_, pss_cons (ps_if (pt_cmpR op_eq (pv 0) pe_str (nomark _)) pss_no pss_nil)
    (pss_cons (ps_if (pt_cmpR op_in_seq (pv 0) (pe_tup (pa_cons pe_str (pa_cons pe_str (pa_cons pe_str pa_nil)))) rfl) (pss_one (ps_ret (pe_kget hA.dict (pe_glob (v := .ref dA) (by rfl) gA rfl) (pv 1) ⟨by rfl, by rfl, by rfl, by rfl⟩))) pss_nil)
    (pss_cons (ps_if (PW.pt (pw_and (pt_cmpR op_eq (pv 0) pe_str (nomark _)) (pw_and1 (pt_cmpR op_eq (pv 1) pe_str (nomark _))))) pss_no pss_nil)
    (pss_cons (ps_if (pt_cmpR op_in_seq (pv 0) (pe_tup (pa_cons pe_str (pa_cons pe_str pa_nil))) rfl) pss_no pss_nil) (pss_one (ps_ret pe_non))))), ?_⟩
  rcases hr with rfl | rfl
  · refine ⟨_, rfl, rfl, _, rfl, iteF ?_⟩
    refine ⟨_, rfl, by show 3 ≤ sizeLine; decide, fun p hp => ⟨p, _, rfl, .inr (SqT.of upd_same), rfl, rfl, _, rfl, iteT ?_⟩⟩
    cases hz : tblK.lookup z with
    | some rs =>
      obtain ⟨t, ht, hs⟩ := hA.yes z rs hz
      exact ⟨rfl, _, rfl, z, _, .ref t, rfl, ht, rfl, q1 rs rfl hz t _ (smk (fun _ _ e => e) hp) hs⟩
    | none => exact ⟨rfl, _, rfl, z, _, .non, rfl, hA.no z hz, rfl, q2 (.inr hz) _ (smk (fun _ _ e => e) hp)⟩
  · refine ⟨_, rfl, rfl, _, rfl, iteF ?_⟩
    refine ⟨_, rfl, by show 3 ≤ sizeLine; decide, fun p hp => ⟨p, _, rfl, .inr (SqT.of upd_same), rfl, rfl, _, rfl, iteF ?_⟩⟩
    refine ⟨_, rfl, rfl, _, rfl, iteF (iteF ?_)⟩
    refine ⟨_, rfl, by show 2 ≤ sizeLine; decide, fun p2 hp2 => ⟨p2, _, rfl, .inr (SqT.of upd_same), rfl, rfl, _, rfl, iteF ?_⟩⟩
    exact q2 (.inl rfl) _ ((newS hp).trans (newS hp2))
/-- kinds are without lists -/
theorem kdNon {N M : Addr → Prop} {H : Hp} : ∀ {k : Kt} {v : V}, Dd N H k.d v → Dd M H k.d v := by
  intro k
  induction k with
  | op n =>
    intro v h
    obtain ⟨a, us, rfl, ha, hL⟩ := Dd.tupS h
    cases hL with
    | cons h1 t =>
      cases h1
      cases t with
      | cons h2 t =>
        cases h2
        cases t
        exact .tup ha (.cons (.str _) (.cons (.str _) .nil))
  | num =>
    intro v h
    obtain ⟨a, us, rfl, ha, hL⟩ := Dd.tupS h
    cases hL with
    | cons h1 t =>
      cases h1
      cases t
      exact .tup ha (.cons (.str _) .nil)
  | tru =>
    intro v h
    obtain ⟨a, us, rfl, ha, hL⟩ := Dd.tupS h
    cases hL with
    | cons h1 t =>
      cases h1
      cases t
      exact .tup ha (.cons (.str _) .nil)
  | pr a b iha ihb =>
    intro v h
    obtain ⟨p, x, y, z, rfl, hp, h1, h2, h3⟩ := Dd.tup3 h
    cases h1
    exact .tup hp (.cons (.str _) (.cons (iha h2) (.cons (ihb h3) .nil)))
  | ei a b iha ihb =>
    intro v h
    obtain ⟨p, x, y, z, rfl, hp, h1, h2, h3⟩ := Dd.tup3 h
    cases h1
    exact .tup hp (.cons (.str _) (.cons (iha h2) (.cons (ihb h3) .nil)))
  | li a iha =>
    intro v h
    obtain ⟨p, us, rfl, hp, hL⟩ := Dd.tupS h
    cases hL with
    | cons h1 t =>
      cases h1
      cases t with
      | cons h2 t =>
        cases t
        exact .tup hp (.cons (.str _) (.cons (iha h2) .nil))
  | fn a b iha ihb =>
    intro v h
    obtain ⟨p, x, y, z, rfl, hp, h1, h2, h3⟩ := Dd.tup3 h
    cases h1
    exact .tup hp (.cons (.str _) (.cons (iha h2) (.cons (ihb h3) .nil)))
theorem itNon {N M : Addr → Prop} {H : Hp} : ∀ {i : It'} {v : V}, Dd N H i.d v → Dd M H i.d v
  | .nm n, _, h => by
    have h : Dd N H (.str n) _ := h
    cases h
    exact .str n
  | .kd k, _, h => kdNon (k := k) h
end
end Kq

namespace Kq
open PySem PySem.Spec PyProof.Rows L2 Kf Kg Kv GxR Kk
theorem small {n : Nat} (h : n ≤ 1000100) : n ≤ sizeLine := by
  rw [sizeLine_eq]
  omega
/-- the text of a kind -/
def Kt.tx (k : Kt) : Str := Txt.join (Str.ofString " ") ((It'.kd k).tk.map It'.wd)
end Kq

namespace Kq
open PySem PySem.Spec PyProof.Rows L2 Kf Kg Kv GxR Kk
abbrev tBehindR : Stmt := tp 36
abbrev tIsSingle : Stmt := tp 37
abbrev tSingle : Stmt := tp 40
abbrev tJoined : Stmt := tp 41
def It'.isNm : It' → Bool
  | nm _ => true
  | kd _ => false
/-- a promise that asks more -/
theorem okWeak {P : Program} {w : World} {K : PySem.W.Frag} {mg : Str → Option Value} {base : Heap} {CX : CXT} {k : Nat} {f : Addr} {fd : FuncData} {ps : List Str} {sp sp' : Sp} (F : FnOk P w K mg base CX k f fd ps sp) (h : ∀ vs H Q E, sp' vs H Q E → sp vs H Q E) : FnOk P w K mg base CX k f fd ps sp' :=
  ⟨fun vs H Q E z => F.len _ _ _ _ (h _ _ _ _ z), fun A outer s H args us vs Q E r e b v z => F.run A outer s H args us vs Q E r e b v (h _ _ _ _ z)⟩
/-- the class NoText, as the written part has it -/
structure NT (K : PySem.W.Frag) (mg : Str → Option Value) (cN : Addr) : Prop where
  gP : mg "NoText" = some (.ref cN)
  xP : PySem.W.excIn K cN [.type "ValueError", .type "Exception", .type "BaseException", .type "object"] "ValueError.__new__" = true
  kP : PySem.W.keepIn K (.ref cN) = true
  bP : PySem.W.subIn K (.ref cN) (.type "BaseException") = some true
  tP : PySem.W.typeIn K (.ref cN) = some (.type "type")
theorem nm_rl {i : It'} : KN i.rl := by
  cases i
  · exact .inr rfl
  · exact .inl rfl
/-- the roles behind a word -/
def bh (r z : Str) : Option (List Str) := if r = "name" then (if nmS z = true then some [] else none) else tblK.lookup z
theorem bh_it {i : It'} (h : i.ok) : bh i.rl i.wd = some (i.ps.map It'.rl) := by
  cases i with
  | nm n =>
    have h : nmS n = true := h
    show (if ("name" : Str) = "name" then (if nmS n = true then some [] else none) else _) = _
    rw [if_pos rfl, if_pos h]
    rfl
  | kd k =>
    show (if ("kind" : Str) = "name" then _ else tblK.lookup k.wd) = _
    rw [if_neg (by decide), tblK_wd]
    rfl
theorem wd_len {i : It'} (h : i.ok) : i.wd.length ≤ 8 := by
  cases i with
  | nm n =>
    have h : nmS n = true := h
    unfold nmS at h
    obtain ⟨h1, _⟩ := Bool.and_eq_true_iff.mp h
    obtain ⟨_, h2⟩ := Bool.and_eq_true_iff.mp h1
    exact of_decide_eq_true h2
  | kd k => cases k <;> (simp only [It'.wd, Kt.wd]; decide +kernel)
section
variable {P : Program} {w : World} {K : PySem.W.Frag} {mg : Str → Option Value} {base : Heap} {dA dC cN : Addr} {esA esC : Array DictEntry} {nA nC : Nat} {T : List Addr}
/-! is_single -/
theorem scIsSingle : FnScope ["word", "role"] ["word", "role"] (defScope tIsSingle) := ⟨rfl, rfl, rfl, by decide +kernel, rfl, by decide +kernel, by decide +kernel⟩
def spIsSingleW (T : List Addr) : Sp := fun vs H Q _ => ∃ (z r : Str), vs = [.str z, .str r] ∧ KN r ∧ z.length ≤ 1000000 ∧ TbS T H ∧ ∀ G : Hp, Sm T H G → Q (.bl (decide (r = "name") && nmS z)) G
theorem okIsSingleW {f fN : Addr} {fd fdN : FuncData} {k : Nat} (F : Fun K "is_single" "is_single" tIsSingle f fd)
    (GN : FnOk P w K mg base CX0 k fN fdN ["thing"] (spName T)) (bN : Binds K fdN ["thing"] []) (gN : mg "is_name" = some (.ref fN)) (kN : PySem.W.keepIn K (.ref fN) = true) : FnOk P w K mg base CX0 (k + 1) f fd ["word", "role"] (spIsSingleW T) := by
  refine F.ok scIsSingle (fun vs H Q E h => ?_) (fun cdv A outer s H vs Q E hr h => ?_)
  · obtain ⟨z, r, rfl, _⟩ := h
    rfl
  obtain ⟨z, r, rfl, hi, hl, tb, q⟩ := h
  refine ⟨_, pss_cons (ps_if (pt_cmpR op_eq (pv 1) pe_str (nomark _)) (pss_one (ps_ret (pe_call GN hr (by rfl) gN kN bN .nil pass0 (pa_cons (pv 0) pa_nil)))) pss_nil)
    (pss_cons (ps_if (pt_cmpR op_eq (pv 1) pe_str (nomark _)) pss_no pss_nil)
    (pss_cons (ps_if (pt_cmpR op_in_seq (pv 1) (pe_tup (pa_cons pe_str (pa_cons pe_str pa_nil))) rfl) pss_no pss_nil)
    (pss_cons (ps_if (pt_cmpR op_eq (pv 1) pe_str (nomark _)) pss_no pss_nil)
    (pss_one (ps_ret (pe_and (pe_cmpR op_in_seq (pv 1) (pe_tup (pa_cons pe_str (pa_cons pe_str pa_nil))) rfl) (pe_one pe_no))))))), ?_⟩
  rcases hi with rfl | rfl
  · refine ⟨_, rfl, rfl, _, rfl, iteF ⟨_, rfl, rfl, _, rfl, iteF ⟨_, rfl, by show 2 ≤ sizeLine; decide, fun p hp => ⟨p, _, rfl, .inr (SqT.of upd_same), rfl, rfl, _, rfl, iteF ⟨_, rfl, rfl, _, rfl, iteF ?_⟩⟩⟩⟩⟩
    refine ⟨_, rfl, by show 2 ≤ sizeLine; decide, fun p2 hp2 => ⟨p2, _, rfl, .inr (SqT.of upd_same), rfl, rfl, _, rfl, iteF (q _ (Sm.of (fun b o z => newS hp2 _ _ (newS hp _ _ z)) tb))⟩⟩
  · refine ⟨_, rfl, rfl, _, rfl, iteT ⟨_, rfl, _, .str z, rfl, .str z, ?_, tb, fun G sG => ?_⟩⟩
    · rw [wt_str, sizeLine_eq]
      omega
    · exact q _ sG
def spIsSingle (T : List Addr) : Sp := fun vs H Q _ => ∃ (i : It'), vs = [.str i.wd, .str i.rl] ∧ i.ok ∧ TbS T H ∧ ∀ G : Hp, Sm T H G → Q (.bl i.isNm) G
theorem single_old : ∀ vs H Q E, spIsSingle T vs H Q E → spIsSingleW T vs H Q E := by
  intro vs H Q E h
  obtain ⟨i, rfl, hi, tb, q⟩ := h
  have hl := wd_len hi
  refine ⟨_, _, rfl, nm_rl, by omega, tb, fun G sG => ?_⟩
  have e : (decide (i.rl = "name") && nmS i.wd) = i.isNm := by
    cases i with
    | nm n =>
      have hi : nmS n = true := hi
      show (decide (("name" : Str) = "name") && nmS n) = true
      rw [hi]
      rfl
    | kd k => rfl
  rw [e]
  exact q _ sG
/-! roles_behind -/
theorem scBehindR : FnScope ["word", "role", "left", "form"] ["word", "role", "left"] (defScope tBehindR) := ⟨rfl, rfl, rfl, by decide +kernel, rfl, by decide +kernel, by decide +kernel⟩
def spBehindW (K : PySem.W.Frag) (T : List Addr) (cN : Addr) : Sp := fun vs H Q E => ∃ (z : Str) (l : Int), z.length ≤ 1000000 ∧ TbS T H ∧
  ((∃ r, vs = [.str z, .str r, .int l] ∧ KN r ∧ (∀ rs, bh r z = some rs → ∀ (t : Addr) (G : Hp), Sm T H G → SqT K G t (rs.map V.str) → Q (.ref t) G) ∧ (bh r z = none → ∀ G : Hp, Sm T H G → E (.ref cN) none G)) ∨
   (vs = [.str z, .non, .int l] ∧ ∀ G : Hp, Sm T H G → E (.ref cN) none G))
theorem okBehindW {f fS fF : Addr} {fd fdS fdF : FuncData} {k : Nat} (F : Fun K "roles_behind" "roles_behind" tBehindR f fd) (nt : NT K mg cN)
    (GS : FnOk P w K mg base CX0 k fS fdS ["word", "role"] (spIsSingleW T)) (bS : Binds K fdS ["word", "role"] []) (gS : mg "is_single" = some (.ref fS)) (kS : PySem.W.keepIn K (.ref fS) = true)
    (GF : FnOk P w K mg base CX0 k fF fdF ["role", "word"] (spFormOf K)) (bF : Binds K fdF ["role", "word"] []) (gF : mg "form_of" = some (.ref fF)) (kF : PySem.W.keepIn K (.ref fF) = true)
    (gC : mg "COUNTED" = some (.ref dC)) (hC : CForms K w dC esC nC) : FnOk P w K mg base (L2.CX P w) (k + 1) f fd ["word", "role", "left"] (spBehindW K T cN) := by
  refine F.okX scBehindR (fun vs H Q E h => ?_) (fun cdv A outer s H vs Q E hr h => ?_)
  · obtain ⟨z, l, _, _, ⟨r, rfl, _⟩ | ⟨rfl, _⟩⟩ := h <;> rfl
  obtain ⟨z, l, hl, tb, h⟩ := h
  refine ⟨_, pss_cons (ps_if (pt_cmpR op_isN (pv 1) pe_non (nomark _)) (pss_one (ps_raise rfl (takes_of rfl rfl rfl rfl) (pmk_own PySem.F.excBase_ValueError nt.xP nt.gP nt.kP (raises_own nt.bP nt.tP) rfl))) pss_nil)
    (pss_cons (ps_if (pt_cmpR (op_in_kd hC.dict) (pv 1) (pe_glob (v := .ref dC) (by rfl) gC rfl) rfl) pss_no pss_nil)
    (pss_cons (ps_if (pt_val (pe_call GS hr (by rfl) gS kS bS .nil pass0 (pa_cons (pv 0) (pa_cons (pv 1) pa_nil)))) (pss_one (ps_ret (pe_tup pa_nil))) pss_nil)
    (pss_cons (ps_set (i := 3) scBehindR.nd rfl (.inl rfl) (pe_call GF hr (by rfl) gF kF bF .nil pass0 (pa_cons (pv 1) (pa_cons (pv 0) pa_nil))))
    (pss_cons (ps_if (pt_cmpR op_isN (pv 3) pe_non (nomark _)) (pss_one (ps_raise rfl (takes_of rfl rfl rfl rfl) (pmk_own PySem.F.excBase_ValueError nt.xP nt.gP nt.kP (raises_own nt.bP nt.tP) rfl))) pss_nil) (pss_one (ps_ret (pv 3))))))), ?_⟩
  rcases h with ⟨r, rfl, hi, q1, q2⟩ | ⟨rfl, q2⟩
  rotate_left
  · exact ⟨_, rfl, rfl, _, rfl, iteT (q2 _ (Sm.refl tb))⟩
  refine ⟨_, rfl, rfl, _, rfl, iteF ?_⟩
  have hno : PySem.W.nsIn K dC r = some none := by
    rcases hi with rfl | rfl
    · exact hC.kind
    · exact hC.name
  refine ⟨_, rfl, r, none, rfl, rfl, hno, _, rfl, iteF ?_⟩
  refine ⟨_, rfl, _, rfl, z, r, rfl, hi, hl, tb, fun G sG => ⟨_, rfl, ?_⟩⟩
  rcases hi with rfl | rfl
  · have e : bh "kind" z = tblK.lookup z := rfl
    rw [e] at q1 q2
    refine iteF ⟨_, rfl, _, rfl, "kind", z, rfl, .inl rfl, fun rs _ hz t G2 s2 hs => ?_, fun hz G2 s2 => ?_⟩
    · exact ⟨_, rfl, rfl, _, rfl, iteF ⟨_, rfl, q1 rs hz t _ (sG.trans (Sm.of s2 sG.2)) (hs _)⟩⟩
    · have hz : tblK.lookup z = none := by
        rcases hz with h | h
        · exact absurd h (by decide)
        · exact h
      exact ⟨_, rfl, rfl, _, rfl, iteT (q2 hz _ (sG.trans (Sm.of s2 sG.2)))⟩
  · have e : bh "name" z = if nmS z = true then some [] else none := rfl
    rw [e] at q1 q2
    cases hz : nmS z with
    | true =>
      rw [hz] at q1
      exact iteT ⟨Nat.zero_le _, fun p np => q1 [] rfl p _ (sG.trans (Sm.of (newS np) sG.2)) (SqT.of upd_same)⟩
    | false =>
      rw [hz] at q2
      refine iteF ⟨_, rfl, _, rfl, "name", z, rfl, .inr rfl, fun rs h => absurd h (by decide), fun _ G2 s2 => ?_⟩
      exact ⟨_, rfl, rfl, _, rfl, iteT (q2 rfl _ (sG.trans (Sm.of s2 sG.2)))⟩
def spBehindR (K : PySem.W.Frag) (T : List Addr) : Sp := fun vs H Q _ => ∃ (i : It') (l : Int), vs = [.str i.wd, .str i.rl, .int l] ∧ i.ok ∧ TbS T H ∧ ∀ (t : Addr) (G : Hp), Sm T H G → SqT K G t ((i.ps.map It'.rl).map V.str) → Q (.ref t) G
theorem behind_old : ∀ vs H Q E, spBehindR K T vs H Q E → spBehindW K T cN vs H Q E := by
  intro vs H Q E h
  obtain ⟨i, l, rfl, hi, tb, q⟩ := h
  have hl := wd_len hi
  refine ⟨i.wd, l, by omega, tb, .inl ⟨i.rl, rfl, nm_rl, fun rs hrs t G sG ht => ?_, fun hn => ?_⟩⟩
  · rw [bh_it hi] at hrs
    cases hrs
    exact q t G sG ht
  · rw [bh_it hi] at hn
    cases hn
/-! single, joined -/
theorem scSingle : FnScope ["word", "role"] ["word", "role"] (defScope tSingle) := ⟨rfl, rfl, rfl, by decide +kernel, rfl, by decide +kernel, by decide +kernel⟩
def spSingle : Sp := fun vs H Q _ => ∃ (x : Str), vs = [.str x, .str "name"] ∧ ∀ G : Hp, Same H G → Q (.str x) G
theorem okSingle {f : Addr} {fd : FuncData} {k : Nat} (F : Fun K "single" "single" tSingle f fd) : FnOk P w K mg base CX0 (k + 1) f fd ["word", "role"] spSingle := by
  refine F.ok scSingle (fun vs H Q E h => ?_) (fun cdv A outer s H vs Q E hr h => ?_)
  · obtain ⟨x, rfl, _⟩ := h
    rfl
  obtain ⟨x, rfl, q⟩ := h
  refine ⟨_, pss_cons (ps_if (pt_cmpR op_in_seq (pv 1) (pe_tup (pa_cons pe_str (pa_cons pe_str pa_nil))) rfl) (pss_one (ps_ret (pv 0))) pss_nil) pss_no, ?_⟩
  exact ⟨_, rfl, by show 2 ≤ sizeLine; decide, fun p hp => ⟨p, _, rfl, .inr (SqT.of upd_same), rfl, rfl, _, rfl, iteT ⟨_, rfl, q _ (newS hp)⟩⟩⟩
theorem scJoined : FnScope ["word", "role", "parts", "many"] ["word", "role", "parts"] (defScope tJoined) := ⟨rfl, rfl, rfl, by decide +kernel, rfl, by decide +kernel, by decide +kernel⟩
def spJoined (K : PySem.W.Frag) : Sp := fun vs H Q _ => ∃ (x : Str) (p : Addr) (us : List V), vs = [.str x, .str "kind", .ref p] ∧ SqL K H p us ∧ us.length ≤ 1000 ∧ ∀ (t : Addr) (G : Hp), Same H G → H t = none → G t = some (.tup (.str x :: us)) → Q (.ref t) G
theorem okJoined {f : Addr} {fd : FuncData} {k : Nat} (F : Fun K "joined" "joined" tJoined f fd) (gC : mg "COUNTED" = some (.ref dC)) (hC : CForms K w dC esC nC) : FnOk P w K mg base CX0 (k + 1) f fd ["word", "role", "parts"] (spJoined K) := by
  refine F.ok scJoined (fun vs H Q E h => ?_) (fun cdv A outer s H vs Q E hr h => ?_)
  · obtain ⟨x, p, us, rfl, _⟩ := h
    rfl
  obtain ⟨x, p, us, rfl, hp, hl, q⟩ := h
  refine ⟨_, pss_cons (ps_if (pt_cmpR (op_notIn_kd hC.dict) (pv 1) (pe_glob (v := .ref dC) (by rfl) gC rfl) rfl) (pss_one (ps_ret (pe_tup (pa_cons (pv 0) (StX.pa_star (pv 2) pa_nil))))) pss_nil) pss_no, ?_⟩
  refine ⟨_, rfl, "kind", none, rfl, rfl, hC.kind, _, rfl, iteT ?_⟩
  refine ⟨_, rfl, _, rfl, p, us, rfl, .inr hp, small (by rw [List.append_nil, List.length_cons]; omega), fun t nt => ?_⟩
  have z := q t _ (newS (o := .tup (.str x :: us)) nt) nt upd_same
  rw [List.append_nil]
  exact z
end
end Kq

namespace Kq
open PySem PySem.Spec PyProof.Rows L2 Kf Kg Kv GxR Kk
abbrev tPut : Stmt := tp 39
theorem cutFrom {xs : List V} {j : Nat} (h : j ≤ xs.length) : cutV xs (some (j : Int)) none = xs.drop j := by
  unfold cutV HT.sIx
  simp only
  rw [if_neg (by omega), Int.toNat_natCast, Nat.min_eq_left h, ← List.length_drop, List.take_length]
/-- all but the tables and the list at a stands -/
def Sx (T : List Addr) (a : Addr) (H G : Hp) : Prop := (∀ b u, b ∉ T → b ≠ a → H b = some u → G b = some u) ∧ TbS T G
theorem Sx.sm {T : List Addr} {a : Addr} {F H G : Hp} (x : Sx T a F H) (s : Sm T H G) : Sx T a F G := ⟨fun b u h n e => s.1 b u h (x.1 b u h n e), s.2⟩
theorem Sx.put {T : List Addr} {a : Addr} {F H : Hp} {o : HO} (x : Sx T a F H) (h : a ∉ T) : Sx T a F (upd H a o) :=
  ⟨fun b u h1 n e => by rw [upd_ne n]; exact x.1 b u h1 n e, fun p hp => by
    obtain ⟨ps, h1, h2⟩ := x.2 p hp
    exact ⟨ps, by rw [upd_ne (fun z => h (by rw [← z]; exact hp))]; exact h1, h2⟩⟩
theorem len_rev_sub {ws : List V} {m : Nat} (h : m ≤ ws.length) : (ws.reverse.drop (ws.length - m)) = (ws.take m).reverse := by
  rw [List.drop_reverse, show ws.length - (ws.length - m) = m by omega]
theorem take_rev_sub {ws : List V} {m : Nat} (h : m ≤ ws.length) : (ws.reverse.take (ws.length - m)) = (ws.drop m).reverse := by
  rw [List.take_reverse, show ws.length - (ws.length - m) = m by omega]
section
variable {P : Program} {w : World} {K : PySem.W.Frag} {mg : Str → Option Value} {base : Heap} {T : List Addr}
abbrev nPut : List Str := ["words", "roles", "done", "word", "role", "many", "parts"]
theorem scPut : FnScope nPut ["words", "roles"] (defScope tPut) := ⟨rfl, rfl, rfl, by decide +kernel, rfl, by decide +kernel, by decide +kernel⟩
def spPut (T : List Addr) : Sp := fun vs H Q _ => ∃ (k : Kt) (wa ra : Addr), vs = [.ref wa, .ref ra] ∧ k.ok ∧ TbS T H ∧ H wa = some (.lst (((It'.kd k).tk.map It'.wd).map V.str)) ∧ H ra = some (.lst (((It'.kd k).tk.map It'.rl).map V.str)) ∧ k.d.wt ≤ 1000000 ∧
  ∀ (q : Addr) (v : V) (G : Hp), Sm T H G → H q = none → G q = some (.lst [v]) → Dd Non G k.d v → Q (.ref q) G
theorem okPut {f fS fR fG fJ : Addr} {fd fdS fdR fdG fdJ : FuncData} {k : Nat} (F : Fun K "put_together" "put_together" tPut f fd)
    (GS : FnOk P w K mg base CX0 k fS fdS ["word", "role"] (spIsSingle T)) (bS : Binds K fdS ["word", "role"] []) (gS : mg "is_single" = some (.ref fS)) (kS : PySem.W.keepIn K (.ref fS) = true)
    (GR : FnOk P w K mg base (L2.CX P w) k fR fdR ["word", "role", "left"] (spBehindR K T)) (bR : Binds K fdR ["word", "role", "left"] []) (gR : mg "roles_behind" = some (.ref fR)) (kR : PySem.W.keepIn K (.ref fR) = true)
    (GG : FnOk P w K mg base CX0 k fG fdG ["word", "role"] spSingle) (bG : Binds K fdG ["word", "role"] []) (gG : mg "single" = some (.ref fG)) (kG : PySem.W.keepIn K (.ref fG) = true)
    (GJ : FnOk P w K mg base CX0 k fJ fdJ ["word", "role", "parts"] (spJoined K)) (bJ : Binds K fdJ ["word", "role", "parts"] []) (gJ : mg "joined" = some (.ref fJ)) (kJ : PySem.W.keepIn K (.ref fJ) = true)
    (ml : mg "list" = none) (mr : mg "reversed" = none) (mz : mg "zip" = none) (mn : mg "len" = none) : FnOk P w K mg base CX0 (k + 1) f fd ["words", "roles"] (spPut T) := by
  refine F.ok scPut (fun vs H Q E h => ?_) (fun cdv A outer s H vs Q E hr h => ?_)
  · obtain ⟨k, wa, ra, rfl, _⟩ := h
    rfl
  obtain ⟨kt, wa, ra, rfl, hk, tb, gw, gr, hw, q⟩ := h
  refine ⟨_, pss_cons (ps_set (i := 2) scPut.nd rfl (.inl rfl) (pe_lst pa_nil))
    (pss_cons (ps_for PassesOwn.never rfl (RT.pi_revA (by rfl) mr (Kz.pe_listZip rfl (by rfl) ml (by rfl) mz (pa_cons (pv 0) (pa_cons (pv 1) pa_nil)))) (pg_tup rfl (pgs_cons (pg_name (i := 3) scPut.nd rfl (.inl rfl)) (pgs_cons (pg_name (i := 4) scPut.nd rfl (.inl rfl)) pgs_nil)))
      (pss_one (ps_if (pt_val (pe_call GS hr (by rfl) gS kS bS .nil pass0 (pa_cons (pv 3) (pa_cons (pv 4) pa_nil))))
        (pss_one (ps_expr (pe_bm PySem.F.plainAttrs_list PySem.F.slot_list_append PySem.F.type_list_append mt_append (pv 2) (pa_cons (pe_call GG hr (by rfl) gG kG bG .nil pass0 (pa_cons (pv 3) (pa_cons (pv 4) pa_nil))) pa_nil))))
        (pss_cons (ps_set (i := 5) scPut.nd rfl (.inl rfl) (pe_callB call_len_seq (by rfl) mn PySem.boot_len (pa_cons (pe_call GR hr (by rfl) gR kR bR .nil passL (pa_cons (pv 3) (pa_cons (pv 4) (pa_cons (pe_callB call_len_seq (by rfl) mn PySem.boot_len (pa_cons (pv 0) pa_nil)) pa_nil)))) pa_nil)))
        (pss_cons (ps_set (i := 6) scPut.nd rfl (.inl rfl) (pe_revL (pe_slice sl_list (pv 2) (po_some (pe_op op_sub (pe_callB call_len_seq (by rfl) mn PySem.boot_len (pa_cons (pv 2) pa_nil)) (pv 5))) po_none)))
        (pss_cons (Kd.ps_delFrom (pv 2) (pe_op op_sub (pe_callB call_len_seq (by rfl) mn PySem.boot_len (pa_cons (pv 2) pa_nil)) (pv 5)))
        (pss_one (ps_expr (pe_bm PySem.F.plainAttrs_list PySem.F.slot_list_append PySem.F.type_list_append mt_append (pv 2) (pa_cons (pe_call GJ hr (by rfl) gJ kJ bJ .nil pass0 (pa_cons (pv 3) (pa_cons (pv 4) (pa_cons (pv 6) pa_nil)))) pa_nil))))))))))
    (pss_one (ps_ret (pe_revL (pv 2))))), ?_⟩
  refine ⟨by show 0 ≤ sizeLine; decide, fun da nda => ?_⟩
  have s1 := newS (o := .lst []) nda
  have g1 : (upd H da (.lst [])) da = some (.lst []) := upd_same
  generalize upd H da (.lst []) = H1 at s1 g1
  have gw1 := s1 _ _ gw
  have gr1 := s1 _ _ gr
  obtain ⟨fit, fold⟩ := kd_put kt
  have hok := tk_ok (i := .kd kt) hk
  have tl := tk_len (.kd kt)
  have hw' : (It'.kd kt).d.wt ≤ 1000000 := hw
  generalize htk : (It'.kd kt).tk = tk at gw1 gr1 fit fold hok tl
  refine ⟨_, rfl, _, rfl, wa, ra, _, _, rfl, .inl ⟨SqL.of gw1, SqL.of gr1⟩, fun zq ts F0 s2 nzq gz lt pr nts => ?_⟩
  rw [List.length_map, List.length_map, List.length_map, List.length_map, Nat.min_self] at lt
  have tb0 : TbS T F0 := (tb.same s1).same s2
  have gd0 := s2 _ _ g1
  have gw0 := s2 _ _ gw1
  have dT : da ∉ T := tb0.off gd0 fun _ z => by cases z
  have zT : zq ∉ T := tb0.off gz fun _ z => by cases z
  have zd : zq ≠ da := fun z => by rw [z, g1] at nzq; cases nzq
  have wd : wa ≠ da := fun z => by rw [← z, gw] at nda; cases nda
  have wT : wa ∉ T := tb.off gw fun _ z => by cases z
  have s12 : Same H F0 := fun b o z => s2 _ _ (s1 _ _ z)
  refine ⟨zq, _, rfl, .inl ⟨SqL.of gz, ?_⟩⟩
  refine RT.for_Itv (fun i σ G => ∃ (D : List Dt) (ws : List V) (y3 y4 y5 y6 : Option V), σ = [some (.ref wa), some (.ref ra), some (.ref da), y3, y4, y5, y6] ∧ Sx T da F0 G ∧ G da = some (.lst ws.reverse) ∧ D = fold1 (tk.drop (tk.length - i)) ∧ DdL Non G D ws ∧ D.length ≤ i)
    ⟨[], [], _, _, _, _, rfl, ⟨fun b u _ _ e => e, tb0⟩, gd0, by rw [Nat.sub_zero, List.drop_length]; rfl, .nil, Nat.le_refl _⟩ (fun i σ G ⟨D, ws, y3, y4, y5, y6, _, sx, _⟩ => SqL.of (sx.1 zq _ zT zd gz)) (fun i x σ G hi hx z => ?_) (fun σ G z => ?_)
  · obtain ⟨D, ws, y3, y4, y5, y6, rfl, sx, gd, eD, dl, lD⟩ := z
    rw [List.length_map, lt] at hi
    rw [List.length_map, lt, List.getElem?_map] at hx
    obtain ⟨t, ht, rfl⟩ := Option.map_eq_some_iff.mp hx
    have hj : tk.length - 1 - i < tk.length := by omega
    obtain ⟨it, hit⟩ : ∃ it, tk[tk.length - 1 - i]? = some it := ⟨_, List.getElem?_eq_getElem hj⟩
    have gt0 := pr _ t (.str it.wd) (.str it.rl) ht (by simp [hit]) (by simp [hit])
    have tT : t ∉ T := tb0.off gt0 fun _ z => by cases z
    have td : t ≠ da := fun z => by rw [z, gd0] at gt0; cases gt0
    have gt := sx.1 t _ tT td gt0
    have ed : tk.drop (tk.length - (i + 1)) = it :: tk.drop (tk.length - i) := by
      have h1 : tk.length - (i + 1) = tk.length - 1 - i := by omega
      have h2 : tk.length - i = tk.length - 1 - i + 1 := by omega
      rw [h1, h2, List.drop_eq_getElem_cons hj]
      congr 1
      exact Option.some.inj ((List.getElem?_eq_getElem hj).symm.trans hit)
    have iok : it.ok := hok it (List.mem_of_getElem? hit)
    have fit1 : it.ps.length ≤ D.length := by
      have z := Fit.drop (tk.length - (i + 1)) fit
      rw [ed] at z
      rw [eD]
      exact z.1
    have eD1 : fold1 (tk.drop (tk.length - (i + 1))) = put1 it D := by
      rw [ed, eD]
      rfl
    have ll := dl.len
    refine ⟨t, _, rfl, SqT.of gt, rfl, _, _, rfl, _, _, rfl, rfl, ?_⟩
    refine ⟨_, rfl, _, rfl, it, rfl, iok, sx.2, fun G1 s3 => ⟨_, rfl, ?_⟩⟩
    have sx1 := sx.sm s3
    have gd1 := s3.at sx.2 gd fun _ z => by cases z
    have dl1 := dl.kn (s3.kn sx.2)
    cases it with
    | nm n =>
      refine iteT ⟨_, rfl, .inl ⟨rfl, _, SqL.of gd1⟩, _, rfl, _, rfl, n, rfl, fun G2 s4 => ?_⟩
      have gd2 := s4 _ _ gd1
      refine ⟨da, _, _, rfl, rfl, gd2, small (by rw [List.length_reverse]; omega), ?_⟩
      have nt : ∀ xs, G2 da ≠ some (.tup xs) := fun _ z => by rw [gd2] at z; cases z
      refine ⟨.str n :: D, .str n :: ws, _, _, _, _, rfl, (sx1.sm (Sm.of s4 sx1.2)).put dT, ?_, eD1.symm, .cons (.str n) ((dl1.same s4).kn (Kn.rfl.put (fun z => z) nt)), by rw [List.length_cons]; omega⟩
      rw [List.reverse_cons]
      exact upd_same
    | kd k1 =>
      refine iteF ?_
      have gwa : G1 wa = some (.lst ((tk.map It'.wd).map V.str)) := sx1.1 wa _ wT wd gw0
      refine ⟨_, rfl, _, rfl, _, rfl, wa, _, rfl, .inl (SqL.of gwa), .kd k1, _, rfl, iok, sx1.2, fun t2 G2 s4 ht2 => ⟨t2, _, rfl, .inr ht2, ?_⟩⟩
      have sx2 := sx1.sm s4
      have gd2 := s4.at sx1.2 gd1 fun _ z => by cases z
      have dl2 := dl1.kn (s4.kn sx1.2)
      have fit2 : k1.ps.length ≤ ws.length := by rw [← ll]; exact fit1
      have em : (((It'.kd k1).ps.map It'.rl).map V.str).length = k1.ps.length := by rw [List.length_map, List.length_map]; rfl
      rw [em]
      generalize hm : k1.ps.length = m at fit2
      have ei : ((ws.reverse.length : Nat) : Int) - (m : Int) = ((ws.length - m : Nat) : Int) := by
        rw [List.length_reverse]
        omega
      refine ⟨_, rfl, _, rfl, da, _, rfl, .inl (SqL.of gd2), _, rfl, _, _, rfl, rfl, _, rfl, da, _, rfl, SqL.of gd2, fun p1 np1 => ?_⟩
      rw [ei, cutFrom (by rw [List.length_reverse]; omega), len_rev_sub fit2]
      have s5 := newS (o := .lst (ws.take m).reverse) np1
      have gp1 : (upd G2 p1 (.lst (ws.take m).reverse)) p1 = some (.lst (ws.take m).reverse) := upd_same
      generalize upd G2 p1 (.lst (ws.take m).reverse) = G3 at s5 gp1
      refine ⟨p1, _, rfl, SqL.of gp1, fun p2 np2 => ?_⟩
      rw [List.reverse_reverse]
      have s6 := newS (o := .lst (ws.take m)) np2
      have gp2 : (upd G3 p2 (.lst (ws.take m))) p2 = some (.lst (ws.take m)) := upd_same
      generalize upd G3 p2 (.lst (ws.take m)) = G4 at s6 gp2
      have s56 : Same G2 G4 := fun b o z => s6 _ _ (s5 _ _ z)
      have sx4 := sx2.sm (Sm.of s56 sx2.2)
      have gd4 := s56 _ _ gd2
      have dl4 := dl2.same s56
      have pd : p2 ≠ da := fun z => by
        rw [z, s5 _ _ gd2] at np2
        cases np2
      refine ⟨_, rfl, _, rfl, da, _, rfl, .inl (SqL.of gd4), _, rfl, _, _, rfl, rfl, _, rfl, da, _, ws.length - m, rfl, congrArg some ei, gd4, by rw [List.length_reverse]; omega, ?_⟩
      rw [take_rev_sub fit2]
      have nt4 : ∀ xs, G4 da ≠ some (.tup xs) := fun _ z => by rw [gd4] at z; cases z
      have k5 : Kn Non G4 (upd G4 da (.lst (ws.drop m).reverse)) := Kn.rfl.put (fun z => z) nt4
      have sx5 : Sx T da F0 (upd G4 da (.lst (ws.drop m).reverse)) := sx4.put dT
      have gd5 : (upd G4 da (.lst (ws.drop m).reverse)) da = some (.lst (ws.drop m).reverse) := upd_same
      have gp5 : (upd G4 da (.lst (ws.drop m).reverse)) p2 = some (.lst (ws.take m)) := by rw [upd_ne pd]; exact gp2
      have dl5 := dl4.kn k5
      generalize upd G4 da (.lst (ws.drop m).reverse) = G5 at sx5 gd5 gp5 dl5
      have lt2 : (ws.take m).length ≤ 1000 := by
        rw [List.length_take]
        have : m ≤ 2 := by
          rw [← hm]
          cases k1 <;> simp [Kt.ps]
        omega
      refine ⟨_, rfl, .inl ⟨rfl, _, SqL.of gd5⟩, _, rfl, _, rfl, _, rfl, k1.wd, p2, _, rfl, SqL.of gp5, lt2, fun t3 G6 s7 nt3 gt3 => ?_⟩
      have gd6 := s7 _ _ gd5
      have dl6 := dl5.same s7
      refine ⟨da, _, _, rfl, rfl, gd6, small (by rw [List.length_reverse, List.length_drop]; omega), ?_⟩
      have nt6 : ∀ xs, G6 da ≠ some (.tup xs) := fun _ z => by rw [gd6] at z; cases z
      have k7 : Kn Non G6 (upd G6 da (.lst ((ws.drop m).reverse ++ [.ref t3]))) := Kn.rfl.put (fun z => z) nt6
      have dl7 := dl6.kn k7
      refine ⟨.tup (.str k1.wd :: D.take m) :: D.drop m, .ref t3 :: ws.drop m, _, _, _, _, rfl, (sx5.sm (Sm.of s7 sx5.2)).put dT, ?_, ?_, .cons (.tup (k7.tup _ _ gt3) (.cons (.str _) (dl7.take m))) (dl7.drop m), ?_⟩
      · rw [List.reverse_cons]
        exact upd_same
      · rw [eD1, ← hm]
        rfl
      · rw [List.length_cons, List.length_drop]
        omega
  · obtain ⟨D, ws, y3, y4, y5, y6, rfl, sx, gd, eD, dl, lD⟩ := z
    rw [List.length_map, lt, Nat.sub_self, List.drop_zero, fold] at eD
    subst eD
    cases dl with
    | cons dv dn =>
      rename_i v us
      cases dn
      refine ⟨_, rfl, da, _, rfl, SqL.of gd, fun p np => ?_⟩
      have pT : p ∉ T := fun hp => by
        obtain ⟨ps, e, _⟩ := sx.2 p hp
        rw [e] at np
        cases np
      have up : ∀ b u, b ∉ T → H b = some u → G b = some u := fun b u hb e => sx.1 b u hb (fun z => by rw [z, nda] at e; cases e) (s12 _ _ e)
      have hp : H p = none := by
        cases e : H p with
        | none => rfl
        | some o => rw [up _ _ pT e] at np; cases np
      have sn := newS (o := .lst [v]) np
      refine q p v _ ⟨fun b u hb e => sn _ _ (up b u hb e), sx.2.same sn⟩ hp upd_same (dv.same sn)
end
end Kq

namespace Kq
open PySem PySem.Spec PyProof.Rows L2 Kf Kg Kv GxR Kk
abbrev tRead : Stmt := tp 34
abbrev tReadW : Stmt := tp 35
abbrev tReadK : Stmt := tp 43
/-- all but the tables and the lists at a, b stands -/
def Sx2 (T : List Addr) (a c : Addr) (H G : Hp) : Prop := (∀ b u, b ∉ T → b ≠ a → b ≠ c → H b = some u → G b = some u) ∧ TbS T G
theorem Sx2.sm {T : List Addr} {a c : Addr} {F H G : Hp} (x : Sx2 T a c F H) (s : Sm T H G) : Sx2 T a c F G := ⟨fun b u h n m e => s.1 b u h (x.1 b u h n m e), s.2⟩
theorem Sx2.put1 {T : List Addr} {a c : Addr} {F H : Hp} {o : HO} (x : Sx2 T a c F H) (h : a ∉ T) : Sx2 T a c F (upd H a o) :=
  ⟨fun b u h1 n m e => by rw [upd_ne n]; exact x.1 b u h1 n m e, fun p hp => by
    obtain ⟨ps, h1, h2⟩ := x.2 p hp
    exact ⟨ps, by rw [upd_ne (fun z => h (by rw [← z]; exact hp))]; exact h1, h2⟩⟩
theorem Sx2.put2 {T : List Addr} {a c : Addr} {F H : Hp} {o : HO} (x : Sx2 T a c F H) (h : c ∉ T) : Sx2 T a c F (upd H c o) :=
  ⟨fun b u h1 n m e => by rw [upd_ne m]; exact x.1 b u h1 n m e, fun p hp => by
    obtain ⟨ps, h1, h2⟩ := x.2 p hp
    exact ⟨ps, by rw [upd_ne (fun z => h (by rw [← z]; exact hp))]; exact h1, h2⟩⟩
theorem for_enumL {K : PySem.W.Frag} {a : Addr} {xs : List V} {g : TG} {tb : TS} {D : Ends} {σ : L2.St} {H : Hp} (Pv : Nat → L2.St → Hp → Prop) (h0 : Pv 0 σ H) (hq : ∀ i σ H, Pv i σ H → SqL K H a xs)
    (hs : ∀ (i : Nat) (x : V) (t : Addr) (σ : L2.St) (H : Hp), xs[i]? = some x → Pv i σ H → H t = none → g (.ref t) σ (upd H t (.tup [.int (i : Nat), x])) fun σ2 H2 => tb { D with nx := Pv (i + 1), ct := Pv (i + 1), bk := D.nx } σ2 H2) (hd : ∀ σ H, Pv xs.length σ H → D.nx σ H) :
    ∃ W : Nat → Nat → L2.St → Hp → Prop, (∃ m, W 0 m σ H) ∧ ∀ i m σ H, W i m σ H →
      ((Ite K a).stop i H ∧ D.nx σ H) ∨ ((Ite K a).go i H ∧ ∃ N : L2.St → Hp → Prop, (∀ σ' H', N σ' H' → ∃ m', m' < m ∧ W (i + 1) m' σ' H') ∧ ∀ v H', (Ite K a).yld i H v H' → g v σ H' fun σ2 H2 => tb { D with nx := N, ct := N, bk := D.nx } σ2 H2) := by
  refine ⟨fun i m σ H => m = xs.length - i ∧ i ≤ xs.length ∧ Pv i σ H, ⟨xs.length, rfl, Nat.zero_le _, h0⟩, ?_⟩
  rintro i m σ H ⟨rfl, hi, p⟩
  by_cases lt : i < xs.length
  · refine .inr ⟨⟨xs, _, hq i σ H p, List.getElem?_eq_getElem lt⟩, Pv (i + 1), fun σ' H' p' => ⟨xs.length - (i + 1), by omega, rfl, lt, p'⟩, fun v H' y => ?_⟩
    obtain ⟨t, x, rfl, nt, rfl, hy⟩ := y
    exact hs i x t σ H (hy xs (hq i σ H p)) p nt
  · have e : i = xs.length := by omega
    subst e
    exact .inl ⟨⟨xs, hq _ σ H p, Nat.le_refl _⟩, hd σ H p⟩
/-- these roles, one behind the other, are written so -/
def Acc (rs us : List Str) : Prop := ∃ its : List It', (∀ j ∈ its, j.ok) ∧ its.map It'.rl = rs ∧ (tks its).map It'.wd = us
/-- the words of a kind -/
def KdW (us : List Str) (k : Kt) : Prop := k.ok ∧ us = (It'.kd k).tk.map It'.wd
theorem map1 {f : It' → Str} {l : List It'} {x : Str} (h : l.map f = [x]) : ∃ i, l = [i] ∧ f i = x := by
  cases l with
  | nil => cases h
  | cons i l =>
    cases l with
    | nil => exact ⟨i, rfl, (List.cons.inj h).1⟩
    | cons j l => simp at h
theorem map2 {f : It' → Str} {l : List It'} {x y : Str} (h : l.map f = [x, y]) : ∃ i j, l = [i, j] ∧ f i = x ∧ f j = y := by
  cases l with
  | nil => cases h
  | cons i l =>
    obtain ⟨h1, h2⟩ := List.cons.inj h
    obtain ⟨j, rfl, h3⟩ := map1 h2
    exact ⟨i, j, rfl, h1, h3⟩
theorem acc_kind {us : List Str} (h : Acc [("kind" : Str)] us) : ∃ k, KdW us k := by
  obtain ⟨its, h1, h2, h3⟩ := h
  obtain ⟨i, rfl, h4⟩ := map1 h2
  cases i with
  | nm n => exact absurd (show ("name" : Str) = "kind" from h4) (by decide)
  | kd k =>
    refine ⟨k, h1 _ List.mem_cons_self, ?_⟩
    rw [← h3]
    simp [tks]
theorem acc_end : Acc [] [] := ⟨[], fun _ z => (nomatch z), rfl, rfl⟩
/-- what stands behind a word makes an item -/
theorem it_of {r z : Str} {fs : List Str} {as : List It'} (hr : KN r) (h : bh r z = some fs) (e : as.map It'.rl = fs) (ok : ∀ j ∈ as, j.ok) : ∃ i : It', i.ok ∧ i.rl = r ∧ i.wd = z ∧ i.ps = as := by
  rcases hr with rfl | rfl
  · have h : tblK.lookup z = some fs := h
    have two : ∀ {x y : Str}, x = "kind" → y = "kind" → as.map It'.rl = [x, y] → ∃ a b, as = [.kd a, .kd b] ∧ a.ok ∧ b.ok := by
      rintro x y rfl rfl e
      obtain ⟨i, j, rfl, e1, e2⟩ := map2 e
      cases i with
      | nm n => exact absurd (show ("name" : Str) = "kind" from e1) (by decide)
      | kd a =>
        cases j with
        | nm n => exact absurd (show ("name" : Str) = "kind" from e2) (by decide)
        | kd b => exact ⟨a, b, rfl, ok (.kd a) (by simp), ok (.kd b) (by simp)⟩
    have one : ∀ {x : Str}, x = "kind" → as.map It'.rl = [x] → ∃ a, as = [.kd a] ∧ a.ok := by
      rintro x rfl e
      obtain ⟨i, rfl, e1⟩ := map1 e
      cases i with
      | nm n => exact absurd (show ("name" : Str) = "kind" from e1) (by decide)
      | kd a => exact ⟨a, rfl, ok (.kd a) (by simp)⟩
    have onm : ∀ {x : Str}, x = "name" → as.map It'.rl = [x] → ∃ a, as = [.nm a] ∧ nmS a = true := by
      rintro x rfl e
      obtain ⟨i, rfl, e1⟩ := map1 e
      cases i with
      | nm n => exact ⟨n, rfl, ok (.nm n) (by simp)⟩
      | kd a => exact absurd (show ("kind" : Str) = "name" from e1) (by decide)
    have nil : as.map It'.rl = [] → as = [] := fun e => List.map_eq_nil_iff.mp e
    subst e
    by_cases h1 : z = "open"
    · subst h1
      obtain ⟨a, e, ha⟩ := onm rfl (Option.some.inj h).symm
      exact ⟨.kd (.op a), ha, rfl, rfl, e.symm⟩
    by_cases h2 : z = "num"
    · subst h2
      exact ⟨.kd .num, True.intro, rfl, rfl, (nil (Option.some.inj h).symm).symm⟩
    by_cases h3 : z = "truth"
    · subst h3
      exact ⟨.kd .tru, True.intro, rfl, rfl, (nil (Option.some.inj h).symm).symm⟩
    by_cases h4 : z = "pair"
    · subst h4
      obtain ⟨a, b, e, ha, hb⟩ := two rfl rfl (Option.some.inj h).symm
      exact ⟨.kd (.pr a b), ⟨ha, hb⟩, rfl, rfl, e.symm⟩
    by_cases h5 : z = "either"
    · subst h5
      obtain ⟨a, b, e, ha, hb⟩ := two rfl rfl (Option.some.inj h).symm
      exact ⟨.kd (.ei a b), ⟨ha, hb⟩, rfl, rfl, e.symm⟩
    by_cases h6 : z = "list"
    · subst h6
      obtain ⟨a, e, ha⟩ := one rfl (Option.some.inj h).symm
      exact ⟨.kd (.li a), ha, rfl, rfl, e.symm⟩
    by_cases h7 : z = "fun"
    · subst h7
      obtain ⟨a, b, e, ha, hb⟩ := two rfl rfl (Option.some.inj h).symm
      exact ⟨.kd (.fn a b), ⟨ha, hb⟩, rfl, rfl, e.symm⟩
    exfalso
    unfold tblK at h
    simp only [List.lookup_cons, beq_eq_false_iff_ne.mpr h1, beq_eq_false_iff_ne.mpr h2, beq_eq_false_iff_ne.mpr h3, beq_eq_false_iff_ne.mpr h4, beq_eq_false_iff_ne.mpr h5, beq_eq_false_iff_ne.mpr h6, beq_eq_false_iff_ne.mpr h7, List.lookup_nil] at h
    cases h
  · have h : (if nmS z = true then some [] else none) = some fs := h
    by_cases c : nmS z = true
    · rw [if_pos c] at h
      cases h
      have : as = [] := List.map_eq_nil_iff.mp e
      subst this
      exact ⟨.nm z, c, rfl, rfl, rfl⟩
    · rw [if_neg c] at h
      cases h
theorem acc_step {r z : Str} {fs rs us : List Str} (hr : KN r) (h : bh r z = some fs) (a : Acc (fs ++ rs) us) : Acc (r :: rs) (z :: us) := by
  obtain ⟨its, h1, h2, h3⟩ := a
  have e1 : (its.take fs.length).map It'.rl = fs := by
    rw [List.map_take, h2, List.take_left]
  have e2 : (its.drop fs.length).map It'.rl = rs := by
    rw [List.map_drop, h2, List.drop_left]
  obtain ⟨i, i1, i2, i3, i4⟩ := it_of hr h e1 fun j hj => h1 j (List.mem_of_mem_take hj)
  refine ⟨i :: its.drop fs.length, fun j hj => ?_, ?_, ?_⟩
  · rcases List.mem_cons.mp hj with rfl | hj
    · exact i1
    · exact h1 j (List.mem_of_mem_drop hj)
  · rw [List.map_cons, i2, e2]
  · rw [tks_cons, List.map_cons, i3, i4, List.take_append_drop, h3]
theorem bh_few {r z : Str} {fs : List Str} (hr : KN r) (h : bh r z = some fs) : fs.length ≤ 2 ∧ ∀ x ∈ fs, KN x := by
  rcases hr with rfl | rfl
  · have h : tblK.lookup z = some fs := h
    unfold tblK at h
    simp only [List.lookup_cons, List.lookup_nil] at h
    repeat' split at h
    all_goals first | (cases h; exact ⟨by decide, fun x hx => absurd hx List.not_mem_nil⟩) | (cases h; exact ⟨by decide, fun x hx => by simp at hx; simp [KN, hx]⟩) | cases h
  · have h : (if nmS z = true then some [] else none) = some fs := h
    split at h <;> cases h
    exact ⟨by decide, fun _ z => (nomatch z)⟩
section
variable {P : Program} {w : World} {K : PySem.W.Frag} {mg : Str → Option Value} {base : Heap} {T : List Addr} {cN : Addr}
abbrev nReadW : List Str := ["words", "first", "again", "waiting", "roles", "at", "word", "asked", "left"]
theorem scReadW : FnScope nReadW ["words", "first", "again"] (defScope tReadW) := ⟨rfl, rfl, rfl, by decide +kernel, rfl, by decide +kernel, by decide +kernel⟩
def spReadW (T : List Addr) (cN : Addr) : Sp := fun vs H Q E => ∃ (ws : List Str) (wa fa : Addr), vs = [.ref wa, .ref fa, .non] ∧ TbS T H ∧ H wa = some (.lst (ws.map V.str)) ∧ H fa = some (.tup [.str "kind"]) ∧ 1 ≤ ws.length ∧ ws.length ≤ 1000000 ∧ (∀ x ∈ ws, x.length ≤ 1000000) ∧
  (∀ k, KdW ws k → k.d.wt ≤ 1000000 ∧ ∀ (q : Addr) (v : V) (G : Hp), Sm T H G → H q = none → G q = some (.lst [v]) → Dd Non G k.d v → Q (.ref q) G) ∧ ((∀ k, ¬ KdW ws k) → ∀ G : Hp, Sm T H G → E (.ref cN) none G)
theorem okReadW {f fR fP : Addr} {fd fdR fdP : FuncData} {k : Nat} (F : Fun K "read_words" "read_words" tReadW f fd) (nt : NT K mg cN)
    (GR : FnOk P w K mg base (L2.CX P w) k fR fdR ["word", "role", "left"] (spBehindW K T cN)) (bR : Binds K fdR ["word", "role", "left"] []) (gR : mg "roles_behind" = some (.ref fR)) (kR : PySem.W.keepIn K (.ref fR) = true)
    (GP : FnOk P w K mg base CX0 k fP fdP ["words", "roles"] (spPut T)) (bP : Binds K fdP ["words", "roles"] []) (gP : mg "put_together" = some (.ref fP)) (kP : PySem.W.keepIn K (.ref fP) = true)
    (ml : mg "list" = none) (mr : mg "reversed" = none) (me : mg "enumerate" = none) (mn : mg "len" = none) : FnOk P w K mg base (L2.CX P w) (k + 1) f fd ["words", "first", "again"] (spReadW T cN) := by
  refine F.okX scReadW (fun vs H Q E h => ?_) (fun cdv A outer s H vs Q E hr h => ?_)
  · obtain ⟨ws, wa, fa, rfl, _⟩ := h
    rfl
  obtain ⟨ws, wa, fa, rfl, tb, gw, gf, hw1, hwN, hwl, qY, qN⟩ := h
  refine ⟨_, pss_cons (ps_if (pt_cmpR op_gt (pe_callB call_len_seq (by rfl) mn PySem.boot_len (pa_cons (pv 1) pa_nil)) (pe_callB call_len_seq (by rfl) mn PySem.boot_len (pa_cons (pv 0) pa_nil)) (nomark _)) pss_no pss_nil)
    (pss_cons (ps_set (i := 3) scReadW.nd rfl (.inl rfl) (pe_callTy call_list_of (by rfl) ml boot_list (pa_cons (Kv.pe_revT (pv 1)) pa_nil)))
    (pss_cons (ps_set (i := 4) scReadW.nd rfl (.inl rfl) (pe_lst pa_nil))
    (pss_cons (ps_for (passes_of rfl) rfl (pi_enum (by rfl) me (pa_cons (pv 0) pa_nil)) (pg_tup rfl (pgs_cons (pg_name (i := 5) scReadW.nd rfl (.inl rfl)) (pgs_cons (pg_name (i := 6) scReadW.nd rfl (.inl rfl)) pgs_nil)))
      (pss_cons (ps_if (pt_not (pt_truth (pv 3) (by intro _; rfl))) (pss_one (ps_expr (pe_bm PySem.F.plainAttrs_list PySem.F.slot_list_append PySem.F.type_list_append mt_append (pv 3) (pa_cons (pv 2) pa_nil)))) pss_nil)
      (pss_cons (ps_set (i := 7) scReadW.nd rfl (.inl rfl) (pe_bm0 PySem.F.plainAttrs_list PySem.F.slot_list_pop PySem.F.type_list_pop mt_pop (pv 3)))
      (pss_cons (ps_expr (pe_bm PySem.F.plainAttrs_list PySem.F.slot_list_append PySem.F.type_list_append mt_append (pv 4) (pa_cons (pv 7) pa_nil)))
      (pss_cons (ps_set (i := 8) scReadW.nd rfl (.inl rfl) (pe_op op_sub (pe_op op_sub (pe_callB call_len_seq (by rfl) mn PySem.boot_len (pa_cons (pv 0) pa_nil)) (pv 5)) pe_int))
      (pss_cons (ps_expr (pe_bm PySem.F.plainAttrs_list PySem.F.slot_list_extend PySem.F.type_list_extend mt_extend (pv 3) (pa_cons (Kp.pe_listRevT rfl (by rfl) ml (by rfl) mr (pe_callS GR hr (by rfl) gR kR bR (fun σ => passAt (takes_of rfl rfl rfl rfl) σ) (pa_cons (pv 6) (pa_cons (pv 7) (pa_cons (pv 8) pa_nil))))) pa_nil)))
      (pss_one (ps_if (pt_cmpR op_gt (pe_callB call_len_seq (by rfl) mn PySem.boot_len (pa_cons (pv 3) pa_nil)) (pv 8) (nomark _)) (pss_one (ps_raise rfl (takes_of rfl rfl rfl rfl) (pmk_own PySem.F.excBase_ValueError nt.xP nt.gP nt.kP (raises_own nt.bP nt.tP) rfl))) pss_nil))))))))
    (pss_one (ps_ret (pe_call GP hr (by rfl) gP kP bP .nil pass0 (pa_cons (pv 0) (pa_cons (pv 4) pa_nil)))))))), ?_⟩
  by_cases hk : ∃ k, KdW ws k
  · obtain ⟨kt, hk, rfl⟩ := hk
    obtain ⟨hw, q⟩ := qY kt ⟨hk, rfl⟩
    have hok := tk_ok (i := .kd kt) hk
    have tl := tk_len (.kd kt)
    have hw' : (It'.kd kt).d.wt ≤ 1000000 := hw
    have e0 : tks [It'.kd kt] = (It'.kd kt).tk := by simp [tks]
    have e1 := It'.tk_eq (.kd kt)
    generalize htk : (It'.kd kt).tk = tk at gw hok tl e0 e1
    have lp : 1 ≤ tk.length := by rw [e1, List.length_cons]; omega
    refine ⟨_, rfl, fa, _, rfl, .inr (SqT.of gf), _, rfl, wa, _, rfl, .inl (SqL.of gw), _, _, rfl, rfl, _, rfl, ite2 (fun e => ?_) (fun _ => ?_)⟩
    · have z : (1 : Int) > ((((tk.map It'.wd).map V.str).length : Nat) : Int) := of_decide_eq_true e
      rw [List.length_map, List.length_map] at z
      omega
    refine ⟨_, rfl, fa, _, rfl, SqT.of gf, fun p1 np1 => ⟨p1, _, rfl, .inr (SqT.of upd_same), fun la nla => ?_⟩⟩
    have s1 := newS (o := .tup [V.str "kind"].reverse) np1
    generalize upd H p1 (.tup [V.str "kind"].reverse) = H1 at s1 nla
    have s2 := newS (o := .lst [V.str "kind"].reverse) nla
    have gl2 : (upd H1 la (.lst [V.str "kind"].reverse)) la = some (.lst [V.str "kind"]) := upd_same
    generalize upd H1 la (.lst [V.str "kind"].reverse) = H2 at s2 gl2
    refine ⟨by show 0 ≤ sizeLine; decide, fun ra nra => ?_⟩
    have s3 := newS (o := .lst []) nra
    have gr3 : (upd H2 ra (.lst [])) ra = some (.lst []) := upd_same
    have gl3 := s3 _ _ gl2
    have lr : la ≠ ra := ne_of_none gl2 nra
    generalize upd H2 ra (.lst []) = H3 at s3 gr3 gl3
    have s123 : Same H H3 := fun b o z => s3 _ _ (s2 _ _ (s1 _ _ z))
    have tb3 := tb.same s123
    have gw3 := s123 _ _ gw
    have lT : la ∉ T := tb3.off gl3 fun _ z => by cases z
    have rT : ra ∉ T := tb3.off gr3 fun _ z => by cases z
    have wT : wa ∉ T := tb3.off gw3 fun _ z => by cases z
    have nlH : H la = none := by
      cases z : H la with
      | none => rfl
      | some o => rw [s1 _ _ z] at nla; cases nla
    have nrH : H ra = none := by
      cases z : H ra with
      | none => rfl
      | some o => rw [s2 _ _ (s1 _ _ z)] at nra; cases nra
    have wl : wa ≠ la := ne_of_none gw nlH
    have wr : wa ≠ ra := ne_of_none gw nrH
    have lm : ((tk.map It'.wd).map V.str).length = tk.length := by rw [List.length_map, List.length_map]
    refine ⟨_, rfl, wa, _, rfl, SqL.of gw3, ?_⟩
    refine for_enumL (fun i σ G => ∃ (rest : List It') (y5 y6 y7 y8 : Option V), σ = [some (.ref wa), some (.ref fa), some .non, some (.ref la), some (.ref ra), y5, y6, y7, y8] ∧ Sx2 T la ra H3 G ∧ G la = some (.lst (rest.map fun j => V.str j.rl).reverse) ∧ G ra = some (.lst (((tk.take i).map It'.rl).map V.str)) ∧ tks rest = tk.drop i)
      ⟨[.kd kt], _, _, _, _, rfl, ⟨fun b u _ _ _ e => e, tb3⟩, gl3, gr3, e0⟩ (fun i σ G ⟨_, _, _, _, _, _, sx, _⟩ => SqL.of (sx.1 wa _ wT wl wr gw3)) (fun i x t σ G hx z nt => ?_) (fun σ G z => ?_)
    · obtain ⟨rest, y5, y6, y7, y8, rfl, sx, gl, gr, er⟩ := z
      have hi : i < tk.length := by
        have := (List.getElem?_eq_some_iff.mp hx).1
        rw [lm] at this
        exact this
      obtain ⟨it, hit⟩ : ∃ it, tk[i]? = some it := ⟨_, List.getElem?_eq_getElem hi⟩
      have ed : tk.drop i = it :: tk.drop (i + 1) := by
        rw [List.drop_eq_getElem_cons hi]
        congr 1
        exact Option.some.inj ((List.getElem?_eq_getElem hi).symm.trans hit)
      obtain ⟨r2, rfl, er2⟩ : ∃ r2, rest = it :: r2 ∧ tks (it.ps ++ r2) = tk.drop (i + 1) := by
        cases rest with
        | nil =>
          rw [ed] at er
          cases er
        | cons j r2 =>
          rw [tks_cons, ed] at er
          obtain ⟨e3, e4⟩ := List.cons.inj er
          subst e3
          exact ⟨r2, rfl, e4⟩
      have ex : x = V.str it.wd := by
        rw [List.getElem?_map, List.getElem?_map, hit] at hx
        exact (Option.some.inj hx).symm
      subst ex
      have iok : it.ok := hok it (List.mem_of_getElem? hit)
      have tk1 : tk.take (i + 1) = tk.take i ++ [it] := by rw [List.take_add_one, hit]; rfl
      rw [List.map_cons, List.reverse_cons] at gl
      have lw : (it.ps ++ r2).length ≤ tk.length - i - 1 := by
        have h1 : (tks (it.ps ++ r2)).length = tk.length - (i + 1) := by rw [er2, List.length_drop]
        have h2 : (it.ps ++ r2).length ≤ (tks (it.ps ++ r2)).length := by
          unfold tks
          generalize it.ps ++ r2 = l
          induction l with
          | nil => exact Nat.zero_le _
          | cons j l ih =>
            rw [List.flatMap_cons, It'.tk_eq]
            simp only [List.length_append, List.length_cons]
            omega
        omega
      have gwG := sx.1 wa _ wT wl wr gw3
      have s4 := newS (o := .tup [.int (i : Nat), .str it.wd]) nt
      have gt1 : (upd G t (.tup [.int (i : Nat), .str it.wd])) t = some (.tup [.int (i : Nat), .str it.wd]) := upd_same
      have sx1 := sx.sm (Sm.of s4 sx.2)
      have gl1 := s4 _ _ gl
      have gr1 := s4 _ _ gr
      have gw1 := s4 _ _ gwG
      generalize upd G t (.tup [.int (i : Nat), .str it.wd]) = G1 at gt1 sx1 gl1 gr1 gw1
      refine ⟨t, _, rfl, SqT.of gt1, rfl, _, _, rfl, _, _, rfl, rfl, ?_⟩
      refine ⟨_, rfl, _, .inl ⟨_, SqL.of gl1, rfl⟩, ite2 (fun e => ?_) (fun _ => ?_)⟩
      · exfalso
        simp at e
      refine ⟨_, rfl, .inl ⟨rfl, _, SqL.of gl1⟩, la, _, .str it.rl, rfl, rfl, gl1, ?_, ?_⟩
      · rw [List.length_append, List.length_singleton, Nat.add_sub_cancel, List.getElem?_concat_length]
      rw [List.dropLast_concat]
      have sx2 : Sx2 T la ra H3 (upd G1 la (.lst (r2.map fun j => V.str j.rl).reverse)) := sx1.put1 lT
      have gl2 : (upd G1 la (.lst (r2.map fun j => V.str j.rl).reverse)) la = some (.lst (r2.map fun j => V.str j.rl).reverse) := upd_same
      have gr2 : (upd G1 la (.lst (r2.map fun j => V.str j.rl).reverse)) ra = some (.lst (((tk.take i).map It'.rl).map V.str)) := by rw [upd_ne (Ne.symm lr)]; exact gr1
      have gw2 : (upd G1 la (.lst (r2.map fun j => V.str j.rl).reverse)) wa = some (.lst ((tk.map It'.wd).map V.str)) := by rw [upd_ne wl]; exact gw1
      generalize upd G1 la (.lst (r2.map fun j => V.str j.rl).reverse) = G2 at sx2 gl2 gr2 gw2
      refine ⟨_, rfl, .inl ⟨rfl, _, SqL.of gr2⟩, _, rfl, ra, _, _, rfl, rfl, gr2, small (by rw [List.length_map, List.length_map, List.length_take]; omega), ?_⟩
      have er3 : ((tk.take i).map It'.rl).map V.str ++ [V.str it.rl] = ((tk.take (i + 1)).map It'.rl).map V.str := by rw [tk1]; simp
      rw [er3]
      have sx3 : Sx2 T la ra H3 (upd G2 ra (.lst (((tk.take (i + 1)).map It'.rl).map V.str))) := sx2.put2 rT
      have gr3' : (upd G2 ra (.lst (((tk.take (i + 1)).map It'.rl).map V.str))) ra = some (.lst (((tk.take (i + 1)).map It'.rl).map V.str)) := upd_same
      have gl3' : (upd G2 ra (.lst (((tk.take (i + 1)).map It'.rl).map V.str))) la = some (.lst (r2.map fun j => V.str j.rl).reverse) := by rw [upd_ne lr]; exact gl2
      have gw3' : (upd G2 ra (.lst (((tk.take (i + 1)).map It'.rl).map V.str))) wa = some (.lst ((tk.map It'.wd).map V.str)) := by rw [upd_ne wr]; exact gw2
      generalize upd G2 ra (.lst (((tk.take (i + 1)).map It'.rl).map V.str)) = G3 at sx3 gr3' gl3' gw3'
      refine ⟨_, rfl, wa, _, rfl, .inl (SqL.of gw3'), _, rfl, _, _, rfl, rfl, _, _, rfl, rfl, ?_⟩
      refine ⟨_, rfl, .inl ⟨rfl, _, SqL.of gl3'⟩, _, rfl, _, rfl, _, rfl, it.wd, _, (by have := wd_len iok; omega), sx3.2, .inl ⟨it.rl, rfl, nm_rl, fun rs hrs t2 G4 s5 ht2 => ?_, fun hn => by rw [bh_it iok] at hn; cases hn⟩⟩
      rw [bh_it iok] at hrs
      cases hrs
      refine ⟨t2, _, rfl, ht2, fun q1 nq1 => ?_⟩
      have sx4 := sx3.sm s5
      have gl4 := s5.at sx3.2 gl3' fun _ z => by cases z
      have gr4 := s5.at sx3.2 gr3' fun _ z => by cases z
      have s6 := newS (o := .lst ((it.ps.map It'.rl).map V.str).reverse) nq1
      have gq5 : (upd G4 q1 (.lst ((it.ps.map It'.rl).map V.str).reverse)) q1 = some (.lst ((it.ps.map It'.rl).map V.str).reverse) := upd_same
      have sx5 := sx4.sm (Sm.of s6 sx4.2)
      have gl5 := s6 _ _ gl4
      have gr5 := s6 _ _ gr4
      generalize upd G4 q1 (.lst ((it.ps.map It'.rl).map V.str).reverse) = G5 at gq5 sx5 gl5 gr5
      rw [List.length_append] at lw
      refine ⟨la, q1, _, _, rfl, rfl, gl5, gq5, small (by simp only [List.length_reverse, List.length_map]; omega), ?_⟩
      have ec : (r2.map fun j => V.str j.rl).reverse ++ ((it.ps.map It'.rl).map V.str).reverse = ((it.ps ++ r2).map fun j => V.str j.rl).reverse := by
        rw [List.map_append, List.reverse_append, List.map_map]
        rfl
      rw [ec]
      refine ⟨_, rfl, la, _, rfl, .inl (SqL.of upd_same), _, rfl, _, _, rfl, rfl, _, rfl, ite2 (fun e => ?_) (fun _ => ?_)⟩
      · exfalso
        have z := of_decide_eq_true e
        rw [lm] at z
        simp only [List.length_reverse, List.length_map, List.length_append] at z
        omega
      · refine ⟨it.ps ++ r2, _, _, _, _, rfl, sx5.put1 lT, upd_same, ?_, er2⟩
        rw [upd_ne (Ne.symm lr)]
        exact gr5
    · obtain ⟨rest, y5, y6, y7, y8, rfl, sx, gl, gr, er⟩ := z
      rw [lm, List.take_length] at gr
      have gwG := sx.1 wa _ wT wl wr gw3
      have up : ∀ b u, b ∉ T → H b = some u → G b = some u := fun b u hb e => sx.1 b u hb (ne_of_none e nlH) (ne_of_none e nrH) (s123 _ _ e)
      refine ⟨_, rfl, _, rfl, kt, wa, ra, rfl, hk, sx.2, by rw [htk]; exact gwG, by rw [htk]; exact gr, hw, fun qa v G2 s2 nq gq dv => ?_⟩
      have hq : H qa = none := by
        cases z : H qa with
        | none => rfl
        | some o =>
          by_cases hT : qa ∈ T
          · obtain ⟨ps, e, _⟩ := sx.2 qa hT
            rw [e] at nq
            cases nq
          · rw [up _ _ hT z] at nq
            cases nq
      exact q qa v G2 ⟨fun b u hb e => s2.1 b u hb (up b u hb e), s2.2⟩ hq gq dv
  · have hk : ∀ k, ¬ KdW ws k := fun k z => hk ⟨k, z⟩
    have qE := qN hk
    have na0 : ¬ Acc [("kind" : Str)] ws := fun a => by
      obtain ⟨k, z⟩ := acc_kind a
      exact hk k z
    refine ⟨_, rfl, fa, _, rfl, .inr (SqT.of gf), _, rfl, wa, _, rfl, .inl (SqL.of gw), _, _, rfl, rfl, _, rfl, ite2 (fun e => ?_) (fun _ => ?_)⟩
    · have z : (1 : Int) > (((ws.map V.str).length : Nat) : Int) := of_decide_eq_true e
      rw [List.length_map] at z
      omega
    refine ⟨_, rfl, fa, _, rfl, SqT.of gf, fun p1 np1 => ⟨p1, _, rfl, .inr (SqT.of upd_same), fun la nla => ?_⟩⟩
    have s1 := newS (o := .tup [V.str "kind"].reverse) np1
    generalize upd H p1 (.tup [V.str "kind"].reverse) = H1 at s1 nla
    have s2 := newS (o := .lst [V.str "kind"].reverse) nla
    have gl2 : (upd H1 la (.lst [V.str "kind"].reverse)) la = some (.lst ((["kind"] : List Str).map V.str).reverse) := upd_same
    generalize upd H1 la (.lst [V.str "kind"].reverse) = H2 at s2 gl2
    refine ⟨by show 0 ≤ sizeLine; decide, fun ra nra => ?_⟩
    have s3 := newS (o := .lst []) nra
    have gr3 : (upd H2 ra (.lst [])) ra = some (.lst []) := upd_same
    have gl3 := s3 _ _ gl2
    have lr : la ≠ ra := ne_of_none gl2 nra
    generalize upd H2 ra (.lst []) = H3 at s3 gr3 gl3
    have s123 : Same H H3 := fun b o z => s3 _ _ (s2 _ _ (s1 _ _ z))
    have tb3 := tb.same s123
    have gw3 := s123 _ _ gw
    have lT : la ∉ T := tb3.off gl3 fun _ z => by cases z
    have rT : ra ∉ T := tb3.off gr3 fun _ z => by cases z
    have wT : wa ∉ T := tb3.off gw3 fun _ z => by cases z
    have nlH : H la = none := by
      cases z : H la with
      | none => rfl
      | some o => rw [s1 _ _ z] at nla; cases nla
    have nrH : H ra = none := by
      cases z : H ra with
      | none => rfl
      | some o => rw [s2 _ _ (s1 _ _ z)] at nra; cases nra
    have wl : wa ≠ la := ne_of_none gw nlH
    have wr : wa ≠ ra := ne_of_none gw nrH
    have lm : (ws.map V.str).length = ws.length := List.length_map _
    have up : ∀ G, Sx2 T la ra H3 G → Sm T H G := fun G sx => ⟨fun b u hb e => sx.1 b u hb (ne_of_none e nlH) (ne_of_none e nrH) (s123 _ _ e), sx.2⟩
    refine ⟨_, rfl, wa, _, rfl, SqL.of gw3, ?_⟩
    refine for_enumL (fun i σ G => ∃ (rs : List Str) (ro : List V) (y5 y6 y7 y8 : Option V), σ = [some (.ref wa), some (.ref fa), some .non, some (.ref la), some (.ref ra), y5, y6, y7, y8] ∧ Sx2 T la ra H3 G ∧ G la = some (.lst (rs.map V.str).reverse) ∧ G ra = some (.lst ro) ∧ ro.length = i ∧ (∀ x ∈ rs, KN x) ∧ rs.length ≤ ws.length - i ∧ ¬ Acc rs (ws.drop i))
      ⟨["kind"], [], _, _, _, _, rfl, ⟨fun b u _ _ _ e => e, tb3⟩, gl3, gr3, rfl, fun x hx => .inl (List.mem_singleton.mp hx), by simpa using hw1, na0⟩ (fun i σ G ⟨_, _, _, _, _, _, _, sx, _⟩ => SqL.of (sx.1 wa _ wT wl wr gw3)) (fun i x t σ G hx z nt => ?_) (fun σ G z => ?_)
    rotate_left
    · obtain ⟨rs, ro, y5, y6, y7, y8, rfl, sx, gl, gr, lro, hkn, hrl, na⟩ := z
      exfalso
      rw [lm, Nat.sub_self] at hrl
      have e : rs = [] := List.length_eq_zero_iff.mp (Nat.le_zero.mp hrl)
      rw [lm, List.drop_length, e] at na
      exact na acc_end
    obtain ⟨rs, ro, y5, y6, y7, y8, rfl, sx, gl, gr, lro, hkn, hrl, na⟩ := z
    have hi : i < ws.length := by
      have := (List.getElem?_eq_some_iff.mp hx).1
      rw [lm] at this
      exact this
    obtain ⟨z, hz⟩ : ∃ z, ws[i]? = some z := ⟨_, List.getElem?_eq_getElem hi⟩
    have ed : ws.drop i = z :: ws.drop (i + 1) := by
      rw [List.drop_eq_getElem_cons hi]
      congr 1
      exact Option.some.inj ((List.getElem?_eq_getElem hi).symm.trans hz)
    have ex : x = V.str z := by
      rw [List.getElem?_map, hz] at hx
      exact (Option.some.inj hx).symm
    subst ex
    have hzl := hwl z (List.mem_of_getElem? hz)
    have gwG := sx.1 wa _ wT wl wr gw3
    have s4 := newS (o := .tup [.int (i : Nat), .str z]) nt
    have gt1 : (upd G t (.tup [.int (i : Nat), .str z])) t = some (.tup [.int (i : Nat), .str z]) := upd_same
    have sx1 := sx.sm (Sm.of s4 sx.2)
    have gl1 := s4 _ _ gl
    have gr1 := s4 _ _ gr
    have gw1 := s4 _ _ gwG
    generalize upd G t (.tup [.int (i : Nat), .str z]) = G1 at gt1 sx1 gl1 gr1 gw1
    refine ⟨t, _, rfl, SqT.of gt1, rfl, _, _, rfl, _, _, rfl, rfl, ?_⟩
    cases rs with
    | nil =>
      -- words behind the end
      refine ⟨_, rfl, _, .inl ⟨_, SqL.of gl1, rfl⟩, iteT ?_⟩
      refine ⟨_, rfl, .inl ⟨rfl, _, SqL.of gl1⟩, _, rfl, la, _, _, rfl, rfl, gl1, by show 0 < sizeLine; decide, ?_⟩
      have sx2 : Sx2 T la ra H3 (upd G1 la (.lst [.non])) := sx1.put1 lT
      have gl2 : (upd G1 la (.lst [.non])) la = some (.lst [.non]) := upd_same
      have gr2 : (upd G1 la (.lst [.non])) ra = some (.lst ro) := by rw [upd_ne (Ne.symm lr)]; exact gr1
      have gw2 : (upd G1 la (.lst [.non])) wa = some (.lst (ws.map V.str)) := by rw [upd_ne wl]; exact gw1
      show _
      have e0 : (([] : List Str).map V.str).reverse ++ [V.non] = [V.non] := rfl
      rw [e0]
      generalize upd G1 la (.lst [.non]) = G2 at sx2 gl2 gr2 gw2
      refine ⟨_, rfl, .inl ⟨rfl, _, SqL.of gl2⟩, la, _, .non, rfl, rfl, gl2, rfl, ?_⟩
      have sx3 : Sx2 T la ra H3 (upd G2 la (.lst [])) := sx2.put1 lT
      have gr3' : (upd G2 la (.lst [])) ra = some (.lst ro) := by rw [upd_ne (Ne.symm lr)]; exact gr2
      have gl3' : (upd G2 la (.lst [])) la = some (.lst []) := upd_same
      have gw3' : (upd G2 la (.lst [])) wa = some (.lst (ws.map V.str)) := by rw [upd_ne wl]; exact gw2
      show _
      have e1 : ([V.non] : List V).dropLast = [] := rfl
      rw [e1]
      generalize upd G2 la (.lst []) = G3 at sx3 gl3' gr3' gw3'
      refine ⟨_, rfl, .inl ⟨rfl, _, SqL.of gr3'⟩, _, rfl, ra, _, _, rfl, rfl, gr3', small (by omega), ?_⟩
      have sx4 : Sx2 T la ra H3 (upd G3 ra (.lst (ro ++ [.non]))) := sx3.put2 rT
      have gl4 : (upd G3 ra (.lst (ro ++ [.non]))) la = some (.lst []) := by rw [upd_ne lr]; exact gl3'
      have gw4 : (upd G3 ra (.lst (ro ++ [.non]))) wa = some (.lst (ws.map V.str)) := by rw [upd_ne wr]; exact gw3'
      generalize upd G3 ra (.lst (ro ++ [.non])) = G4 at sx4 gl4 gw4
      refine ⟨_, rfl, wa, _, rfl, .inl (SqL.of gw4), _, rfl, _, _, rfl, rfl, _, _, rfl, rfl, ?_⟩
      refine ⟨_, rfl, .inl ⟨rfl, _, SqL.of gl4⟩, _, rfl, _, rfl, _, rfl, z, _, hzl, sx4.2, .inr ⟨rfl, fun G5 s5 => qE G5 (up _ (sx4.sm s5))⟩⟩
    | cons r rs =>
      have hkr : KN r := hkn r List.mem_cons_self
      rw [List.map_cons, List.reverse_cons] at gl1
      refine ⟨_, rfl, _, .inl ⟨_, SqL.of gl1, rfl⟩, ite2 (fun e => ?_) (fun _ => ?_)⟩
      · exfalso
        simp at e
      refine ⟨_, rfl, .inl ⟨rfl, _, SqL.of gl1⟩, la, _, .str r, rfl, rfl, gl1, ?_, ?_⟩
      · rw [List.length_append, List.length_singleton, Nat.add_sub_cancel, List.getElem?_concat_length]
      rw [List.dropLast_concat]
      have sx2 : Sx2 T la ra H3 (upd G1 la (.lst (rs.map V.str).reverse)) := sx1.put1 lT
      have gl2 : (upd G1 la (.lst (rs.map V.str).reverse)) la = some (.lst (rs.map V.str).reverse) := upd_same
      have gr2 : (upd G1 la (.lst (rs.map V.str).reverse)) ra = some (.lst ro) := by rw [upd_ne (Ne.symm lr)]; exact gr1
      have gw2 : (upd G1 la (.lst (rs.map V.str).reverse)) wa = some (.lst (ws.map V.str)) := by rw [upd_ne wl]; exact gw1
      generalize upd G1 la (.lst (rs.map V.str).reverse) = G2 at sx2 gl2 gr2 gw2
      refine ⟨_, rfl, .inl ⟨rfl, _, SqL.of gr2⟩, _, rfl, ra, _, _, rfl, rfl, gr2, small (by omega), ?_⟩
      have sx3 : Sx2 T la ra H3 (upd G2 ra (.lst (ro ++ [.str r]))) := sx2.put2 rT
      have gr3' : (upd G2 ra (.lst (ro ++ [.str r]))) ra = some (.lst (ro ++ [.str r])) := upd_same
      have gl3' : (upd G2 ra (.lst (ro ++ [.str r]))) la = some (.lst (rs.map V.str).reverse) := by rw [upd_ne lr]; exact gl2
      have gw3' : (upd G2 ra (.lst (ro ++ [.str r]))) wa = some (.lst (ws.map V.str)) := by rw [upd_ne wr]; exact gw2
      generalize upd G2 ra (.lst (ro ++ [.str r])) = G3 at sx3 gr3' gl3' gw3'
      refine ⟨_, rfl, wa, _, rfl, .inl (SqL.of gw3'), _, rfl, _, _, rfl, rfl, _, _, rfl, rfl, ?_⟩
      refine ⟨_, rfl, .inl ⟨rfl, _, SqL.of gl3'⟩, _, rfl, _, rfl, _, rfl, z, _, hzl, sx3.2, .inl ⟨r, rfl, hkr, fun fs hfs t2 G4 s5 ht2 => ⟨t2, _, rfl, ht2, fun q1 nq1 => ?_⟩, fun _ G5 s5 => qE G5 (up _ (sx3.sm s5))⟩⟩
      obtain ⟨fl, fkn⟩ := bh_few hkr hfs
      have sx4 := sx3.sm s5
      have gl4 := s5.at sx3.2 gl3' fun _ z => by cases z
      have gr4 := s5.at sx3.2 gr3' fun _ z => by cases z
      have s6 := newS (o := .lst (fs.map V.str).reverse) nq1
      have gq5 : (upd G4 q1 (.lst (fs.map V.str).reverse)) q1 = some (.lst (fs.map V.str).reverse) := upd_same
      have sx5 := sx4.sm (Sm.of s6 sx4.2)
      have gl5 := s6 _ _ gl4
      have gr5 := s6 _ _ gr4
      generalize upd G4 q1 (.lst (fs.map V.str).reverse) = G5 at gq5 sx5 gl5 gr5
      rw [List.length_cons] at hrl
      refine ⟨la, q1, _, _, rfl, rfl, gl5, gq5, small (by simp only [List.length_reverse, List.length_map]; omega), ?_⟩
      have ec : (rs.map V.str).reverse ++ (fs.map V.str).reverse = ((fs ++ rs).map V.str).reverse := by
        rw [List.map_append, List.reverse_append]
      rw [ec]
      have sx6 : Sx2 T la ra H3 (upd G5 la (.lst ((fs ++ rs).map V.str).reverse)) := sx5.put1 lT
      refine ⟨_, rfl, la, _, rfl, .inl (SqL.of upd_same), _, rfl, _, _, rfl, rfl, _, rfl, ite2 (fun _ => qE _ (up _ sx6)) (fun e => ?_)⟩
      have le : (fs ++ rs).length ≤ ws.length - (i + 1) := by
        have z : ¬ ((((((fs ++ rs).map V.str).reverse).length : Nat) : Int) > (((ws.map V.str).length : Nat) : Int) - (i : Int) - 1) := fun h => e (decide_eq_true h)
        rw [List.length_reverse, List.length_map, lm] at z
        omega
      refine ⟨fs ++ rs, ro ++ [.str r], _, _, _, _, rfl, sx6, upd_same, ?_, ?_, ?_, le, ?_⟩
      · rw [upd_ne (Ne.symm lr)]
        exact gr5
      · rw [List.length_append, List.length_singleton, lro]
      · intro x hx
        rcases List.mem_append.mp hx with hx | hx
        · exact fkn x hx
        · exact hkn x (List.mem_cons_of_mem _ hx)
      · intro a
        refine na ?_
        rw [ed]
        exact acc_step hkr hfs a
end
end Kq

/-! text.replace(' ', '  ', 1): the first one alone; how many blanks a text has -/
namespace Kr1
open PySem PySem.Builtin PySem.Builtin.Str PySem.Spec PyProof.Rows L2 CwR
/-- x with the first y put otherwise -/
def rep1 (x y z : Str) : Str := if ((occurrences x y 0 x.length 1).isEmpty || (y.length == 0 && z.length == 0)) = true then x else glued z (partsBetween x (occurrences x y 0 x.length 1) y.length)
theorem gives_rep1 (x y z : Str) (t u v w : Tok) (h0 : (u == 0 || v == 0) = false) (huv : (u == v) = false) (hyz : (y == z) = false) (hl : tooLong (x.length + (occurrences x y 0 x.length 1).length * z.length) = false) :
    Gives («str.replace» ⟨[.str x t, .str y u, .str z v, .int 1 w], []⟩) (if ((occurrences x y 0 x.length 1).isEmpty || (y.length == 0 && z.length == 0)) = true then .val (.str x t) else .str (glued z (partsBetween x (occurrences x y 0 x.length 1) y.length))) := by
  show Gives (do let limit ← countLimit "str.replace" (some (.int 1 w)) (x.length + 1); _) _
  rw [countLimit_int "str.replace" 1 w (x.length + 1) (by decide)]
  show Gives (if ((occurrences x y 0 x.length 1).isEmpty || (y.length == 0 && z.length == 0)) = true then (do rule "str.replace.nothing"; ret (.str x t)) else
          (do let same ← isSame (.str y u) (.str z v)
              if same = true then (do rule "str.replace.old-is-new"; ret (.str x t)) else
              if tooLong (x.length + (occurrences x y 0 x.length 1).length * z.length) = true then unsupported "str.replace:memory" else
              retStr (glued z (partsBetween x (occurrences x y 0 x.length 1) y.length)))) _
  cases hc : ((occurrences x y 0 x.length 1).isEmpty || (y.length == 0 && z.length == 0))
  · rw [isSame_str_other y z u v h0 huv hyz, hl]
    exact .of_eq rfl
  · exact .rule (.of_eq rfl)
/-- what it is -/
theorem rep1_see (x y z : Str) : rep1 x y z = x ∨ ∃ i : Nat, TL.tl (rep1 x y z) = (TL.tl x).take i ++ TL.tl z ++ (TL.tl x).drop (i + y.length) := by
  unfold rep1
  by_cases hc : ((occurrences x y 0 x.length 1).isEmpty || (y.length == 0 && z.length == 0)) = true
  · exact .inl (if_pos hc)
  · rw [if_neg hc]
    have h1 := StrLaws.occ_length_le x y 0 x.length 1
    match ho : occurrences x y 0 x.length 1, h1 with
    | [], _ =>
      rw [ho] at hc
      exact absurd rfl hc
    | [i], _ =>
      refine .inr ⟨i, ?_⟩
      show TL.tl ⟨(strSub x 0 i).cps ++ z.cps ++ (strSub x (i + y.length) x.length).cps⟩ = _
      have e1 := TL.tl_strSub x 0 i
      have e2 := TL.tl_strSub_end x (i + y.length)
      show ((strSub x 0 i).cps ++ z.cps ++ (strSub x (i + y.length) x.length).cps).toList = _
      rw [Array.toList_append, Array.toList_append]
      rw [List.drop_zero, Nat.sub_zero] at e1
      rw [show (strSub x 0 i).cps.toList = (TL.tl x).take i from e1, show (strSub x (i + y.length) x.length).cps.toList = (TL.tl x).drop (i + y.length) from e2]
theorem rep1_len (x y z : Str) : (rep1 x y z).length ≤ x.length + z.length := by
  rcases rep1_see x y z with h | ⟨i, h⟩
  · rw [h]; omega
  · rw [TL.len_tl (rep1 x y z), h, TL.len_tl x, TL.len_tl z]
    simp only [List.length_append, List.length_take, List.length_drop]
    omega
def tRep1 (to : TE) (y z : Str) : TE := fun σ H Q => to σ H fun v H1 => ∃ x, v = .str x ∧ x.length + z.length ≤ 16777216 ∧ Q (.str (rep1 x y z)) H1
section
variable {X : Cx} {o e f : Expr} {te tf : TE} {to : TE} {y z : Str} {j k l : Nat} {c0 c1 c2 apos pos p p' : Pos}
theorem pet_rep1 (ho : PE X o to) (hyz : (y == z) = false := by decide)
    (hst : starEach [.Constant (.str y) j c0, .Constant (.str z) k c1, .Constant (.int 1) l c2] X.env = [(false, eval (.Constant (.str y) j c0) X.env), (false, eval (.Constant (.str z) k c1) X.env), (false, eval (.Constant (.int 1) l c2) X.env)] := by rfl)
    (hbase : attributeBase o "replace" X.env (eval o X.env) = eval o X.env := by rfl) (hline : (apos.endLine == pos.line) = true := by rfl) :
    PET X (.Call (.Attribute o "replace" apos) [.Constant (.str y) j c0, .Constant (.str z) k c1, .Constant (.int 1) l c2] [] pos) (tRep1 to y z) := by
  intro pins s σ H Q h0 I h
  refine wpAny_Call_method_lateS hbase (by rw [hst]; rfl) hline ?_
  rw [hst]
  refine wpAny_mono (PySem.wpAny_toks (ho.run pins s σ H _ I h)) (fun v s1 q => ?_) fun _ _ z => z.2
  obtain ⟨hk, v', H1, I1, r1, x, e1, hb, q⟩ := q
  subst e1
  obtain ⟨tx, e2⟩ := r1
  subst e2
  refine ⟨"str", _, PySem.F.plainAttrs_str, PySem.F.slot_str_replace, PySem.F.type_str_replace, typeIs_str _ _ _, (fun _ e => nomatch e), Calls.callWith_builtin rfl (Calls.evalArgs_plain (Calls.spliced_cons ?_))⟩
  refine Calls.Constant_str (k := j) (pos := c0) (Calls.spliced_cons (Calls.Constant_str (k := k) (pos := c1) (Calls.spliced_cons ?_)))
  refine thn ((pe_int (X := X) (i := 1) (j := l) (pos := c2)).run pins _ σ H1 (fun v G => v = .int 1 ∧ G = H1) ((I1.tok _).tok _) ⟨rfl, rfl⟩) fun iv s2 ⟨v2, H2, I2, r2, e2, e3⟩ => Calls.spliced_nil ?_
  subst e2 e3
  obtain ⟨tw, rfl⟩ := r2
  have hl : tooLong (x.length + (occurrences x y 0 x.length 1).length * z.length) = false := by
    have h1 := StrLaws.occ_length_le x y 0 x.length 1
    have h2 : (occurrences x y 0 x.length 1).length * z.length ≤ 1 * z.length := Nat.mul_le_mul_right _ h1
    unfold tooLong sizeLine
    exact decide_eq_false (by omega)
  have n0 : s1.toks ≠ 0 := by omega
  have h0' : (s1.toks == 0 || s1.toks + 1 == 0) = false := by simp [n0]
  refine call_gives PySem.F.slot_str_replace (typeIs_str _ _ _) PySem.F.entry_str_replace (PySem.F.args_str_replace_4 _ _ _ _)
    (gives_rep1 x y z tx s1.toks (s1.toks + 1) tw h0' (by simp) hyz hl) ?_
  have hf := rep1_len x y z
  unfold rep1 at q hf
  cases hc : ((occurrences x y 0 x.length 1).isEmpty || (y.length == 0 && z.length == 0))
  · rw [hc] at q hf
    simp only [Bool.false_eq_true, if_false] at q hf ⊢
    exact ⟨by rw [sizeLine_eq]; omega, ⟨.str (glued z (partsBetween x (occurrences x y 0 x.length 1) y.length)), H2, I2.tok _, ⟨_, rfl⟩, q⟩⟩
  · rw [hc] at q
    simp only [if_true] at q ⊢
    exact ⟨.str x, H2, I2, ⟨tx, rfl⟩, q⟩
/-- a + 'lit', ..: behind it a token is out -/
theorem pa_lit {op : Operator} {r : R2} {a : Expr} {ta : TE} {tes : TA} {es : List Expr} (hop : OpR X (binaryOp op) r) (ha : PE X a ta) (hr : PAT X es tes)
    (hs : starEach (.BinOp a op (.Constant (.str y) j c0) pos :: es) X.env = (false, eval (.BinOp a op (.Constant (.str y) j c0) pos) X.env) :: starEach es X.env := by rfl) :
    PA X (.BinOp a op (.Constant (.str y) j c0) pos :: es) (tCons (tOp r ta (tC (.str y))) tes) := by
  refine ⟨fun bp pins s σ H Q I h => ?_⟩
  rw [hs]
  show wpAny _ _ (spliced ((false, eval (.BinOp a op (.Constant (.str y) j c0) pos) X.env) :: backTo bp (starEach es X.env))) _ _ s
  refine Calls.spliced_cons (wpAny_BinOp (thn (ha.run pins s σ H _ I h) fun v s1 ⟨x, H1, I1, r1, q1⟩ => Calls.Constant_str ?_))
  have q1 : r x (.str y) H1 _ := q1
  refine wpAny_mono (PySem.wpAny_toks (hop pins { s1 with toks := s1.toks + 1 } σ H1 x (.str y) v (.str y s1.toks) _ (I1.tok _) r1 ⟨_, rfl⟩ q1)) (fun v2 s2 q => ?_) fun _ _ z => z.2
  obtain ⟨hk, x2, H2, I2, r2, q2⟩ := q
  have hk : s1.toks + 1 ≤ s2.toks := hk
  exact thn (hr bp pins s2 σ H2 _ (by omega) I2 q2) fun us s3 ⟨xs, H3, I3, r3, q3⟩ => ⟨x2 :: xs, H3, I3, .cons r2 r3, q3⟩
end
/-! blanks -/
def nb (x : Str) : Nat := (TL.tl x).count 32
theorem cnt_count : ∀ l : List Nat, cnt 32 l = (l.count 32 : Nat)
  | [] => rfl
  | n :: r => by
    rw [cnt_cons, cnt_count r, List.count_cons]
    by_cases h : n = 32
    · subst h
      simp
      omega
    · simp [h]
theorem words_len (x : Str) : (Txt.split x (Str.ofString " ")).length = nb x + 1 := by
  have h := split_len x 32
  rw [cnt_count] at h
  have e : (⟨#[32]⟩ : Str) = Str.ofString " " := by decide +kernel
  rw [e] at h
  show (Txt.split x (Str.ofString " ")).length = List.count 32 x.cps.toList + 1
  omega
theorem nb_app (x y : Str) : nb (x ++ y) = nb x + nb y := by
  unfold nb
  rw [TL.tl_append, List.count_append]
theorem words_free (x : Str) : ∀ p ∈ Txt.split x (Str.ofString " "), nb p = 0 := by
  have e : (⟨#[32]⟩ : Str) = Str.ofString " " := by decide +kernel
  intro p hp
  rw [← e] at hp
  have h := StrLaws.split_free x 32 p hp
  unfold nb
  exact List.count_eq_zero.mpr h
theorem nb_join : ∀ {ws : List Str}, (∀ p ∈ ws, nb p = 0) → nb (Txt.join (Str.ofString " ") ws) ≤ ws.length - 1 := by
  intro ws h
  unfold nb at h ⊢
  rw [TL.join_eq, TL.tl_join]
  have key : ∀ {l : List (List Nat)}, (∀ p ∈ l, p.count 32 = 0) → (TL.joinL (TL.tl (Str.ofString " ")) l).count 32 ≤ l.length - 1 := by
    intro l
    induction l with
    | nil => exact fun _ => Nat.le_refl _
    | cons a r ih =>
      intro h
      cases r with
      | nil => 
        show a.count 32 ≤ 0
        rw [h a List.mem_cons_self]
        exact Nat.le_refl _
      | cons b r =>
        have ih := ih fun p hp => h p (List.mem_cons_of_mem _ hp)
        show (a ++ (TL.tl (Str.ofString " ") ++ TL.joinL (TL.tl (Str.ofString " ")) (b :: r))).count 32 ≤ _
        rw [List.count_append, List.count_append, h a List.mem_cons_self, show (TL.tl (Str.ofString " ")).count 32 = 1 from by decide +kernel]
        simp only [List.length_cons] at ih ⊢
        omega
  have := key (l := ws.map TL.tl) fun p hp => by
    obtain ⟨q, hq, rfl⟩ := List.mem_map.mp hp
    exact h q hq
  rw [List.length_map] at this
  exact this
theorem count_cut (l m : List Nat) (i j : Nat) : (l.take i ++ m ++ l.drop (i + j)).count 32 ≤ l.count 32 + m.count 32 := by
  rw [List.count_append, List.count_append]
  have e : l.count 32 = (l.take i).count 32 + (l.drop i).count 32 := by rw [← List.count_append, List.take_append_drop]
  have s : (l.drop (i + j)).count 32 ≤ (l.drop i).count 32 := by
    rw [← List.drop_drop]
    exact List.Sublist.count_le _ (List.drop_sublist _ _)
  omega
theorem nb_rep1 (x y z : Str) : nb (rep1 x y z) ≤ nb x + nb z := by
  rcases rep1_see x y z with h | ⟨i, h⟩
  · rw [h]; exact Nat.le_add_right _ _
  · unfold nb
    rw [h]
    exact count_cut _ _ _ _
/-- a word of a text is no longer than it, its signs are the text's -/
theorem spl_mem {S : List Nat} : ∀ (n : Nat) (k : Nat) (acc l : List Nat), l.length ≤ n → ∀ p ∈ TL.spl S k acc l, ∀ c ∈ p, c ∈ acc ∨ c ∈ l
  | n, k, acc, [], _, p, hp, c, hc => by
    rw [TL.spl_nil] at hp
    rw [List.mem_singleton.mp hp] at hc
    exact .inl hc
  | 0, k, acc, d :: r, hn, _, _, _, _ => by simp at hn
  | n + 1, k, acc, d :: r, hn, p, hp, c, hc => by
    have hn : r.length ≤ n := by simpa using hn
    cases k with
    | zero =>
      cases h : TL.pre S (d :: r) with
      | true =>
        rw [TL.spl_hit h] at hp
        rcases List.mem_cons.mp hp with rfl | hp
        · exact .inl hc
        · rcases spl_mem n _ [] r hn p hp c hc with z | z
          · cases z
          · exact .inr (List.mem_cons_of_mem _ z)
      | false =>
        rw [TL.spl_miss h] at hp
        rcases spl_mem n _ _ r hn p hp c hc with z | z
        · rcases List.mem_append.mp z with z | z
          · exact .inl z
          · rw [List.mem_singleton.mp z]; exact .inr List.mem_cons_self
        · exact .inr (List.mem_cons_of_mem _ z)
    | succ k =>
      have hp : p ∈ TL.spl S k acc r := hp
      rcases spl_mem n _ _ r hn p hp c hc with z | z
      · exact .inl z
      · exact .inr (List.mem_cons_of_mem _ z)
theorem spl_lens {S : List Nat} : ∀ (n : Nat) (k : Nat) (acc l : List Nat), l.length ≤ n → ∀ p ∈ TL.spl S k acc l, p.length ≤ acc.length + l.length
  | n, k, acc, [], _, p, hp => by
    rw [TL.spl_nil] at hp
    rw [List.mem_singleton.mp hp]
    omega
  | 0, k, acc, d :: r, hn, _, _ => by simp at hn
  | n + 1, k, acc, d :: r, hn, p, hp => by
    have hn : r.length ≤ n := by simpa using hn
    rw [List.length_cons]
    cases k with
    | zero =>
      cases h : TL.pre S (d :: r) with
      | true =>
        rw [TL.spl_hit h] at hp
        rcases List.mem_cons.mp hp with rfl | hp
        · omega
        · have := spl_lens n _ [] r hn p hp
          rw [List.length_nil] at this
          omega
      | false =>
        rw [TL.spl_miss h] at hp
        have := spl_lens n _ _ r hn p hp
        rw [List.length_append, List.length_singleton] at this
        omega
    | succ k =>
      have hp : p ∈ TL.spl S k acc r := hp
      have := spl_lens n _ _ r hn p hp
      omega
theorem split_tl (x : Str) : (Txt.split x (Str.ofString " ")).map TL.tl = TL.spl (TL.tl (Str.ofString " ")) 0 [] (TL.tl x) := TL.split_spl x _ (by decide +kernel) (TL.kind_ok (by decide +kernel))
theorem word_len (x : Str) : ∀ p ∈ Txt.split x (Str.ofString " "), p.length ≤ x.length := by
  intro p hp
  have h : TL.tl p ∈ TL.spl (TL.tl (Str.ofString " ")) 0 [] (TL.tl x) := by
    rw [← split_tl]
    exact List.mem_map_of_mem hp
  have := spl_lens _ 0 [] (TL.tl x) (Nat.le_refl _) _ h
  rw [TL.len_tl p, TL.len_tl x]
  simpa using this
theorem word_mem (x : Str) : ∀ p ∈ Txt.split x (Str.ofString " "), ∀ c ∈ TL.tl p, c ∈ TL.tl x := by
  intro p hp c hc
  have h : TL.tl p ∈ TL.spl (TL.tl (Str.ofString " ")) 0 [] (TL.tl x) := by
    rw [← split_tl]
    exact List.mem_map_of_mem hp
  rcases spl_mem _ 0 [] (TL.tl x) (Nat.le_refl _) _ h c hc with z | z
  · cases z
  · exact z
end Kr1

namespace Kq
open PySem PySem.Spec PyProof.Rows L2 Kf Kg Kv GxR Kk Kr1
open TL in
theorem joinL_len (S : List Nat) : ∀ ps : List (List Nat), (joinL S ps).length ≤ (ps.map fun p => p.length + S.length).sum
  | [] => Nat.le_refl _
  | [p] => by
    show p.length ≤ p.length + S.length + 0
    omega
  | p :: q :: r => by
    have ih := joinL_len S (q :: r)
    show (p ++ (S ++ joinL S (q :: r))).length ≤ p.length + S.length + ((q :: r).map fun p => p.length + S.length).sum
    rw [List.length_append, List.length_append]
    omega
open TL in
theorem tx_len (k : Kt) : k.tx.length ≤ k.d.wt := by
  have h := it_wt (.kd k)
  have e : (tl k.tx).length = k.tx.length := Array.length_toList
  rw [← e]
  refine Nat.le_trans ?_ h
  unfold Kt.tx
  rw [join_eq, tl_join]
  refine Nat.le_trans (joinL_len _ _) ?_
  rw [show (tl (Str.ofString " ")).length = 1 from rfl]
  generalize (It'.kd k).tk = l
  induction l with
  | nil => exact Nat.le_refl _
  | cons j l ih =>
    rw [List.map_cons, List.map_cons, List.map_cons, List.map_cons, List.sum_cons, List.sum_cons]
    have e1 : (tl j.wd).length = j.wd.length := Array.length_toList
    rw [e1]
    omega
theorem lets_no : (32 : Nat) ∉ lets.cps.toList := by decide +kernel
open TL in
theorem wd_no {i : It'} (h : i.ok) : (32 : Nat) ∉ tl i.wd := by
  cases i with
  | nm n =>
    have h : nmS n = true := h
    unfold nmS at h
    intro z
    have h2 := List.all_eq_true.mp (Bool.and_eq_true_iff.mp h).2 _ z
    exact lets_no (of_decide_eq_true h2)
  | kd k => cases k <;> (show (32 : Nat) ∉ tl _; simp only [It'.wd, Kt.wd]; decide +kernel)
open TL in
theorem tx_split {k : Kt} (h : k.ok) : Txt.split k.tx (Str.ofString " ") = (It'.kd k).tk.map It'.wd := by
  unfold Kt.tx
  refine split_join (s := 32) (S := []) rfl (by decide +kernel) ?_ (fun p hp => ?_)
  · rw [It'.tk_eq]
    simp
  · obtain ⟨i, hi, rfl⟩ := List.mem_map.mp hp
    exact wd_no (tk_ok (i := .kd k) h i hi)
/-- the kind that a text writes -/
def Rk (z : Str) (k : Kt) : Prop := KdW (Txt.split z (Str.ofString " ")) k ∧ k.isK = true
theorem wt_tk : ∀ {k : Kt}, k.ok → k.d.wt ≤ 150 * (It'.kd k).tk.length := by
  obtain ⟨w1, w2, w3, w4, w5, w6, w7⟩ := wlen
  intro k
  induction k with
  | op n =>
    intro h
    have := nmS_len h
    simp only [Kt.d, Dt.wt, Dt.wts, w1, It'.tk, Kt.tk, List.length_cons, List.length_nil]
    omega
  | num =>
    intro h
    simp only [Kt.d, Dt.wt, Dt.wts, w2, It'.tk, Kt.tk, List.length_cons, List.length_nil]
    omega
  | tru =>
    intro h
    simp only [Kt.d, Dt.wt, Dt.wts, w3, It'.tk, Kt.tk, List.length_cons, List.length_nil]
    omega
  | pr a b i j =>
    intro h
    have i := i h.1
    have j := j h.2
    simp only [Kt.d, Dt.wt, Dt.wts, w4, It'.tk, Kt.tk, List.length_cons, List.length_append] at i j ⊢
    omega
  | ei a b i j =>
    intro h
    have i := i h.1
    have j := j h.2
    simp only [Kt.d, Dt.wt, Dt.wts, w5, It'.tk, Kt.tk, List.length_cons, List.length_append] at i j ⊢
    omega
  | li a i =>
    intro h
    have i := i h
    simp only [Kt.d, Dt.wt, Dt.wts, w6, It'.tk, Kt.tk, List.length_cons] at i ⊢
    omega
  | fn a b i j =>
    intro h
    have i := i h.1
    have j := j h.2
    simp only [Kt.d, Dt.wt, Dt.wts, w7, It'.tk, Kt.tk, List.length_cons, List.length_append] at i j ⊢
    omega
theorem KdW.wt {us : List Str} {k : Kt} (h : KdW us k) : k.d.wt ≤ 150 * us.length := by
  have z := wt_tk h.1
  rw [h.2, List.length_map]
  exact z
section
variable {P : Program} {w : World} {K : PySem.W.Frag} {mg : Str → Option Value} {base : Heap} {T : List Addr} {cN : Addr}
theorem scRead : FnScope ["text", "role"] ["text", "role"] (defScope tRead) := ⟨rfl, rfl, rfl, by decide +kernel, rfl, by decide +kernel, by decide +kernel⟩
def spRead (T : List Addr) (cN : Addr) : Sp := fun vs H Q E => ∃ (v : V) (x : Dt), vs = [v, .str "kind"] ∧ Dd Any H x v ∧ TbS T H ∧ (x.isStr = false → ∀ G : Hp, Sm T H G → E (.ref cN) none G) ∧
  (∀ z, x = .str z → z.length ≤ 100000 ∧ nb z ≤ 1000 ∧ (∀ k, KdW (Txt.split z (Str.ofString " ")) k → ∀ (v : V) (G : Hp), Sm T H G → Dd Non G k.d v → Q v G) ∧ ((∀ k, ¬ KdW (Txt.split z (Str.ofString " ")) k) → ∀ G : Hp, Sm T H G → E (.ref cN) none G))
theorem okRead {f fW : Addr} {fd fdW : FuncData} {k : Nat} (F : Fun K "read" "read" tRead f fd) (nt : NT K mg cN)
    (GW : FnOk P w K mg base (L2.CX P w) k fW fdW ["words", "first", "again"] (spReadW T cN)) (bW : Binds K fdW ["words", "first", "again"] []) (gW : mg "read_words" = some (.ref fW)) (kW : PySem.W.keepIn K (.ref fW) = true)
    (mi : mg "isinstance" = none) (ms : mg "str" = none) : FnOk P w K mg base (L2.CX P w) (k + 1) f fd ["text", "role"] (spRead T cN) := by
  refine F.okX scRead (fun vs H Q E h => ?_) (fun cdv A outer s H vs Q E hr h => ?_)
  · obtain ⟨v, x, rfl, _⟩ := h
    rfl
  obtain ⟨v, x, rfl, hd, tb, qN, qS⟩ := h
  refine ⟨_, pss_cons (ps_if (pt_not (pt_val (pe_callB (isiK K rfl) (by rfl) mi PyProof.Rows.boot_isinstance (pa_cons (pv 0) (pa_cons (pe_bltn (v := .ty "str") (by rfl) ms PyProof.Rows.boot_str rfl) pa_nil))))) (pss_one (ps_raise rfl (takes_of rfl rfl rfl rfl) (pmk_own PySem.F.excBase_ValueError nt.xP nt.gP nt.kP (raises_own nt.bP nt.tP) rfl))) pss_nil)
    (pss_one (ps_ret (pe_ix ix_list (pe_callS GW hr (by rfl) gW kW bW (fun σ => passAt (takes_of rfl rfl rfl rfl) σ) (pa_cons (pe_split (pv 0) pe_str) (pa_cons (pe_tup (pa_cons (pv 1) pa_nil)) (pa_cons pe_non pa_nil)))) pe_int (fun _ _ => rfl)))), ?_⟩
  refine ⟨_, rfl, _, _, _, _, x.isStr, rfl, .ty "str", hd.ty, kStr K x, _, rfl, ?_⟩
  refine ite2 (fun e => qN (by cases h : x.isStr with
    | false => rfl
    | true => rw [h] at e; cases e) _ (Sm.refl tb)) (fun e => ?_)
  obtain ⟨z, rfl⟩ : ∃ z, x = .str z := by
    cases x with
    | str z => exact ⟨z, rfl⟩
    | _ => exact absurd rfl e
  obtain ⟨hz, hn, q1, q2⟩ := qS z rfl
  cases hd
  refine ⟨_, rfl, ⟨_, rfl⟩, z, _, rfl, rfl, rfl, by rw [sizeLine_eq]; omega, fun wa nwa => ?_⟩
  have hl := words_len z
  have hw := word_len z
  have hfit : (Txt.split z (Str.ofString " ")).length = nb z + 1 := hl
  generalize hws : Txt.split z (Str.ofString " ") = ws at q1 q2 hl hw hfit
  have s1 := newS (o := .lst (ws.map V.str)) nwa
  have gw : (upd H wa (.lst (ws.map V.str))) wa = some (.lst (ws.map V.str)) := upd_same
  generalize upd H wa (.lst (ws.map V.str)) = H1 at s1 gw
  refine ⟨_, rfl, by show 1 ≤ sizeLine; decide, fun fa nfa => ?_⟩
  have s2 := newS (o := .tup [.str "kind"]) nfa
  have s12 : Same H (upd H1 fa (.tup [.str "kind"])) := fun b o z => s2 _ _ (s1 _ _ z)
  refine ⟨ws, wa, fa, rfl, (tb.same s1).same s2, s2 _ _ gw, upd_same, by omega, by omega, fun x hx => by have := hw x hx; omega, fun k hk => ⟨by have := hk.wt; omega, fun qa v G sG nq gq dv => ?_⟩, fun hk G sG => q2 hk G ((Sm.of s12 tb).trans sG)⟩
  exact ⟨qa, _, _, _, rfl, rfl, SqL.of gq, atI_nat (j := 0) rfl, q1 k hk v G ((Sm.of s12 tb).trans sG) dv⟩
theorem scReadK : FnScope ["text", "kind"] ["text"] (defScope tReadK) := ⟨rfl, rfl, rfl, by decide +kernel, rfl, by decide +kernel, by decide +kernel⟩
def spReadK (T : List Addr) (cN : Addr) : Sp := fun vs H Q E => ∃ (v : V) (x : Dt), vs = [v] ∧ Dd Any H x v ∧ TbS T H ∧ (x.isStr = false → ∀ G : Hp, Sm T H G → E (.ref cN) none G) ∧
  (∀ z, x = .str z → z.length ≤ 100000 ∧ nb z ≤ 1000 ∧ (∀ k, Rk z k → ∀ (v : V) (G : Hp), Sm T H G → Dd Non G k.d v → Q v G) ∧ ((∀ k, ¬ Rk z k) → ∀ G : Hp, Sm T H G → E (.ref cN) none G))
theorem kd_uniq {us : List Str} {a b : Kt} (h1 : KdW us a) (h2 : KdW us b) : a = b := kd_inj (h1.2.symm.trans h2.2)
theorem okReadK {f fR fK : Addr} {fd fdR fdK : FuncData} {k : Nat} (F : Fun K "read_kind" "read_kind" tReadK f fd) (nt : NT K mg cN)
    (GR : FnOk P w K mg base (L2.CX P w) k fR fdR ["text", "role"] (spRead T cN)) (bR : Binds K fdR ["text", "role"] []) (gR : mg "read" = some (.ref fR)) (kR : PySem.W.keepIn K (.ref fR) = true)
    (GK : FnOk P w K mg base CX0 k fK fdK ["thing"] (spYes T kndD)) (bK : Binds K fdK ["thing"] []) (gK : mg "is_kind" = some (.ref fK)) (kK : PySem.W.keepIn K (.ref fK) = true) : FnOk P w K mg base (L2.CX P w) (k + 1) f fd ["text"] (spReadK T cN) := by
  refine F.okX scReadK (fun vs H Q E h => ?_) (fun cdv A outer s H vs Q E hr h => ?_)
  · obtain ⟨v, x, rfl, _⟩ := h
    rfl
  obtain ⟨v, x, rfl, hd, tb, qN, qS⟩ := h
  refine ⟨_, pss_cons (ps_set (i := 1) scReadK.nd rfl (.inl rfl) (pe_callS GR hr (by rfl) gR kR bR (fun σ => passAt (takes_of rfl rfl rfl rfl) σ) (pa_cons (pv 0) (pa_cons pe_str pa_nil))))
    (pss_cons (ps_if (pt_not (pt_val (pe_call GK hr (by rfl) gK kK bK .nil pass0 (pa_cons (pv 1) pa_nil)))) (pss_one (ps_raise rfl (takes_of rfl rfl rfl rfl) (pmk_own PySem.F.excBase_ValueError nt.xP nt.gP nt.kP (raises_own nt.bP nt.tP) rfl))) pss_nil) (pss_one (ps_ret (pv 1)))), ?_⟩
  refine ⟨_, rfl, v, x, rfl, hd, tb, qN, fun z hz => ?_⟩
  obtain ⟨h1, h2, q1, q2⟩ := qS z hz
  refine ⟨h1, h2, fun kt hk v2 G sG dv => ?_, fun hk G sG => q2 (fun k hk2 => hk k hk2.1) G sG⟩
  have hwt := hk.wt
  rw [words_len] at hwt
  refine ⟨_, rfl, v2, kt.d, rfl, dv.any, by rw [sizeLine_eq]; omega, sG.2, fun G2 s2 => ⟨_, rfl, ?_⟩⟩
  rw [kndD_d hk.1]
  cases hK : kt.isK with
  | true => exact iteF ⟨_, rfl, q1 kt ⟨hk, hK⟩ v2 G2 (sG.trans s2) (dv.kn (s2.kn sG.2))⟩
  | false =>
    refine iteT (q2 (fun k hk2 => ?_) G2 (sG.trans s2))
    have e := kd_uniq hk hk2.1
    subst e
    have z := hk2.2
    rw [hK] at z
    cases z
end
end Kq

namespace Kq
open PySem PySem.Spec PyProof.Rows L2 Kf Kg Kv GxR Kk
abbrev tLShow : Stmt := tp 52
def Kt.dp : Kt → Nat
  | .op _ => 0
  | .num => 0
  | .tru => 0
  | .pr a b => max a.dp b.dp + 1
  | .ei a b => max a.dp b.dp + 1
  | .li a => a.dp + 1
  | .fn a b => max a.dp b.dp + 1
def Kt.sz : Kt → Nat
  | .op _ => 1
  | .num => 1
  | .tru => 1
  | .pr a b => 1 + (a.sz + b.sz)
  | .ei a b => 1 + (a.sz + b.sz)
  | .li a => 1 + a.sz
  | .fn a b => 1 + (a.sz + b.sz)
theorem ps_dp {k k1 : Kt} (h : It'.kd k1 ∈ k.ps) : k1.dp + 1 ≤ k.dp := by
  cases k <;> simp only [Kt.ps, List.mem_cons, List.not_mem_nil, or_false, It'.kd.injEq, reduceCtorEq] at h
  · rcases h with rfl | rfl <;> (simp only [Kt.dp]; omega)
  · rcases h with rfl | rfl <;> (simp only [Kt.dp]; omega)
  · subst h; simp only [Kt.dp]; omega
  · rcases h with rfl | rfl <;> (simp only [Kt.dp]; omega)
theorem ps_wt {k : Kt} {i : It'} (h : i ∈ k.ps) : i.d.wt ≤ k.d.wt := by
  cases k <;> simp only [Kt.ps, List.mem_cons, List.not_mem_nil, or_false] at h
  · subst h; simp only [It'.d, Kt.d, Dt.wt, Dt.wts]; omega
  · rcases h with rfl | rfl <;> (simp only [It'.d, Kt.d, Dt.wt, Dt.wts]; omega)
  · rcases h with rfl | rfl <;> (simp only [It'.d, Kt.d, Dt.wt, Dt.wts]; omega)
  · subst h; simp only [It'.d, Kt.d, Dt.wt, Dt.wts]; omega
  · rcases h with rfl | rfl <;> (simp only [It'.d, Kt.d, Dt.wt, Dt.wts]; omega)
/-- the text of a name or a kind -/
def It'.tx (i : It') : Str := Txt.join (Str.ofString " ") (i.tk.map It'.wd)
/-- the text so far -/
def pre (k : Kt) (i : Nat) : Str := Txt.join (Str.ofString " ") ((It'.kd k :: tks (k.ps.take i)).map It'.wd)
open TL in
theorem joinL_app (S : List Nat) : ∀ {xs ys : List (List Nat)}, xs ≠ [] → ys ≠ [] → joinL S (xs ++ ys) = joinL S xs ++ (S ++ joinL S ys)
  | [], _, h, _ => absurd rfl h
  | [x], [], _, h => absurd rfl h
  | [x], y :: ys, _, _ => rfl
  | x :: z :: xs, ys, _, h => by
    have ih := joinL_app S (xs := z :: xs) (ys := ys) (by simp) h
    show x ++ (S ++ joinL S (z :: xs ++ ys)) = (x ++ (S ++ joinL S (z :: xs))) ++ (S ++ joinL S ys)
    rw [ih]
    simp only [List.append_assoc]
open TL in
theorem pre_next {k : Kt} {i : Nat} {p : It'} (h : k.ps[i]? = some p) : pre k (i + 1) = pre k i ++ Str.ofString " " ++ p.tx := by
  refine ext_tl ?_
  unfold pre It'.tx
  rw [tl_append, tl_append, join_eq, join_eq, join_eq, tl_join, tl_join, tl_join]
  have e : k.ps.take (i + 1) = k.ps.take i ++ [p] := by rw [List.take_add_one, h]; rfl
  have e2 : It'.kd k :: tks (k.ps.take (i + 1)) = (It'.kd k :: tks (k.ps.take i)) ++ p.tk := by
    rw [e]
    unfold tks
    rw [List.flatMap_append]
    simp
  rw [e2, List.map_append, List.map_append, joinL_app _ (by simp) (by rw [It'.tk_eq]; simp), List.append_assoc]
theorem pre_len (k : Kt) (i : Nat) : (pre k i).length ≤ k.d.wt := by
  have key : ∀ l : List It', (Txt.join (Str.ofString " ") (l.map It'.wd)).length ≤ (l.map fun j => j.wd.length + 1).sum := by
    intro l
    have e : (TL.tl (Txt.join (Str.ofString " ") (l.map It'.wd))).length = (Txt.join (Str.ofString " ") (l.map It'.wd)).length := Array.length_toList
    rw [← e, TL.join_eq, TL.tl_join]
    refine Nat.le_trans (joinL_len _ _) ?_
    rw [show (TL.tl (Str.ofString " ")).length = 1 from rfl]
    induction l with
    | nil => exact Nat.le_refl _
    | cons j l ih =>
      have ih := ih Array.length_toList
      rw [List.map_cons, List.map_cons, List.map_cons, List.map_cons, List.sum_cons, List.sum_cons]
      have e1 : (TL.tl j.wd).length = j.wd.length := Array.length_toList
      rw [e1]
      omega
  refine Nat.le_trans (key _) (Nat.le_trans ?_ (it_wt (.kd k)))
  rw [It'.tk_eq (.kd k), List.map_cons, List.map_cons, List.sum_cons, List.sum_cons]
  have e : k.ps = k.ps.take i ++ k.ps.drop i := (List.take_append_drop i k.ps).symm
  have e2 : tks (It'.kd k).ps = tks (k.ps.take i) ++ tks (k.ps.drop i) := by
    show tks k.ps = _
    conv => lhs; rw [e]
    unfold tks
    rw [List.flatMap_append]
  rw [e2, List.map_append, List.sum_append]
  omega
section
variable {P : Program} {w : World} {K : PySem.W.Frag} {mg : Str → Option Value} {base : Heap}
abbrev nLShow : List Str := ["_law_kind_here", "_law_found", "_law_inner"]
theorem scLShow : FnScope nLShow ["_law_kind_here"] (defScope tLShow) := ⟨rfl, rfl, rfl, by decide +kernel, rfl, by decide +kernel, by decide +kernel⟩
def spLShow (n : Nat) : Sp := fun vs H Q _ => ∃ (k : Kt) (v : V), vs = [v] ∧ k.dp + 1 ≤ n ∧ Dd Any H k.d v ∧ k.d.wt ≤ 1000000 ∧ ∀ G : Hp, Same H G → Q (.str k.tx) G
theorem okLShow1 {f : Addr} {fd : FuncData} {n : Nat} (F : Fun K "_law_kind_shown" "_law_kind_shown" tLShow f fd) (bF : Binds K fd ["_law_kind_here"] []) (gF : mg "_law_kind_shown" = some (.ref f)) (mi : mg "isinstance" = none) (mt : mg "tuple" = none)
    (GI : FnOk P w K mg base CX0 (n + 1) f fd ["_law_kind_here"] (spLShow n)) : FnOk P w K mg base CX0 (n + 2) f fd ["_law_kind_here"] (spLShow (n + 1)) := by
  refine F.ok scLShow (fun vs H Q E h => ?_) (fun cdv A outer s H vs Q E hr h => ?_)
  · obtain ⟨k, v, rfl, _⟩ := h
    rfl
  obtain ⟨k, v, rfl, hn, hd, hw, q⟩ := h
  refine ⟨_, pss_cons (ps_set (i := 1) scLShow.nd rfl (.inl rfl) (pe_ix ix_tup (pv 0) pe_int (fun _ _ => rfl)))
    (pss_cons (ps_for PassesOwn.never rfl (pi_tup (pe_slice sl_tup (pv 0) (po_some pe_int) po_none)) (pg_name (i := 2) scLShow.nd rfl (.inl rfl))
      (C8.pss_cut (ps_if (pt_val (pe_callB (isiK K rfl) (by rfl) mi PyProof.Rows.boot_isinstance (pa_cons (pv 2) (pa_cons (pe_bltn (v := .ty "tuple") (by rfl) mt PyProof.Rows.boot_tuple rfl) pa_nil)))) (pss_one (ps_set (i := 2) scLShow.nd rfl (.inl rfl) (pe_call GI hr (by rfl) gF F.kp bF .nil pass0 (pa_cons (pv 2) pa_nil)))) pss_nil)
      (pss_one (ps_set (i := 1) scLShow.nd rfl (.inl rfl) (pe_op op_add_str (pe_op op_add_str (pv 1) pe_str) (pv 2))))))
    (pss_one (ps_ret (pv 1)))), ?_⟩
  rw [Kt.d_eq] at hd
  obtain ⟨a, us, rfl, ha, hL⟩ := Dd.tupS hd
  obtain ⟨us1, rfl, hM⟩ : ∃ us1, us = V.str k.wd :: us1 ∧ DdL Any H (k.ps.map It'.d) us1 := by
    cases hL with
    | cons h1 t =>
      cases h1
      exact ⟨_, rfl, t⟩
  refine ⟨_, rfl, a, _, _, _, rfl, rfl, SqT.of ha, atI_nat (j := 0) rfl, ?_⟩
  refine ⟨_, rfl, 1, rfl, a, _, rfl, SqT.of ha, notWhole _ _, fun p hp => ?_⟩
  rw [cutFrom1]
  have s1 := newS (o := .tup us1) hp
  have gp : (upd H p (.tup us1)) p = some (.tup us1) := upd_same
  have hM1 := hM.same s1
  generalize upd H p (.tup us1) = H1 at s1 gp hM1
  have ll := hM1.len
  rw [List.length_map] at ll
  refine ⟨p, rfl, ⟨_, SqT.of gp⟩, ?_⟩
  refine for_tup (xs := us1) (fun i σ G => ∃ y2, σ = [some (.ref a), some (.str (pre k i)), y2] ∧ Same H1 G) ⟨_, rfl, Same.refl _⟩ (fun i σ G _ z => SqT.of (z.choose_spec.2 _ _ gp)) (fun i x σ G hx z => ?_) (fun σ G z => ?_)
  · obtain ⟨y2, rfl, sG⟩ := z
    obtain ⟨d, hd', rd⟩ := hM1.get hx
    rw [List.getElem?_map] at hd'
    obtain ⟨it, hit, rfl⟩ := Option.map_eq_some_iff.mp hd'
    have rd := rd.same sG
    have mem := List.mem_of_getElem? hit
    have wi := ps_wt mem
    refine ⟨fun σ F => σ = [some (.ref a), some (.str (pre k i)), some (.str it.tx)] ∧ Same H1 F, ?_, fun σ F c => ?_⟩
    · refine ⟨_, rfl, _, _, _, _, it.d.isTup, rfl, .ty "tuple", rd.ty, kTup K it.d, _, rfl, ?_⟩
      cases it with
      | nm m =>
        cases rd
        exact iteF ⟨rfl, sG⟩
      | kd k1 =>
        have e : (It'.kd k1).d.isTup = true := by
          show k1.d.isTup = true
          rw [Kt.d_eq]
          rfl
        rw [e]
        have := ps_dp mem
        refine iteT ⟨_, rfl, k1, _, rfl, by omega, rd, Nat.le_trans wi hw, fun F sF => ⟨rfl, sG.trans sF⟩⟩
    · obtain ⟨rfl, sF⟩ := c
      have l1 := pre_len k i
      have l2 := pre_len k (i + 1)
      rw [pre_next hit] at l2
      have e1 : ∀ x y : Str, (x ++ y).length = x.length + y.length := fun x y => by
        rw [TL.len_tl, TL.tl_append, List.length_append, ← TL.len_tl, ← TL.len_tl]
      rw [e1, e1] at l2
      refine ⟨_, rfl, _, _, rfl, rfl, by rw [sizeLine_eq]; omega, _, rfl, _, _, rfl, rfl, by rw [sizeLine_eq, e1]; omega, ?_⟩
      exact ⟨_, by rw [pre_next hit]; rfl, sF⟩
  · obtain ⟨y2, rfl, sG⟩ := z
    have e : pre k us1.length = k.tx := by
      unfold pre Kt.tx
      rw [← ll, List.take_length, It'.tk_eq (.kd k)]
      rfl
    rw [e]
    exact ⟨_, rfl, q G (s1.trans sG)⟩
theorem okLShow {f : Addr} {fd : FuncData} (F : Fun K "_law_kind_shown" "_law_kind_shown" tLShow f fd) (bF : Binds K fd ["_law_kind_here"] []) (gF : mg "_law_kind_shown" = some (.ref f)) (mi : mg "isinstance" = none) (mt : mg "tuple" = none) : ∀ n, FnOk P w K mg base CX0 (n + 1) f fd ["_law_kind_here"] (spLShow n)
  | 0 => noFn fun vs H Q E h => by
    obtain ⟨k, v, _, hn, _⟩ := h
    omega
  | n + 1 => okLShow1 F bF gF mi mt (okLShow F bF gF mi mt n)
end
end Kq

namespace Kq
open PySem PySem.Spec PyProof.Rows L2 Kf Kg Kv GxR
abbrev tLName : Stmt := tp 53
theorem wts_mem : ∀ {xs : List Dt} {x : Dt}, x ∈ xs → x.wt + 2 ≤ Dt.wts xs
  | y :: ys, x, h => by
    simp only [Dt.wts]
    rcases List.mem_cons.mp h with rfl | h
    · omega
    · have := wts_mem h
      omega
theorem take_all_no {α : Type} {f : α → Bool} {xs : List α} {i : Nat} {x : α} (hx : xs[i]? = some x) (e : f x = false) : (xs.take (i + 1)).all f = false := by
  rw [List.take_add_one, hx, List.all_append]
  simp [e]
theorem take_all_yes {α : Type} {f : α → Bool} {xs : List α} {i : Nat} {x : α} (hx : xs[i]? = some x) (e : f x = true) : (xs.take (i + 1)).all f = (xs.take i).all f := by
  rw [List.take_add_one, hx, List.all_append]
  simp [e]
theorem app_ne {α : Type} (xs : List α) (x : α) : (xs ++ [x]).isEmpty = false := by
  cases xs <;> rfl
section
variable {P : Program} {w : World} {K : PySem.W.Frag} {mg : Str → Option Value} {base : Heap}
theorem scLName : FnScope ["_law_thing", "_law_sign"] ["_law_thing"] (defScope tLName) := ⟨rfl, rfl, rfl, by decide +kernel, rfl, by decide +kernel, by decide +kernel⟩
def spLYes (p : Dt → Bool) : Sp := fun vs H Q _ => ∃ (v : V) (x : Dt), vs = [v] ∧ Dd Any H x v ∧ x.wt ≤ sizeLine ∧ ∀ G : Hp, Same H G → Q (.bl (p x)) G
theorem okLName {f : Addr} {fd : FuncData} {k : Nat} (F : Fun K "_law_is_name" "_law_is_name" tLName f fd) (mi : mg "isinstance" = none) (ms : mg "str" = none) (ml : mg "len" = none) : FnOk P w K mg base CX0 (k + 1) f fd ["_law_thing"] (spLYes nmD) := by
  refine F.ok scLName (fun vs H Q E h => ?_) (fun cdv A outer s H vs Q E hr h => ?_)
  · obtain ⟨v, x, rfl, _⟩ := h
    rfl
  obtain ⟨v, x, rfl, hd, hw, q⟩ := h
  refine ⟨_, pss_cons (ps_if (PW.pt (pw_or (pt_not (pt_val (pe_callB (isiK K rfl) (by rfl) mi PyProof.Rows.boot_isinstance (pa_cons (pv 0) (pa_cons (pe_bltn (v := .ty "str") (by rfl) ms PyProof.Rows.boot_str rfl) pa_nil)))))
      (pw_or (pt_cmpR op_lt (pe_callB call_len_str (by rfl) ml PySem.boot_len (pa_cons (pv 0) pa_nil)) pe_int (nomark _))
      (pw_or1 (pt_cmpR op_gt (pe_callB call_len_str (by rfl) ml PySem.boot_len (pa_cons (pv 0) pa_nil)) pe_int (nomark _))))))
      (pss_one (ps_ret pe_bl)) pss_nil)
    (pss_one (ps_ret (pe_cmpR (op_eqL0 hr.units) (pe_lc (own := [("_law_sign", 1)]) (g := gName 1) (by rfl) scLName.nd (pi_str (pv 0)) (blkOk_by (own := [("_law_sign", 1)]) (N := ["_law_thing", "_law_sign"]) (sc := defScope tLName) (by decide +kernel))
      (fun _ _ _ _ _ => pg_name (i := 1) scLName.nd rfl (.inl rfl)) (fun _ _ _ _ _ => pts_one (pt_cmpR op_notIn_sign (pv 1) pe_str rfl)) (fun _ _ _ _ _ => pv 1)) (pe_lst pa_nil) (nomark _)))), ?_⟩
  refine ⟨_, rfl, _, _, _, _, x.isStr, rfl, .ty "str", hd.ty, kStr K x, _, rfl, ?_⟩
  refine ite2 (fun e => iteT ?_) (fun e => ?_)
  · have e1 : nmD x = false := by
      cases x <;> first | rfl | cases e
    have z := q _ (Same.refl H)
    rw [e1] at z
    exact z
  obtain ⟨y, rfl⟩ : ∃ y, x = .str y := by
    cases x with
    | str y => exact ⟨y, rfl⟩
    | _ => exact absurd rfl e
  cases hd
  have hl : y.length ≤ sizeLine := by
    have : (Dt.str y).wt = 10 * y.length + 2 := by simp only [Dt.wt]
    omega
  have no : (decide (1 ≤ y.length) && decide (y.length ≤ 8)) = false → Q (.bl false) H := fun e => by
    have z := q _ (Same.refl H)
    have e2 : nmD (.str y) = false := by
      show (decide (1 ≤ y.length) && decide (y.length ≤ 8) && _) = false
      rw [e, Bool.false_and]
    rw [e2] at z
    exact z
  refine ⟨_, rfl, y, rfl, hl, _, _, rfl, rfl, _, rfl, ite2 (fun e1 => iteT (no ?_)) (fun e1 => ?_)⟩
  · have : (y.length : Int) < 1 := of_decide_eq_true e1
    rw [decide_eq_false (show ¬ 1 ≤ y.length by omega), Bool.false_and]
  have h1 : 1 ≤ y.length := by
    have : ¬ (y.length : Int) < 1 := fun z => e1 (decide_eq_true z)
    omega
  refine ⟨_, rfl, y, rfl, hl, _, _, rfl, rfl, _, rfl, ite2 (fun e2 => no ?_) (fun e2 => ?_)⟩
  · have : (y.length : Int) > 8 := of_decide_eq_true e2
    rw [decide_eq_false (show ¬ y.length ≤ 8 by omega), Bool.and_false]
  have h2 : y.length ≤ 8 := by
    have : ¬ (y.length : Int) > 8 := fun z => e2 (decide_eq_true z)
    omega
  have et : nmD (.str y) = y.cps.toList.all isLo := by
    show (decide (1 ≤ y.length) && decide (y.length ≤ 8) && _) = _
    rw [decide_eq_true h1, decide_eq_true h2]
    rfl
  refine ⟨_, rfl, y, rfl, fun D nD => ?_⟩
  have lsz : y.cps.size ≤ 8 := h2
  refine lc_it walk_str (fun i F => Same H F ∧ ∃ ws, F D = some (.lst ws) ∧ ws.length ≤ i ∧ ws.isEmpty = (y.cps.toList.take i).all isLo) ⟨newS nD, [], upd_same, Nat.zero_le _, rfl⟩ (fun i F _ _ => trivial) (fun i x F F' hi z yy => ?_) (fun F z => ?_)
  · obtain ⟨sF, ws, gD, lw, al⟩ := z
    obtain ⟨rfl, c, hc, rfl⟩ := yy
    have hc' : y.cps.toList[i]? = some c := by rw [Array.getElem?_toList]; exact hc
    refine ⟨rfl, _, rfl, c, lets, rfl, rfl, _, rfl, ite2 (fun e => ?_) (fun e => ?_)⟩
    · refine ⟨_, rfl, ws, gD, small1000 (by omega), smk sF nD, _, upd_same, ?_, ?_⟩
      · rw [List.length_append, List.length_singleton]
        omega
      · rw [take_all_no hc' (by simpa [isLo] using e), app_ne]
    · exact ⟨sF, ws, gD, by omega, by rw [al, take_all_yes hc' (by simpa [isLo] using e)]⟩
  · obtain ⟨sF, ws, gD, lw, al⟩ := z
    have el : y.cps.toList.take y.cps.size = y.cps.toList := by
      rw [← Array.length_toList, List.take_length]
    rw [el] at al
    refine ⟨Nat.zero_le _, fun e ne => ⟨D, e, ws, rfl, rfl, SqL.of (newS ne _ _ gD), SqL.of upd_same, ?_⟩⟩
    have z := q _ (sF.trans (newS (o := .lst []) ne))
    rw [et, ← al] at z
    exact z
end
end Kq

namespace Kq
open PySem PySem.Spec PyProof.Rows L2 Kf Kg Kv GxR
abbrev tLData : Stmt := tp 54
theorem d_open (ys : List Dt) : dat (.tup (.str "open" :: ys)) = (decide (ys.length = 1) && nm1 ys) := by
  rw [dat_eq, frm_eq]
  have e1 : ar "open" = some 1 := by decide +kernel
  have e2 : prt (.tup (.str "open" :: ys)) = [] := by
    show (if ("open" : Str) = "open" then [] else ys) = []
    exact if_pos rfl
  rw [e1, e2, show decide (("open" : Str) = "fun") = false by decide +kernel, show decide (("open" : Str) = "open") = true by decide +kernel]
  simp
theorem d_in {wd : Str} {m : Nat} (h : ar wd = some m) (h1 : wd ≠ "fun") (h2 : wd ≠ "open") (ys : List Dt) : dat (.tup (.str wd :: ys)) = (decide (ys.length = m) && ys.all dat) := by
  rw [dat_eq, frm_eq]
  have e2 : prt (.tup (.str wd :: ys)) = ys := by
    show (if wd = "open" then [] else ys) = ys
    exact if_neg h2
  rw [h, e2, decide_eq_false h1, decide_eq_false h2]
  simp
theorem d_no {wd : Str} (h : ar wd = none) (ys : List Dt) : dat (.tup (.str wd :: ys)) = false := by
  rw [dat_eq, frm_eq, h]
  simp
theorem d_fun (ys : List Dt) : dat (.tup (.str "fun" :: ys)) = false := by
  rw [dat_eq, frm_eq, show decide (("fun" : Str) = "fun") = true by decide +kernel]
  simp
def mks : List (Key × V) := [(.inr "num", .int 0), (.inr "truth", .int 0), (.inr "list", .int 1), (.inr "pair", .int 2), (.inr "either", .int 2)]
theorem mks_m : mergeK [] mks = mks := by decide +kernel
theorem mks_see (wd : Str) : (valV mks (.inr wd) = none ∧ (wd ≠ "open" → ar wd = none ∨ wd = "fun")) ∨ ∃ m : Nat, valV mks (.inr wd) = some (.int (m : Int)) ∧ ar wd = some m ∧ wd ≠ "fun" ∧ wd ≠ "open" := by
  by_cases h1 : wd = "num"
  · subst h1
    exact .inr ⟨0, by decide +kernel, by decide +kernel, by decide +kernel, by decide +kernel⟩
  by_cases h2 : wd = "truth"
  · subst h2
    exact .inr ⟨0, by decide +kernel, by decide +kernel, by decide +kernel, by decide +kernel⟩
  by_cases h3 : wd = "list"
  · subst h3
    exact .inr ⟨1, by decide +kernel, by decide +kernel, by decide +kernel, by decide +kernel⟩
  by_cases h4 : wd = "pair"
  · subst h4
    exact .inr ⟨2, by decide +kernel, by decide +kernel, by decide +kernel, by decide +kernel⟩
  by_cases h5 : wd = "either"
  · subst h5
    exact .inr ⟨2, by decide +kernel, by decide +kernel, by decide +kernel, by decide +kernel⟩
  refine .inl ⟨?_, fun h0 => ?_⟩
  · have ne : ∀ z : Str, ¬ wd = z → ¬ (Sum.inr z : Key) = Sum.inr wd := fun z h e => h (Sum.inr.inj e).symm
    unfold mks
    rw [valV_neg (ne _ h1), valV_neg (ne _ h2), valV_neg (ne _ h3), valV_neg (ne _ h4), valV_neg (ne _ h5)]
    rfl
  · by_cases c : wd = "fun"
    · exact .inr c
    · refine .inl ?_
      unfold ar
      rw [if_neg h0, if_neg h1, if_neg h2, if_neg h4, if_neg h5, if_neg h3, if_neg c]
section
variable {P : Program} {w : World} {K : PySem.W.Frag} {mg : Str → Option Value} {base : Heap}
abbrev nLData : List Str := ["_law_thing", "_law_many", "_law_inner"]
theorem scLData : FnScope nLData ["_law_thing"] (defScope tLData) := ⟨rfl, rfl, rfl, by decide +kernel, rfl, by decide +kernel, by decide +kernel⟩
def spLData (n : Nat) : Sp := fun vs H Q _ => ∃ (v : V) (x : Dt), vs = [v] ∧ x.dp + 1 ≤ n ∧ Dd Any H x v ∧ x.wt ≤ sizeLine ∧ ∀ G : Hp, Same H G → Q (.bl (dat x)) G
theorem okLData1 {f fN : Addr} {fd fdN : FuncData} {n : Nat} (F : Fun K "_law_is_data" "_law_is_data" tLData f fd) (bF : Binds K fd ["_law_thing"] []) (gF : mg "_law_is_data" = some (.ref f))
    (GN : FnOk P w K mg base CX0 (n + 2) fN fdN ["_law_thing"] (spLYes nmD)) (bN : Binds K fdN ["_law_thing"] []) (gN : mg "_law_is_name" = some (.ref fN)) (kN : PySem.W.keepIn K (.ref fN) = true)
    (mi : mg "isinstance" = none) (mt : mg "tuple" = none) (ms : mg "str" = none) (ml : mg "len" = none)
    (GI : FnOk P w K mg base CX0 (n + 2) f fd ["_law_thing"] (spLData n)) : FnOk P w K mg base CX0 (n + 3) f fd ["_law_thing"] (spLData (n + 1)) := by
  refine F.ok scLData (fun vs H Q E h => ?_) (fun cdv A outer s H vs Q E hr h => ?_)
  · obtain ⟨v, x, rfl, _⟩ := h
    rfl
  obtain ⟨v, x, rfl, hn, hd, hw, q⟩ := h
  refine ⟨_, pss_cons (ps_if (PW.pt (pw_or (pt_not (pt_val (pe_callB (isiK K rfl) (by rfl) mi PyProof.Rows.boot_isinstance (pa_cons (pv 0) (pa_cons (pe_bltn (v := .ty "tuple") (by rfl) mt PyProof.Rows.boot_tuple rfl) pa_nil)))))
      (pw_or (pt_cmpR (op_eqTT hr.units) (pv 0) (pe_tup pa_nil) (nomark _))
      (pw_or1 (pt_not (pt_val (pe_callB (isiK K rfl) (by rfl) mi PyProof.Rows.boot_isinstance (pa_cons (pe_ix ix_tup (pv 0) pe_int (fun _ _ => rfl)) (pa_cons (pe_bltn (v := .ty "str") (by rfl) ms PyProof.Rows.boot_str rfl) pa_nil)))))))))
      (pss_one (ps_ret pe_bl)) pss_nil)
    (pss_cons (ps_if (pt_cmpR op_eq (pe_ix ix_tup (pv 0) pe_int (fun _ _ => rfl)) pe_str (nomark _))
      (pss_one (ps_ret (pe_and (pe_cmpR op_eq (pe_callB call_len_seq (by rfl) ml PySem.boot_len (pa_cons (pv 0) pa_nil)) pe_int (nomark _)) (pe_one (pe_call GN hr (by rfl) gN kN bN .nil pass0 (pa_cons (pe_ix ix_tup (pv 0) pe_int (fun _ _ => rfl)) pa_nil)))))) pss_nil)
    (pss_cons (ps_set (i := 1) scLData.nd rfl (.inl rfl) (pe_disp (pps_cons pe_str pe_int (pps_cons pe_str pe_int (pps_cons pe_str pe_int (pps_cons pe_str pe_int (pps_cons pe_str pe_int pps_nil))))) (by rfl) (by rfl) (fun z => by cases z) (by decide)))
    (pss_cons (ps_if (PW.pt (pw_or (pt_cmp (pc_dnotin (Nat.lt_of_le_of_lt (Nat.add_le_add_left (show 1 ≤ 64 by decide) _) hr.units) (pe_ix ix_tup (pv 0) pe_int (fun _ _ => rfl)) (pv 1)))
        (pw_or1 (pt_cmpR op_ne (pe_callB call_len_seq (by rfl) ml PySem.boot_len (pa_cons (pv 0) pa_nil)) (pe_op op_add pe_int (pe_dget (Nat.lt_of_le_of_lt (Nat.add_le_add_left (show 1 ≤ 64 by decide) _) hr.units) (pv 1) (pe_ix ix_tup (pv 0) pe_int (fun _ _ => rfl)) (fun _ _ => rfl))) (nomark _)))))
      (pss_one (ps_ret pe_bl)) pss_nil)
    (pss_one (ps_ret (pe_cmpR (op_eqL0 hr.units) (pe_lc (own := [("_law_inner", 2)]) (g := gName 2) (by rfl) scLData.nd (pi_tup (pe_slice sl_tup (pv 0) (po_some pe_int) po_none)) (blkOk_by (own := [("_law_inner", 2)]) (N := nLData) (sc := defScope tLData) (by decide +kernel))
        (fun _ _ _ _ _ => pg_name (i := 2) scLData.nd rfl (.inl rfl)) (fun _ _ _ _ _ => pts_one (pt_not (pt_val (pe_call GI hr (by rfl) gF F.kp bF .nil pass0 (pa_cons (pv 2) pa_nil))))) (fun _ _ _ _ _ => pv 2)) (pe_lst pa_nil) (nomark _))))))), ?_⟩
  have no : ∀ G, Same H G → dat x = false → Q (.bl false) G := fun G sG e => by
    have z := q _ sG
    rw [e] at z
    exact z
  refine ⟨_, rfl, _, _, _, _, x.isTup, rfl, .ty "tuple", hd.ty, kTup K x, _, rfl, ite2 (fun e => iteT (no _ (Same.refl H) ?_)) (fun e => ?_)⟩
  · rw [dat_eq]
    have : frm x = false := by cases x <;> first | rfl | cases e
    rw [this]
    rfl
  obtain ⟨xs, rfl⟩ : ∃ xs, x = .tup xs := by
    cases x with
    | tup xs => exact ⟨xs, rfl⟩
    | _ => exact absurd rfl e
  obtain ⟨a, us, rfl, ha, hL⟩ := Dd.tupS hd
  refine ⟨_, rfl, Nat.zero_le _, fun p0 np0 => ?_⟩
  have s0 : Same H (upd H p0 (.tup [])) := newS np0
  refine ⟨a, p0, us, [], rfl, rfl, SqT.of (s0 _ _ ha), SqT.of upd_same, (fun i u v _ z => by cases z), _, rfl, ite2 (fun e => iteT (no _ s0 ?_)) (fun e => ?_)⟩
  · have : us = [] := of_decide_eq_true e
    subst this
    cases hL
    rw [dat_eq]
    rfl
  rcases DdL.see hL with ⟨rfl, rfl⟩ | ⟨y, ys, u0, ws, rfl, rfl, hy, hys⟩
  · exact absurd (decide_eq_true rfl) e
  generalize upd H p0 (.tup []) = H0 at s0
  have ha0 := s0 _ _ ha
  have hix : atI (u0 :: ws) 0 = some u0 := atI_nat (j := 0) rfl
  refine ⟨_, rfl, a, _, _, _, rfl, rfl, SqT.of ha0, hix, _, _, _, _, y.isStr, rfl, .ty "str", (hy.same s0).ty, kStr K y, _, rfl, ite2 (fun e => no _ s0 ?_) (fun e => ?_)⟩
  · rw [dat_eq]
    have : frm (.tup (y :: ys)) = false := by cases y <;> first | rfl | cases e
    rw [this]
    rfl
  obtain ⟨wd, rfl⟩ : ∃ z, y = .str z := by
    cases y with
    | str z => exact ⟨z, rfl⟩
    | _ => exact absurd rfl e
  cases hy
  have ly := hys.len
  refine ⟨_, rfl, a, _, _, _, rfl, rfl, SqT.of ha0, hix, rfl, _, rfl, ite2 (fun e3 => ?_) (fun n3 => ?_)⟩
  · have e4 : wd = "open" := V.str.inj (of_decide_eq_true e3)
    subst e4
    refine ⟨_, rfl, a, _, rfl, .inr (SqT.of ha0), rfl, _, rfl, ite2 (fun e5 => ?_) (fun e5 => no _ s0 ?_)⟩
    · have e6 : (((V.str "open" :: ws).length : Nat) : Int) = 2 := V.int.inj (of_decide_eq_true e5)
      rw [List.length_cons] at e6
      rcases DdL.see hys with ⟨rfl, rfl⟩ | ⟨y, ys', u1, ws', rfl, rfl, hy, _⟩
      · cases e6
      rw [List.length_cons] at e6
      have hwy := wts_mem (xs := .str "open" :: y :: ys') (x := y) (by simp)
      have hw2 : (Dt.tup (.str "open" :: y :: ys')).wt = Dt.wts (.str "open" :: y :: ys') + 3 := by simp only [Dt.wt]
      refine ⟨_, rfl, a, _, _, _, rfl, rfl, SqT.of ha0, atI_nat (j := 1) rfl, u1, y, rfl, hy.same s0, by omega, fun G sG => ?_⟩
      have z := q _ (s0.trans sG)
      rw [d_open, decide_eq_true (by rw [ly]; simp only [List.length_cons]; omega)] at z
      exact z
    · have e6 : ¬ (((V.str "open" :: ws).length : Nat) : Int) = 2 := fun z => e5 (decide_eq_true (congrArg V.int z))
      rw [List.length_cons] at e6
      rw [d_open, decide_eq_false (by omega)]
      rfl
  have n3 : ¬ wd = "open" := fun z => n3 (decide_eq_true (by rw [z]))
  refine fun d nd => ⟨upd_same, mks, rfl, by decide, ?_⟩
  rw [mks_m]
  have s1 : Same H (upd (upd H0 d (.dK [])) d (.dK mks)) := fun b u e => by
    rw [upd_ne (ne_of_none (s0 _ _ e) nd), upd_ne (ne_of_none (s0 _ _ e) nd)]
    exact s0 _ _ e
  have gd : (upd (upd H0 d (.dK [])) d (.dK mks)) d = some (.dK mks) := upd_same
  generalize upd (upd H0 d (.dK [])) d (.dK mks) = H4 at s1 gd
  have ha4 := s1 _ _ ha
  refine ⟨_, rfl, a, _, _, _, rfl, rfl, SqT.of ha4, hix, _, rfl, d, _, rfl, .inl ⟨mks, .inr wd, .inl gd, rfl, rfl⟩, _, rfl, ?_⟩
  rcases mks_see wd with ⟨hv, hno⟩ | ⟨m, hv, hm, hf, ho⟩
  · rw [hv]
    refine iteT (no _ s1 ?_)
    rcases hno n3 with e | e
    · exact d_no e ys
    · rw [e]
      exact d_fun ys
  rw [hv]
  refine iteF ?_
  have hdat := d_in hm hf n3 ys
  refine ⟨_, rfl, a, _, rfl, .inr (SqT.of ha4), _, rfl, _, rfl, a, _, _, _, rfl, rfl, SqT.of ha4, hix, d, .int (m : Int), rfl, .inl ⟨mks, .inr wd, .inl gd, rfl, hv.symm⟩, _, _, rfl, rfl, rfl, _, rfl, ?_⟩
  refine ite2 (fun e5 => no _ s1 ?_) (fun e5 => ?_)
  · have e6 : ¬ ys.length = m := fun z => by
      have : (((V.str wd :: ws).length : Nat) : Int) = 1 + (m : Int) := by
        rw [List.length_cons]
        omega
      rw [this, decide_eq_true rfl] at e5
      cases e5
    rw [hdat, decide_eq_false e6]
    rfl
  have e6 : ys.length = m := by
    by_cases z : ys.length = m
    · exact z
    · refine absurd ?_ e5
      have : ¬ (((V.str wd :: ws).length : Nat) : Int) = 1 + (m : Int) := by
        rw [List.length_cons]
        omega
      rw [decide_eq_false (fun h => this (V.int.inj h))]
      rfl
  rw [decide_eq_true e6, Bool.true_and] at hdat
  refine ⟨_, rfl, 1, rfl, a, _, rfl, SqT.of ha4, notWhole _ _, fun p np => ?_⟩
  rw [cutFrom1]
  have s5 : Same H (upd H4 p (.tup ws)) := s1.trans (newS np)
  refine ⟨p, rfl, ⟨_, SqT.of upd_same⟩, fun D nD => ?_⟩
  have hpD : p ≠ D := ne_of_none upd_same nD
  have hD : H D = none := s5.free nD
  have hws : Dt.wts (.str wd :: ys) + 3 = (Dt.tup (.str wd :: ys)).wt := by simp only [Dt.wt]
  have hwd : Dt.wts (.str wd :: ys) = (Dt.str wd).wt + 2 + Dt.wts ys := by simp only [Dt.wts]
  have hdp : (Dt.tup (.str wd :: ys)).dp = max (Dt.str wd).dp (Dt.dps ys) + 1 := by simp only [Dt.dp, Dt.dps]
  have l1 := len_szs ys
  have l2 := Dt.szs_wts ys
  refine lc_tup (xs := ws) (fun i F => Same H F ∧ F p = some (.tup ws) ∧ ∃ zs, F D = some (.lst zs) ∧ zs.length ≤ i ∧ zs.isEmpty = (ys.take i).all dat) ?_ (fun i F _ z => SqT.of z.2.1) (fun i x F hx z => ?_) (fun F z => ?_)
  · exact ⟨smk s5 hD, by rw [upd_ne hpD]; exact upd_same, [], upd_same, Nat.zero_le _, rfl⟩
  · obtain ⟨sF, gp, zs, gD, lz, al⟩ := z
    obtain ⟨y, hy, ry⟩ := hys.get hx
    have my := List.mem_of_getElem? hy
    have d1 := dps_mem' my
    have w1 := wts_mem my
    have li := (List.getElem?_eq_some_iff.mp hx).1
    refine ⟨rfl, _, rfl, x, y, rfl, by omega, ry.same sF, by omega, fun F2 sF2 => ⟨_, rfl, ite2 (fun e => ?_) (fun e => ?_)⟩⟩
    · refine ⟨_, rfl, zs, sF2 _ _ gD, by omega, smk (sF.trans sF2) hD, by rw [upd_ne hpD]; exact sF2 _ _ gp, _, upd_same, ?_, ?_⟩
      · rw [List.length_append, List.length_singleton]
        omega
      · rw [take_all_no hy (by simpa using e), app_ne]
    · exact ⟨sF.trans sF2, sF2 _ _ gp, zs, sF2 _ _ gD, by omega, by rw [al, take_all_yes hy (by simpa using e)]⟩
  · obtain ⟨sF, gp, zs, gD, lz, al⟩ := z
    rw [← ly, List.take_length] at al
    refine ⟨Nat.zero_le _, fun e ne => ⟨D, e, zs, rfl, rfl, SqL.of (newS ne _ _ gD), SqL.of upd_same, ?_⟩⟩
    have z := q _ (sF.trans (newS (o := .lst []) ne))
    rw [hdat, ← al] at z
    exact z
theorem okLData {f fN : Addr} {fd fdN : FuncData} (F : Fun K "_law_is_data" "_law_is_data" tLData f fd) (bF : Binds K fd ["_law_thing"] []) (gF : mg "_law_is_data" = some (.ref f))
    (FN : Fun K "_law_is_name" "_law_is_name" tLName fN fdN) (bN : Binds K fdN ["_law_thing"] []) (gN : mg "_law_is_name" = some (.ref fN))
    (mi : mg "isinstance" = none) (mt : mg "tuple" = none) (ms : mg "str" = none) (ml : mg "len" = none) : ∀ n, FnOk P w K mg base CX0 (n + 2) f fd ["_law_thing"] (spLData n)
  | 0 => noFn fun vs H Q E h => by
    obtain ⟨v, x, _, hn, _⟩ := h
    omega
  | n + 1 => okLData1 F bF gF (okLName FN mi ms ml) bN gN FN.kp mi mt ms ml (okLData F bF gF FN bN gN mi mt ms ml n)
end
end Kq

namespace Ks
open PySem PySem.Spec PyProof.Rows L2
/-! a set of texts -/
def tx (e : Int × Value) : Str := match e.2 with
  | .str x _ => x
  | _ => Str.empty
def GoodT (w : World) (e : Int × Value) : Prop := ∃ x t, e.2 = Value.str x t ∧ e.1 = hashStr w x
structure SetT (w : World) (es : Array (Int × Value)) (t : SetTable) (S : Str → Bool) (n : Nat) : Prop where
  good : ∀ e ∈ es.toList, GoodT w e
  nd : (es.toList.map tx).Nodup
  mem : ∀ k, S k = true ↔ k ∈ es.toList.map tx
  few : es.size < scanBound
  fit : t.fits es.size = true
  num : es.size = n
  ris : Ris t.place.toList
  led : w.params.followText "set-order" = true ∨ t.led = true
def SetS (w : World) (h : Heap) (a : Addr) (S : Str → Bool) (n : Nat) : Prop :=
  ∃ o es ep t, h.get? a = some o ∧ o.ExactSet ∧ o.data = .set es ep t ∧ SetT w es t S n
section
variable {P : Program} {w : World} {A : Around} {E : Value → Shared → Prop} {s : Shared} {a : Addr} {S : Str → Bool} {n : Nat}
theorem kis (x : Str) (t : Tok) : (PySem.strKind P w).is x (.str x t) = true := by
  show Value.isStrOf x (.str x t) = true
  simp [Value.isStrOf]
theorem goodElems {l : List (Int × Value)} (g : ∀ e ∈ l, GoodT w e) : ElemsOf (PySem.strKind P w) l := fun e he => by
  obtain ⟨x, t, h1, h2⟩ := g e he
  refine ⟨⟨x, ?_, h2⟩, ?_⟩
  · rw [h1]
    exact kis x t
  · rw [h1] <;> rfl
theorem goodMem {l : List (Int × Value)} (g : ∀ e ∈ l, GoodT w e) (k : Str) : k ∈ l.map tx ↔ ∃ e ∈ l, (PySem.strKind P w).is k e.2 = true := by
  have one : ∀ e ∈ l, ((PySem.strKind P w).is k e.2 = true ↔ tx e = k) := fun e he => by
    obtain ⟨x, t, h1, _⟩ := g e he
    unfold tx
    rw [h1]
    constructor
    · intro z
      obtain ⟨u, hu⟩ := Value.isStrOf_shape (show Value.isStrOf k (.str x t) = true from z)
      injection hu
    · intro z
      show (PySem.strKind P w).is k (.str x t) = true
      have z' : x = k := z
      rw [z']
      exact kis k t
  rw [List.mem_map]
  exact ⟨fun ⟨e, he, q⟩ => ⟨e, he, (one e he).2 q⟩, fun ⟨e, he, q⟩ => ⟨e, he, (one e he).1 q⟩⟩
theorem typ (R : SetS w s.heap a S n) : s.TypeIs (.ref a) "set" := by
  obtain ⟨o, es, ep, t, ho, hx, _⟩ := R
  exact ⟨o, ho, hx.1⟩
theorem after {h : Heap} {o : Obj} {es es' : Array (Int × Value)} {ep : Nat} {t t' : SetTable} (ho : h.get? a = some o) (hd : o.data = .set es ep t) :
    (h.update a (Obj.putSet es' t')).get? a = some { o with data := .set es' (ep + 1) t' } := by
  have q := Heap.get?_update_self (Obj.putSet es' t') ho (by rw [putSet_of es' t' hd]; rfl)
  rw [putSet_of es' t' hd] at q
  exact q
theorem tail {g : Bool → Sem Unit} (hg : ∀ (b : Bool) (s₁ : Shared) (Q' : Unit → Shared → Prop), Q' () s₁ → wpAny (model P w) A (g b) Q' E s₁)
    {o : Obj} {es : Array (Int × Value)} {ep : Nat} {t : SetTable} (ho : s.heap.get? a = some o) (hex : o.ExactSet) (hd : o.data = .set es ep t)
    {fs : Array (Int × Value)} {u : SetTable} {S' : Str → Bool} (T : SetT w fs u S' fs.size) {wd : Bool} {R : Option Bool → Shared → Prop}
    (hR : ∀ h', Heap.SameBut a s.heap h' → SetS w h' a S' fs.size → R (some true) { s with heap := h' }) :
    wpAny (model P w) A (do
        storeSet a fs u
        if (!wd && u.tooFull) = true then do
            g (relayAll u fs (SetTable.grown fs.size)).2.2
            storeSet a (relayAll u fs (SetTable.grown fs.size)).1 (relayAll u fs (SetTable.grown fs.size)).2.1
            pure (some true)
          else pure (some true)) R E s := by
  refine wpAny_bind (wpAny_storeSet_of ho hd ?_ (fits_of_scanBound T.few))
  have o1 := after (es' := fs) (t' := u) ho hd
  have sb := Heap.SameBut.update s.heap a (Obj.putSet fs u)
  split
  · have pm := relayAll_perm u fs (SetTable.grown fs.size)
    have f3 := relayAll_fits u fs (SetTable.grown fs.size)
    have r3 := relayAll_ris u fs (SetTable.grown fs.size)
    have l3 := relayAll_led u fs (SetTable.grown fs.size)
    generalize relayAll u fs (SetTable.grown fs.size) = Z at pm f3 r3 l3 ⊢
    obtain ⟨gs, v, gave⟩ := Z
    dsimp only at pm f3 r3 l3 ⊢
    have e : gs.size = fs.size := by
      rw [← Array.length_toList, pm.length_eq, Array.length_toList]
    have few : gs.size < scanBound := by
      rw [e]
      exact T.few
    refine wpAny_bind (hg _ _ _ ?_)
    refine wpAny_bind (wpAny_storeSet_of o1 rfl ?_ (fits_of_scanBound few))
    have o2 := after (es' := gs) (t' := v) o1 rfl
    refine wpAny_pure (hR _ (sb.trans (Heap.SameBut.update _ a _)) ⟨_, gs, _, v, o2, hex, rfl, ?_⟩)
    exact ⟨fun x hx => T.good x (pm.mem_iff.mp hx), (pm.map tx).nodup_iff.mpr T.nd, fun k => (T.mem k).trans (pm.map tx).mem_iff.symm, few, f3, e, r3, T.led.imp id fun z => by rw [l3]; exact z⟩
  · exact wpAny_pure (hR _ sb ⟨_, fs, _, u, o1, hex, rfl, T⟩)
theorem addHashed {k : Str} {tk : Tok} {Q : Bool → Shared → Prop} (R : SetS w s.heap a S n) (room : n + 1 < scanBound)
    (hQ : ∀ h', Heap.SameBut a s.heap h' → SetS w h' a (fun j => S j || decide (j = k)) (if S k = true then n else n + 1) → Q (!S k) { s with heap := h' }) :
    wpAny (model P w) A (setAddHashed a (.str k tk) ((PySem.strKind P w).hash k)) Q E s := by
  obtain ⟨o, es, ep, t, ho, hex, hd, T⟩ := R
  have key := kis (P := P) (w := w) k tk
  have sc : (Value.str k tk).scannable = true := rfl
  have el : ElemsOf (PySem.strKind P w) es.toList := goodElems T.good
  unfold setAddHashed setAddHashedIn
  refine wpAny_holding (wpAny_bind (wpAny_setState_of ho hd T.fit ?_))
  dsimp only
  rw [byScan_of sc T.few el]
  simp only [↓reduceIte]
  unfold setAddByScan
  refine wpAny_bind ?_
  refine wpAny_bind (wpAny_rule ?_)
  refine wpAny_bind (wpAny_setScan_of key ho hd T.fit el ?_)
  cases fi : List.findIdx? (fun e => (PySem.strKind P w).is k e.2) es.toList with
  | some j =>
    dsimp only
    obtain ⟨hj, pj, _⟩ := List.findIdx?_eq_some_iff_getElem.mp fi
    have yes : S k = true := (T.mem k).2 ((goodMem (P := P) T.good k).2 ⟨es.toList[j], List.getElem_mem hj, pj⟩)
    refine wpAny_pure (wpAny_pure ?_)
    have q := hQ s.heap (Heap.SameBut.refl a s.heap) ⟨o, es, ep, t, ho, hex, hd, T.good, T.nd, fun i => by
      rw [Bool.or_eq_true, decide_eq_true_eq, ← T.mem i]
      exact ⟨fun z => z.elim id (fun e => e ▸ yes), .inl⟩, T.few, T.fit, by rw [if_pos yes]; exact T.num, T.ris, T.led⟩
    rw [yes] at q
    exact q
  | none =>
    dsimp only
    have out : k ∉ es.toList.map tx := fun z => by
      obtain ⟨e, he, q⟩ := (goodMem (P := P) T.good k).1 z
      have c := List.findIdx?_eq_none_iff.mp fi e he
      rw [q] at c
      cases c
    have no : S k = false := by
      cases q : S k with
      | false => rfl
      | true => exact absurd ((T.mem k).1 q) out
    have gw : ∀ (b : Bool) {s₁ : Shared} {Q' : Unit → Shared → Prop}, Q' () s₁ → wpAny (model P w) A (match b with
        | true => rule "set.scan.the-table-gave-way"
        | false => pure ()) Q' E s₁ := fun b s₁ Q' q => by
      cases b
      · exact wpAny_pure q
      · exact wpAny_rule q
    have pm := layNew_perm t es ((PySem.strKind P w).hash k) (.str k tk)
    have f1 := layNew_fits t es ((PySem.strKind P w).hash k) (.str k tk)
    have r1 := layNew_ris t es ((PySem.strKind P w).hash k) (.str k tk) T.ris
    have l1 := layNew_led t es ((PySem.strKind P w).hash k) (.str k tk)
    generalize layNew t es ((PySem.strKind P w).hash k) (.str k tk) = Z at pm f1 r1 l1 ⊢
    obtain ⟨fs, u, wd, gave⟩ := Z
    dsimp only at pm f1 r1 l1 ⊢
    rw [Array.toList_push] at pm
    have pc : fs.toList.Perm (((PySem.strKind P w).hash k, Value.str k tk) :: es.toList) := pm.trans (List.perm_append_singleton _ _)
    have pk : (fs.toList.map tx).Perm (k :: es.toList.map tx) := pc.map tx
    have e1 : fs.size = n + 1 := by
      rw [← Array.length_toList, pc.length_eq, List.length_cons, Array.length_toList, T.num]
    have T1 : SetT w fs u (fun j => S j || decide (j = k)) fs.size := by
      refine ⟨fun e he => ?_, pk.nodup_iff.mpr (List.nodup_cons.mpr ⟨out, T.nd⟩), fun i => ?_, by rw [e1]; exact room, f1, rfl, r1, T.led.imp id fun z => by rw [l1]; exact z⟩
      · rcases List.mem_cons.mp (pc.mem_iff.mp he) with z | z
        · rw [z]
          exact ⟨k, tk, rfl, rfl⟩
        · exact T.good e z
      · rw [Bool.or_eq_true, decide_eq_true_eq, T.mem i, pk.mem_iff, List.mem_cons]
        exact Or.comm
    have fin : ∀ h', Heap.SameBut a s.heap h' → SetS w h' a (fun j => S j || decide (j = k)) fs.size → Q true { s with heap := h' } := fun h' sb r => by
      have q := hQ h' sb
      rw [no] at q
      rw [e1] at r
      exact q r
    refine wpAny_bind (gw _ ?_)
    split
    · refine wpAny_bind ?_
      rw [hashByValue_scannable 8 sc]
      refine wpAny_pure ?_
      have T2 : SetT w fs (if plainKind (.str k tk) = true then u else { u with plain := false }) (fun j => S j || decide (j = k)) fs.size := by
        split
        · exact T1
        · exact { T1 with fit := SetTable.fits_plain_off T1.fit, ris := T1.ris, led := T1.led }
      refine tail (S' := fun j => S j || decide (j = k)) ?_ ho hex hd T2 ?_
      · intro b s₁ Q' q
        exact gw b q
      · intro h' sb r
        dsimp only
        exact wpAny_pure (fin h' sb r)
    · refine wpAny_bind (wpAny_pure ?_)
      simp only [↓reduceIte]
      refine tail (S' := fun j => S j || decide (j = k)) ?_ ho hex hd T1 ?_
      · intro b s₁ Q' q
        exact gw b q
      · intro h' sb r
        dsimp only
        exact wpAny_pure (fin h' sb r)
/-- set.add of a text -/
theorem addCall {k : Str} {tk : Tok} {Q : Value → Shared → Prop} (R : SetS w s.heap a S n) (room : n + 1 < scanBound)
    (hQ : ∀ h', Heap.SameBut a s.heap h' → SetS w h' a (fun j => S j || decide (j = k)) (if S k = true then n else n + 1) → Q .none { s with heap := h', toks := s.toks + 1 }) :
    wpAny (model P w) A (call (.builtin "set.add") [.ref a, .str k tk]) Q E s := by
  refine wpAny_call_entry F.slot_set_add (typ R) F.entry_set_add ?_ (F.args_set_add_2 _ _)
  unfold Builtin.«set.add» Builtin.Frozenset.oneOther
  simp only [List.isEmpty_nil, bind_assoc]
  unfold Builtin.Frozenset.addrOf setAdd
  refine wpAny_bind (wpAny_pure ?_)
  try dsimp only
  refine wpAny_bind (wpAny_pure ?_)
  try dsimp only
  refine wpAny_bind ?_
  refine wpAny_holding ?_
  refine wpAny_bind ((PySem.strKind P w).pyHash (kis k tk) ?_)
  refine addHashed (s := { s with toks := s.toks + 1 }) R room (fun h' sb r => ?_)
  show wpAny _ _ (ret Value.none) _ _ _
  exact wpAny_pure ⟨_, rfl, hQ h' sb r⟩
theorem fresh {h : Heap} (w : World) : SetS w (h.push { cls := .type "set", dict := none, data := .set #[] 0 (.fresh 0 0 (!w.params.followText "set-order")) }) h.objs.size (fun _ => false) 0 := by
  refine ⟨_, #[], 0, _, Heap.get?_push_size _ rfl, ⟨rfl, rfl, rfl⟩, rfl, ⟨fun e he => ?_, ?_, fun k => ?_, ?_, ?_, rfl, List.Pairwise.nil, ?_⟩⟩
  · simp at he
  · simp
  · simp
  · decide
  · rfl
  · show _ ∨ (!w.params.followText "set-order") = true
    cases w.params.followText "set-order"
    · exact .inr rfl
    · exact .inl rfl
end
/-- the set of texts at a, as a tracked thing -/
def SetH (w : World) (a : Addr) (S : Str → Bool) (n : Nat) : HO := .ext fun h => SetS w h a S n
theorem setH_new {w : World} {P : Program} {H : Hp} {h : Heap} {a : Addr} {S : Str → Bool} {n : Nat} (R : SetS w h a S n) : ObjOk P w H h a (SetH w a S n) := by
  have ⟨o, es, ep, t, ho, r⟩ := R
  refine ⟨R, ⟨o, ho⟩, fun h1 h2 p k => ?_⟩
  obtain ⟨o, es, ep, t, ho, r⟩ := p
  exact ⟨o, es, ep, t, k o ho, r⟩
section
variable {X : Cx} {pins : List (Addr × Obj)} {σ : L2.St} {H : Hp} {s : Shared}
theorem setH_get {a : Addr} {S : Str → Bool} {n : Nat} (I : Inv X pins σ H s) (ha : H a = some (SetH X.w a S n)) : SetS X.w s.heap a S n := (I.hok a _ ha).1
theorem addIn {E : Value → Shared → Prop} {D : Addr} {S : Str → Bool} {n : Nat} {y : Str} {tk : Tok} {Q : Value → Shared → Prop} (I : Inv X pins σ H s) (hD : H D = some (SetH X.w D S n)) (room : n + 1 < scanBound)
    (h : ∀ s', Inv X pins σ (upd H D (SetH X.w D (fun j => S j || decide (j = y)) (if S y = true then n else n + 1))) s' → Q .none s') : wpAny (model X.prog X.w) X.A (call (.builtin "set.add") [.ref D, .str y tk]) Q E s := by
  refine addCall (setH_get I hD) room fun h' sb new => h _ ?_
  have he : ∃ u, h'.get? D = some u := let ⟨o, _, _, _, ho, _⟩ := new; ⟨o, ho⟩
  exact I.write (e := D) (t' := s.toks + 1) (by rw [hD]; trivial) (.inl rfl) (fun b u hb hu => (sb.2 b hb).trans hu) he (setH_new new)
end
end Ks

namespace Ks
open PySem PySem.Spec PyProof.Rows L2
section
variable {P : Program} {w : World} {A : Around} {E : Value → Shared → Prop} {s : Shared} {a : Addr} {S : Str → Bool} {n : Nat}
theorem strsOf {l : List Value} (h : ∀ v ∈ l, ∃ x t, v = Value.str x t) : ∃ xs, StrsAre l xs := by
  induction l with
  | nil => exact ⟨[], .nil⟩
  | cons v l ih =>
    obtain ⟨x, t, rfl⟩ := h v List.mem_cons_self
    obtain ⟨xs, hx⟩ := ih fun u hu => h u (List.mem_cons_of_mem _ hu)
    exact ⟨x :: xs, .cons x t hx⟩
def txv (v : Value) : Str := match v with
  | .str x _ => x
  | _ => Str.empty
theorem strs_eq {l : List Value} {xs : List Str} (h : StrsAre l xs) : xs = l.map txv := by
  induction h with
  | nil => rfl
  | cons x t _ ih =>
    rw [List.map_cons, ← ih]
    rfl
/-- sorted(a set of texts) -/
theorem sortedSet {Q : Value → Shared → Prop} (R : SetS w s.heap a S n) (hh : A.handled = none) (h64 : n < 64)
    (hQ : ∀ (s' : Shared) (p : Addr) (out : Array Value) (c : Nat) (ys : List Str), (∀ b o, s.heap.get? b = some o → s'.heap.get? b = some o) → s'.gens = s.gens → s'.os = s.os → s.heap.objs.size ≤ p →
      s'.heap.get? p = some (seqObj "list" out c) → StrsAre out.toList ys → sortedS ys = true → ys.Nodup → (∀ k, k ∈ ys ↔ S k = true) → ys.length = n → Q (.ref p) s') :
    wpAny (model P w) A (call (.builtin "sorted") [.ref a]) Q E s := by
  obtain ⟨o, es, ep, t, ho, hex, hd, T⟩ := R
  refine Calls.call_function_entry kind_sorted plain_sorted entry_sorted (args_sorted1 _) ?_
  unfold Builtin.«sorted»
  refine wpAny_bind (m := checkCount "sorted" 1 1 _) (wpAny_pure ?_)
  refine wpAny_bind (collect_set (A := A.in1) hh ⟨o, ho, hex.1, hd⟩ T.fit T.few T.ris T.led fun s1 vs k1 z1 g1 o1 pm => ?_)
  have len : vs.length = n := by
    rw [pm.length_eq, List.length_map, Array.length_toList]
    exact T.num
  obtain ⟨xs, hx⟩ := strsOf (l := vs) fun v hv => by
    obtain ⟨e, he, q⟩ := List.mem_map.mp (pm.mem_iff.mp hv)
    obtain ⟨x, t, h1, _⟩ := T.good e he
    exact ⟨x, t, by rw [← q]; exact h1⟩
  have px : xs.Perm (es.toList.map tx) := by
    have q := pm.map txv
    rw [List.map_map] at q
    rw [strs_eq hx]
    exact q
  refine wpAny_bind (wpAny_newList ?_ (by rw [len, sizeLine_eq]; omega))
  have oL : (s1.heap.push (seqObj "list" vs.toArray 0)).get? s1.heap.objs.size = some (seqObj "list" vs.toArray 0) := Heap.get?_push_size _ rfl
  refine wpAny_bind (wpAny_holding (wpAny_call_entry slot_list_sort ⟨_, oL, rfl⟩ entry_list_sort (list_sort_treeK strKind_oneLt oL hx.keysOf
    (fun v₁ v₂ rest e => keyKind_strs (by rw [← e]; exact hx)) (by rw [len]; exact h64) fun st' hp hs => ⟨_, rfl, ?_⟩) (args_list_sort _)))
  obtain ⟨ys, a1, a2, a3⟩ := sorted_out_str hx hp hs
  obtain ⟨c, hc⟩ := sortedHeap_at (vs := vs) (out := (arrOf st').map (·.2)) oL
  have py : ys.Perm (es.toList.map tx) := a2.trans px
  refine wpAny_pure ⟨_, rfl, hQ _ s1.heap.objs.size _ c ys (fun b u e => ?_) g1 o1 z1 hc a1 a3 (py.nodup_iff.mpr T.nd) (fun k => by rw [py.mem_iff, ← T.mem k]) ?_⟩
  · have q := k1 b u e
    have lt := Heap.lt_size q
    show (sortedHeap (s1.heap.push (seqObj "list" vs.toArray 0)) s1.heap.objs.size vs _).get? b = some u
    rw [sortedHeap_old (Nat.ne_of_lt lt) (by rw [size_push']; exact Nat.lt_succ_of_lt lt)]
    exact Heap.get?_push_of_some _ q
  · rw [py.length_eq, List.length_map, Array.length_toList]
    exact T.num
end
section
variable {X : Cx}
def rSortT (w : World) : List V → Hp → VK → Prop := fun vs H Q => ∃ (a : Addr) (S : Str → Bool) (n : Nat), vs = [V.ref a] ∧ H a = some (SetH w a S n) ∧ n < 64 ∧
  ∀ (ys : List Str) (p : Addr), sortedS ys = true → ys.Nodup → (∀ k : Str, k ∈ ys ↔ S k = true) → ys.length = n → H p = none → Q (.ref p) (upd H p (.lst (ys.map V.str)))
theorem cr_sortT (hc : X.calm = true) : CallR X (.builtin "sorted") (rSortT X.w) := by
  intro pins s σ H vs us Q I r h
  obtain ⟨a, S, n, rfl, ha, h64, q⟩ := h
  rw [Vals.ref1 r]
  refine sortedSet (setH_get I ha) (I.ok.hd hc) h64 fun s' p out c ys k g o hp hg hi hs hd hm hl => ?_
  have len : (ys.map V.str).length ≤ sizeLine := by
    rw [List.length_map, hl, sizeLine_eq]
    omega
  have hn : H p = none := I.hok.fresh hp
  have e : s' = { s with heap := s'.heap, gens := s'.gens, drawn := s'.drawn, toks := s'.toks } := by
    cases s'
    cases s
    cases o
    rfl
  have J : Inv X pins σ (upd H p (.lst (ys.map V.str))) { s with heap := s'.heap, gens := s'.gens, drawn := s'.drawn, toks := s'.toks } :=
    I.call (ch := []) (Un.laid k hp hn) (I.hok.laid k hp ⟨len, out.toList, c, vals_of_strs hi, hg⟩) (by rw [g]; exact I.bare) (fun _ z => nomatch z)
  rw [e]
  exact ⟨.ref p, _, J, rfl, q ys p hs hd hm hl hn⟩
end
end Ks

namespace Ks
open PySem PySem.Spec PyProof.Rows L2
def inL (l : List Str) : Str → Bool := fun k => decide (k ∈ l)
section
variable {P : Program} {w : World} {A : Around} {E : Value → Shared → Prop} {s : Shared}
theorem SetS.keep {h h' : Heap} {a : Addr} {S : Str → Bool} {n : Nat} (R : SetS w h a S n) (k : ∀ o, h.get? a = some o → h'.get? a = some o) : SetS w h' a S n := by
  obtain ⟨o, es, ep, t, ho, r⟩ := R
  exact ⟨o, es, ep, t, k o ho, r⟩
theorem SetS.as {h : Heap} {a : Addr} {S S' : Str → Bool} {n : Nat} (R : SetS w h a S n) (e : ∀ k, S' k = S k) : SetS w h a S' n := by
  have q : S' = S := funext e
  rw [q]
  exact R
theorem strGet {l : List Value} {xs : List Str} (h : StrsAre l xs) : ∀ (i : Nat) (v : Value), l[i]? = some v → ∃ x t, xs[i]? = some x ∧ v = .str x t := by
  induction h with
  | nil =>
    intro i v z
    simp at z
  | cons x t _ ih =>
    intro i v z
    cases i with
    | zero => exact ⟨x, t, rfl, (Option.some.inj z).symm⟩
    | succ i => exact ih i v z
/-- the loop of set.update over texts -/
theorem updLoop {I : Addr} {fp wr : List Addr} {G : Array GenState → Array GenState → Prop} {n : Nat} {Pv : Nat → Value → Prop} {St : Nat → Shared → Prop} {R : Result → Shared → Prop}
    (W : WalksS P w A.in1 I fp wr G n Pv St) (D : Addr) (hDf : D ∉ fp) (xs : List Str) (hn : n = xs.length) (few : n + 1 < scanBound) (hval : ∀ i v, Pv i v → ∃ x t, xs[i]? = some x ∧ v = .str x t) :
    ∀ (k i : Nat) (s : Shared), n - i = k → i ≤ n → St i s → (∃ m, m ≤ i ∧ SetS w s.heap D (inL (xs.take i)) m) →
      (∀ s' m, m ≤ n → Moved (D :: wr) G s s' → SetS w s'.heap D (inL xs) m → R (.ok (.ret .none)) s') → codeAny (model P w) A (.builtin "set.update.loop" ⟨[.ref D, .ref I], []⟩) R s := by
  have hDw : D ∉ wr := fun z => hDf (W.sub _ z)
  have sub : ∀ b ∈ wr, b ∈ D :: wr := fun b hb => List.mem_cons_of_mem _ hb
  intro k
  induction k with
  | zero =>
    intro i s hk hi st ⟨m, hm, hS⟩ hR
    have e : i = n := by omega
    refine codeAny_builtin F.entry_set_update_loop ?_
    rw [Around.under_plainId F.plain_set_update_loop _]
    show wpAny _ A.in1 (pyNext (.ref I) >>= _) _ _ s
    rw [e] at st
    refine wpAny_bind (W.done s _ _ st fun s' mv => ?_)
    show wpAny _ A.in1 (ret Value.none) _ _ s'
    refine wpAny_pure (hR s' m (by omega) (mv.mono sub) ?_)
    rw [e, hn, List.take_length] at hS
    exact hS.keep fun o z => mv.heap D o hDw z
  | succ k ih =>
    intro i s hk hi st ⟨m, hm, hS⟩ hR
    have lt : i < n := by omega
    refine codeAny_builtin F.entry_set_update_loop ?_
    rw [Around.under_plainId F.plain_set_update_loop _]
    show wpAny _ A.in1 (pyNext (.ref I) >>= _) _ _ s
    refine wpAny_bind (W.item i s _ _ lt st fun v s' hP st' mv => ?_)
    obtain ⟨x, t, hx, rfl⟩ := hval i v hP
    have hS' : SetS w s'.heap D (inL (xs.take i)) m := hS.keep fun o z => mv.heap D o hDw z
    show wpAny _ A.in1 (holding [Value.str x t] (setAdd D (.str x t)) >>= _) _ _ s'
    refine wpAny_bind (wpAny_holding ?_)
    unfold setAdd
    refine wpAny_holding ?_
    refine wpAny_bind ((PySem.strKind P w).pyHash (kis x t) ?_)
    refine addHashed (s := { s' with toks := s'.toks + 1 }) hS' (by omega) (fun h' sb S2 => ?_)
    have grow : xs.take (i + 1) = xs.take i ++ [x] := by rw [List.take_add_one, hx]; rfl
    have S3 : ∃ q, q ≤ i + 1 ∧ SetS w h' D (inL (xs.take (i + 1))) q := by
      refine ⟨_, ?_, S2.as fun j => ?_⟩
      · split <;> omega
      · unfold inL
        rw [grow, ← Bool.decide_or]
        exact decide_eq_decide.mpr (by rw [List.mem_append, List.mem_singleton])
    refine wpAny_pure ⟨plainId_quiet F.plain_set_update_loop _, ih (i + 1) _ (by omega) lt (W.frame _ s' _ _ st' (Nat.le_succ _) fun b hb o z => ?_) S3 (fun s'' q hq mv' S4 => ?_)⟩
    · rw [sb.2 b (fun y : b = D => hDf (by rw [← y]; exact hb))]
      exact z
    · refine hR s'' q hq (Moved.trans W.gtrans ((mv.mono sub).then_heap (Nat.le_succ _) fun b o hb z => ?_) mv') S4
      rw [sb.2 b (fun y : b = D => hb (by rw [y]; exact List.mem_cons_self))]
      exact z
abbrev set0 (w : World) : Obj := { cls := .type "set", dict := none, data := .set #[] 0 (.fresh 0 0 (!w.params.followText "set-order")) }
/-- set(a list of texts) -/
theorem callSet {l : Addr} {items : Array Value} (xs : List Str) {Q : Value → Shared → Prop} (hh : A.handled = none) (hl : s.heap.IsList l items) (hit : StrsAre items.toList xs) (few : xs.length + 1 < scanBound)
    (h : ∀ (h' : Heap) (tk m : Nat), m ≤ xs.length → SetS w h' s.heap.objs.size (inL xs) m → (∀ b o, s.heap.get? b = some o → h'.get? b = some o) → Q (.ref s.heap.objs.size) { s with heap := h', toks := tk }) :
    wpAny (model P w) A (call (.type "set") [.ref l]) Q E s := by
  have hsz : items.size = xs.length := by
    rw [← Array.length_toList]
    exact StrsAre.len_eq hit
  obtain ⟨c, tl, hmro⟩ := F.called_set.mro
  have hmade := F.called_set.made
  have hsub := F.called_set.sub
  refine wpAny_call (codeAny_of_tree ?_)
  show wpAny _ _ (callAny (.type "set") _) _ _ _
  refine wpAny_pure ⟨Code.quiet_builtin _ (by decide +kernel), codeAny_builtin F.entry_type_call ?_⟩
  rw [Around.under_plain (weight_type_call_type "set" [.ref l] []) rfl]
  have h1 := F.called_set.notType
  have h2 := F.called_set.canCreate
  have h3 := F.typeCall_set_1 (.ref l)
  repeat (any_goals (first | assumption | wp_step))
  refine codeAny_mono (code_set_led1 (.ref l) (E := E) (Q₁ := fun obj s₁ => obj = .ref s.heap.objs.size ∧ s₁ = { s with heap := s.heap.push (set0 w) }) ⟨rfl, rfl⟩) (fun r s₁ hr => ?_)
  cases r with
  | error e => exact hr
  | ok fl =>
    cases fl with
    | ret obj =>
      obtain ⟨rfl, rfl⟩ := hr
      have hS : (s.heap.push (set0 w)).get? s.heap.objs.size = some (set0 w) := Heap.get?_push_size _ rfl
      have hT : Shared.TypeIs { s with heap := s.heap.push (set0 w) } (.ref s.heap.objs.size) "set" := ⟨_, hS, rfl⟩
      have hli := F.called_set.init.lookup
      have hbi := F.called_set.init.bind (.ref s.heap.objs.size)
      repeat (any_goals (first | assumption | wp_step))
      refine codeAny_mono (codeAny_call_builtin (R := wants (fun r s₂ => r = .none ∧ ∃ h' tk m, m ≤ xs.length ∧ s₂ = { s with heap := h', toks := tk } ∧ SetS w h' s.heap.objs.size (inL xs) m ∧
          (∀ b o, s.heap.get? b = some o → h'.get? b = some o)) E) F.called_set.init.plain F.entry_set_init (check_set_init_1 hT ?_)) (fun r₂ s₂ hr₂ => ?_)
      · obtain ⟨ol, hol, hcl, nl, hdl⟩ := hl
        obtain ⟨ocls, odict, odata, oslots⟩ := ol
        simp only at hcl hdl
        subst hcl
        subst hdl
        have hol' : (s.heap.push (set0 w)).get? l = some { cls := .type "list", dict := odict, data := .seq items nl, slots := oslots } := Heap.get?_push_of_some _ hol
        have hsls := F.sub_list_set
        have hslf := F.sub_list_frozenset
        have hne : (Value.type "list" == Value.type "dict") = false := by decide
        have hl1 : (s.heap.push (set0 w)).IsList l items := ⟨_, hol', rfl, nl, rfl⟩
        unfold Builtin.«set.__init__» noKeywords Builtin.Frozenset.updateFrom
        generalize hPI : pyIter = PI
        wp_walk
        subst hPI
        refine wpAny_pyIter_list hl1 ?_
        refine wpAny_bind (wpAny_runValue ?_)
        have ll : l < s.heap.objs.size := Heap.lt_size hol
        have hh3 : A.in1.in1.in1.handled = none := by simp [hh]
        have zz : (s.heap.push (set0 w)).objs.size = s.heap.objs.size + 1 := Heap.size_push ..
        have nI : l ≠ (s.heap.push (set0 w)).objs.size := by
          rw [zz]
          exact Nat.ne_of_lt (Nat.lt_succ_of_lt ll)
        have out : s.heap.objs.size ∉ [(s.heap.push (set0 w)).objs.size, l] := by
          rw [zz]
          intro z
          rcases List.mem_cons.mp z with z | z
          · exact Nat.lt_irrefl _ (Nat.lt_of_lt_of_eq (Nat.lt_succ_self _) z.symm)
          · exact Nat.lt_irrefl _ (Nat.lt_of_lt_of_eq ll (List.mem_singleton.mp z))
        have hval : ∀ (i : Nat) (v : Value), items[i]? = some v → ∃ x t, xs[i]? = some x ∧ v = .str x t := fun i v hv => by
          exact strGet hit i v (by rw [Array.getElem?_toList]; exact hv)
        refine updLoop ((Walks.list hh3 _ l nI items).toS) s.heap.objs.size out xs hsz (by omega) hval (items.size - 0) 0 _ (by omega) (Nat.zero_le _)
          ⟨⟨_, Heap.get?_push_size _ rfl, rfl, rfl⟩, (hl1.push _)⟩ ⟨0, Nat.le_refl _, ?_⟩ (fun s' m hm mv S4 => ?_)
        · refine ((fresh w).keep fun o z => Heap.get?_push_of_some _ z).as fun k => ?_
          unfold inL
          exact decide_eq_false (by rw [List.take_zero]; exact List.not_mem_nil)
        · obtain ⟨h', g2, d', tk', os'⟩ := s'
          have eg : g2 = s.gens := mv.gens
          have ed : d' = s.drawn := mv.drawn
          have eo : os' = s.os := mv.os
          subst eg
          subst ed
          subst eo
          show wpAny _ _ _ _ _ _
          refine wpAny_pure ?_
          show wpAny _ _ (ret Value.none) _ _ _
          refine wpAny_pure ⟨rfl, h', tk', m, by omega, rfl, S4, fun b o z => mv.heap b o (fun y => ?_) (Heap.get?_push_of_some _ (Heap.get?_push_of_some _ z))⟩
          have lb := Heap.lt_size z
          rcases List.mem_cons.mp y with y | y
          · rw [y] at lb
            exact Nat.lt_irrefl _ lb
          · rw [List.mem_singleton.mp y, zz] at lb
            exact Nat.lt_irrefl _ (Nat.lt_of_succ_lt lb)
      · cases r₂ with
        | error e => exact hr₂
        | ok fl₂ =>
          cases fl₂ with
          | ret r =>
            obtain ⟨rfl, h', tk, m, hm, rfl, S4, kp⟩ := hr₂
            repeat (any_goals (first | assumption | wp_step))
            exact h _ _ _ hm S4 kp
          | _ => exact hr₂.elim
    | _ => exact hr.elim
end
section
variable {X : Cx}
def rSetT (K : PySem.W.Frag) (w : World) : List V → Hp → VK → Prop := fun vs H Q => ∃ (l : Addr) (xs : List Str), vs = [V.ref l] ∧ SqL K H l (xs.map V.str) ∧ xs.length + 1 < scanBound ∧
  ∀ (p : Addr) (m : Nat), m ≤ xs.length → H p = none → Q (.ref p) (upd H p (SetH w p (inL xs) m))
theorem cr_setT (hc : X.calm = true) : CallR X (.type "set") (rSetT X.K X.w) := by
  intro pins s σ H vs us Q I r h
  obtain ⟨l, xs, rfl, hq, few, q⟩ := h
  rw [Vals.ref1 r]
  obtain ⟨its, rv, pl, hz⟩ := I.list hq
  refine callSet xs (I.ok.hd hc) pl.isList (by rw [List.toList_toArray]; exact rv.strs) few fun h' tk m hm S kp => ?_
  have hn : H s.heap.objs.size = none := I.hok.fresh (Nat.le_refl _)
  exact ⟨.ref _, _, I.laid (t' := tk) kp (Nat.le_refl _) (setH_new S), rfl, q _ m hm hn⟩
end
end Ks

/-! sorted(a set of texts), any number of them -/
namespace Ks
open PySem PySem.Spec PyProof.Rows L2 SrtO
def ltSv (v u : Value) : Bool := decide ((txv v).cps.toList < (txv u).cps.toList)
theorem swo_txt : Swo ltSv := by
  refine ⟨fun x y h => ?_, fun x y z h1 h2 => ?_⟩
  · have a := of_decide_eq_true (p := (txv x).cps.toList < (txv y).cps.toList) h
    exact decide_eq_false (p := (txv y).cps.toList < (txv x).cps.toList) (List.not_lt.mpr (List.le_of_lt a))
  · have a := of_decide_eq_false (p := (txv y).cps.toList < (txv x).cps.toList) h1
    have b := of_decide_eq_false (p := (txv z).cps.toList < (txv y).cps.toList) h2
    exact decide_eq_false (p := (txv z).cps.toList < (txv x).cps.toList) (List.not_lt.mpr (List.le_trans (List.not_lt.mp a) (List.not_lt.mp b)))
theorem strs_mem : ∀ {vs : List Value} {xs : List Str}, StrsAre vs xs → ∀ v ∈ vs, ∃ x t, v = Value.str x t
  | _, _, .nil, v, h => absurd h List.not_mem_nil
  | _, _, .cons n t r, v, h => by
    rcases List.mem_cons.mp h with e | h
    · exact ⟨n, t, e⟩
    · exact strs_mem r v h
theorem strs_txv : ∀ {vs : List Value}, (∀ v ∈ vs, ∃ x t, v = Value.str x t) → StrsAre vs (vs.map txv)
  | [], _ => .nil
  | v :: vs, h => by
    obtain ⟨i, t, e⟩ := h v List.mem_cons_self
    subst e
    exact .cons i t (strs_txv fun u hu => h u (List.mem_cons_of_mem _ hu))
section
variable {prog : Program} {w : World} {A : Around} {E : Value → Shared → Prop} {s : Shared}
theorem txt_cmp {vs : List Value} {xs : List Str} (hI : StrsAre vs xs) : Cmp prog w A s oneType' (fun p => p.1 ∈ vs) (lt2 ltSv) := by
  intro p q hm hm'
  obtain ⟨a, t, e⟩ := strs_mem hI _ hm
  obtain ⟨b, u, e'⟩ := strs_mem hI _ hm'
  show wpAny (model prog w) A (keyLt' oneType' p.1 q.1) (fun r s' => s' = s ∧ r = ltSv p.1 q.1) (fun _ _ => False) s
  rw [e, e', keyLt'_oneType]
  exact oneLt_str ⟨rfl, rfl⟩
theorem txt_sortable {a : Addr} {vs : List Value} {xs : List Str} (hI : StrsAre vs xs) (h2 : 2 ≤ vs.length) : SortableO prog w A s a vs ltSv := by
  intro h' _
  refine ⟨oneType', fun Q E hq => ?_, txt_cmp hI⟩
  match vs, hI, h2 with
  | v1 :: v2 :: rest, hI, _ =>
    rw [keyKind_strs hI]
    exact wpAny_pure hq
  | [], _, h => exact absurd h (by decide)
  | [v], _, h => exact absurd h (by simp)
theorem txt_out {vs out : List Value} {xs : List Str} (hI : StrsAre vs xs) (hs : Srtd ltSv out) (hb : Stb ltSv out vs) : StrsAre out (out.map txv) ∧ (out.map txv).Perm xs ∧ (out.map txv).Pairwise (fun x y => x.cps.toList ≤ y.cps.toList) := by
  refine ⟨strs_txv fun v hv => strs_mem hI v (hb.perm.mem_iff.mp hv), ?_, ?_⟩
  · have q := hb.perm.map txv
    rw [← strs_eq hI] at q
    exact q
  · exact List.pairwise_map.mpr (hs.imp fun {x y} h => List.not_lt.mp (of_decide_eq_false (p := (txv y).cps.toList < (txv x).cps.toList) h))
variable {P : Program} {a : Addr} {S : Str → Bool} {n : Nat}
/-- sorted(a set of texts) -/
theorem sortedSetN {Q : Value → Shared → Prop} (R : SetS w s.heap a S n) (hh : A.handled = none) (hn : n ≤ sizeLine)
    (hQ : ∀ (s' : Shared) (p : Addr) (out : Array Value) (c : Nat) (ys : List Str), (∀ b o, s.heap.get? b = some o → s'.heap.get? b = some o) → s'.gens = s.gens → s'.os = s.os → s.heap.objs.size ≤ p →
      s'.heap.get? p = some (seqObj "list" out c) → StrsAre out.toList ys → ys.Pairwise (fun x y => x.cps.toList ≤ y.cps.toList) → ys.Nodup → (∀ k, k ∈ ys ↔ S k = true) → ys.length = n → Q (.ref p) s') :
    wpAny (model P w) A (call (.builtin "sorted") [.ref a]) Q E s := by
  obtain ⟨o, es, ep, t, ho, hex, hd, T⟩ := R
  refine Calls.call_function_entry kind_sorted plain_sorted entry_sorted (args_sorted1 _) ?_
  unfold Builtin.«sorted»
  refine wpAny_bind (m := checkCount "sorted" 1 1 _) (wpAny_pure ?_)
  refine wpAny_bind (collect_set (A := A.in1) hh ⟨o, ho, hex.1, hd⟩ T.fit T.few T.ris T.led fun s1 vs k1 z1 g1 o1 pm => ?_)
  have len : vs.length = n := by
    rw [pm.length_eq, List.length_map, Array.length_toList]
    exact T.num
  obtain ⟨xs, hx⟩ := strsOf (l := vs) fun v hv => by
    obtain ⟨e, he, q⟩ := List.mem_map.mp (pm.mem_iff.mp hv)
    obtain ⟨x, t, h1, _⟩ := T.good e he
    exact ⟨x, t, by rw [← q]; exact h1⟩
  have px : xs.Perm (es.toList.map tx) := by
    have q := pm.map txv
    rw [List.map_map] at q
    rw [strs_eq hx]
    exact q
  refine wpAny_bind (wpAny_newList ?_ (by rw [len]; exact hn))
  have oL : (s1.heap.push (seqObj "list" vs.toArray 0)).get? s1.heap.objs.size = some (seqObj "list" vs.toArray 0) := Heap.get?_push_size _ rfl
  refine wpAny_bind (wpAny_holding (wpAny_call_entry slot_list_sort ⟨_, oL, rfl⟩ entry_list_sort
    (SrtO.list_sort_ord swo_txt oL (by rw [len]; exact hn) (fun h2 => txt_sortable hx h2) fun out h1 h2 => ⟨.none, rfl, ?_⟩) (args_list_sort _)))
  obtain ⟨a1, a2, a3⟩ := txt_out hx h1 h2
  obtain ⟨c, hc⟩ := sortedHeap_at (vs := vs) (out := out.toArray) oL
  have py : (out.map txv).Perm (es.toList.map tx) := a2.trans px
  refine wpAny_pure ⟨_, rfl, hQ _ s1.heap.objs.size _ c (out.map txv) (fun b u e => ?_) g1 o1 z1 hc a1 a3 (py.nodup_iff.mpr T.nd) (fun k => by rw [py.mem_iff, ← T.mem k]) ?_⟩
  · have q := k1 b u e
    have lt := Heap.lt_size q
    show (sortedHeap (s1.heap.push (seqObj "list" vs.toArray 0)) s1.heap.objs.size vs _).get? b = some u
    rw [sortedHeap_old (Nat.ne_of_lt lt) (by rw [size_push']; exact Nat.lt_succ_of_lt lt)]
    exact Heap.get?_push_of_some _ q
  · rw [py.length_eq, List.length_map, Array.length_toList]
    exact T.num
end
section
variable {X : Cx}
def rSortTN (w : World) : List V → Hp → VK → Prop := fun vs H Q => ∃ (a : Addr) (S : Str → Bool) (n : Nat), vs = [V.ref a] ∧ H a = some (SetH w a S n) ∧ n ≤ sizeLine ∧
  ∀ (ys : List Str) (p : Addr), ys.Pairwise (fun x y => x.cps.toList ≤ y.cps.toList) → ys.Nodup → (∀ k : Str, k ∈ ys ↔ S k = true) → ys.length = n → H p = none → Q (.ref p) (upd H p (.lst (ys.map V.str)))
theorem cr_sortTN (hc : X.calm = true) : CallR X (.builtin "sorted") (rSortTN X.w) := by
  intro pins s σ H vs us Q I r h
  obtain ⟨a, S, n, rfl, ha, hn, q⟩ := h
  rw [Vals.ref1 r]
  refine sortedSetN (setH_get I ha) (I.ok.hd hc) hn fun s' p out c ys k g o hp hg hi hs hd hm hl => ?_
  have len : (ys.map V.str).length ≤ sizeLine := by
    rw [List.length_map, hl]
    exact hn
  have hn : H p = none := I.hok.fresh hp
  have e : s' = { s with heap := s'.heap, gens := s'.gens, drawn := s'.drawn, toks := s'.toks } := by
    cases s'
    cases s
    cases o
    rfl
  have J : Inv X pins σ (upd H p (.lst (ys.map V.str))) { s with heap := s'.heap, gens := s'.gens, drawn := s'.drawn, toks := s'.toks } :=
    I.call (ch := []) (Un.laid k hp hn) (I.hok.laid k hp ⟨len, out.toList, c, vals_of_strs hi, hg⟩) (by rw [g]; exact I.bare) (fun _ z => nomatch z)
  rw [e]
  exact ⟨.ref p, _, J, rfl, q ys p hs hd hm hl hn⟩
end
/-- strictly rising texts with the same members are the same -/
theorem strictEq : ∀ {ys zs : List Str}, ys.Pairwise (fun a b => a.cps.toList ≤ b.cps.toList) → zs.Pairwise (fun a b => a.cps.toList ≤ b.cps.toList) → ys.Nodup → zs.Nodup → (∀ k, k ∈ ys ↔ k ∈ zs) → ys = zs
  | [], [], _, _, _, _, _ => rfl
  | [], z :: zs, _, _, _, _, h => absurd ((h z).2 List.mem_cons_self) List.not_mem_nil
  | y :: ys, [], _, _, _, _, h => absurd ((h y).1 List.mem_cons_self) List.not_mem_nil
  | y :: ys, z :: zs, p1, p2, n1, n2, h => by
    obtain ⟨a1, a2⟩ := List.pairwise_cons.mp p1
    obtain ⟨b1, b2⟩ := List.pairwise_cons.mp p2
    obtain ⟨c1, c2⟩ := List.nodup_cons.mp n1
    obtain ⟨d1, d2⟩ := List.nodup_cons.mp n2
    have e : y = z := by
      rcases List.mem_cons.mp ((h y).1 List.mem_cons_self) with q | q
      · exact q
      rcases List.mem_cons.mp ((h z).2 List.mem_cons_self) with r | r
      · exact r.symm
      have le := List.le_antisymm (a1 z r) (b1 y q)
      obtain ⟨yc⟩ := y
      obtain ⟨zc⟩ := z
      have : yc.toList = zc.toList := le
      rw [Array.toList_inj.mp this]
    subst e
    rw [strictEq a2 b2 c2 d2 fun k => ?_]
    constructor
    · intro hk
      rcases List.mem_cons.mp ((h k).1 (List.mem_cons_of_mem _ hk)) with q | q
      · rw [q] at hk
        exact absurd hk c1
      · exact q
    · intro hk
      rcases List.mem_cons.mp ((h k).2 (List.mem_cons_of_mem _ hk)) with q | q
      · rw [q] at hk
        exact absurd hk d1
      · exact q
end Ks

namespace Kq
open PySem PySem.Spec PyProof.Rows L2 Kf Kg Kv GxR
abbrev tLCar : Stmt := tp 55
theorem arg_eq (x : Dt) : argD x = chD dat x := by
  unfold argD fstD
  cases c : tagD x "fun" 2 with
  | false => rw [chD_no dat c]; simp
  | true =>
    obtain ⟨a, b, rfl⟩ := tag_fn c
    rw [dat_fn]
    simp
theorem nm_of {x : Str} (h : nmS x = true) : Nm x := by
  have hl : x.cps.toList.length = x.length := Array.length_toList
  have ll : ∀ c ∈ lets.cps.toList, 97 ≤ c ∧ c < 123 := by decide +kernel
  unfold nmS at h
  obtain ⟨h1, h2⟩ := Bool.and_eq_true_iff.mp h
  obtain ⟨h3, h4⟩ := Bool.and_eq_true_iff.mp h1
  have h3 := of_decide_eq_true h3
  have h4 := of_decide_eq_true h4
  refine ⟨fun c hc => ?_, by omega, by omega⟩
  have z := List.all_eq_true.mp h2 c hc
  unfold isLo at z
  exact ll c (of_decide_eq_true z)
section
variable {P : Program} {w : World} {K : PySem.W.Frag} {mg : Str → Option Value} {base : Heap}
def spLDt (n : Nat) (p : Dt → Bool) : Sp := fun vs H Q _ => ∃ (v : V) (x : Dt), vs = [v] ∧ x.dp + 1 ≤ n ∧ Dd Any H x v ∧ x.wt ≤ sizeLine ∧ ∀ G : Hp, Same H G → Q (.bl (p x)) G
/-! _law_is_carried -/
theorem scLCar : FnScope ["_law_thing"] ["_law_thing"] (defScope tLCar) := ⟨rfl, rfl, rfl, by decide +kernel, rfl, by decide +kernel, by decide +kernel⟩
theorem okLCar {f fD : Addr} {fd fdD : FuncData} {n k : Nat} (F : Fun K "_law_is_carried" "_law_is_carried" tLCar f fd)
    (GD : FnOk P w K mg base CX0 k fD fdD ["_law_thing"] (spLData n)) (bD : Binds K fdD ["_law_thing"] []) (gD : mg "_law_is_data" = some (.ref fD)) (kD : PySem.W.keepIn K (.ref fD) = true)
    (mi : mg "isinstance" = none) (mt : mg "tuple" = none) (ms : mg "str" = none) (ml : mg "len" = none) : FnOk P w K mg base CX0 (k + 1) f fd ["_law_thing"] (spLDt n argD) := by
  refine F.ok scLCar (fun vs H Q E h => ?_) (fun cdv A outer s H vs Q E hr h => ?_)
  · obtain ⟨v, x, rfl, _⟩ := h
    rfl
  obtain ⟨v, x, rfl, hn, hd, hw, q⟩ := h
  refine ⟨_, pss_cons (ps_while PassesOwn.never (PW.pt (pw_and (pt_val (pe_callB (isiK K rfl) (by rfl) mi PyProof.Rows.boot_isinstance (pa_cons (pv 0) (pa_cons (pe_bltn (v := .ty "tuple") (by rfl) mt PyProof.Rows.boot_tuple rfl) pa_nil))))
      (pw_and (pt_cmpR op_eq (pe_callB call_len_seq (by rfl) ml PySem.boot_len (pa_cons (pv 0) pa_nil)) pe_int (nomark _))
      (pw_and (pt_val (pe_callB (isiK K rfl) (by rfl) mi PyProof.Rows.boot_isinstance (pa_cons (pe_ix ix_tup (pv 0) pe_int (fun _ _ => rfl)) (pa_cons (pe_bltn (v := .ty "str") (by rfl) ms PyProof.Rows.boot_str rfl) pa_nil))))
      (pw_and1 (pt_cmpR op_eq (pe_ix ix_tup (pv 0) pe_int (fun _ _ => rfl)) pe_str (nomark _)))))))
      (pss_cons (ps_if (pt_not (pt_val (pe_call GD hr (by rfl) gD kD bD .nil pass0 (pa_cons (pe_ix ix_tup (pv 0) pe_int (fun _ _ => rfl)) pa_nil)))) (pss_one (ps_ret pe_bl)) pss_nil)
      (pss_one (ps_set (i := 0) scLCar.nd rfl (.inl rfl) (pe_ix ix_tup (pv 0) pe_int (fun _ _ => rfl))))))
    (pss_one (ps_ret (pe_call GD hr (by rfl) gD kD bD .nil pass0 (pa_cons (pv 0) pa_nil)))), ?_⟩
  have et := arg_eq x
  let Iv : Nat → L2.St → Hp → Prop := fun m σ G => ∃ y u, m = y.sz ∧ σ = [some u] ∧ Same H G ∧ Dd Any G y u ∧ y.wt ≤ x.wt ∧ y.dp ≤ x.dp ∧ chD dat x = chD dat y
  refine ⟨Iv, ⟨_, x, v, rfl, rfl, Same.refl H, hd, Nat.le_refl _, Nat.le_refl _, rfl⟩, fun m σ G z => ?_⟩
  obtain ⟨y, u, rfl, rfl, sG, hy, hyw, hyd, hc⟩ := z
  have fin : tagD y "fun" 2 = false → spLData n [u] G Q E0 := fun h => by
    refine ⟨u, y, rfl, by omega, hy, by omega, fun G2 s2 => ?_⟩
    have z := q _ (sG.trans s2)
    rw [et, hc, chD_no _ h] at z
    exact z
  refine ⟨_, rfl, _, _, _, _, y.isTup, rfl, .ty "tuple", hy.ty, kTup K y, _, rfl, ite2 (fun e => ?_) (fun e => iteF ⟨_, rfl, fin ?_⟩)⟩
  rotate_left
  · cases y <;> first | rfl | exact absurd rfl e
  obtain ⟨xs, rfl⟩ : ∃ xs, y = .tup xs := by
    cases y with
    | tup xs => exact ⟨xs, rfl⟩
    | _ => cases e
  obtain ⟨a, us, rfl, ha, hL⟩ := Dd.tupS hy
  have ll := hL.len
  refine ⟨_, rfl, a, _, rfl, .inr (SqT.of ha), rfl, _, rfl, ite2 (fun e => ?_) (fun e => iteF ⟨_, rfl, fin ?_⟩)⟩
  rotate_left
  · have e1 : ¬ us.length = 3 := fun z => e (decide_eq_true (by rw [z]; rfl))
    match xs, ll with
    | [], _ => rfl
    | z :: zs, ll =>
      show (decide (zs.length = 2) && _) = false
      rw [decide_eq_false (by rw [List.length_cons] at ll; omega), Bool.false_and]
  have e1 : us.length = 3 := by
    have := V.int.inj (of_decide_eq_true e)
    omega
  obtain ⟨y0, ya, yb, rfl⟩ : ∃ y0 ya yb, xs = [y0, ya, yb] := by
    rw [← ll] at e1
    match xs, e1 with
    | [y0, ya, yb], _ => exact ⟨_, _, _, rfl⟩
  obtain ⟨p, u0, ua, ub, ep, hp, h0, hA, hB⟩ := Dd.tup3 hy
  cases ep
  rw [ha] at hp
  cases hp
  have ix0 : atI [u0, ua, ub] 0 = some u0 := atI_nat (j := 0) rfl
  refine ⟨_, rfl, a, _, _, _, rfl, rfl, SqT.of ha, ix0, _, _, _, _, y0.isStr, rfl, .ty "str", h0.ty, kStr K y0, _, rfl, ite2 (fun e => ?_) (fun e => iteF ⟨_, rfl, fin ?_⟩)⟩
  rotate_left
  · show (decide ([ya, yb].length = 2) && y0.isS "fun") = false
    cases y0 <;> first | exact absurd rfl e | simp [Dt.isS]
  obtain ⟨wd, rfl⟩ : ∃ z, y0 = .str z := by
    cases y0 with
    | str z => exact ⟨z, rfl⟩
    | _ => cases e
  cases h0
  refine ⟨_, rfl, a, _, _, _, rfl, rfl, SqT.of ha, ix0, rfl, _, rfl, ite2 (fun e => ?_) (fun e => ⟨_, rfl, fin ?_⟩)⟩
  rotate_left
  · show (decide ([ya, yb].length = 2) && decide (wd = "fun")) = false
    rw [decide_eq_false (p := wd = "fun") (fun z => e (decide_eq_true (by rw [z]))), Bool.and_false]
  have e4 : wd = "fun" := V.str.inj (of_decide_eq_true e)
  subst e4
  rw [wt3] at hyw
  have hd3 : (Dt.tup [.str "fun", ya, yb]).dp = max 0 (max ya.dp (max yb.dp 0)) + 1 := by simp only [Dt.dp, Dt.dps]
  refine ⟨fun σ' G' => ∃ m', m' < _ ∧ Iv m' σ' G', fun σ' G' z => z, ?_⟩
  refine ⟨_, rfl, a, _, _, _, rfl, rfl, SqT.of ha, atI_nat (j := 1) rfl, ua, ya, rfl, by omega, hA, by omega, fun G2 s2 => ⟨_, rfl, ite2 (fun e => ?_) (fun e => ?_)⟩⟩
  · have z := q _ (sG.trans s2)
    rw [et, hc, chD_fn, show dat ya = false by simpa using e] at z
    exact z
  refine ⟨_, rfl, a, _, _, _, rfl, rfl, SqT.of (s2 _ _ ha), atI_nat (j := 2) rfl, yb.sz, ?_, yb, ub, rfl, rfl, sG.trans s2, hB.same s2, by omega, by omega, ?_⟩
  · rw [sz3]
    omega
  · rw [hc, chD_fn, show dat ya = true by simpa using e, Bool.true_and]
end
end Kq

/-! things by written displays -/
namespace Ki
open PySem PySem.Spec PyProof.Rows L2 Kf Kv
abbrev New (H : Hp) : Addr → Prop := fun b => H b = none
/-- what is known of the slots and the heap, whatever is put beside -/
structure Ev where
  e : L2.St → Hp → Prop
  cl : ∀ σ H G, e σ H → Same H G → e σ G
def tT (E : Ev) (x : Dt) : TE := fun σ H Q => E.e σ H ∧ ∀ v G, Same H G → Dd (New H) G x v → Q v G
def tTs (E : Ev) (xs : List Dt) : TA := fun σ H Q => E.e σ H ∧ ∀ vs G, Same H G → DdL (New H) G xs vs → Q vs G
theorem newS {H : Hp} {p : Addr} {o : HO} (h : H p = none) : Same H (upd H p o) := fun b u e => by
  rw [upd_ne (ne_of_none e h)]
  exact e
section
variable {X : Cx} {E : Ev}
theorem weak {e : Expr} {t t' : TE} (h : PE X e t) (i : ∀ σ H Q, t' σ H Q → t σ H Q) : PE X e t' := ⟨fun pins s σ H Q I q => h.run pins s σ H Q I (i σ H Q q)⟩
theorem weakA {es : List Expr} {t t' : TA} (h : PA X es t) (i : ∀ σ H Q, t' σ H Q → t σ H Q) : PA X es t' := ⟨fun pos pins s σ H Q I q => h.run pos pins s σ H Q I (i σ H Q q)⟩
theorem pT_of {e : Expr} {t : TE} {x : Dt} (h : PE X e t) (i : ∀ (σ : L2.St) (H : Hp) (Q : VK), E.e σ H → (∀ v G, Same H G → Dd (New H) G x v → Q v G) → t σ H Q) : PE X e (tT E x) := weak h fun σ H Q q => i σ H Q q.1 q.2
theorem pT_str {z j pos} : PE X (.Constant (.str z) j pos) (tT E (.str z)) := pT_of pe_str fun σ H Q _ q => q _ _ (Same.refl H) (.str _)
theorem pT_int {z j pos} : PE X (.Constant (.int z) j pos) (tT E (.int z)) := pT_of pe_int fun σ H Q _ q => q _ _ (Same.refl H) (.int _)
theorem pT_bl {z j pos} : PE X (.Constant (.bool z) j pos) (tT E (.bl z)) := pT_of pe_bl fun σ H Q _ q => q _ _ (Same.refl H) (.bl _)
theorem pT_non {j pos} : PE X (.Constant .none j pos) (tT E .non) := pT_of pe_non fun σ H Q _ q => q _ _ (Same.refl H) .non
theorem pTs_nil : PA X [] (tTs E []) := weakA pa_nil fun σ H Q q => q.2 [] H (Same.refl H) .nil
theorem pTs_cons {e : Expr} {es : List Expr} {x : Dt} {xs : List Dt} (ha : PE X e (tT E x)) (hr : PA X es (tTs E xs)) (hs : starEach (e :: es) X.env = (false, eval e X.env) :: starEach es X.env := by rfl) : PA X (e :: es) (tTs E (x :: xs)) :=
  weakA (pa_cons ha hr hs) fun σ H Q q => ⟨q.1, fun v G s hv => ⟨E.cl _ _ _ q.1 s, fun vs G2 s2 hvs => q.2 _ _ (s.trans s2) (.cons (hv.same s2) (hvs.at fun b u n _ => s.free n))⟩⟩
theorem pT_tup {es : List Expr} {xs : List Dt} {k : Nat} {pos : Pos} (h : PA X es (tTs E xs)) (hl : xs.length ≤ 1000 := by exact Nat.le_of_ble_eq_true rfl) : PE X (.Tuple es k pos) (tT E (.tup xs)) :=
  weak (pe_tup h) fun σ H Q q => ⟨q.1, fun vs G s hd => ⟨by rw [← hd.len]; exact Nat.le_of_lt (small1000 hl), fun p np => q.2 _ _ (s.trans (newS np)) (.tup upd_same (hd.same (newS np)))⟩⟩
theorem pT_lst {es : List Expr} {xs : List Dt} {pos : Pos} (h : PA X es (tTs E xs)) (hl : xs.length ≤ 1000 := by exact Nat.le_of_ble_eq_true rfl) : PE X (.List es pos) (tT E (.lst xs)) :=
  weak (pe_lst h) fun σ H Q q => ⟨q.1, fun vs G s hd => ⟨by rw [← hd.len]; exact Nat.le_of_lt (small1000 hl), fun p np => q.2 _ _ (s.trans (newS np)) (.lst (s.free np) upd_same (hd.same (newS np)))⟩⟩
end
/-! things without lists -/
mutual
def noL : Dt → Bool
  | .tup xs => noLs xs
  | .lst _ => false
  | .dct _ => false
  | _ => true
def noLs : List Dt → Bool
  | [] => true
  | x :: xs => noL x && noLs xs
end
mutual
theorem pureD {N M : Addr → Prop} {H : Hp} : ∀ {x : Dt} {v : V}, Dd N H x v → noL x = true → Dd M H x v
  | _, _, .non, _ => .non
  | _, _, .bl b, _ => .bl b
  | _, _, .int i, _ => .int i
  | _, _, .str x, _ => .str x
  | _, _, .tup h t, e => .tup h (pureL t (by simpa only [noL] using e))
  | _, _, .lst _ _ _, e => by simp [noL] at e
  | _, _, .dct _ _, e => by simp [noL] at e
theorem pureL {N M : Addr → Prop} {H : Hp} : ∀ {xs : List Dt} {vs : List V}, DdL N H xs vs → noLs xs = true → DdL M H xs vs
  | _, _, .nil, _ => .nil
  | x :: xs, _ :: _, .cons h t, e => by
    have e' : (noL x && noLs xs) = true := by simpa only [noLs] using e
    obtain ⟨e1, e2⟩ := Bool.and_eq_true_iff.mp e'
    exact .cons (pureD h e1) (pureL t e2)
end
theorem lstS {N : Addr → Prop} {H : Hp} {xs : List Dt} {v : V} (h : Dd N H (.lst xs) v) : ∃ a vs, v = .ref a ∧ N a ∧ H a = some (.lst vs) ∧ DdL N H xs vs := by
  cases h with
  | lst n h t => exact ⟨_, _, rfl, n, h, t⟩
end Ki

namespace Kq
open PySem PySem.Spec PyProof.Rows L2 Kf Kg Kv GxR Ki
/-! displays whose things may stand at N -/
/-- what is known of the slots and the heap, whatever is put beside; what is free is of N -/
structure En (N : Addr → Prop) where
  e : L2.St → Hp → Prop
  cl : ∀ σ H G, e σ H → Same H G → e σ G
  fr : ∀ σ H b, e σ H → H b = none → N b
def uT {N : Addr → Prop} (E : En N) (x : Dt) : TE := fun σ H Q => E.e σ H ∧ ∀ v G, Same H G → Dd N G x v → Q v G
def uTs {N : Addr → Prop} (E : En N) (xs : List Dt) : TA := fun σ H Q => E.e σ H ∧ ∀ vs G, Same H G → DdL N G xs vs → Q vs G
def uP {N : Addr → Prop} (E : En N) (R : Dt → Prop) : TE := fun σ H Q => E.e σ H ∧ ∀ v x G, Same H G → Dd N G x v → R x → Q v G
def uPs {N : Addr → Prop} (E : En N) (R : Dt → Prop) (n : Nat) : TA := fun σ H Q => E.e σ H ∧ ∀ vs xs G, Same H G → DdL N G xs vs → (∀ x ∈ xs, R x) → xs.length = n → Q vs G
def uPl {N : Addr → Prop} (E : En N) (R : Dt → Prop) (n : Nat) : TE := fun σ H Q => E.e σ H ∧ ∀ v xs G, Same H G → Dd N G (.lst xs) v → (∀ x ∈ xs, R x) → xs.length = n → Q v G
section
variable {X : Cx} {N : Addr → Prop} {E : En N} {R : Dt → Prop}
theorem uT_of {e : Expr} {t : TE} {x : Dt} (h : PE X e t) (i : ∀ (σ : L2.St) (H : Hp) (Q : VK), E.e σ H → (∀ v G, Same H G → Dd N G x v → Q v G) → t σ H Q) : PE X e (uT E x) := weak h fun σ H Q q => i σ H Q q.1 q.2
theorem uT_str {z j pos} : PE X (.Constant (.str z) j pos) (uT E (.str z)) := uT_of pe_str fun σ H Q _ q => q _ _ (Same.refl H) (.str _)
theorem uT_int {z j pos} : PE X (.Constant (.int z) j pos) (uT E (.int z)) := uT_of pe_int fun σ H Q _ q => q _ _ (Same.refl H) (.int _)
theorem uT_bl {z j pos} : PE X (.Constant (.bool z) j pos) (uT E (.bl z)) := uT_of pe_bl fun σ H Q _ q => q _ _ (Same.refl H) (.bl _)
theorem uT_non {j pos} : PE X (.Constant .none j pos) (uT E .non) := uT_of pe_non fun σ H Q _ q => q _ _ (Same.refl H) .non
theorem uT_neg {z k p pos} : PE X (.UnaryOp .USub (.Constant (.int z) k p) pos) (uT E (.int (-z))) := uT_of (pe_un un_neg pe_int) fun σ H Q _ q => ⟨_, rfl, q _ _ (Same.refl H) (.int _)⟩
theorem uT_emp {pos} : PE X (.Dict [] [] pos) (uT E (.dct [])) := uT_of pe_dnewK fun σ H Q e q => fun d hd => q _ _ (newS hd) (.dct (E.fr _ _ _ e hd) upd_same)
theorem uTs_nil : PA X [] (uTs E []) := weakA pa_nil fun σ H Q q => q.2 [] H (Same.refl H) .nil
theorem uTs_cons {e : Expr} {es : List Expr} {x : Dt} {xs : List Dt} (ha : PE X e (uT E x)) (hr : PA X es (uTs E xs)) (hs : starEach (e :: es) X.env = (false, eval e X.env) :: starEach es X.env := by rfl) : PA X (e :: es) (uTs E (x :: xs)) :=
  weakA (pa_cons ha hr hs) fun σ H Q q => ⟨q.1, fun v G s hv => ⟨E.cl _ _ _ q.1 s, fun vs G2 s2 hvs => q.2 _ _ (s.trans s2) (.cons (hv.same s2) hvs)⟩⟩
theorem uT_tup {es : List Expr} {xs : List Dt} {k : Nat} {pos : Pos} (h : PA X es (uTs E xs)) (hl : xs.length ≤ 1000 := by exact Nat.le_of_ble_eq_true rfl) : PE X (.Tuple es k pos) (uT E (.tup xs)) :=
  weak (pe_tup h) fun σ H Q q => ⟨q.1, fun vs G s hd => ⟨by rw [← hd.len]; exact Nat.le_of_lt (small1000 hl), fun p np => q.2 _ _ (s.trans (newS np)) (.tup upd_same (hd.same (newS np)))⟩⟩
theorem uT_lst {es : List Expr} {xs : List Dt} {pos : Pos} (h : PA X es (uTs E xs)) (hl : xs.length ≤ 1000 := by exact Nat.le_of_ble_eq_true rfl) : PE X (.List es pos) (uT E (.lst xs)) :=
  weak (pe_lst h) fun σ H Q q => ⟨q.1, fun vs G s hd => ⟨by rw [← hd.len]; exact Nat.le_of_lt (small1000 hl), fun p np => q.2 _ _ (s.trans (newS np)) (.lst (E.fr _ _ _ (E.cl _ _ _ q.1 s) np) upd_same (hd.same (newS np)))⟩⟩
theorem uP_of {e : Expr} {t : TE} (h : PE X e t) (i : ∀ (σ : L2.St) (H : Hp) (Q : VK), E.e σ H → (∀ v x G, Same H G → Dd N G x v → R x → Q v G) → t σ H Q) : PE X e (uP E R) := weak h fun σ H Q q => i σ H Q q.1 q.2
theorem uP_T {e : Expr} {x : Dt} (h : PE X e (uT E x)) (r : R x) : PE X e (uP E R) := weak h fun σ H Q q => ⟨q.1, fun v G s hv => q.2 v x G s hv r⟩
theorem uPs_nil : PA X [] (uPs E R 0) := weakA pa_nil fun σ H Q q => q.2 [] [] H (Same.refl H) .nil (fun _ z => nomatch z) rfl
theorem uPs_cons {e : Expr} {es : List Expr} {n : Nat} (ha : PE X e (uP E R)) (hr : PA X es (uPs E R n)) (hs : starEach (e :: es) X.env = (false, eval e X.env) :: starEach es X.env := by rfl) : PA X (e :: es) (uPs E R (n + 1)) :=
  weakA (pa_cons ha hr hs) fun σ H Q q => ⟨q.1, fun v x G s hv r => ⟨E.cl _ _ _ q.1 s, fun vs xs G2 s2 hvs rs hl => q.2 _ (x :: xs) _ (s.trans s2) (.cons (hv.same s2) hvs) (fun y hy => by
    rcases List.mem_cons.mp hy with rfl | hy
    · exact r
    · exact rs y hy) (by rw [List.length_cons, hl])⟩⟩
theorem uP_lst {es : List Expr} {n : Nat} {pos : Pos} (h : PA X es (uPs E R n)) (hl : n ≤ 1000 := by decide) : PE X (.List es pos) (uPl E R n) :=
  weak (pe_lst h) fun σ H Q q => ⟨q.1, fun vs xs G s hd rs hn => ⟨by rw [← hd.len, hn]; exact Nat.le_of_lt (small1000 hl), fun p np => q.2 _ xs _ (s.trans (newS np)) (.lst (E.fr _ _ _ (E.cl _ _ _ q.1 s) np) upd_same (hd.same (newS np))) rs hn⟩⟩
end
theorem lstN {N : Addr → Prop} {H : Hp} {xs : List Dt} {v : V} (h : Dd N H (.lst xs) v) : ∃ a vs, v = .ref a ∧ N a ∧ H a = some (.lst vs) ∧ DdL N H xs vs := by
  cases h with
  | lst n h t => exact ⟨_, _, rfl, n, h, t⟩
/-- an item of a list, by a number -/
theorem uat {N : Addr → Prop} {H : Hp} {xs : List Dt} {vs : List V} (h : DdL N H xs vs) {i : Int} (h0 : 0 ≤ i) (h1 : i < (xs.length : Int)) : ∃ u y, atI vs i = some u ∧ y ∈ xs ∧ Dd N H y u := by
  obtain ⟨j, rfl⟩ : ∃ j : Nat, i = (j : Int) := ⟨i.toNat, by omega⟩
  have hj : j < xs.length := by omega
  obtain ⟨u, hu, hd⟩ := h.get' (List.getElem?_eq_getElem hj)
  exact ⟨u, _, atI_nat hu, List.getElem_mem hj, hd⟩
/-! picks: numbers drawn ahead -/
abbrev tPick : Stmt := tp 59
/-- all but the picks stands -/
def Kb (k : Addr) (H G : Hp) : Prop := ∀ b o, b ≠ k → H b = some o → G b = some o
theorem Kb.rfl {k : Addr} {H : Hp} : Kb k H H := fun _ _ _ e => e
theorem Kb.trans {k : Addr} {H G F : Hp} (a : Kb k H G) (b : Kb k G F) : Kb k H F := fun x o h e => b x o h (a x o h e)
theorem Kb.of {k : Addr} {H G : Hp} (a : Same H G) : Kb k H G := fun x o _ e => a x o e
/-- the picks stand there -/
def Pk (H : Hp) (k : Addr) : Prop := ∃ ns : List Int, H k = some (.lst (ns.map V.int))
theorem Pk.same {H G : Hp} {k : Addr} (h : Pk H k) (s : Same H G) : Pk G k := by
  obtain ⟨ns, e⟩ := h
  exact ⟨ns, s _ _ e⟩
abbrev Nk (k : Addr) : Addr → Prop := fun b => b ≠ k
theorem Kb.kn {k : Addr} {H G : Hp} (a : Kb k H G) (p : Pk H k) : Kn (Nk k) H G := by
  obtain ⟨ns, e⟩ := p
  exact ⟨fun b xs h => a b _ (fun z => by rw [z, e] at h; cases h) h, fun b xs n h => a b _ n h, fun b xs n h => a b _ n h⟩
theorem Pk.fr {H : Hp} {k b : Addr} (p : Pk H k) (h : H b = none) : b ≠ k := fun z => by
  obtain ⟨ns, e⟩ := p
  rw [z, e] at h
  cases h
section
variable {P : Program} {w : World} {K : PySem.W.Frag} {mg : Str → Option Value} {base : Heap}
theorem scPick : FnScope ["_law_picks", "_law_many"] ["_law_picks", "_law_many"] (defScope tPick) := ⟨rfl, rfl, rfl, by decide +kernel, rfl, by decide +kernel, by decide +kernel⟩
def spPick : Sp := fun vs H Q _ => ∃ (k : Addr) (m : Int), vs = [.ref k, .int m] ∧ Pk H k ∧ 0 < m ∧ ∀ (r : Int) (G : Hp), 0 ≤ r → r < m → Kb k H G → Pk G k → Q (.int r) G
theorem okPick {f : Addr} {fd : FuncData} {k : Nat} (F : Fun K "_law_pick" "_law_pick" tPick f fd) : FnOk P w K mg base CX0 (k + 1) f fd ["_law_picks", "_law_many"] spPick := by
  refine F.ok scPick (fun vs H Q E h => ?_) (fun cdv A outer s H vs Q E hr h => ?_)
  · obtain ⟨k, m, rfl, _⟩ := h
    rfl
  obtain ⟨pk, m, rfl, ⟨ns, hk⟩, m0, q⟩ := h
  refine ⟨_, pss_cons (ps_if (pt_cmpR (op_eqD hr.units) (pv 0) (pe_lst pa_nil) (nomark _)) (pss_one (ps_ret pe_int)) pss_nil)
    (pss_one (ps_ret (pe_op op_mod (pe_bm0 PySem.F.plainAttrs_list PySem.F.slot_list_pop PySem.F.type_list_pop mt_pop (pv 0)) (pv 1)))), ?_⟩
  refine ⟨_, rfl, Nat.zero_le _, fun p np => ?_⟩
  have sp := newS (o := .lst []) np
  have hk1 := sp _ _ hk
  refine ⟨.list (ns.map PyData.int), .list [], .lst (SqL.of hk1) (dpInts K _ ns), .lst (SqL.of upd_same) .nil, PySem.W.ke_shaped_ints ns, rfl, _, rfl, ite2 (fun _ => ?_) (fun hne => ?_)⟩
  · exact q 0 _ (Int.le_refl _) m0 (Kb.of sp) ⟨ns, hk1⟩
  · have nn : ns ≠ [] := fun z => hne (by rw [z]; rfl)
    obtain ⟨n, hn⟩ : ∃ n, (ns.map V.int)[(ns.map V.int).length - 1]? = some (.int n) := by
      have h0 : 0 < ns.length := List.length_pos_iff.mpr nn
      rw [List.length_map, List.getElem?_map, List.getElem?_eq_getElem (by omega)]
      exact ⟨_, rfl⟩
    refine ⟨_, rfl, .inl ⟨rfl, _, SqL.of hk1⟩, pk, _, _, rfl, rfl, hk1, hn, ?_⟩
    rw [← List.map_dropLast]
    refine ⟨_, rfl, _, _, rfl, rfl, m0, q _ _ (Int.emod_nonneg _ (by omega)) (Int.emod_lt_of_pos _ m0) ?_ ⟨ns.dropLast, upd_same⟩⟩
    intro b o hb e
    rw [upd_ne hb]
    exact sp _ _ e
end
end Kq

/-! what a kind is whose words come: the law's own reading -/
namespace Kq
open PySem PySem.Spec PyProof.Rows L2 Kf Kg Kv GxR Kk Kr1
/-- the word that comes -/
def wa (ws : List Str) (p : Nat) : Str := ws.getD p ""
def kfs (f : Nat → Dt × Nat) : Nat → Nat → List Dt × Nat
  | 0, p => ([], p)
  | i + 1, p => ((kfs f i p).1 ++ [(f (kfs f i p).2).1], (f (kfs f i p).2).2)
def kf (ws : List Str) : Nat → Nat → Dt × Nat
  | 0, p => (.non, p + 1)
  | n + 1, p => if wa ws p = "open" then (.tup [.str "open", .str (wa ws (p + 1))], p + 2) else
    match ar (wa ws p) with
    | some m => (.tup (.str (wa ws p) :: (kfs (kf ws n) m (p + 1)).1), (kfs (kf ws n) m (p + 1)).2)
    | none => (.non, p + 1)
theorem kf_open {ws : List Str} {n p : Nat} (h : wa ws p = "open") : kf ws (n + 1) p = (.tup [.str "open", .str (wa ws (p + 1))], p + 2) := by
  rw [kf, if_pos h]
theorem kf_some {ws : List Str} {n p m : Nat} (h : wa ws p ≠ "open") (e : ar (wa ws p) = some m) : kf ws (n + 1) p = (.tup (.str (wa ws p) :: (kfs (kf ws n) m (p + 1)).1), (kfs (kf ws n) m (p + 1)).2) := by
  rw [kf, if_neg h, e]
theorem kf_none {ws : List Str} {n p : Nat} (h : wa ws p ≠ "open") (e : ar (wa ws p) = none) : kf ws (n + 1) p = (.non, p + 1) := by
  rw [kf, if_neg h, e]
theorem kfs_le {f : Nat → Dt × Nat} (h : ∀ p, p + 1 ≤ (f p).2) : ∀ i p, p ≤ (kfs f i p).2
  | 0, p => Nat.le_refl _
  | i + 1, p => by
    have h1 := kfs_le h i p
    have h2 := h (kfs f i p).2
    show p ≤ (f (kfs f i p).2).2
    omega
theorem kf_lt (ws : List Str) : ∀ n p, p + 1 ≤ (kf ws n p).2
  | 0, p => Nat.le_refl _
  | n + 1, p => by
    by_cases h : wa ws p = "open"
    · rw [kf_open h]
      exact Nat.le_succ _
    · cases e : ar (wa ws p) with
      | some m =>
        rw [kf_some h e]
        exact kfs_le (kf_lt ws n) m (p + 1)
      | none =>
        rw [kf_none h e]
        exact Nat.le_refl _
theorem kfs_len (f : Nat → Dt × Nat) : ∀ i p, (kfs f i p).1.length = i
  | 0, p => rfl
  | i + 1, p => by
    show ((kfs f i p).1 ++ [_]).length = _
    rw [List.length_append, kfs_len f i p]
    rfl
theorem dps_app : ∀ (xs ys : List Dt), Dt.dps (xs ++ ys) = max (Dt.dps xs) (Dt.dps ys)
  | [], ys => by simp only [List.nil_append, Dt.dps]; omega
  | x :: xs, ys => by
    simp only [List.cons_append, Dt.dps]
    rw [dps_app xs ys]
    omega
theorem wts_app : ∀ (xs ys : List Dt), Dt.wts (xs ++ ys) = Dt.wts xs + Dt.wts ys
  | [], ys => by simp only [List.nil_append, Dt.wts]; omega
  | x :: xs, ys => by
    simp only [List.cons_append, Dt.wts]
    rw [wts_app xs ys]
    omega
theorem kfs_dp {f : Nat → Dt × Nat} {n : Nat} (h : ∀ p, (f p).1.dp ≤ n) : ∀ i p, Dt.dps (kfs f i p).1 ≤ n
  | 0, p => by
    show Dt.dps [] ≤ n
    simp only [Dt.dps]
    exact Nat.zero_le _
  | i + 1, p => by
    have h1 := kfs_dp h i p
    have h2 := h (kfs f i p).2
    show Dt.dps ((kfs f i p).1 ++ [_]) ≤ n
    rw [dps_app]
    simp only [Dt.dps]
    omega
theorem kf_dp (ws : List Str) : ∀ n p, (kf ws n p).1.dp ≤ n
  | 0, p => by
    show Dt.non.dp ≤ 0
    simp only [Dt.dp]
    exact Nat.le_refl _
  | n + 1, p => by
    by_cases h : wa ws p = "open"
    · rw [kf_open h]
      simp only [Dt.dp, Dt.dps]
      omega
    · cases e : ar (wa ws p) with
      | some m =>
        rw [kf_some h e]
        have := kfs_dp (kf_dp ws n) m (p + 1)
        simp only [Dt.dp, Dt.dps]
        omega
      | none =>
        rw [kf_none h e]
        simp only [Dt.dp]
        omega
theorem wa_len {ws : List Str} {L : Nat} (h : ∀ x ∈ ws, x.length ≤ L) (p : Nat) : (wa ws p).length ≤ L := by
  unfold wa
  rw [List.getD_eq_getElem?_getD]
  cases e : ws[p]? with
  | none => exact Nat.zero_le _
  | some x => exact h x (List.mem_of_getElem? e)
theorem kfs_wt {f : Nat → Dt × Nat} {C : Nat} (h : ∀ p, (f p).1.wt + 2 + C * p ≤ C * (f p).2) : ∀ i p, Dt.wts (kfs f i p).1 + C * p ≤ C * (kfs f i p).2
  | 0, p => by
    show Dt.wts [] + C * p ≤ C * p
    simp only [Dt.wts]
    omega
  | i + 1, p => by
    have h1 := kfs_wt h i p
    have h2 := h (kfs f i p).2
    show Dt.wts ((kfs f i p).1 ++ [_]) + C * p ≤ C * (f (kfs f i p).2).2
    rw [wts_app]
    simp only [Dt.wts]
    omega
theorem kf_wt {ws : List Str} {L C : Nat} (h : ∀ x ∈ ws, x.length ≤ L) (hC : 10 * L + 100 ≤ C) : ∀ n p, (kf ws n p).1.wt + 2 + C * p ≤ C * (kf ws n p).2
  | 0, p => by
    show Dt.non.wt + 2 + C * p ≤ C * (p + 1)
    simp only [Dt.wt]
    rw [Nat.mul_add]
    omega
  | n + 1, p => by
    have l0 := wa_len h p
    have l1 := wa_len h (p + 1)
    by_cases c : wa ws p = "open"
    · rw [kf_open c]
      obtain ⟨w1, _⟩ := wlen
      simp only [Dt.wt, Dt.wts, w1]
      rw [Nat.mul_add]
      omega
    · cases e : ar (wa ws p) with
      | some m =>
        rw [kf_some c e]
        have := kfs_wt (kf_wt h hC n) m (p + 1)
        rw [Nat.mul_add] at this
        simp only [Dt.wt, Dt.wts]
        omega
      | none =>
        rw [kf_none c e]
        simp only [Dt.wt]
        rw [Nat.mul_add]
        omega
/-! the words of a kind -/
theorem wa_at {ws : List Str} {p : Nat} {x : Str} {r : List Str} (h : ws.drop p = x :: r) : wa ws p = x ∧ ws.drop (p + 1) = r := by
  have e : ws[p]? = some x := by
    have : (ws.drop p)[0]? = some x := by rw [h]; rfl
    rw [List.getElem?_drop] at this
    simpa using this
  refine ⟨by unfold wa; rw [List.getD_eq_getElem?_getD, e]; rfl, ?_⟩
  have : (ws.drop p).drop 1 = r := by rw [h]; rfl
  rw [List.drop_drop] at this
  exact this
theorem wa_in {ws : List Str} {p : Nat} (h : wa ws p ≠ "") : ws.drop p = wa ws p :: ws.drop (p + 1) := by
  unfold wa at h ⊢
  by_cases c : p < ws.length
  · rw [List.getD_eq_getElem?_getD, List.getElem?_eq_getElem c]
    exact List.drop_eq_getElem_cons c
  · rw [List.getD_eq_getElem?_getD, List.getElem?_eq_none (by omega)] at h
    exact absurd rfl h
theorem kf_yes {ws : List Str} : ∀ {k : Kt} {n p : Nat} {r : List Str}, k.dp + 1 ≤ n → ws.drop p = (It'.kd k).tk.map It'.wd ++ r → kf ws n p = (k.d, p + (It'.kd k).tk.length)
  | k, 0, p, r, h, _ => by omega
  | .op m, n + 1, p, r, _, e => by
    obtain ⟨h1, h2⟩ := wa_at (show ws.drop p = ("open" : Str) :: (m :: r) from e)
    obtain ⟨h3, _⟩ := wa_at h2
    rw [kf_open h1, h3]
    rfl
  | .num, n + 1, p, r, _, e => by
    obtain ⟨h1, h2⟩ := wa_at (show ws.drop p = ("num" : Str) :: r from e)
    rw [kf_some (m := 0) (by rw [h1]; decide) (by rw [h1]; rfl), h1]
    rfl
  | .tru, n + 1, p, r, _, e => by
    obtain ⟨h1, h2⟩ := wa_at (show ws.drop p = ("truth" : Str) :: r from e)
    rw [kf_some (m := 0) (by rw [h1]; decide) (by rw [h1]; rfl), h1]
    rfl
  | .pr a b, n + 1, p, r, hd, e => by
    have hd : max a.dp b.dp + 1 + 1 ≤ n + 1 := hd
    have e : ws.drop p = ("pair" : Str) :: (((It'.kd a).tk.map It'.wd) ++ (((It'.kd b).tk.map It'.wd) ++ r)) := by
      rw [e]
      show ("pair" : Str) :: ((a.tk ++ b.tk).map It'.wd ++ r) = _
      rw [List.map_append, List.append_assoc]
      rfl
    obtain ⟨h1, h2⟩ := wa_at e
    have i1 := kf_yes (n := n) (by omega) h2
    have h3 : ws.drop (p + 1 + (It'.kd a).tk.length) = ((It'.kd b).tk.map It'.wd) ++ r := by
      rw [← List.drop_drop, h2, ← List.length_map It'.wd, List.drop_left]
    have i2 := kf_yes (n := n) (by omega) h3
    rw [kf_some (m := 2) (by rw [h1]; decide) (by rw [h1]; rfl), h1]
    show (Dt.tup (.str "pair" :: ([] ++ [(kf ws n (p + 1)).1] ++ [(kf ws n (kf ws n (p + 1)).2).1])), (kf ws n (kf ws n (p + 1)).2).2) = _
    rw [i1, i2]
    refine Prod.ext rfl ?_
    show p + 1 + (It'.kd a).tk.length + (It'.kd b).tk.length = p + ((a.tk ++ b.tk).length + 1)
    rw [List.length_append]
    show p + 1 + a.tk.length + b.tk.length = _
    omega
  | .ei a b, n + 1, p, r, hd, e => by
    have hd : max a.dp b.dp + 1 + 1 ≤ n + 1 := hd
    have e : ws.drop p = ("either" : Str) :: (((It'.kd a).tk.map It'.wd) ++ (((It'.kd b).tk.map It'.wd) ++ r)) := by
      rw [e]
      show ("either" : Str) :: ((a.tk ++ b.tk).map It'.wd ++ r) = _
      rw [List.map_append, List.append_assoc]
      rfl
    obtain ⟨h1, h2⟩ := wa_at e
    have i1 := kf_yes (n := n) (by omega) h2
    have h3 : ws.drop (p + 1 + (It'.kd a).tk.length) = ((It'.kd b).tk.map It'.wd) ++ r := by
      rw [← List.drop_drop, h2, ← List.length_map It'.wd, List.drop_left]
    have i2 := kf_yes (n := n) (by omega) h3
    rw [kf_some (m := 2) (by rw [h1]; decide) (by rw [h1]; rfl), h1]
    show (Dt.tup (.str "either" :: ([] ++ [(kf ws n (p + 1)).1] ++ [(kf ws n (kf ws n (p + 1)).2).1])), (kf ws n (kf ws n (p + 1)).2).2) = _
    rw [i1, i2]
    refine Prod.ext rfl ?_
    show p + 1 + (It'.kd a).tk.length + (It'.kd b).tk.length = p + ((a.tk ++ b.tk).length + 1)
    rw [List.length_append]
    show p + 1 + a.tk.length + b.tk.length = _
    omega
  | .li a, n + 1, p, r, hd, e => by
    have hd : a.dp + 1 + 1 ≤ n + 1 := hd
    have e : ws.drop p = ("list" : Str) :: (((It'.kd a).tk.map It'.wd) ++ r) := e
    obtain ⟨h1, h2⟩ := wa_at e
    have i1 := kf_yes (n := n) (by omega) h2
    rw [kf_some (m := 1) (by rw [h1]; decide) (by rw [h1]; rfl), h1]
    show (Dt.tup (.str "list" :: ([] ++ [(kf ws n (p + 1)).1])), (kf ws n (p + 1)).2) = _
    rw [i1]
    refine Prod.ext rfl ?_
    show p + 1 + (It'.kd a).tk.length = p + (a.tk.length + 1)
    show p + 1 + a.tk.length = _
    omega
  | .fn a b, n + 1, p, r, hd, e => by
    have hd : max a.dp b.dp + 1 + 1 ≤ n + 1 := hd
    have e : ws.drop p = ("fun" : Str) :: (((It'.kd a).tk.map It'.wd) ++ (((It'.kd b).tk.map It'.wd) ++ r)) := by
      rw [e]
      show ("fun" : Str) :: ((a.tk ++ b.tk).map It'.wd ++ r) = _
      rw [List.map_append, List.append_assoc]
      rfl
    obtain ⟨h1, h2⟩ := wa_at e
    have i1 := kf_yes (n := n) (by omega) h2
    have h3 : ws.drop (p + 1 + (It'.kd a).tk.length) = ((It'.kd b).tk.map It'.wd) ++ r := by
      rw [← List.drop_drop, h2, ← List.length_map It'.wd, List.drop_left]
    have i2 := kf_yes (n := n) (by omega) h3
    rw [kf_some (m := 2) (by rw [h1]; decide) (by rw [h1]; rfl), h1]
    show (Dt.tup (.str "fun" :: ([] ++ [(kf ws n (p + 1)).1] ++ [(kf ws n (kf ws n (p + 1)).2).1])), (kf ws n (kf ws n (p + 1)).2).2) = _
    rw [i1, i2]
    refine Prod.ext rfl ?_
    show p + 1 + (It'.kd a).tk.length + (It'.kd b).tk.length = p + ((a.tk ++ b.tk).length + 1)
    rw [List.length_append]
    show p + 1 + a.tk.length + b.tk.length = _
    omega
theorem kf_see {ws : List Str} {n p : Nat} {w : Str} {ys : List Dt} (h : (kf ws n p).1 = .tup (.str w :: ys)) : ∃ m, n = m + 1 ∧ wa ws p = w ∧ ((w = "open" ∧ ys = [.str (wa ws (p + 1))] ∧ (kf ws n p).2 = p + 2) ∨ (w ≠ "open" ∧ ar w = some ys.length ∧ ys = (kfs (kf ws m) ys.length (p + 1)).1 ∧ (kf ws n p).2 = (kfs (kf ws m) ys.length (p + 1)).2)) := by
  cases n with
  | zero => cases h
  | succ n =>
    refine ⟨n, rfl, ?_⟩
    by_cases c : wa ws p = "open"
    · rw [kf_open c] at h ⊢
      cases h
      exact ⟨c, .inl ⟨rfl, rfl, rfl⟩⟩
    · cases e : ar (wa ws p) with
      | none =>
        rw [kf_none c e] at h
        cases h
      | some m =>
        rw [kf_some c e] at h ⊢
        injection h with h
        obtain ⟨h1, h2⟩ := List.cons.inj h
        injection h1 with h1
        have l := kfs_len (kf ws n) m (p + 1)
        rw [h2] at l
        subst l
        rw [h1] at e c
        exact ⟨h1, .inr ⟨c, e, h2.symm, rfl⟩⟩
theorem kf_no {ws : List Str} : ∀ {k : Kt} {n p : Nat}, k.ok → (kf ws n p).1 = k.d → ∃ r, ws.drop p = (It'.kd k).tk.map It'.wd ++ r ∧ (kf ws n p).2 = p + (It'.kd k).tk.length := by
  intro k
  induction k with
  | op m =>
    intro n p ok h
    obtain ⟨j, rfl, h1, h2⟩ := kf_see (w := "open") h
    rcases h2 with ⟨_, h2, h3⟩ | ⟨h2, _⟩
    rotate_left
    · exact absurd rfl h2
    have ok : nmS m = true := ok
    have e1 : wa ws (p + 1) = m := by
      injection h2 with h2
      injection h2 with h2
      exact h2.symm
    have ne : wa ws (p + 1) ≠ "" := by
      rw [e1]
      intro z
      subst z
      exact absurd ok (by decide +kernel)
    have d1 := wa_in (ws := ws) (p := p) (by rw [h1]; decide)
    have d2 := wa_in ne
    refine ⟨ws.drop (p + 2), ?_, h3⟩
    rw [d1, d2, h1, e1]
    rfl
  | num =>
    intro n p ok h
    obtain ⟨j, rfl, h1, h2⟩ := kf_see (w := "num") h
    rcases h2 with ⟨h2, _⟩ | ⟨_, _, _, h3⟩
    · exact absurd h2 (by decide)
    have d1 := wa_in (ws := ws) (p := p) (by rw [h1]; decide)
    refine ⟨ws.drop (p + 1), ?_, h3⟩
    rw [d1, h1]
    rfl
  | tru =>
    intro n p ok h
    obtain ⟨j, rfl, h1, h2⟩ := kf_see (w := "truth") h
    rcases h2 with ⟨h2, _⟩ | ⟨_, _, _, h3⟩
    · exact absurd h2 (by decide)
    have d1 := wa_in (ws := ws) (p := p) (by rw [h1]; decide)
    refine ⟨ws.drop (p + 1), ?_, h3⟩
    rw [d1, h1]
    rfl
  | li a ih =>
    intro n p ok h
    obtain ⟨j, rfl, h1, h2⟩ := kf_see (w := "list") h
    rcases h2 with ⟨h2, _⟩ | ⟨_, _, h2, h3⟩
    · exact absurd h2 (by decide)
    have h2 : [a.d] = [] ++ [(kf ws j (p + 1)).1] := h2
    have e1 : (kf ws j (p + 1)).1 = a.d := (List.cons.inj h2).1.symm
    obtain ⟨r, r1, r2⟩ := ih ok e1
    have d1 := wa_in (ws := ws) (p := p) (by rw [h1]; decide)
    refine ⟨r, ?_, ?_⟩
    · rw [d1, h1, r1]
      rfl
    · rw [h3]
      show (kf ws j (p + 1)).2 = _
      rw [r2]
      show p + 1 + a.tk.length = p + (a.tk.length + 1)
      omega
  | pr a b iha ihb =>
    intro n p ok h
    obtain ⟨j, rfl, h1, h2⟩ := kf_see (w := "pair") h
    rcases h2 with ⟨h2, _⟩ | ⟨_, _, h2, h3⟩
    · exact absurd h2 (by decide)
    have h2 : [a.d, b.d] = [] ++ [(kf ws j (p + 1)).1] ++ [(kf ws j (kf ws j (p + 1)).2).1] := h2
    have e1 : (kf ws j (p + 1)).1 = a.d := (List.cons.inj h2).1.symm
    have e2 : (kf ws j (kf ws j (p + 1)).2).1 = b.d := (List.cons.inj (List.cons.inj h2).2).1.symm
    obtain ⟨r, r1, r2⟩ := iha ok.1 e1
    obtain ⟨r', r3, r4⟩ := ihb ok.2 e2
    have d1 := wa_in (ws := ws) (p := p) (by rw [h1]; decide)
    have r5 : r = (It'.kd b).tk.map It'.wd ++ r' := by
      rw [← r3, r2, ← List.drop_drop, r1, ← List.length_map It'.wd, List.drop_left]
    refine ⟨r', ?_, ?_⟩
    · rw [d1, h1, r1, r5]
      show _ = ("pair" : Str) :: ((a.tk ++ b.tk).map It'.wd ++ r')
      rw [List.map_append, List.append_assoc]
      rfl
    · rw [h3]
      show (kf ws j (kf ws j (p + 1)).2).2 = _
      rw [r4, r2]
      show p + 1 + a.tk.length + b.tk.length = p + ((a.tk ++ b.tk).length + 1)
      rw [List.length_append]
      omega
  | ei a b iha ihb =>
    intro n p ok h
    obtain ⟨j, rfl, h1, h2⟩ := kf_see (w := "either") h
    rcases h2 with ⟨h2, _⟩ | ⟨_, _, h2, h3⟩
    · exact absurd h2 (by decide)
    have h2 : [a.d, b.d] = [] ++ [(kf ws j (p + 1)).1] ++ [(kf ws j (kf ws j (p + 1)).2).1] := h2
    have e1 : (kf ws j (p + 1)).1 = a.d := (List.cons.inj h2).1.symm
    have e2 : (kf ws j (kf ws j (p + 1)).2).1 = b.d := (List.cons.inj (List.cons.inj h2).2).1.symm
    obtain ⟨r, r1, r2⟩ := iha ok.1 e1
    obtain ⟨r', r3, r4⟩ := ihb ok.2 e2
    have d1 := wa_in (ws := ws) (p := p) (by rw [h1]; decide)
    have r5 : r = (It'.kd b).tk.map It'.wd ++ r' := by
      rw [← r3, r2, ← List.drop_drop, r1, ← List.length_map It'.wd, List.drop_left]
    refine ⟨r', ?_, ?_⟩
    · rw [d1, h1, r1, r5]
      show _ = ("either" : Str) :: ((a.tk ++ b.tk).map It'.wd ++ r')
      rw [List.map_append, List.append_assoc]
      rfl
    · rw [h3]
      show (kf ws j (kf ws j (p + 1)).2).2 = _
      rw [r4, r2]
      show p + 1 + a.tk.length + b.tk.length = p + ((a.tk ++ b.tk).length + 1)
      rw [List.length_append]
      omega
  | fn a b iha ihb =>
    intro n p ok h
    obtain ⟨j, rfl, h1, h2⟩ := kf_see (w := "fun") h
    rcases h2 with ⟨h2, _⟩ | ⟨_, _, h2, h3⟩
    · exact absurd h2 (by decide)
    have h2 : [a.d, b.d] = [] ++ [(kf ws j (p + 1)).1] ++ [(kf ws j (kf ws j (p + 1)).2).1] := h2
    have e1 : (kf ws j (p + 1)).1 = a.d := (List.cons.inj h2).1.symm
    have e2 : (kf ws j (kf ws j (p + 1)).2).1 = b.d := (List.cons.inj (List.cons.inj h2).2).1.symm
    obtain ⟨r, r1, r2⟩ := iha ok.1 e1
    obtain ⟨r', r3, r4⟩ := ihb ok.2 e2
    have d1 := wa_in (ws := ws) (p := p) (by rw [h1]; decide)
    have r5 : r = (It'.kd b).tk.map It'.wd ++ r' := by
      rw [← r3, r2, ← List.drop_drop, r1, ← List.length_map It'.wd, List.drop_left]
    refine ⟨r', ?_, ?_⟩
    · rw [d1, h1, r1, r5]
      show _ = ("fun" : Str) :: ((a.tk ++ b.tk).map It'.wd ++ r')
      rw [List.map_append, List.append_assoc]
      rfl
    · rw [h3]
      show (kf ws j (kf ws j (p + 1)).2).2 = _
      rw [r4, r2]
      show p + 1 + a.tk.length + b.tk.length = p + ((a.tk ++ b.tk).length + 1)
      rw [List.length_append]
      omega
theorem dp_tk : ∀ k : Kt, k.dp + 1 ≤ (It'.kd k).tk.length
  | .op m => by show 0 + 1 ≤ 2; decide
  | .num => Nat.le_refl _
  | .tru => Nat.le_refl _
  | .pr a b => by
    have i : a.dp + 1 ≤ a.tk.length := dp_tk a
    have j : b.dp + 1 ≤ b.tk.length := dp_tk b
    show max a.dp b.dp + 1 + 1 ≤ (a.tk ++ b.tk).length + 1
    rw [List.length_append]
    omega
  | .ei a b => by
    have i : a.dp + 1 ≤ a.tk.length := dp_tk a
    have j : b.dp + 1 ≤ b.tk.length := dp_tk b
    show max a.dp b.dp + 1 + 1 ≤ (a.tk ++ b.tk).length + 1
    rw [List.length_append]
    omega
  | .li a => by
    have i : a.dp + 1 ≤ a.tk.length := dp_tk a
    show a.dp + 1 + 1 ≤ a.tk.length + 1
    omega
  | .fn a b => by
    have i : a.dp + 1 ≤ a.tk.length := dp_tk a
    have j : b.dp + 1 ≤ b.tk.length := dp_tk b
    show max a.dp b.dp + 1 + 1 ≤ (a.tk ++ b.tk).length + 1
    rw [List.length_append]
    omega

end Kq

/-! tuples put together and cut, wherever the answer stands -/
namespace Kv
open PySem PySem.Spec PyProof.Rows L2 Kf
theorem new_same {H : Hp} {p : Addr} {o : HO} (h : H p = none) : Same H (upd H p o) := fun b u e => by
  rw [upd_ne (ne_of_none e h)]
  exact e
def rCatU : R2 := fun x y H Q => ∃ (a b : Addr) (xs ys : List V), x = .ref a ∧ y = .ref b ∧ H a = some (.tup xs) ∧ H b = some (.tup ys) ∧ xs.length + ys.length ≤ sizeLine ∧ ∀ (p : Addr) (G : Hp), Same H G → G p = some (.tup (xs ++ ys)) → Q (.ref p) G
theorem op_catU {X : Cx} : OpR X (binaryOp .Add) rCatU := by
  intro pins s σ H x y v u Q I rx ry h
  obtain ⟨a, b, xs, ys, rfl, rfl, ha, hb, hz, q⟩ := h
  refine op_catA pins s σ H _ _ v u Q I rx ry ⟨a, b, xs, ys, rfl, rfl, SqT.of ha, SqT.of hb, hz, fun e => ?_, fun _ e => ?_, fun _ _ p np => q p _ (new_same np) upd_same⟩
  · subst e
    exact q b H (Same.refl H) hb
  · subst e
    exact q a H (Same.refl H) (by rw [List.append_nil]; exact ha)
def rSlU : V → Option Int → Option Int → Hp → VK → Prop := fun x lo hi H Q => ∃ (a : Addr) (xs : List V), x = .ref a ∧ H a = some (.tup xs) ∧ ∀ (p : Addr) (G : Hp), Same H G → G p = some (.tup (cutV xs lo hi)) → Q (.ref p) G
theorem sl_tupU {X : Cx} : SlR X rSlU := by
  intro pins s σ H x v vl vu lo hi sl Q I rx hs pl pu h
  obtain ⟨a, xs, rfl, ha, q⟩ := h
  refine sl_tupA pins s σ H _ v vl vu lo hi sl Q I rx hs pl pu ⟨a, xs, rfl, SqT.of ha, fun e => q a H (Same.refl H) ?_, fun _ p np => q p _ (new_same np) upd_same⟩
  rw [ha]
  unfold cutV
  rw [e.1, e.2, List.drop_zero, Nat.sub_zero, List.take_length]
theorem cut_take (xs : List V) (n : Nat) : cutV xs none (some (n : Int)) = xs.take n := by
  unfold cutV
  rw [HT.sIx_none, HT.sIx_nat, List.drop_zero, Nat.sub_zero]
  by_cases h : n ≤ xs.length
  · rw [Nat.min_eq_left h]
  · rw [Nat.min_eq_right (by omega), List.take_length, List.take_of_length_le (by omega)]
theorem cut_drop (xs : List V) (n : Nat) : cutV xs (some (n : Int)) none = xs.drop n := by
  unfold cutV
  rw [HT.sIx_none, HT.sIx_nat]
  by_cases h : n ≤ xs.length
  · rw [Nat.min_eq_left h, ← List.length_drop, List.take_length]
  · rw [Nat.min_eq_right (by omega), List.drop_length, List.drop_of_length_le (by omega)]
    simp
theorem cut_mid (xs : List V) (n m : Nat) : cutV xs (some (n : Int)) (some (m : Int)) = (xs.drop n).take (m - n) := by
  unfold cutV
  rw [HT.sIx_nat, HT.sIx_nat]
  by_cases h : n ≤ xs.length
  · rw [Nat.min_eq_left h]
    by_cases h2 : m ≤ xs.length
    · rw [Nat.min_eq_left h2]
    · rw [Nat.min_eq_right (by omega), ← List.length_drop, List.take_length, List.take_of_length_le (by rw [List.length_drop]; omega)]
  · have e1 : xs.drop n = [] := List.drop_of_length_le (by omega)
    have e2 : xs.drop (min n xs.length) = [] := List.drop_of_length_le (by omega)
    rw [e1, e2]
    simp
/-! places in things -/
def Dt.at? : Dt → List Nat → Option Dt
  | x, [] => some x
  | .tup xs, i :: p => match xs[i]? with
    | some y => y.at? p
    | none => none
  | _, _ :: _ => none
end Kv

namespace Kq
open PySem PySem.Spec PyProof.Rows L2 Kf Kg Kv GxR Kk Kr1
abbrev tLKnd : Stmt := tp 56
abbrev tLWord : Stmt := tp 57
abbrev tLFrom : Stmt := tp 58
abbrev tLRead : Stmt := tp 62
theorem kbNon {k : Addr} {H G : Hp} {xs : List V} (a : Kb k H G) (e : H k = some (.lst xs)) : Kn Non H G :=
  ⟨fun b ys h => a b _ (fun z => by rw [z, e] at h; cases h) h, fun _ _ n _ => n.elim, fun _ _ n _ => n.elim⟩
theorem Kb.mk {k p : Addr} {H G : Hp} {o : HO} (a : Kb k H G) (h : H p = none) : Kb k H (upd G p o) := fun b u n e => by
  rw [upd_ne (ne_of_none e h)]
  exact a b u n e
theorem Kb.at {k : Addr} {H G : Hp} {o : HO} (a : Kb k H G) : Kb k H (upd G k o) := fun b u n e => by
  rw [upd_ne n]
  exact a b u n e
theorem Kb.free {k p : Addr} {H G : Hp} {u : HO} (a : Kb k H G) (e : H k = some u) (hk : G k ≠ none) (h : G p = none) : H p = none := by
  cases z : H p with
  | none => rfl
  | some o =>
    by_cases c : p = k
    · rw [c] at h
      exact absurd h hk
    · rw [a p o c z] at h
      cases h
theorem wa_ix {ws : List Str} {p : Nat} : atI (ws.map V.str ++ [V.str ""]) (if ((ws.map V.str).length : Int) < (p : Int) then ((ws.map V.str).length : Int) else (p : Int)) = some (.str (wa ws p)) := by
  rw [List.length_map]
  by_cases c : (ws.length : Int) < (p : Int)
  · rw [if_pos c]
    refine atI_nat (j := ws.length) ?_
    rw [List.getElem?_append_right (by rw [List.length_map]; exact Nat.le_refl _), List.length_map, Nat.sub_self]
    unfold wa
    have e : ws[p]? = none := List.getElem?_eq_none (by omega)
    rw [List.getD_eq_getElem?_getD, e]
    rfl
  · rw [if_neg c]
    refine atI_nat (j := p) ?_
    unfold wa
    rw [List.getD_eq_getElem?_getD]
    by_cases e : p < ws.length
    · rw [List.getElem?_append_left (by rw [List.length_map]; exact e), List.getElem?_map, List.getElem?_eq_getElem e]
      rfl
    · have e : p = ws.length := by omega
      rw [List.getElem?_append_right (by rw [List.length_map]; omega), List.length_map, e, Nat.sub_self, List.getElem?_eq_none (Nat.le_refl _)]
      rfl
def mk6 : List (Key × V) := [(.inr "num", .int 0), (.inr "truth", .int 0), (.inr "list", .int 1), (.inr "pair", .int 2), (.inr "either", .int 2), (.inr "fun", .int 2)]
theorem mk6_m : mergeK [] mk6 = mk6 := by decide +kernel
theorem mk6_see (wd : Str) (h0 : wd ≠ "open") : (valV mk6 (.inr wd) = none ∧ ar wd = none) ∨ ∃ m : Nat, valV mk6 (.inr wd) = some (.int (m : Int)) ∧ ar wd = some m ∧ m ≤ 2 ∧ wd ≠ "" := by
  by_cases h1 : wd = "num"
  · subst h1
    exact .inr ⟨0, by decide +kernel, by decide +kernel, by decide, by decide +kernel⟩
  by_cases h2 : wd = "truth"
  · subst h2
    exact .inr ⟨0, by decide +kernel, by decide +kernel, by decide, by decide +kernel⟩
  by_cases h3 : wd = "list"
  · subst h3
    exact .inr ⟨1, by decide +kernel, by decide +kernel, by decide, by decide +kernel⟩
  by_cases h4 : wd = "pair"
  · subst h4
    exact .inr ⟨2, by decide +kernel, by decide +kernel, by decide, by decide +kernel⟩
  by_cases h5 : wd = "either"
  · subst h5
    exact .inr ⟨2, by decide +kernel, by decide +kernel, by decide, by decide +kernel⟩
  by_cases h6 : wd = "fun"
  · subst h6
    exact .inr ⟨2, by decide +kernel, by decide +kernel, by decide, by decide +kernel⟩
  refine .inl ⟨?_, ?_⟩
  · have ne : ∀ z : Str, ¬ wd = z → ¬ (Sum.inr z : Key) = Sum.inr wd := fun z h e => h (Sum.inr.inj e).symm
    unfold mk6
    rw [valV_neg (ne _ h1), valV_neg (ne _ h2), valV_neg (ne _ h3), valV_neg (ne _ h4), valV_neg (ne _ h5), valV_neg (ne _ h6)]
    rfl
  · unfold ar
    rw [if_neg h0, if_neg h1, if_neg h2, if_neg h4, if_neg h5, if_neg h3, if_neg h6]
section
variable {P : Program} {w : World} {K : PySem.W.Frag} {mg : Str → Option Value} {base : Heap}
/-! _law_word -/
theorem scLWord : FnScope ["_law_words", "_law_spot", "_law_at"] ["_law_words", "_law_spot"] (defScope tLWord) := ⟨rfl, rfl, rfl, by decide +kernel, rfl, by decide +kernel, by decide +kernel⟩
def spLWord : Sp := fun vs H Q _ => ∃ (w0 sa : Addr) (ws : List Str) (p : Nat), vs = [.ref w0, .ref sa] ∧ H w0 = some (.lst (ws.map V.str)) ∧ H sa = some (.lst [.int (p : Int)]) ∧ w0 ≠ sa ∧ ws.length ≤ 1000000 ∧ ∀ G : Hp, Kb sa H G → G sa = some (.lst [.int ((p + 1 : Nat) : Int)]) → Q (.str (wa ws p)) G
theorem okLWord {f : Addr} {fd : FuncData} {k : Nat} (F : Fun K "_law_word" "_law_word" tLWord f fd) (ml : mg "len" = none) (mm : mg "min" = none) : FnOk P w K mg base CX0 (k + 1) f fd ["_law_words", "_law_spot"] spLWord := by
  refine F.ok scLWord (fun vs H Q E h => ?_) (fun cdv A outer s H vs Q E hr h => ?_)
  · obtain ⟨w0, sa, ws, p, rfl, _⟩ := h
    rfl
  obtain ⟨w0, sa, ws, p, rfl, gw, gs, ne, hl, q⟩ := h
  refine ⟨_, pss_cons (ps_set (i := 2) scLWord.nd rfl (.inl rfl) (pe_ix ix_list (pv 1) pe_int (fun _ _ => rfl)))
    (pss_cons (ps_asg (pe_op op_add (pv 2) pe_int) (pg_sub (pv 1) pe_int set_list))
    (pss_one (ps_ret (pe_ix ix_list (pe_op op_cat (pv 0) (pe_lst (pa_cons pe_str pa_nil))) (pe_callB (call_min2 rfl) (by rfl) mm (by decide +kernel) (pa_cons (pv 2) (pa_cons (pe_callB call_len_seq (by rfl) ml PySem.boot_len (pa_cons (pv 0) pa_nil)) pa_nil))) (fun _ _ => rfl))))), ?_⟩
  refine ⟨_, rfl, sa, _, _, _, rfl, rfl, SqL.of gs, atI_nat (j := 0) rfl, _, rfl, _, _, rfl, rfl, _, rfl, sa, _, _, 0, rfl, rfl, gs, rfl, ?_⟩
  generalize hH1 : upd H sa _ = H1
  have kb1 : Kb sa H H1 := by rw [← hH1]; exact Kb.at Kb.rfl
  have gs1 : H1 sa = some (.lst [.int ((p + 1 : Nat) : Int)]) := by
    rw [← hH1, upd_same]
    rfl
  have gw1 := kb1 _ _ ne gw
  clear hH1
  refine ⟨_, rfl, (by show 1 ≤ sizeLine; decide), fun q1 n1 => ?_⟩
  have s1 := newS (o := .lst [V.str ""]) n1
  refine ⟨w0, q1, _, _, rfl, rfl, s1 _ _ gw1, upd_same, small (by rw [List.length_map, List.length_singleton]; omega), fun q2 n2 => ?_⟩
  have s2 := newS (o := .lst (ws.map V.str ++ [V.str ""])) n2
  refine ⟨_, rfl, _, rfl, w0, _, rfl, .inl (SqL.of (s2 _ _ (s1 _ _ gw1))), _, _, rfl, q2, _, _, _, rfl, rfl, SqL.of upd_same, wa_ix, ?_⟩
  exact q _ (kb1.trans (Kb.of (s1.trans s2))) (s2 _ _ (s1 _ _ gs1))
/-! _law_kind_from -/
abbrev psLFrom : List Str := ["_law_words", "_law_spot"]
abbrev nLFrom : List Str := ["_law_words", "_law_spot", "_law_word_here", "_law_many", "_law_k"]
theorem scLFrom : FnScope nLFrom psLFrom (defScope tLFrom) := ⟨rfl, rfl, rfl, by decide +kernel, rfl, by decide +kernel, by decide +kernel⟩
def spLFrom (n : Nat) : Sp := fun vs H Q _ => ∃ (w0 sa : Addr) (ws : List Str) (p : Nat), vs = [.ref w0, .ref sa] ∧ H w0 = some (.lst (ws.map V.str)) ∧ H sa = some (.lst [.int (p : Int)]) ∧ w0 ≠ sa ∧ ws.length ≤ 1000000 ∧ ws.length - p + 1 ≤ n ∧
  ∀ (v : V) (G : Hp), Kb sa H G → G sa = some (.lst [.int (((kf ws n p).2 : Nat) : Int)]) → Dd Non G (kf ws n p).1 v → Q v G
theorem okLFrom1 {f fW : Addr} {fd fdW : FuncData} {n : Nat} (F : Fun K "_law_kind_from" "_law_kind_from" tLFrom f fd) (bF : Binds K fd psLFrom []) (gF : mg "_law_kind_from" = some (.ref f))
    (GW : FnOk P w K mg base CX0 (n + 1) fW fdW ["_law_words", "_law_spot"] spLWord) (bW : Binds K fdW ["_law_words", "_law_spot"] []) (gW : mg "_law_word" = some (.ref fW)) (kW : PySem.W.keepIn K (.ref fW) = true)
    (mt : mg "tuple" = none) (mr : mg "range" = none)
    (GI : FnOk P w K mg base CX0 (n + 1) f fd psLFrom (spLFrom n)) : FnOk P w K mg base CX0 (n + 2) f fd psLFrom (spLFrom (n + 1)) := by
  refine F.ok scLFrom (fun vs H Q E h => ?_) (fun cdv A outer s H vs Q E hr h => ?_)
  · obtain ⟨w0, sa, ws, p, rfl, _⟩ := h
    rfl
  obtain ⟨w0, sa, ws, p, rfl, gw, gs, ne, hl, hn, q⟩ := h
  refine ⟨_, pss_cons (ps_set (i := 2) scLFrom.nd rfl (.inl rfl) (pe_call GW hr (by rfl) gW kW bW .nil pass0 (pa_cons (pv 0) (pa_cons (pv 1) pa_nil))))
    (pss_cons (ps_if (pt_cmpR op_eq (pv 2) pe_str (nomark _)) (pss_one (ps_ret (pe_tup (pa_cons pe_str (pa_cons (pe_call GW hr (by rfl) gW kW bW .nil pass0 (pa_cons (pv 0) (pa_cons (pv 1) pa_nil))) pa_nil))))) pss_nil)
    (pss_cons (ps_set (i := 3) scLFrom.nd rfl (.inl rfl) (pe_disp (pps_cons pe_str pe_int (pps_cons pe_str pe_int (pps_cons pe_str pe_int (pps_cons pe_str pe_int (pps_cons pe_str pe_int (pps_cons pe_str pe_int pps_nil)))))) (by rfl) (by rfl) (fun z => by cases z) (by decide)))
    (pss_cons (ps_if (pt_cmp (pc_dnotin (Nat.lt_of_le_of_lt (Nat.add_le_add_left (show 1 ≤ 64 by decide) _) hr.units) (pv 2) (pv 3))) (pss_one (ps_ret pe_non)) pss_nil)
    (pss_one (ps_ret (pe_op op_catU (pe_tup (pa_cons (pv 2) pa_nil)) (pe_callTy call_tuple_of (by rfl) mt PyProof.Rows.boot_tuple (pa_cons (pe_lc (own := [("_law_k", 4)]) (g := gName 4) (by rfl) scLFrom.nd
        (pi_range1 (by rfl) mr (pa_cons (pe_dget (Nat.lt_of_le_of_lt (Nat.add_le_add_left (show 1 ≤ 64 by decide) _) hr.units) (pv 3) (pv 2) (fun _ _ => rfl)) pa_nil)) (blkOk_by (own := [("_law_k", 4)]) (N := nLFrom) (sc := defScope tLFrom) (by decide +kernel))
        (fun _ _ _ _ _ => pg_name (i := 4) scLFrom.nd rfl (.inl rfl)) (fun _ _ _ _ _ => pts_nil) (fun _ _ _ _ _ => pe_call GI hr (by rfl) gF F.kp bF .nil pass0 (pa_cons (pv 0) (pa_cons (pv 1) pa_nil)))) pa_nil)))))))), ?_⟩
  refine ⟨_, rfl, _, rfl, w0, sa, ws, p, rfl, gw, gs, ne, hl, fun H1 kb1 gs1 => ?_⟩
  have gw1 := kb1 _ _ ne gw
  refine ⟨_, rfl, rfl, _, rfl, ite2 (fun e => ?_) (fun e => ?_)⟩
  · have e1 : wa ws p = "open" := V.str.inj (of_decide_eq_true e)
    rw [kf_open e1] at q
    refine ⟨_, rfl, _, rfl, w0, sa, ws, p + 1, rfl, gw1, gs1, ne, hl, fun H2 kb2 gs2 => ⟨(by show 2 ≤ sizeLine; decide), fun t nt => ?_⟩⟩
    have st := newS (o := .tup [V.str "open", .str (wa ws (p + 1))]) nt
    exact q _ _ ((kb1.trans kb2).trans (Kb.of st)) (st _ _ gs2) (.tup upd_same (.cons (.str _) (.cons (.str _) .nil)))
  have e1 : wa ws p ≠ "open" := fun z => e (decide_eq_true (by rw [z]))
  refine fun d nd => ⟨upd_same, mk6, rfl, by decide, ?_⟩
  rw [mk6_m]
  have s2 : Same H1 (upd (upd H1 d (.dK [])) d (.dK mk6)) := fun b u e => by
    rw [upd_ne (ne_of_none e nd), upd_ne (ne_of_none e nd)]
    exact e
  have gd : (upd (upd H1 d (.dK [])) d (.dK mk6)) d = some (.dK mk6) := upd_same
  generalize upd (upd H1 d (.dK [])) d (.dK mk6) = H2 at s2 gd
  have kb2 : Kb sa H H2 := kb1.trans (Kb.of s2)
  have gw2 := s2 _ _ gw1
  have gs2 := s2 _ _ gs1
  refine ⟨_, rfl, _, rfl, d, _, rfl, .inl ⟨mk6, .inr (wa ws p), .inl gd, rfl, rfl⟩, _, rfl, ?_⟩
  rcases mk6_see (wa ws p) e1 with ⟨hv, ha⟩ | ⟨m, hv, ha, hm, hne⟩
  · rw [hv]
    rw [kf_none e1 ha] at q
    exact iteT (q _ _ kb2 gs2 .non)
  rw [hv]
  rw [kf_some e1 ha] at q
  have hp : p < ws.length := by
    have z := wa_in hne
    have := congrArg List.length z
    rw [List.length_drop, List.length_cons, List.length_drop] at this
    omega
  refine iteF ⟨_, rfl, (by show 1 ≤ sizeLine; decide), fun t nt => ?_⟩
  have st := newS (o := .tup [V.str (wa ws p)]) nt
  have gt : (upd H2 t (.tup [V.str (wa ws p)])) t = some (.tup [V.str (wa ws p)]) := upd_same
  generalize upd H2 t (.tup [V.str (wa ws p)]) = H3 at st gt
  have kb3 : Kb sa H H3 := kb2.trans (Kb.of st)
  have gw3 := st _ _ gw2
  have gs3 := st _ _ gs2
  have gd3 := st _ _ gd
  refine ⟨_, rfl, _, rfl, d, .int (m : Int), rfl, .inl ⟨mk6, .inr (wa ws p), .inl gd3, rfl, hv.symm⟩, (m : Int), rfl, by omega, by omega, fun D nD => ?_⟩
  have hD : H D = none := kb3.free gs (by rw [gs3]; exact fun z => nomatch z) nD
  have saD : sa ≠ D := ne_of_none gs3 nD
  have tD : t ≠ D := ne_of_none gt nD
  have ts : t ≠ sa := fun z => by
    rw [z, gs3] at gt
    cases gt
  refine lc_range (lo := 0) (n := m) (fun i G => Kb sa H G ∧ G t = some (.tup [V.str (wa ws p)]) ∧ G sa = some (.lst [.int (((kfs (kf ws n) i (p + 1)).2 : Nat) : Int)]) ∧ ∃ vs, G D = some (.lst vs) ∧ DdL Non G (kfs (kf ws n) i (p + 1)).1 vs)
    ⟨kb3.mk hD, by rw [upd_ne tD]; exact gt, by rw [upd_ne saD]; exact gs3, [], upd_same, .nil⟩ (fun i G hi z => ?_) (fun G z => ?_)
  · obtain ⟨kb, gtG, gsG, vs, gD, dl⟩ := z
    have hq := kfs_le (kf_lt ws n) i (p + 1)
    refine ⟨rfl, _, rfl, _, rfl, w0, sa, ws, _, rfl, kb _ _ ne gw, gsG, ne, hl, by omega, fun v G2 kb2 gs2 dv => ?_⟩
    have kn := kbNon kb2 gsG
    have gD2 := kb2 D _ (Ne.symm saD) gD
    have ll := dl.len
    rw [kfs_len] at ll
    refine ⟨vs, gD2, small1000 (by omega), (kb.trans kb2).mk hD, by rw [upd_ne tD]; exact kb2 t _ ts gtG, by rw [upd_ne saD]; exact gs2, vs ++ [v], upd_same, ?_⟩
    have nt : ∀ xs, G2 D ≠ some (.tup xs) := fun _ z => by rw [gD2] at z; cases z
    have k2 : Kn Non G2 (upd G2 D (.lst (vs ++ [v]))) := Kn.rfl.put (fun z => z) nt
    exact ((dl.kn kn).kn k2).app (.cons (dv.kn k2) .nil)
  · obtain ⟨kb, gtG, gsG, vs, gD, dl⟩ := z
    have ll := dl.len
    rw [kfs_len] at ll
    refine ⟨D, vs, rfl, .inl ⟨SqL.of gD, fun l nl => ?_⟩⟩
    have sl := newS (o := .tup vs) nl
    refine ⟨t, l, _, _, rfl, rfl, sl _ _ gtG, upd_same, small (by rw [List.length_singleton]; omega), fun r G2 s2 gr => ?_⟩
    have sA := sl.trans s2
    exact q _ _ (kb.trans (Kb.of sA)) (sA _ _ gsG) (.tup gr (.cons (.str _) (dl.same sA)))
theorem okLFrom {f fW : Addr} {fd fdW : FuncData} (F : Fun K "_law_kind_from" "_law_kind_from" tLFrom f fd) (bF : Binds K fd psLFrom []) (gF : mg "_law_kind_from" = some (.ref f))
    (FW : Fun K "_law_word" "_law_word" tLWord fW fdW) (bW : Binds K fdW ["_law_words", "_law_spot"] []) (gW : mg "_law_word" = some (.ref fW))
    (mt : mg "tuple" = none) (mr : mg "range" = none) (ml : mg "len" = none) (mm : mg "min" = none) : ∀ n, FnOk P w K mg base CX0 (n + 1) f fd psLFrom (spLFrom n)
  | 0 => noFn fun vs H Q E h => by
    obtain ⟨w0, sa, ws, p, _, _, _, _, _, hn, _⟩ := h
    omega
  | n + 1 => okLFrom1 F bF gF (okLWord FW ml mm) bW gW FW.kp mt mr (okLFrom F bF gF FW bW gW mt mr ml mm n)
end
end Kq

namespace Kq
open PySem PySem.Spec PyProof.Rows L2 Kf Kg Kv GxR Kk Kr1
theorem kt_knd {x : Dt} (h : kndD x = true) : ∃ k : Kt, k.ok ∧ k.isK = true ∧ k.d = x := kt_ch (q := Kt.isA) (fun x hx => kt_arg hx) _ x (Nat.le_refl _) h
theorem rk_yes {z : Str} {n : Nat} (hn : nb z + 1 ≤ n) {k : Kt} (h : Rk z k) : kf (Txt.split z (Str.ofString " ")) n 0 = (k.d, (Txt.split z (Str.ofString " ")).length) := by
  have hl := words_len z
  have h2 := h.1.2
  have h3 := congrArg List.length h2
  rw [List.length_map] at h3
  have h4 := dp_tk k
  have e : (Txt.split z (Str.ofString " ")).drop 0 = (It'.kd k).tk.map It'.wd ++ [] := by
    rw [List.drop_zero, List.append_nil]
    exact h2
  have := kf_yes (n := n) (by omega) e
  rw [this, Nat.zero_add, h3]
theorem rk_no {z : Str} {n : Nat} (h : ∀ k, ¬ Rk z k) : ¬ ((kf (Txt.split z (Str.ofString " ")) n 0).2 = (Txt.split z (Str.ofString " ")).length ∧ kndD (kf (Txt.split z (Str.ofString " ")) n 0).1 = true) := by
  rintro ⟨h1, h2⟩
  obtain ⟨k, k1, k2, k3⟩ := kt_knd h2
  obtain ⟨r, r1, r2⟩ := kf_no k1 k3.symm
  refine h k ⟨⟨k1, ?_⟩, k2⟩
  rw [List.drop_zero] at r1
  have : r = [] := by
    have z := congrArg List.length r1
    rw [List.length_append, List.length_map] at z
    rw [h1, Nat.zero_add] at r2
    exact List.length_eq_zero_iff.mp (by omega)
  rw [r1, this, List.append_nil]
section
variable {P : Program} {w : World} {K : PySem.W.Frag} {mg : Str → Option Value} {base : Heap}
/-! _law_is_kind -/
theorem scLKnd : FnScope ["_law_thing"] ["_law_thing"] (defScope tLKnd) := ⟨rfl, rfl, rfl, by decide +kernel, rfl, by decide +kernel, by decide +kernel⟩
theorem okLKnd {f fD fC : Addr} {fd fdD fdC : FuncData} {n k : Nat} (F : Fun K "_law_is_kind" "_law_is_kind" tLKnd f fd)
    (GD : FnOk P w K mg base CX0 k fD fdD ["_law_thing"] (spLData n)) (bD : Binds K fdD ["_law_thing"] []) (gD : mg "_law_is_data" = some (.ref fD)) (kD : PySem.W.keepIn K (.ref fD) = true)
    (GC : FnOk P w K mg base CX0 k fC fdC ["_law_thing"] (spLDt n argD)) (bC : Binds K fdC ["_law_thing"] []) (gC : mg "_law_is_carried" = some (.ref fC)) (kC : PySem.W.keepIn K (.ref fC) = true)
    (mi : mg "isinstance" = none) (mt : mg "tuple" = none) (ms : mg "str" = none) (ml : mg "len" = none) : FnOk P w K mg base CX0 (k + 1) f fd ["_law_thing"] (spLDt n kndD) := by
  refine F.ok scLKnd (fun vs H Q E h => ?_) (fun cdv A outer s H vs Q E hr h => ?_)
  · obtain ⟨v, x, rfl, _⟩ := h
    rfl
  obtain ⟨v, x, rfl, hn, hd, hw, q⟩ := h
  refine ⟨_, pss_cons (ps_while PassesOwn.never (PW.pt (pw_and (pt_val (pe_callB (isiK K rfl) (by rfl) mi PyProof.Rows.boot_isinstance (pa_cons (pv 0) (pa_cons (pe_bltn (v := .ty "tuple") (by rfl) mt PyProof.Rows.boot_tuple rfl) pa_nil))))
      (pw_and (pt_cmpR op_eq (pe_callB call_len_seq (by rfl) ml PySem.boot_len (pa_cons (pv 0) pa_nil)) pe_int (nomark _))
      (pw_and (pt_val (pe_callB (isiK K rfl) (by rfl) mi PyProof.Rows.boot_isinstance (pa_cons (pe_ix ix_tup (pv 0) pe_int (fun _ _ => rfl)) (pa_cons (pe_bltn (v := .ty "str") (by rfl) ms PyProof.Rows.boot_str rfl) pa_nil))))
      (pw_and1 (pt_cmpR op_eq (pe_ix ix_tup (pv 0) pe_int (fun _ _ => rfl)) pe_str (nomark _)))))))
      (pss_cons (ps_if (pt_not (pt_val (pe_call GC hr (by rfl) gC kC bC .nil pass0 (pa_cons (pe_ix ix_tup (pv 0) pe_int (fun _ _ => rfl)) pa_nil)))) (pss_one (ps_ret pe_bl)) pss_nil)
      (pss_one (ps_set (i := 0) scLKnd.nd rfl (.inl rfl) (pe_ix ix_tup (pv 0) pe_int (fun _ _ => rfl))))))
    (pss_one (ps_ret (pe_call GD hr (by rfl) gD kD bD .nil pass0 (pa_cons (pv 0) pa_nil)))), ?_⟩
  have et : kndD x = chD argD x := rfl
  let Iv : Nat → L2.St → Hp → Prop := fun m σ G => ∃ y u, m = y.sz ∧ σ = [some u] ∧ Same H G ∧ Dd Any G y u ∧ y.wt ≤ x.wt ∧ y.dp ≤ x.dp ∧ chD argD x = chD argD y
  refine ⟨Iv, ⟨_, x, v, rfl, rfl, Same.refl H, hd, Nat.le_refl _, Nat.le_refl _, rfl⟩, fun m σ G z => ?_⟩
  obtain ⟨y, u, rfl, rfl, sG, hy, hyw, hyd, hc⟩ := z
  have fin : tagD y "fun" 2 = false → spLData n [u] G Q E0 := fun h => by
    refine ⟨u, y, rfl, by omega, hy, by omega, fun G2 s2 => ?_⟩
    have z := q _ (sG.trans s2)
    rw [et, hc, chD_no _ h] at z
    exact z
  refine ⟨_, rfl, _, _, _, _, y.isTup, rfl, .ty "tuple", hy.ty, kTup K y, _, rfl, ite2 (fun e => ?_) (fun e => iteF ⟨_, rfl, fin ?_⟩)⟩
  rotate_left
  · cases y <;> first | rfl | exact absurd rfl e
  obtain ⟨xs, rfl⟩ : ∃ xs, y = .tup xs := by
    cases y with
    | tup xs => exact ⟨xs, rfl⟩
    | _ => cases e
  obtain ⟨a, us, rfl, ha, hL⟩ := Dd.tupS hy
  have ll := hL.len
  refine ⟨_, rfl, a, _, rfl, .inr (SqT.of ha), rfl, _, rfl, ite2 (fun e => ?_) (fun e => iteF ⟨_, rfl, fin ?_⟩)⟩
  rotate_left
  · have e1 : ¬ us.length = 3 := fun z => e (decide_eq_true (by rw [z]; rfl))
    match xs, ll with
    | [], _ => rfl
    | z :: zs, ll =>
      show (decide (zs.length = 2) && _) = false
      rw [decide_eq_false (by rw [List.length_cons] at ll; omega), Bool.false_and]
  have e1 : us.length = 3 := by
    have := V.int.inj (of_decide_eq_true e)
    omega
  obtain ⟨y0, ya, yb, rfl⟩ : ∃ y0 ya yb, xs = [y0, ya, yb] := by
    rw [← ll] at e1
    match xs, e1 with
    | [y0, ya, yb], _ => exact ⟨_, _, _, rfl⟩
  obtain ⟨p, u0, ua, ub, ep, hp, h0, hA, hB⟩ := Dd.tup3 hy
  cases ep
  rw [ha] at hp
  cases hp
  have ix0 : atI [u0, ua, ub] 0 = some u0 := atI_nat (j := 0) rfl
  refine ⟨_, rfl, a, _, _, _, rfl, rfl, SqT.of ha, ix0, _, _, _, _, y0.isStr, rfl, .ty "str", h0.ty, kStr K y0, _, rfl, ite2 (fun e => ?_) (fun e => iteF ⟨_, rfl, fin ?_⟩)⟩
  rotate_left
  · show (decide ([ya, yb].length = 2) && y0.isS "fun") = false
    cases y0 <;> first | exact absurd rfl e | simp [Dt.isS]
  obtain ⟨wd, rfl⟩ : ∃ z, y0 = .str z := by
    cases y0 with
    | str z => exact ⟨z, rfl⟩
    | _ => cases e
  cases h0
  refine ⟨_, rfl, a, _, _, _, rfl, rfl, SqT.of ha, ix0, rfl, _, rfl, ite2 (fun e => ?_) (fun e => ⟨_, rfl, fin ?_⟩)⟩
  rotate_left
  · show (decide ([ya, yb].length = 2) && decide (wd = "fun")) = false
    rw [decide_eq_false (p := wd = "fun") (fun z => e (decide_eq_true (by rw [z]))), Bool.and_false]
  have e4 : wd = "fun" := V.str.inj (of_decide_eq_true e)
  subst e4
  rw [wt3] at hyw
  have hd3 : (Dt.tup [.str "fun", ya, yb]).dp = max 0 (max ya.dp (max yb.dp 0)) + 1 := by simp only [Dt.dp, Dt.dps]
  refine ⟨fun σ' G' => ∃ m', m' < _ ∧ Iv m' σ' G', fun σ' G' z => z, ?_⟩
  refine ⟨_, rfl, a, _, _, _, rfl, rfl, SqT.of ha, atI_nat (j := 1) rfl, ua, ya, rfl, by omega, hA, by omega, fun G2 s2 => ⟨_, rfl, ite2 (fun e => ?_) (fun e => ?_)⟩⟩
  · have z := q _ (sG.trans s2)
    rw [et, hc, chD_fn, show argD ya = false by simpa using e] at z
    exact z
  refine ⟨_, rfl, a, _, _, _, rfl, rfl, SqT.of (s2 _ _ ha), atI_nat (j := 2) rfl, yb.sz, ?_, yb, ub, rfl, rfl, sG.trans s2, hB.same s2, by omega, by omega, ?_⟩
  · rw [sz3]
    omega
  · rw [hc, chD_fn, show argD ya = true by simpa using e, Bool.true_and]
/-! _law_read -/
abbrev nLRead : List Str := ["_law_text", "_law_words", "_law_spot", "_law_kind_here"]
theorem scLRead : FnScope nLRead ["_law_text"] (defScope tLRead) := ⟨rfl, rfl, rfl, by decide +kernel, rfl, by decide +kernel, by decide +kernel⟩
def spLRead (W : Nat) : Sp := fun vs H Q _ => ∃ (z : Str), vs = [.str z] ∧ z.length ≤ 8000 ∧ nb z + 2 ≤ W ∧ W ≤ 200 ∧ (∀ k, Rk z k → ∀ (v : V) (G : Hp), Same H G → Dd Non G k.d v → v ≠ .non → Q v G) ∧ ((∀ k, ¬ Rk z k) → ∀ G : Hp, Same H G → Q .non G)
theorem okLRead {f fF fK : Addr} {fd fdF fdK : FuncData} {k W : Nat} (F : Fun K "_law_read" "_law_read" tLRead f fd)
    (GF : FnOk P w K mg base CX0 k fF fdF psLFrom (spLFrom W)) (bF : Binds K fdF psLFrom []) (gF : mg "_law_kind_from" = some (.ref fF)) (kF : PySem.W.keepIn K (.ref fF) = true)
    (GK : FnOk P w K mg base CX0 k fK fdK ["_law_thing"] (spLDt (W + 1) kndD)) (bK : Binds K fdK ["_law_thing"] []) (gK : mg "_law_is_kind" = some (.ref fK)) (kK : PySem.W.keepIn K (.ref fK) = true)
    (ml : mg "len" = none) : FnOk P w K mg base CX0 (k + 1) f fd ["_law_text"] (spLRead W) := by
  refine F.ok scLRead (fun vs H Q E h => ?_) (fun cdv A outer s H vs Q E hr h => ?_)
  · obtain ⟨z, rfl, _⟩ := h
    rfl
  obtain ⟨z, rfl, hz, hn, hW, q1, q2⟩ := h
  refine ⟨_, pss_cons (ps_set (i := 1) scLRead.nd rfl (.inl rfl) (pe_split (pv 0) pe_str))
    (pss_cons (ps_set (i := 2) scLRead.nd rfl (.inl rfl) (pe_lst (pa_cons pe_int pa_nil)))
    (pss_cons (ps_set (i := 3) scLRead.nd rfl (.inl rfl) (pe_call GF hr (by rfl) gF kF bF .nil pass0 (pa_cons (pv 1) (pa_cons (pv 2) pa_nil))))
    (pss_cons (ps_if (PW.pt (pw_or (pt_cmpR op_ne (pe_ix ix_list (pv 2) pe_int (fun _ _ => rfl)) (pe_callB call_len_seq (by rfl) ml PySem.boot_len (pa_cons (pv 1) pa_nil)) (nomark _))
        (pw_or1 (pt_not (pt_val (pe_call GK hr (by rfl) gK kK bK .nil pass0 (pa_cons (pv 3) pa_nil)))))))
      (pss_one (ps_ret pe_non)) pss_nil)
    (pss_one (ps_ret (pv 3)))))), ?_⟩
  refine ⟨_, rfl, ⟨_, rfl⟩, z, _, rfl, rfl, rfl, by rw [sizeLine_eq]; omega, fun wa0 nwa => ?_⟩
  have hl := words_len z
  have hw := word_len z
  have yes := fun k (h : Rk z k) => rk_yes (n := W) (by omega) h
  have no := fun (h : ∀ k, ¬ Rk z k) => rk_no (n := W) h
  generalize hws : Txt.split z (Str.ofString " ") = ws at hl hw yes no
  have s1 := newS (o := .lst (ws.map V.str)) nwa
  have gw : (upd H wa0 (.lst (ws.map V.str))) wa0 = some (.lst (ws.map V.str)) := upd_same
  generalize upd H wa0 (.lst (ws.map V.str)) = H1 at s1 gw
  refine ⟨(by show 1 ≤ sizeLine; decide), fun sa nsa => ?_⟩
  have s2 := newS (o := .lst [V.int 0]) nsa
  have gs : (upd H1 sa (.lst [V.int 0])) sa = some (.lst [V.int ((0 : Nat) : Int)]) := upd_same
  have gw2 := s2 _ _ gw
  have ne : wa0 ≠ sa := ne_of_none gw nsa
  generalize upd H1 sa (.lst [V.int 0]) = H2 at s2 gs gw2
  have hsa : H sa = none := by
    cases e : H sa with
    | none => rfl
    | some o => rw [s1 _ _ e] at nsa; cases nsa
  refine ⟨_, rfl, _, rfl, wa0, sa, ws, 0, rfl, gw2, gs, ne, by omega, by omega, fun v G kb gsG dv => ?_⟩
  have sG : Same H G := fun b o e => kb b o (ne_of_none e hsa) (s2 _ _ (s1 _ _ e))
  have gwG := kb wa0 _ ne gw2
  have hwt := kf_wt (L := 8000) (C := 80100) (fun x hx => by have := hw x hx; omega) (by omega) W 0
  have hdp := kf_dp ws W 0
  refine ⟨_, rfl, sa, _, _, _, rfl, rfl, SqL.of gsG, atI_nat (j := 0) rfl, _, rfl, wa0, _, rfl, .inl (SqL.of gwG), rfl, _, rfl, ?_⟩
  refine ite2 (fun e => iteT ?_) (fun e => ?_)
  · refine q2 (fun k hk => ?_) G sG
    rw [yes k hk, List.length_map] at e
    simp at e
  have e1 : (kf ws W 0).2 = ws.length := by
    by_cases c : (kf ws W 0).2 = ws.length
    · exact c
    · refine absurd ?_ e
      rw [List.length_map]
      have : ¬ V.int (((kf ws W 0).2 : Nat) : Int) = V.int ((ws.length : Nat) : Int) := fun z => c (by have := V.int.inj z; omega)
      simp [this]
  refine ⟨_, rfl, v, _, rfl, by omega, dv.any, by rw [sizeLine_eq]; omega, fun G2 s3 => ⟨_, rfl, ?_⟩⟩
  cases hk : kndD (kf ws W 0).1 with
  | false =>
    refine iteT (q2 (fun k hk2 => ?_) G2 (sG.trans s3))
    have := kndD_d hk2.1.1
    rw [hk2.2] at this
    rw [yes k hk2] at hk
    rw [this] at hk
    cases hk
  | true =>
    refine iteF ⟨_, rfl, ?_⟩
    by_cases c : ∃ k, Rk z k
    · obtain ⟨k, hk2⟩ := c
      rw [yes k hk2] at dv
      refine q1 k hk2 v G2 (sG.trans s3) (dv.same s3) (fun z => ?_)
      subst z
      rw [Kt.d_eq] at dv
      cases dv
    · exact absurd ⟨e1, hk⟩ (no fun k hk2 => c ⟨k, hk2⟩)
end
end Kq

/-! isinstance(e, T) and isinstance(e, (A, B, ..)) of an exception that is pinned -/
namespace Ke
open PySem PySem.Spec PyProof.Rows L2
theorem clsV_eq {c : V} {u v : Value} (h : ClsV c u) (r : RelV c v) : v = u := by
  cases h <;> exact r
theorem paired_eq : ∀ {cs : List V} {us its : List Value}, PySem.Paired ClsV cs us → Vals cs its → its = us
  | [], _, _, .nil, h => by cases h; rfl
  | _ :: _, _, _, .cons p ps, h => by
    cases h with
    | cons q qs => rw [clsV_eq p q, paired_eq ps qs]
def rIsET (K : PySem.W.Frag) (D a : Addr) : List V → Hp → VK → Prop := fun xs H Q => ∃ (tp : Addr) (cs : List V) (us : List Value) (b : Bool), xs = [.ref a, .ref tp] ∧ H tp = some (.tup cs) ∧ PySem.Paired ClsV cs us ∧ PySem.W.kitAny K (.ref D) us = some b ∧ Q (.bl b) H
theorem call_isET {X : Cx} {a D : Addr} {oe : Obj} (C : ExcC X.K D) (hm : (a, oe) ∈ X.pn) (hz : Zc (.ref D) none oe) (hf : ∃ vs, oe.data = .fields vs) : CallR X (.builtin "isinstance") (rIsET X.K D a) := by
  intro pins s σ H xs us Q hI hv hr
  obtain ⟨tp, cs, cu, b, rfl, ht, hp, hk, hQ⟩ := hr
  obtain ⟨vs, hf⟩ := hf
  have hg : s.heap.get? a = some oe := (hI.pin _ (List.mem_append_left _ hm)).1
  cases hv with
  | cons h1 h2 =>
    cases h2 with
    | cons h3 h4 =>
      cases h4
      cases h1
      cases h3
      obtain ⟨its, hvs, ⟨⟨cc, dd, dt, sl⟩, hT, rfl, n, rfl⟩, -⟩ := hI.tuple (show SqT X.K H tp cs from .inl (.inl ht))
      have := paired_eq hp hvs
      subst this
      refine PySem.W.kia_tup (PySem.W.handS_kitx_exc (ox := oe) C.hg C.hk C.hs C.hd C.ha C.hn C.ht C.hm) hI.kIn ?_ hT hk (fun h => by cases h) fun tk => ⟨.bl b, _, hI.tok tk, rfl, hQ⟩
      exact ⟨hg, hz.1, by unfold PySem.W.notCls; rw [hf], by rw [hz.2]; trivial⟩
def rIsE1 (K : PySem.W.Frag) (D a : Addr) : List V → Hp → VK → Prop := fun xs H Q => ∃ (c : V) (cv : Value) (b : Bool), xs = [.ref a, c] ∧ (∀ u, RelV c u → u = cv) ∧ PySem.W.kitOne K (.ref D) cv = some b ∧ Q (.bl b) H
theorem call_isE1 {X : Cx} {a D : Addr} {oe : Obj} (C : ExcC X.K D) (hm : (a, oe) ∈ X.pn) (hz : Zc (.ref D) none oe) (hf : ∃ vs, oe.data = .fields vs) : CallR X (.builtin "isinstance") (rIsE1 X.K D a) := by
  intro pins s σ H xs us Q hI hv hr
  obtain ⟨c, cv, b, rfl, ht, hk, hQ⟩ := hr
  obtain ⟨vs, hf⟩ := hf
  have hg : s.heap.get? a = some oe := (hI.pin _ (List.mem_append_left _ hm)).1
  cases hv with
  | cons h1 h2 =>
    cases h2 with
    | cons h3 h4 =>
      cases h4
      cases h1
      have := ht _ h3
      subst this
      refine PySem.W.kia_one (PySem.W.handS_kitx_exc (ox := oe) C.hg C.hk C.hs C.hd C.ha C.hn C.ht C.hm) hI.kIn ?_ hk (fun h => by cases h) fun tk => ⟨.bl b, _, hI.tok tk, rfl, hQ⟩
      exact ⟨hg, hz.1, by unfold PySem.W.notCls; rw [hf], by rw [hz.2]; trivial⟩
end Ke

/-! defs that are handed the exception under way -/
namespace Kx8
open PySem PySem.Spec PyProof.Rows L2 LamX L2H
/-- a def's promise, called where p is pinned (an exception that is handled); the promise may speak of p -/
structure FnX (P : Program) (w : World) (K : PySem.W.Frag) (mg : Str → Option Value) (base : Heap) (CX : CXT) (k : Nat) (f : Addr) (fd : FuncData) (ps : List Str) (sp : Addr × Obj → Sp) : Prop where
  cnt : ∀ p vs H Q E, sp p vs H Q E → vs.length = ps.length
  go : ∀ (A : Around) (o : List Env) (s : Shared) (H : Hp) (r : Args) (us : List Value) (vs : List V) (Q : VK) (E : XK) (p : Addr × Obj), RoomH k A → PinOk o H s p → Env0 P w K mg base A o s H → BindsTo s fd r (ps.zip us) → Vals vs us → sp p vs H Q E →
    codeAny (model P w) A (.call (.ref f) r) (CR CX o P w H s Q E) s
section
variable {P : Program} {w : World} {K : PySem.W.Frag} {mg : Str → Option Value} {base : Heap} {CX : CXT}
theorem fnX_of {k : Nat} {f : Addr} {nm ql : Str} {prm : Arguments} {bd : List Stmt} {sco : Scope} {dV kV doc pm cdv ct oc : Value} {an od : Option Addr} {sl : Array (Option Value)} {N ps : List Str} {sp : Addr × Obj → Sp}
    (at' : K.lookup f = some ⟨oc, od, .func (PySem.W.fnOf nm ql prm bd sco dV kV doc pm an cdv ct), sl⟩) (hc : PySem.W.codeIn K cdv ql = true) (S : FnScope N ps sco) (cnt : ∀ p vs H Q E, sp p vs H Q E → vs.length = ps.length)
    (body : ∀ (A : Around) (o : List Env) (s : Shared) (H : Hp) (vs : List V) (Q : VK) (E : XK) (p : Addr × Obj), RoomH k (A.deeper (envOfC ql sco s.heap.objs.size f cdv)) → sp p vs H Q E →
      ∃ t, PSs (cxH CX P w K mg base N ql sco f cdv A o s H E p) bd t ∧ t { nx := fun _ G => Q .non G, rt := Q } (start N vs) H) : FnX P w K mg base CX (k + 1) f (PySem.W.fnOf nm ql prm bd sco dV kV doc pm an cdv ct) ps sp where
  cnt := cnt
  go := by
    intro A o s H r us vs Q E p room pin e0 binds vals hsp
    have hold := fun b u (z : base.get? b = some u) => (e0.bs b u z).1
    have kx := e0.mod.kin.keeps hold
    have par : ∀ z ∈ ps.zip us, sco.names.lookup z.1 = some .local ∨ (sco.names.lookup z.1 = some .cell ∧ ((cellsFrom (s.heap.objs.size + 1) sco.names []).lookup z.1).isSome = true) := by
      intro z hz
      have hm : z.1 ∈ ps := (List.of_mem_zip (a := z.1) (b := z.2) hz).1
      exact (S.par z.1 hm).imp id fun q => ⟨q, PySem.W.cellsFrom_some _ _ _ (.inl q)⟩
    refine codeAny_call_function room.depth (kx _ _ at') rfl S.co S.gen rfl (PySem.W.codeRec_of kx hc) (binds _ _ _ _ (wpAny_newFunctionEnv_cells S.kind par ?_))
    rintro env rfl s1 x
    refine ⟨(e0.mod.nolimit.keeps hold).keeps x.toInCall.keep, codeAny_func ?_⟩
    obtain ⟨t, ht, hq⟩ := body A o s H vs Q E p (room.deeper _) hsp
    refine wpAny_mono (ht.run [] s1 (start N vs) H _ (inv_startH S pin e0 (cnt _ _ _ _ _ hsp) vals x) hq) ?_ (fun _ _ z => z)
    intro fl s2 z
    match fl, z with
    | .ret u, ⟨v, _, G, J, rv, q⟩ => exact ⟨v, G, J.os, J.bare, J.base, J.hok, rv, q⟩
    | .next, ⟨_, G, J, q⟩ => exact ⟨V.non, G, J.os, J.bare, J.base, J.hok, rfl, q⟩
    | .brk, ⟨_, _, _, q⟩ => exact q.elim
    | .cont, ⟨_, _, _, q⟩ => exact q.elim
end
section
variable {X : Cx} {CX : CXT} {k : Nat} {f : Addr} {fd : FuncData} {ps : List Str} {sp : Addr × Obj → Sp} {E : L2.St → XK} {x : Str} {q0 pos : Pos} {e : Expr} {es : List Expr} {t : TA} {p : Addr × Obj}
theorem goX {pins : List (Addr × Obj)} {σ : L2.St} {H : Hp} {s : Shared} {Q : VK} {us : List Value} {vs : List V} (F : FnX X.prog X.w X.K X.mg X.base CX k f fd ps sp) (hr : RoomH k X.A) (hp : p ∈ X.pn) (hb : Binds X.K fd ps []) (hx : PassesAt CX X σ (E σ)) (I : Inv X pins σ H s) (rv : Vals vs us)
    (h : sp p vs H Q (E σ)) : wpAny (model X.prog X.w) X.A (call (.ref f) us) (EP X pins σ Q) X.xe s := by
  have n : us.length = ps.length := rv.length.symm.trans (F.cnt _ _ _ _ _ h)
  have bb := hb s us I.kIn (by rw [List.append_nil]; exact n)
  rw [List.append_nil] at bb
  refine wpAny_call (codeAny_mono (F.go X.A X.stack s H ⟨us, []⟩ _ _ Q (E σ) p hr ?_ I.env0 bb rv h) ?_)
  · obtain ⟨h1, h2, h3, h4, h5⟩ := I.pin p (List.mem_append_left _ hp)
    refine ⟨h1, h2, ?_, h5⟩
    rcases I.ok.stk with e | ⟨e, ef⟩
    · rw [e]; exact h4
    · rw [e]
      unfold frs
      simp only [List.filterMap_cons, ef, List.mem_cons, not_or]
      exact ⟨h3, h4⟩
  intro r s2 z
  match r, z with
  | .error u, z => exact hx pins H s u s2 I z
  | .ok (.ret u), z => exact I.after z
  | .ok .next, z => exact z.elim
  | .ok .brk, z => exact z.elim
  | .ok .cont, z => exact z.elim
/-- f(e, ..), p handled -/
theorem pe_callX (F : FnX X.prog X.w X.K X.mg X.base CX k f fd ps sp) (hr : RoomH k X.A) (hp : p ∈ X.pn) (hg : Gl X x) (hm : X.mg x = some (.ref f)) (hk : PySem.W.keepIn X.K (.ref f) = true) (hb : Binds X.K fd ps []) (hx : ∀ σ, PassesAt CX X σ (E σ)) (ha : PA X (e :: es) t)
    (hn : (x == ("__debug__" : Str)) = false := by decide) (h1 : starEach (e :: es) X.env = (false, eval e X.env) :: starEach es X.env := by rfl) (h2 : (backTo pos (starEach es X.env)).any (·.1) = false := by rfl) : PE X (.Call (.Name x q0) (e :: es) [] pos) (tCallS (sp p) E t) := by
  constructor
  intro pins s σ H Q I h
  refine wpAny_Call_Name_kw (ld_glob I hg hm (PySem.W.callWith_K (h₀ := X.base) I.ok.mod.kin hk (thn (ha.run pos pins s σ H _ I h) ?_) h1 h2) hn)
  rintro us s2 ⟨vs, G, J, rv, q⟩
  exact ⟨J.kIn, goX F hr hp hb (hx σ) J rv q⟩
end
end Kx8

namespace Kq
open PySem PySem.Spec PyProof.Rows L2 Kf Kg Kv GxR Kk Kr1
abbrev tLRefused : Stmt := tp 61
abbrev tLTold : Stmt := tp 63
abbrev tLRight : Stmt := tp 64
/-! kinds shown -/
theorem kt_loc : ∀ {k : Kt}, k.ok → k.d.loc 20 BB
  | .op n, h => lo2 (ascLit (by decide +kernel) (by decide +kernel)) (lo_nm h)
  | .num, _ => lo1 (ascLit (by decide +kernel) (by decide +kernel))
  | .tru, _ => lo1 (ascLit (by decide +kernel) (by decide +kernel))
  | .pr a b, h => lo3 (ascLit (by decide +kernel) (by decide +kernel)) (kt_loc h.1) (kt_loc h.2)
  | .ei a b, h => lo3 (ascLit (by decide +kernel) (by decide +kernel)) (kt_loc h.1) (kt_loc h.2)
  | .li a, h => lo2 (ascLit (by decide +kernel) (by decide +kernel)) (kt_loc h)
  | .fn a b, h => lo3 (ascLit (by decide +kernel) (by decide +kernel)) (kt_loc h.1) (kt_loc h.2)
theorem kt_ddp : ∀ k : Kt, k.d.dp ≤ k.dp + 2
  | .op n => by simp only [Kt.d, Kt.dp, Dt.dp, Dt.dps]; omega
  | .num => by simp only [Kt.d, Kt.dp, Dt.dp, Dt.dps]; omega
  | .tru => by simp only [Kt.d, Kt.dp, Dt.dp, Dt.dps]; omega
  | .pr a b => by
    have := kt_ddp a
    have := kt_ddp b
    simp only [Kt.d, Kt.dp, Dt.dp, Dt.dps]
    omega
  | .ei a b => by
    have := kt_ddp a
    have := kt_ddp b
    simp only [Kt.d, Kt.dp, Dt.dp, Dt.dps]
    omega
  | .li a => by
    have := kt_ddp a
    simp only [Kt.d, Kt.dp, Dt.dp, Dt.dps]
    omega
  | .fn a b => by
    have := kt_ddp a
    have := kt_ddp b
    simp only [Kt.d, Kt.dp, Dt.dp, Dt.dps]
    omega
/-- a kind within the bounds of this law -/
structure Kw (k : Kt) : Prop where
  ok : k.ok
  isK : k.isK = true
  dp : k.dp ≤ 160
  wt : k.d.wt ≤ 200000
theorem Kw.shw {k : Kt} (h : Kw k) : Shw 170 k.d :=
  (show Fine BB 170 16777214 k.d from ⟨Dt.loc_fine (kt_loc h.ok), by have := kt_ddp k; have := h.dp; omega, by have := h.wt; omega⟩).shw (by decide +kernel) (by decide +kernel)
theorem Rk.kw {z : Str} {k : Kt} (h : Rk z k) (hn : nb z ≤ 150) : Kw k := by
  have h1 := h.1.wt
  have h2 := congrArg List.length h.1.2
  have h3 := dp_tk k
  rw [words_len] at h1
  rw [words_len, List.length_map] at h2
  exact ⟨h.1.1, h.2, by omega, by omega⟩
/-- the classes that a refusal is held against -/
structure NTI (K : PySem.W.Frag) (mg : Str → Option Value) (cN cK : Addr) : Prop where
  ec : ExcC K cN
  gK : mg "KindError" = some (.ref cK)
  eP : PySem.W.exmOne K (.ref cN) (.ref cK) = some true
  nn : PySem.W.kitOne K (.ref cN) (.ref cN) = some true
  nv : PySem.W.kitOne K (.ref cN) (.type "ValueError") = some true
  g1 : ∃ c1 c2 c3 c4 c5 c6 c7 c8 c9 : Addr, mg "TooMany" = some (.ref c1) ∧ mg "TooMuch" = some (.ref c2) ∧ mg "NoKind" = some (.ref c3) ∧ mg "NoLead" = some (.ref c4) ∧ mg "NoName" = some (.ref c5) ∧ mg "Taken" = some (.ref c6) ∧ mg "Ring" = some (.ref c7) ∧ mg "NoBack" = some (.ref c8) ∧ mg "NoRow" = some (.ref c9) ∧
    PySem.W.kitAny K (.ref cN) [.ref c1, .ref c2, .ref c3, .ref c4, .ref c5, .ref c6, .ref c7, .ref c8, .ref c9] = some false
  g2 : ∃ c1 c2 c3 : Addr, mg "Unbounded" = some (.ref c1) ∧ mg "Broken" = some (.ref c2) ∧ mg "Used" = some (.ref c3) ∧ PySem.W.kitAny K (.ref cN) [.ref c1, .ref c2, .ref c3] = some false
section
variable {P : Program} {w : World} {K : PySem.W.Frag} {mg : Str → Option Value} {base : Heap} {T : List Addr} {cN cK : Addr}
/-! _law_refused -/
abbrev nRef : List Str := ["_law_e", "_law_others"]
theorem scRef : FnScope nRef ["_law_e"] (defScope tLRefused) := ⟨rfl, rfl, rfl, by decide +kernel, rfl, by decide +kernel, by decide +kernel⟩
def spRef (cN : Addr) : Addr × Obj → Sp := fun p vs H Q _ => vs = [.ref p.1] ∧ Zc (.ref cN) none p.2 ∧ (∃ us, p.2.data = .fields us) ∧ ∀ G : Hp, Same H G → Q (.bl true) G
theorem okRef {f : Addr} {fd : FuncData} {k : Nat} (F : Fun K "_law_refused" "_law_refused" tLRefused f fd) (nt : NT K mg cN) (ni : NTI K mg cN cK) (mi : mg "isinstance" = none) (mv : mg "ValueError" = none) : Kx8.FnX P w K mg base CX0 (k + 1) f fd ["_law_e"] (spRef cN) := by
  obtain ⟨oc, od, kV, doc, pm, an, cdv, ct, sl, rfl, hl, hc⟩ := F.ex
  refine Kx8.fnX_of hl hc scRef (fun p vs H Q E h => ?_) (fun A o s H vs Q E p hr h => ?_)
  · obtain ⟨rfl, _⟩ := h
    rfl
  obtain ⟨a, oe⟩ := p
  obtain ⟨rfl, hz, hf, q⟩ := h
  obtain ⟨c1, c2, c3, c4, c5, c6, c7, c8, c9, m1, m2, m3, m4, m5, m6, m7, m8, m9, hk9⟩ := ni.g1
  obtain ⟨d1, d2, d3, n1, n2, n3, hk3⟩ := ni.g2
  refine ⟨_, pss_cons (ps_set (i := 1) scRef.nd rfl (.inl rfl) (pe_callB (Ke.call_isET ni.ec List.mem_cons_self hz hf) (by rfl) mi PyProof.Rows.boot_isinstance (pa_cons (pv 0) (pa_cons (pe_tup (pa_cons (pe_glob (v := .ref c1) (by rfl) m1 rfl) (pa_cons (pe_glob (v := .ref c2) (by rfl) m2 rfl) (pa_cons (pe_glob (v := .ref c3) (by rfl) m3 rfl) (pa_cons (pe_glob (v := .ref c4) (by rfl) m4 rfl) (pa_cons (pe_glob (v := .ref c5) (by rfl) m5 rfl) (pa_cons (pe_glob (v := .ref c6) (by rfl) m6 rfl) (pa_cons (pe_glob (v := .ref c7) (by rfl) m7 rfl) (pa_cons (pe_glob (v := .ref c8) (by rfl) m8 rfl) (pa_cons (pe_glob (v := .ref c9) (by rfl) m9 rfl) pa_nil)))))))))) pa_nil))))
    (pss_cons (ps_set (i := 1) scRef.nd rfl (.inl rfl) (pe_or (pv 1) (pe_one (pe_callB (Ke.call_isET ni.ec List.mem_cons_self hz hf) (by rfl) mi PyProof.Rows.boot_isinstance (pa_cons (pv 0) (pa_cons (pe_tup (pa_cons (pe_glob (v := .ref d1) (by rfl) n1 rfl) (pa_cons (pe_glob (v := .ref d2) (by rfl) n2 rfl) (pa_cons (pe_glob (v := .ref d3) (by rfl) n3 rfl) pa_nil)))) pa_nil))))))
    (pss_one (ps_ret (pe_and (pe_callB (Ke.call_isE1 ni.ec List.mem_cons_self hz hf) (by rfl) mi PyProof.Rows.boot_isinstance (pa_cons (pv 0) (pa_cons (pe_glob (v := .ref cN) (by rfl) nt.gP rfl) pa_nil)))
      (pe_and (pe_callB (Ke.call_isE1 ni.ec List.mem_cons_self hz hf) (by rfl) mi PyProof.Rows.boot_isinstance (pa_cons (pv 0) (pa_cons (pe_bltn (v := .ty "ValueError") (by rfl) mv (by decide +kernel) rfl) pa_nil)))
      (pe_one (pe_not (pv 1)))))))), ?_⟩
  refine ⟨_, rfl, (by show 9 ≤ sizeLine; decide), fun t nt' => ?_⟩
  have s1 := newS (o := .tup [V.ref c1, .ref c2, .ref c3, .ref c4, .ref c5, .ref c6, .ref c7, .ref c8, .ref c9]) nt'
  refine ⟨t, _, _, false, rfl, upd_same, .cons (.own _) (.cons (.own _) (.cons (.own _) (.cons (.own _) (.cons (.own _) (.cons (.own _) (.cons (.own _) (.cons (.own _) (.cons (.own _) .nil)))))))), hk9, ?_⟩
  refine ⟨_, rfl, _, rfl, iteF ⟨_, rfl, (by show 3 ≤ sizeLine; decide), fun t2 nt2 => ?_⟩⟩
  have s2 := newS (o := .tup [V.ref d1, .ref d2, .ref d3]) nt2
  refine ⟨t2, _, _, false, rfl, upd_same, .cons (.own _) (.cons (.own _) (.cons (.own _) .nil)), hk3, ?_⟩
  refine ⟨_, rfl, _, _, true, rfl, (fun u h => h), ni.nn, _, rfl, iteT ⟨_, rfl, _, _, true, rfl, (fun u h => h), ni.nv, _, rfl, iteT ⟨_, rfl, _, rfl, q _ (s1.trans s2)⟩⟩⟩
/-! _law_told -/
abbrev nTold : List Str := ["_law_thing", "_law_told_here", "_law_e"]
theorem scTold : FnScope nTold ["_law_thing"] (defScope tLTold) := ⟨rfl, rfl, rfl, by decide +kernel, rfl, by decide +kernel, by decide +kernel⟩
def spTold (T : List Addr) : Sp := fun vs H Q _ => ∃ (v : V) (x : Dt), vs = [v] ∧ Dd Any H x v ∧ TbS T H ∧ (x.isStr = false → ∀ G : Hp, Sm T H G → Q (.bl true) G) ∧
  (∀ z, x = .str z → z.length ≤ 8000 ∧ nb z ≤ 150 ∧ (∀ k, Rk z k → ∀ G : Hp, Sm T H G → Q (.str k.d.toP.shown) G) ∧ ((∀ k, ¬ Rk z k) → ∀ G : Hp, Sm T H G → Q (.bl true) G))
theorem okTold {f fK fX : Addr} {fd fdK fdX : FuncData} {k : Nat} (F : Fun K "_law_told" "_law_told" tLTold f fd) (ni : NTI K mg cN cK)
    (GK : FnOk P w K mg base (L2.CX P w) k fK fdK ["text"] (spReadK T cN)) (bK : Binds K fdK ["text"] []) (gK : mg "read_kind" = some (.ref fK)) (kK : PySem.W.keepIn K (.ref fK) = true)
    (GX : Kx8.FnX P w K mg base CX0 k fX fdX ["_law_e"] (spRef cN)) (bX : Binds K fdX ["_law_e"] []) (gX : mg "_law_refused" = some (.ref fX)) (kX : PySem.W.keepIn K (.ref fX) = true)
    (mp : mg "repr" = none) : FnG P w K mg base CX0 (k + 1) f fd ["_law_thing"] (spTold T) := by
  refine okG F scTold (fun vs H Q E h => ?_) (fun cdv A outer s H vs Q E still hr h => ?_)
  · obtain ⟨v, x, rfl, _⟩ := h
    rfl
  obtain ⟨v, x, rfl, hd, tb, qN, qS⟩ := h
  have hu : (cxOf CX0 P w K mg base nTold "_law_told" (defScope tLTold) f cdv A outer s H E).nox.A.units + (170 + 1) < cLine := by
    have := hr.un
    show (A.deeper _).units + 171 < cLine
    omega
  refine ⟨_, pss_cons (ps_set (i := 1) scTold.nd rfl (.inl rfl) pe_non)
    (pss_cons (ps_try_as (i := 2) (c := .ref cK) rfl rfl scTold.nd rfl rfl ⟨rfl, by decide, .inl ni.gK⟩ takes0
      (fun W pn xe tk _ => pss_one (ps_set (i := 1) scTold.nd rfl (.inl rfl) (pe_callB (call_showU (n := 170) still hu) (by rfl) mp PyProof.Rows.boot_repr (pa_cons (pe_callS GK hr (by rfl) gK kK bK (fun σ => passAt tk σ) (pa_cons (pv 0) pa_nil)) pa_nil))))
      (ts := fun a cls d => tAsg (fun σ H Q => σ[2]? = some (some (.ref a)) ∧ cls = .ref cN ∧ d = none ∧ ∀ G : Hp, Same H G → Q (.bl true) G) (gName 1))
      (fun a oe cls d pn hz hf => pss_one (ps_set (i := 1) scTold.nd rfl (.inl rfl) (Ki.weak (Kx8.pe_callX (p := (a, oe)) (E := fun _ => E0) GX ⟨hr.dp, hr.un⟩ List.mem_cons_self (by rfl) gX kX bX (fun _ _ _ _ _ _ _ c => False.elim c) (pa_cons (pv 2) pa_nil)) (fun σ H Q z => by
        obtain ⟨z1, rfl, rfl, z2⟩ := z
        exact ⟨_, z1, rfl, hz, hf, z2⟩)))))
    (pss_one (ps_ret (pv 1)))), ?_⟩
  refine ⟨_, rfl, v, x, rfl, hd, tb, fun hx G sG => ?_, fun z hz => ?_⟩
  · exact ⟨true, ni.eP, fun _ a ha => ⟨rfl, rfl, rfl, fun G2 s2 => ⟨_, rfl, qN hx _ (sG.trans (Sm.of s2 sG.2))⟩⟩, fun q => nomatch q⟩
  obtain ⟨h1, h2, q1, q2⟩ := qS z hz
  refine ⟨by omega, by omega, fun kt hk v2 G sG dv => ?_, fun hk G sG => ?_⟩
  · exact ⟨v2, kt.d, rfl, dv.any, (hk.kw h2).shw, _, rfl, q1 kt hk G sG⟩
  · exact ⟨true, ni.eP, fun _ a ha => ⟨rfl, rfl, rfl, fun G2 s2 => ⟨_, rfl, q2 hk _ (sG.trans (Sm.of s2 sG.2))⟩⟩, fun q => nomatch q⟩
/-! _law_right -/
abbrev nLRight : List Str := ["_law_text", "_law_due"]
theorem scLRight : FnScope nLRight ["_law_text"] (defScope tLRight) := ⟨rfl, rfl, rfl, by decide +kernel, rfl, by decide +kernel, by decide +kernel⟩
def spRight (T : List Addr) : Sp := fun vs H Q _ => ∃ (z : Str), vs = [.str z] ∧ z.length ≤ 8000 ∧ nb z ≤ 150 ∧ TbS T H ∧ ∀ G : Hp, Sm T H G → Q (.bl true) G
theorem okRight {f fR fT : Addr} {fd fdR fdT : FuncData} {k : Nat} (F : Fun K "_law_right" "_law_right" tLRight f fd)
    (GR : FnOk P w K mg base CX0 k fR fdR ["_law_text"] (spLRead 152)) (bR : Binds K fdR ["_law_text"] []) (gR : mg "_law_read" = some (.ref fR)) (kR : PySem.W.keepIn K (.ref fR) = true)
    (GT : FnG P w K mg base CX0 k fT fdT ["_law_thing"] (spTold T)) (bT : Binds K fdT ["_law_thing"] []) (gT : mg "_law_told" = some (.ref fT)) (kT : PySem.W.keepIn K (.ref fT) = true)
    (mp : mg "repr" = none) : FnG P w K mg base CX0 (k + 1) f fd ["_law_text"] (spRight T) := by
  refine okG F scLRight (fun vs H Q E h => ?_) (fun cdv A outer s H vs Q E still hr h => ?_)
  · obtain ⟨z, rfl, _⟩ := h
    rfl
  obtain ⟨z, rfl, hz, hn, tb, q⟩ := h
  have hu : (cxOf CX0 P w K mg base nLRight "_law_right" (defScope tLRight) f cdv A outer s H E).nox.A.units + (170 + 1) < cLine := by
    have := hr.un
    show (A.deeper _).units + 171 < cLine
    omega
  refine ⟨_, pss_cons (ps_set (i := 1) scLRight.nd rfl (.inl rfl) (pe_call GR hr (by rfl) gR kR bR .nil pass0 (pa_cons (pv 0) pa_nil)))
    (pss_cons (ps_if (pt_cmpR op_isN (pv 1) pe_non (nomark _)) (pss_one (ps_ret (pe_cmpR op_is_bl (pe_callG GT still hr (by rfl) gT kT bT .nil pass0 (pa_cons (pv 0) pa_nil)) pe_bl (nomark _)))) pss_nil)
    (pss_one (ps_ret (pe_cmpR op_eq (pe_callG GT still hr (by rfl) gT kT bT .nil pass0 (pa_cons (pv 0) pa_nil)) (pe_callB (call_showU (n := 170) still hu) (by rfl) mp PyProof.Rows.boot_repr (pa_cons (pv 1) pa_nil)) (nomark _))))), ?_⟩
  refine ⟨_, rfl, z, rfl, hz, by omega, by omega, fun kt hk v G sG dv hv => ?_, fun hk G sG => ?_⟩
  · refine ⟨_, rfl, rfl, _, rfl, ?_⟩
    rw [decide_eq_false hv]
    refine iteF ⟨_, rfl, _, _, rfl, .str z, tb.same sG, (fun h => Bool.noConfusion (show true = false from h)), fun z2 hz2 => ?_⟩
    cases hz2
    refine ⟨hz, hn, fun k2 hk2 G2 s2 => ?_, fun hno => absurd hk (hno kt)⟩
    have e := kd_uniq hk.1 hk2.1
    subst e
    refine ⟨_, rfl, v, kt.d, rfl, (dv.kn (s2.kn (tb.same sG))).any, (hk.kw hn).shw, rfl, ?_⟩
    have z3 := q G2 ((Sm.of sG tb).trans s2)
    show Q (.bl (decide (V.str kt.d.toP.shown = V.str kt.d.toP.shown))) G2
    rw [decide_eq_true rfl]
    exact z3
  · refine ⟨_, rfl, rfl, _, rfl, iteT ⟨_, rfl, _, _, rfl, .str z, tb.same sG, (fun h => Bool.noConfusion (show true = false from h)), fun z2 hz2 => ?_⟩⟩
    cases hz2
    refine ⟨hz, hn, fun k2 hk2 => absurd hk2 (hk k2), fun _ G2 s2 => ⟨_, _, rfl, rfl, ?_⟩⟩
    have z3 := q G2 ((Sm.of sG tb).trans s2)
    exact z3
end
end Kq

/-! texts put otherwise: how long, how many blanks -/
namespace Kq
open PySem PySem.Spec PyProof.Rows L2 Kf Kg Kv GxR Kk Kr1
structure Bt (L N : Nat) (x : Str) : Prop where
  asc : Asc L x
  nb : nb x ≤ N
def sumL (ws : List Str) : Nat := (ws.map (·.length)).sum
theorem sumL_app (a b : List Str) : sumL (a ++ b) = sumL a + sumL b := by
  unfold sumL
  rw [List.map_append, List.sum_append]
theorem sumL_mem : ∀ {ws : List Str} {x : Str}, x ∈ ws → x.length ≤ sumL ws
  | y :: ws, x, h => by
    show x.length ≤ y.length + sumL ws
    rcases List.mem_cons.mp h with rfl | h
    · omega
    · have := sumL_mem h
      omega
theorem spl_sum {S : List Nat} : ∀ (n : Nat) (k : Nat) (acc l : List Nat), l.length ≤ n → ((TL.spl S k acc l).map List.length).sum ≤ acc.length + l.length
  | n, k, acc, [], _ => by
    rw [TL.spl_nil]
    simp
  | 0, k, acc, d :: r, hn => by simp at hn
  | n + 1, k, acc, d :: r, hn => by
    have hn : r.length ≤ n := by simpa using hn
    rw [List.length_cons]
    cases k with
    | zero =>
      cases h : TL.pre S (d :: r) with
      | true =>
        rw [TL.spl_hit h, List.map_cons, List.sum_cons]
        have := spl_sum (S := S) n (S.length - 1) [] r hn
        rw [List.length_nil] at this
        omega
      | false =>
        rw [TL.spl_miss h]
        have := spl_sum (S := S) n 0 (acc ++ [d]) r hn
        rw [List.length_append, List.length_singleton] at this
        omega
    | succ k =>
      have := spl_sum (S := S) n k acc r hn
      show ((TL.spl S k acc r).map List.length).sum ≤ _
      omega
theorem words_sum (x : Str) : sumL (Txt.split x (Str.ofString " ")) ≤ x.length := by
  have h := spl_sum (S := TL.tl (Str.ofString " ")) _ 0 [] (TL.tl x) (Nat.le_refl _)
  rw [← split_tl, List.map_map] at h
  have e : (List.length ∘ TL.tl) = (fun y : Str => y.length) := by
    funext y
    exact (TL.len_tl y).symm
  rw [e, List.length_nil, ← TL.len_tl] at h
  unfold sumL
  omega
theorem spl_tot {S : List Nat} (hS : S.length = 1) : ∀ (n : Nat) (acc l : List Nat), l.length ≤ n → ((TL.spl S 0 acc l).map List.length).sum + (TL.spl S 0 acc l).length = acc.length + l.length + 1
  | n, acc, [], _ => by
    rw [TL.spl_nil]
    simp
  | 0, acc, d :: r, hn => by simp at hn
  | n + 1, acc, d :: r, hn => by
    have hn : r.length ≤ n := by simpa using hn
    rw [List.length_cons]
    cases h : TL.pre S (d :: r) with
    | true =>
      rw [TL.spl_hit h, List.map_cons, List.sum_cons, List.length_cons, hS]
      have := spl_tot hS n [] r hn
      rw [List.length_nil] at this
      show _ + ((TL.spl S 0 [] r).map List.length).sum + ((TL.spl S 0 [] r).length + 1) = _
      omega
    | false =>
      rw [TL.spl_miss h]
      have := spl_tot hS n (acc ++ [d]) r hn
      rw [List.length_append, List.length_singleton] at this
      omega
theorem words_tot (x : Str) : sumL (Txt.split x (Str.ofString " ")) + (Txt.split x (Str.ofString " ")).length = x.length + 1 := by
  have h := spl_tot (S := TL.tl (Str.ofString " ")) rfl _ [] (TL.tl x) (Nat.le_refl _)
  rw [← split_tl, List.map_map, List.length_map] at h
  have e : (List.length ∘ TL.tl) = (fun y : Str => y.length) := by
    funext y
    exact (TL.len_tl y).symm
  rw [e, List.length_nil, ← TL.len_tl] at h
  unfold sumL
  omega
theorem sumL_set : ∀ (ws : List Str) (i : Nat) (a : Str), sumL (ws.set i a) ≤ sumL ws + a.length
  | [], _, _ => Nat.zero_le _
  | b :: r, 0, a => by
    show a.length + sumL r ≤ b.length + sumL r + a.length
    omega
  | b :: r, i + 1, a => by
    have := sumL_set r i a
    show b.length + sumL (r.set i a) ≤ b.length + sumL r + a.length
    omega
/-- words without blanks, of plain signs -/
structure Wf (ws : List Str) : Prop where
  lo : ∀ x ∈ ws, ∀ c ∈ x.cps.toList, c < 128
  free : ∀ x ∈ ws, nb x = 0
theorem Wf.app {a b : List Str} (h : Wf a) (k : Wf b) : Wf (a ++ b) := ⟨fun x hx => by
  rcases List.mem_append.mp hx with z | z
  · exact h.lo x z
  · exact k.lo x z, fun x hx => by
  rcases List.mem_append.mp hx with z | z
  · exact h.free x z
  · exact k.free x z⟩
theorem Wf.sub {a b : List Str} (h : Wf a) (k : ∀ x ∈ b, x ∈ a) : Wf b := ⟨fun x hx => h.lo x (k x hx), fun x hx => h.free x (k x hx)⟩
theorem Wf.nil : Wf [] := ⟨fun _ z => absurd z List.not_mem_nil, fun _ z => absurd z List.not_mem_nil⟩
theorem wf_words {L : Nat} {x : Str} (h : Asc L x) : Wf (Txt.split x (Str.ofString " ")) := ⟨fun p hp c hc => h.lo c (word_mem x p hp c hc), words_free x⟩
theorem join_len (ws : List Str) : (Txt.join (Str.ofString " ") ws).length ≤ sumL ws + ws.length := by
  rw [TL.len_tl, TL.join_eq, TL.tl_join]
  refine Nat.le_trans (joinL_len _ _) ?_
  rw [show (TL.tl (Str.ofString " ")).length = 1 from rfl]
  induction ws with
  | nil => exact Nat.le_refl _
  | cons a r ih =>
    rw [List.map_cons, List.map_cons, List.sum_cons, List.length_cons, ← TL.len_tl]
    show a.length + 1 + _ ≤ a.length + sumL r + _
    omega
theorem joinL_mem {S : List Nat} : ∀ {l : List (List Nat)} {c : Nat}, c ∈ TL.joinL S l → c ∈ S ∨ ∃ p ∈ l, c ∈ p
  | [], c, h => by cases h
  | [a], c, h => .inr ⟨a, List.mem_cons_self, h⟩
  | a :: b :: r, c, h => by
    have h : c ∈ a ++ (S ++ TL.joinL S (b :: r)) := h
    rcases List.mem_append.mp h with z | z
    · exact .inr ⟨a, List.mem_cons_self, z⟩
    rcases List.mem_append.mp z with z | z
    · exact .inl z
    rcases joinL_mem z with z | ⟨p, hp, z⟩
    · exact .inl z
    · exact .inr ⟨p, List.mem_cons_of_mem _ hp, z⟩
theorem bt_join {ws : List Str} {M N : Nat} (h : Wf ws) (h1 : sumL ws + ws.length ≤ M) (h2 : ws.length ≤ N + 1) : Bt M N (Txt.join (Str.ofString " ") ws) := by
  refine ⟨⟨fun c hc => ?_, Nat.le_trans (join_len ws) h1⟩, Nat.le_trans (nb_join h.free) (by omega)⟩
  have hc : c ∈ TL.tl (Txt.join (Str.ofString " ") ws) := hc
  rw [TL.join_eq, TL.tl_join] at hc
  rcases joinL_mem hc with z | ⟨p, hp, z⟩
  · have : TL.tl (Str.ofString " ") = [32] := by decide +kernel
    rw [this] at z
    rw [List.mem_singleton.mp z]
    decide
  · obtain ⟨q, hq, rfl⟩ := List.mem_map.mp hp
    exact h.lo q hq c z
theorem nb_sign (c : Nat) : nb ⟨#[c]⟩ ≤ 1 := by
  show List.count 32 [c] ≤ 1
  exact List.count_le_length
theorem asc_sign {c : Nat} (h : c < 128) : Asc 1 ⟨#[c]⟩ := ⟨fun d hd => by
  have hd : d ∈ [c] := hd
  rw [List.mem_singleton.mp hd]
  exact h, Nat.le_refl _⟩
theorem cutS_hi (z : Str) (n : Nat) : TL.tl (cutS z none (some (n : Int))) = (TL.tl z).take n := by
  show (((z.cps.toList.drop (HT.sIx z.length 0 none)).take (HT.sIx z.length z.length (some (n : Int)) - HT.sIx z.length 0 none)).toArray).toList = _
  rw [HT.sIx_none, HT.sIx_nat, List.drop_zero, Nat.sub_zero]
  show z.cps.toList.take (min n z.length) = z.cps.toList.take n
  have e : z.length = z.cps.toList.length := TL.len_tl z
  by_cases h : n ≤ z.length
  · rw [Nat.min_eq_left h]
  · rw [Nat.min_eq_right (by omega), e, List.take_length, List.take_of_length_le (by omega)]
theorem cutS_lo (z : Str) (n : Nat) : TL.tl (cutS z (some (n : Int)) none) = (TL.tl z).drop n := by
  show (((z.cps.toList.drop (HT.sIx z.length 0 (some (n : Int)))).take (HT.sIx z.length z.length none - HT.sIx z.length 0 (some (n : Int)))).toArray).toList = _
  rw [HT.sIx_none, HT.sIx_nat]
  show (z.cps.toList.drop (min n z.length)).take (z.length - min n z.length) = z.cps.toList.drop n
  have e : z.length = z.cps.toList.length := TL.len_tl z
  by_cases h : n ≤ z.length
  · rw [Nat.min_eq_left h, e, ← List.length_drop, List.take_length]
  · rw [Nat.min_eq_right (by omega), e, List.drop_length, List.take_nil, List.drop_of_length_le (by omega)]
theorem asc_tl {M : Nat} {y : Str} (h : ∀ c ∈ TL.tl y, c < 128) (l : (TL.tl y).length ≤ M) : Asc M y := ⟨h, by rw [TL.len_tl]; exact l⟩
/-- a part of a text left out, a sign in its stead -/
theorem bt_cut {L N n m : Nat} {x s : Str} (h : Bt L N x) (hs : Asc 1 s) (hn : nb s ≤ 1) : Bt (L + 1) (N + 1) (cutS x none (some (n : Int)) ++ s ++ cutS x (some ((n + m : Nat) : Int)) none) := by
  have e : TL.tl (cutS x none (some (n : Int)) ++ s ++ cutS x (some ((n + m : Nat) : Int)) none) = (TL.tl x).take n ++ TL.tl s ++ (TL.tl x).drop (n + m) := by
    rw [TL.tl_append, TL.tl_append, cutS_hi, cutS_lo]
  refine ⟨asc_tl (fun c hc => ?_) ?_, ?_⟩
  · rw [e] at hc
    rcases List.mem_append.mp hc with z | z
    · rcases List.mem_append.mp z with z | z
      · exact h.asc.lo c (List.mem_of_mem_take z)
      · exact hs.lo c z
    · exact h.asc.lo c (List.mem_of_mem_drop z)
  · have h1 := h.asc.len
    have h2 := hs.len
    rw [TL.len_tl] at h1 h2
    rw [e, List.length_append, List.length_append, List.length_take, List.length_drop]
    omega
  · have h1 := h.nb
    have h3 := count_cut (TL.tl x) (TL.tl s) n m
    unfold Kr1.nb at hn h1 ⊢
    rw [e]
    omega
theorem bt_app {L N M K' : Nat} {x y : Str} (h : Bt L N x) (k : Bt M K' y) : Bt (L + M) (N + K') (x ++ y) := ⟨asc_app h.asc k.asc, by
  have := h.nb
  have := k.nb
  rw [nb_app]
  omega⟩
theorem Bt.up {L N M K' : Nat} {x : Str} (h : Bt L N x) (l : L ≤ M) (n : N ≤ K') : Bt M K' x := ⟨h.asc.up l, Nat.le_trans h.nb n⟩
theorem bt_rep {L N : Nat} {x : Str} (h : Bt L N x) : Bt (L + 2) (N + 2) (rep1 x (Str.ofString " ") (Str.ofString "  ")) := by
  have hl := rep1_len x (Str.ofString " ") (Str.ofString "  ")
  rcases rep1_see x (Str.ofString " ") (Str.ofString "  ") with e | ⟨i, e⟩
  · rw [e]
    exact h.up (by omega) (by omega)
  · have e1 : TL.tl (Str.ofString "  ") = [32, 32] := by decide +kernel
    have e2 : (Str.ofString " ").length = 1 := by decide +kernel
    have e3 : (Str.ofString "  ").length = 2 := by decide +kernel
    refine ⟨asc_tl (fun c hc => ?_) ?_, ?_⟩
    · rw [e] at hc
      rcases List.mem_append.mp hc with z | z
      · rcases List.mem_append.mp z with z | z
        · exact h.asc.lo c (List.mem_of_mem_take z)
        · rw [e1] at z
          simp at z
          omega
      · exact h.asc.lo c (List.mem_of_mem_drop z)
    · rw [← TL.len_tl]
      have := h.asc.len
      omega
    · have h1 := nb_rep1 x (Str.ofString " ") (Str.ofString "  ")
      have h2 : nb (Str.ofString "  ") = 2 := by decide +kernel
      have h3 := h.nb
      omega
theorem bt_upper {L N : Nat} {x : Str} (h : Bt L N x) : Bt L N (Txt.upper x) := by
  refine ⟨asc_upper h.asc, Nat.le_trans ?_ h.nb⟩
  rw [upper_ascii h.asc.lo]
  show List.count 32 (x.cps.map up1).toList ≤ List.count 32 x.cps.toList
  rw [Array.toList_map]
  generalize x.cps.toList = l
  induction l with
  | nil => exact Nat.le_refl _
  | cons a r ih =>
    rw [List.map_cons, List.count_cons, List.count_cons]
    have : (up1 a == 32) = (a == 32) ∨ (up1 a == 32) = false := by
      unfold up1
      split
      · refine .inr ?_
        simp
        omega
      · exact .inl rfl
    rcases this with e | e
    · rw [e]; omega
    · rw [e]; simp; omega
end Kq

namespace Kq
open PySem PySem.Spec PyProof.Rows L2 Kf Kg Kv GxR Kk Kr1 CwR
abbrev tLBent : Stmt := tp 60
/-- what words may be put in -/
structure Mn (ms : List Str) : Prop where
  wf : Wf ms
  len : ∀ x ∈ ms, x.length ≤ 10
  ne : ms ≠ []
  few : ms.length ≤ 1000
theorem lit_at {z : Str} (h : (z.cps.toList.all fun c => decide (c < 128)) = true) {r : Int} (r0 : 0 ≤ r) (r1 : r < (z.length : Int)) : ∃ c, atI z.cps.toList r = some c ∧ c < 128 := by
  obtain ⟨j, rfl⟩ : ∃ j : Nat, r = (j : Int) := ⟨r.toNat, by omega⟩
  have hj : j < z.cps.toList.length := by
    rw [← TL.len_tl]
    omega
  exact ⟨_, atI_nat (List.getElem?_eq_getElem hj), of_decide_eq_true (List.all_eq_true.mp h _ (List.getElem_mem hj))⟩
section
variable {P : Program} {w : World} {K : PySem.W.Frag} {mg : Str → Option Value} {base : Heap}
abbrev psLBent : List Str := ["_law_picks", "_law_text", "_law_menu"]
abbrev nLBent : List Str := ["_law_picks", "_law_text", "_law_menu", "_law_way", "_law_words", "_law_k", "_law_j", "_law_at", "_law_sign", "_law_other"]
theorem scLBent : FnScope nLBent psLBent (defScope tLBent) := ⟨rfl, rfl, rfl, by decide +kernel, rfl, by decide +kernel, by decide +kernel⟩
def spLBent : Sp := fun vs H Q _ => ∃ (k m : Addr) (x : Str) (ms : List Str) (L N : Nat), vs = [.ref k, .str x, .ref m] ∧ Pk H k ∧ H m = some (.lst (ms.map V.str)) ∧ m ≠ k ∧ Mn ms ∧ Bt L N x ∧ L ≤ 100000 ∧ ∀ (y : Str) (G : Hp), Kb k H G → Pk G k → Bt (3 * L + 20) (N + 2) y → Q (.str y) G
theorem okLBent {f fP : Addr} {fd fdP : FuncData} {k : Nat} (F : Fun K "_law_bent_text" "_law_bent_text" tLBent f fd)
    (GP : FnOk P w K mg base CX0 k fP fdP ["_law_picks", "_law_many"] spPick) (bP : Binds K fdP ["_law_picks", "_law_many"] []) (gP : mg "_law_pick" = some (.ref fP)) (kP : PySem.W.keepIn K (.ref fP) = true)
    (ml : mg "len" = none) (mn : mg "int" = none) : FnOk P w K mg base CX0 (k + 1) f fd psLBent spLBent := by
  refine F.ok scLBent (fun vs H Q E h => ?_) (fun cdv A outer s H vs Q E hr h => ?_)
  · obtain ⟨k, m, x, ms, L, N, rfl, _⟩ := h
    rfl
  obtain ⟨pk, m, x, ms, L, N, rfl, hk, hm, hmk, hms, hx, hL, q⟩ := h
  refine ⟨_, pss_cons (ps_set (i := 3) scLBent.nd rfl (.inl rfl) (pe_call GP hr (by rfl) gP kP bP .nil pass0 (pa_cons (pv 0) (pa_cons pe_int pa_nil))))
    (pss_cons (ps_set (i := 4) scLBent.nd rfl (.inl rfl) (pe_split (pv 1) pe_str))
    (pss_cons (ps_set (i := 5) scLBent.nd rfl (.inl rfl) (pe_call GP hr (by rfl) gP kP bP .nil pass0 (pa_cons (pv 0) (pa_cons (pe_callB call_len_seq (by rfl) ml PySem.boot_len (pa_cons (pv 4) pa_nil)) pa_nil))))
    (pss_cons (ps_set (i := 6) scLBent.nd rfl (.inl rfl) (pe_call GP hr (by rfl) gP kP bP .nil pass0 (pa_cons (pv 0) (pa_cons (pe_callB call_len_seq (by rfl) ml PySem.boot_len (pa_cons (pv 4) pa_nil)) pa_nil))))
    (pss_cons (ps_set (i := 7) scLBent.nd rfl (.inl rfl) (pe_call GP hr (by rfl) gP kP bP .nil pass0 (pa_cons (pv 0) (pa_cons (pe_op op_add (pe_callB call_len_str (by rfl) ml PySem.boot_len (pa_cons (pv 1) pa_nil)) pe_int) pa_nil))))
    (pss_cons (ps_set (i := 8) scLBent.nd rfl (.inl rfl) (pe_ix ix_str pe_str (pe_call GP hr (by rfl) gP kP bP .nil pass0 (pa_cons (pv 0) (pa_cons pe_int pa_nil))) (fun _ _ => rfl)))
    (C8.pss_cut (ps_if (pt_cmpR op_eq (pe_call GP hr (by rfl) gP kP bP .nil pass0 (pa_cons (pv 0) (pa_cons pe_int pa_nil))) pe_int (nomark _))
        (pss_one (ps_set (i := 8) scLBent.nd rfl (.inl rfl) (pe_ix ix_str pe_str (pe_call GP hr (by rfl) gP kP bP .nil pass0 (pa_cons (pv 0) (pa_cons pe_int pa_nil))) (fun _ _ => rfl)))) pss_nil)
    (pss_cons (ps_set (i := 9) scLBent.nd rfl (.inl rfl) (pe_ix ix_list (pv 2) (pe_call GP hr (by rfl) gP kP bP .nil pass0 (pa_cons (pv 0) (pa_cons (pe_callB call_len_seq (by rfl) ml PySem.boot_len (pa_cons (pv 2) pa_nil)) pa_nil))) (fun _ _ => rfl)))
    (pss_cons (ps_if (pt_cmpR op_lt (pv 3) pe_int (nomark _)) (pss_one (ps_ret (pe_join pe_str (pe_op op_cat (pe_op op_cat (pe_slice sl_list (pv 4) po_none (po_some (pv 5))) (pe_ix ix_list (pe_lst (pa_cons (pe_lst pa_nil) (pa_cons (pe_op op_rep (pe_lst (pa_cons (pe_ix ix_list (pv 4) (pv 5) (fun _ _ => rfl)) pa_nil)) pe_int) (pa_cons (pe_lst (pa_cons (pv 9) pa_nil)) pa_nil)))) (pv 3) (fun _ _ => rfl))) (pe_slice sl_list (pv 4) (po_some (pe_op op_add (pv 5) pe_int)) po_none))))) pss_nil)
    (pss_cons (ps_if (pt_cmpR op_eq (pv 3) pe_int (nomark _)) (pss_cons (ps_asg (pe_tup (pa_cons (pe_ix ix_list (pv 4) (pv 6) (fun _ _ => rfl)) (pa_cons (pe_ix ix_list (pv 4) (pv 5) (fun _ _ => rfl)) pa_nil))) (pg_tup rfl (pgs_cons (pg_sub (pv 4) (pv 5) set_list) (pgs_cons (pg_sub (pv 4) (pv 6) set_list) pgs_nil)))) (pss_one (ps_ret (pe_join pe_str (pv 4))))) pss_nil)
    (pss_cons (ps_if (pt_cmpR op_eq (pv 3) pe_int (nomark _)) (pss_one (ps_ret (pe_join pe_str (pe_op op_cat (pe_op op_cat (pe_slice sl_list (pv 4) po_none (po_some (pv 5))) (pe_lst (pa_cons (pv 9) pa_nil))) (pe_slice sl_list (pv 4) (po_some (pv 5)) po_none))))) pss_nil)
    (pss_cons (ps_if (pt_cmpR op_lt (pv 3) pe_int (nomark _)) (pss_one (ps_ret (pe_op op_add_str (pe_op op_add_str (pe_slice sl_str (pv 1) po_none (po_some (pv 7))) (pe_op op_mulS (pv 8) (pe_callTy call_int1 (by rfl) mn (by decide +kernel) (pa_cons (pe_cmpR op_ne (pv 3) pe_int (nomark _)) pa_nil)))) (pe_slice sl_str (pv 1) (po_some (pe_op op_add (pv 7) (pe_callTy call_int1 (by rfl) mn (by decide +kernel) (pa_cons (pe_cmpR op_gt (pv 3) pe_int (nomark _)) pa_nil)))) po_none)))) pss_nil)
    (pss_cons (ps_if (pt_cmpR op_eq (pv 3) pe_int (nomark _)) (pss_one (ps_ret (pe_ix ix_list (pe_lst (pa_lit op_add_str (pv 1) (pat_cons (PET.of (pe_op op_add_str pe_str (pv 1))) (pat_cons (PET.of (pe_op op_add_str (pv 1) pe_str)) (pat_cons (pet_rep1 (pv 1)) (pat_cons (PET.of (pe_upper (pv 1))) pat_nil)))))) (pe_op op_mod (pv 5) pe_int) (fun _ _ => rfl)))) pss_nil)
    (pss_cons (ps_if (pt_cmpR op_eq (pv 3) pe_int (nomark _)) (pss_one (ps_ret (pe_op op_add_str (pe_op op_add_str (pv 1) pe_str) (pv 9)))) pss_nil)
    (pss_cons (ps_if (pt_cmpR op_eq (pv 3) pe_int (nomark _)) (pss_one (ps_ret (pe_join pe_str (pe_op op_cat (pe_op op_cat (pe_slice sl_list (pv 4) po_none (po_some (pv 5))) (pe_lst (pa_cons (pe_op op_add_str pe_str (pe_ix ix_list (pv 4) (pv 5) (fun _ _ => rfl))) pa_nil))) (pe_slice sl_list (pv 4) (po_some (pe_op op_add (pv 5) pe_int)) po_none))))) pss_nil)
    (pss_one (ps_ret (pe_join pe_str (pe_slice sl_list (pv 4) po_none (po_some (pe_op op_add (pv 5) pe_int)))))))))))))))))))), ?_⟩
  have e0 : sizeLine = 16777216 := rfl
  have hxl := hx.asc.len
  refine ⟨_, rfl, pk, 12, rfl, hk, by decide, fun r3 G1 a0 a1 kb1 pk1 => ?_⟩
  refine ⟨_, rfl, ⟨_, rfl⟩, x, _, rfl, rfl, rfl, by omega, fun w0 nw => ?_⟩
  have wfW := wf_words hx.asc
  have lenW := words_len x
  have sumW := words_tot x
  have hnx := hx.nb
  generalize hws : Txt.split x (Str.ofString " ") = ws at wfW lenW sumW
  have hw0 : H w0 = none := by
    cases z : H w0 with
    | none => rfl
    | some o =>
      by_cases c : w0 = pk
      · obtain ⟨ns, e⟩ := pk1
        rw [c, e] at nw
        cases nw
      · rw [kb1 _ _ c z] at nw
        cases nw
  have s2 := newS (o := .lst (ws.map V.str)) nw
  have gw2 : (upd G1 w0 (.lst (ws.map V.str))) w0 = some (.lst (ws.map V.str)) := upd_same
  have kb2 : Kb pk H (upd G1 w0 (.lst (ws.map V.str))) := kb1.trans (Kb.of s2)
  have pk2 := pk1.same s2
  have wk : w0 ≠ pk := fun z => by
    obtain ⟨ns, e⟩ := hk
    rw [z, e] at hw0
    cases hw0
  have wm : w0 ≠ m := fun z => by
    rw [z, hm] at hw0
    cases hw0
  generalize upd G1 w0 (.lst (ws.map V.str)) = G2 at gw2 kb2 pk2
  have ll : (ws.map V.str).length = ws.length := List.length_map _
  have lpos : (0 : Int) < ((ws.map V.str).length : Int) := by rw [ll]; omega
  refine ⟨_, rfl, _, rfl, w0, _, rfl, .inl (SqL.of gw2), pk, _, rfl, pk2, lpos, fun r5 G3 b0 b1 kb3 pk3 => ?_⟩
  have gw3 := kb3 _ _ wk gw2
  refine ⟨_, rfl, _, rfl, w0, _, rfl, .inl (SqL.of gw3), pk, _, rfl, pk3, lpos, fun r6 G4 c0 c1 kb4 pk4 => ?_⟩
  have gw4 := kb4 _ _ wk gw3
  refine ⟨_, rfl, _, rfl, x, rfl, by omega, _, _, rfl, rfl, pk, _, rfl, pk4, by omega, fun r7 G5 d0 d1 kb5 pk5 => ?_⟩
  have gw5 := kb5 _ _ wk gw4
  refine ⟨_, rfl, pk, 13, rfl, pk5, by decide, fun r8 G6 f0 f1 kb6 pk6 => ?_⟩
  have gw6 := kb6 _ _ wk gw5
  have kbA : Kb pk H G6 := (((kb2.trans kb3).trans kb4).trans kb5).trans kb6
  obtain ⟨s8, hs8, ls8⟩ := lit_at (z := "abyz019 -_.A\n") (by decide +kernel) f0 (by rw [show ("abyz019 -_.A\n" : Str).length = 13 by decide +kernel]; exact f1)
  refine ⟨_, r8, s8, rfl, rfl, by decide +kernel, hs8, ?_⟩
  obtain ⟨i5, rfl⟩ : ∃ j : Nat, r5 = (j : Int) := ⟨r5.toNat, by omega⟩
  obtain ⟨i6, rfl⟩ : ∃ j : Nat, r6 = (j : Int) := ⟨r6.toNat, by omega⟩
  obtain ⟨i7, rfl⟩ : ∃ j : Nat, r7 = (j : Int) := ⟨r7.toNat, by omega⟩
  rw [ll] at b1 c1
  refine ⟨fun σ F => ∃ c : Nat, c < 128 ∧ σ = [some (.ref pk), some (.str x), some (.ref m), some (.int r3), some (.ref w0), some (.int (i5 : Int)), some (.int (i6 : Int)), some (.int (i7 : Int)), some (.str ⟨#[c]⟩), none] ∧ Kb pk H F ∧ Pk F pk ∧ F w0 = some (.lst (ws.map V.str)), ?_, fun σ F z => ?_⟩
  · refine ⟨_, rfl, pk, 4, rfl, pk6, by decide, fun rr G7 g0 g1 kb7 pk7 => ⟨rfl, _, rfl, ite2 (fun _ => ?_) (fun _ => ?_)⟩⟩
    · refine ⟨_, rfl, pk, 34, rfl, pk7, by decide, fun r9 G8 h0 h1 kb8 pk8 => ?_⟩
      obtain ⟨s9, hs9, ls9⟩ := lit_at (z := " !#$&'()*+,-./:;<=>?\x40[]^_`{|}~QZ\"\\") (by decide +kernel) h0 (by rw [show (" !#$&'()*+,-./:;<=>?\x40[]^_`{|}~QZ\"\\" : Str).length = 34 by decide +kernel]; exact h1)
      exact ⟨_, r9, s9, rfl, rfl, by decide +kernel, hs9, s9, ls9, rfl, (kbA.trans kb7).trans kb8, pk8, kb8 _ _ wk (kb7 _ _ wk gw6)⟩
    · exact ⟨s8, ls8, rfl, kbA.trans kb7, pk7, kb7 _ _ wk gw6⟩
  obtain ⟨sc, lsc, rfl, kbF, pkF, gwF⟩ := z
  have gmF := kbF _ _ hmk hm
  have lm : (ms.map V.str).length = ms.length := List.length_map _
  have mpos : 0 < ms.length := List.length_pos_iff.mpr hms.ne
  refine ⟨_, rfl, _, rfl, _, rfl, m, _, rfl, .inl (SqL.of gmF), pk, _, rfl, pkF, by rw [lm]; omega, fun r9 G9 h0 h1 kb9 pk9 => ?_⟩
  rw [lm] at h1
  obtain ⟨i9, rfl⟩ : ∃ j : Nat, r9 = (j : Int) := ⟨r9.toNat, by omega⟩
  have hi9 : i9 < ms.length := by omega
  have gm9 := kb9 _ _ hmk gmF
  have gw9 := kb9 _ _ wk gwF
  have kbG : Kb pk H G9 := kbF.trans kb9
  refine ⟨m, _, _, _, rfl, rfl, SqL.of gm9, atI_nat (j := i9) (v := .str ms[i9]) (by rw [List.getElem?_map, List.getElem?_eq_getElem hi9]; rfl), ?_⟩
  have mo := List.getElem_mem hi9
  generalize ms[i9] = ot at mo
  have lo10 := hms.len ot mo
  have wfO : Wf [ot] := hms.wf.sub fun y hy => by rw [List.mem_singleton.mp hy]; exact mo
  clear kb1 pk1 s2 kb2 pk2 kb3 pk3 kb4 pk4 kb5 pk5 kb6 pk6 kbA kbF pkF gwF gmF gw2 gw3 gw4 gw5 gw6
  have hi5 : i5 < ws.length := by omega
  have hi6 : i6 < ws.length := by omega
  have hat5 : (ws.map V.str)[i5]? = some (.str ws[i5]) := by rw [List.getElem?_map, List.getElem?_eq_getElem hi5]; rfl
  have hat6 : (ws.map V.str)[i6]? = some (.str ws[i6]) := by rw [List.getElem?_map, List.getElem?_eq_getElem hi6]; rfl
  have m5 := List.getElem_mem hi5
  have m6 := List.getElem_mem hi6
  have l5 := sumL_mem m5
  have wf5 : Wf [ws[i5]] := wfW.sub fun y hy => by rw [List.mem_singleton.mp hy]; exact m5
  have cutA : cutV (ws.map V.str) none (some ((i5 : Nat) : Int)) = (ws.take i5).map V.str := by rw [cutHi, List.map_take]
  have cutB : cutV (ws.map V.str) (some ((i5 + 1 : Nat) : Int)) none = (ws.drop (i5 + 1)).map V.str := by rw [cutLo, List.map_drop]
  have eI : ((i5 : Nat) : Int) + 1 = ((i5 + 1 : Nat) : Int) := by omega
  have sums : sumL (ws.take i5) + ws[i5].length + sumL (ws.drop (i5 + 1)) + ws.length ≤ L + 1 := by
    have e : ws = ws.take i5 ++ (ws[i5] :: ws.drop (i5 + 1)) := by
      rw [← List.drop_eq_getElem_cons hi5, List.take_append_drop]
    have e2 := congrArg sumL e
    rw [sumL_app] at e2
    have e3 : sumL (ws[i5] :: ws.drop (i5 + 1)) = ws[i5].length + sumL (ws.drop (i5 + 1)) := rfl
    omega
  have lens : (ws.take i5).length + 1 + (ws.drop (i5 + 1)).length = ws.length := by
    rw [List.length_take, List.length_drop]
    omega
  have nbl : Kr1.nb x ≤ L := by
    have : Kr1.nb x ≤ (TL.tl x).length := List.count_le_length
    rw [← TL.len_tl] at this
    omega
  have wfT : Wf (ws.take i5) := wfW.sub fun y hy => List.mem_of_mem_take hy
  have wfD : Wf (ws.drop (i5 + 1)) := wfW.sub fun y hy => List.mem_of_mem_drop hy
  have out : ∀ (ys : List Str) (G : Hp), Wf ys → sumL ys + ys.length ≤ 3 * L + 20 → ys.length ≤ N + 3 → Kb pk H G → Pk G pk → ((ys.map (·.length)).sum + ys.length * (" " : Str).length ≤ 16777216) ∧ Q (.str (Txt.join " " ys)) G := fun ys G h1 h2 h3 h4 h5 => by
    refine ⟨?_, q _ G h4 h5 (bt_join h1 h2 h3)⟩
    rw [show (" " : Str).length = 1 from rfl, Nat.mul_one]
    show sumL ys + _ ≤ _
    omega
  have mids : ∀ (mid : List Str), Wf mid → sumL mid ≤ 2 * ws[i5].length + 10 → mid.length ≤ 2 → Wf (ws.take i5 ++ mid ++ ws.drop (i5 + 1)) ∧ sumL (ws.take i5 ++ mid ++ ws.drop (i5 + 1)) + (ws.take i5 ++ mid ++ ws.drop (i5 + 1)).length ≤ 3 * L + 20 ∧ (ws.take i5 ++ mid ++ ws.drop (i5 + 1)).length ≤ N + 3 := fun mid h1 h2 h3 => by
    refine ⟨(wfT.app h1).app wfD, ?_, ?_⟩
    · rw [sumL_app, sumL_app, List.length_append, List.length_append]
      omega
    · rw [List.length_append, List.length_append]
      omega
  -- a join of three lists
  have j3 : ∀ (A B C : List Str) (pa pb pc : Addr) (G : Hp), True := fun _ _ _ _ _ _ _ => trivial
  refine ⟨_, rfl, _, _, rfl, rfl, _, rfl, ite2 (fun w3 => ?W3) (fun n3 => ?_)⟩
  case W3 =>
    have w3 : r3 < 3 := of_decide_eq_true w3
    refine ⟨⟨_, rfl⟩, _, rfl, _, rfl, (i5 : Int), rfl, w0, _, rfl, SqL.of gw9, fun p1 np1 => ?_⟩
    rw [cutA]
    have s1 := newS (o := .lst ((ws.take i5).map V.str)) np1
    have g1 : (upd G9 p1 (.lst ((ws.take i5).map V.str))) p1 = some (.lst ((ws.take i5).map V.str)) := upd_same
    generalize upd G9 p1 (.lst ((ws.take i5).map V.str)) = G10 at s1 g1
    refine ⟨Nat.zero_le _, fun q1 nq1 => ?_⟩
    have s2 := newS (o := .lst []) nq1
    have t1 : (upd G10 q1 (.lst [])) q1 = some (.lst (([] : List Str).map V.str)) := upd_same
    generalize upd G10 q1 (.lst []) = G11 at s2 t1
    refine ⟨_, rfl, _, rfl, w0, _, _, _, rfl, rfl, SqL.of (s2 _ _ (s1 _ _ gw9)), atI_nat hat5, (by show 1 ≤ sizeLine; decide), fun q2 nq2 => ?_⟩
    have s3 := newS (o := .lst [V.str ws[i5]]) nq2
    refine ⟨q2, 2, _, rfl, rfl, upd_same, by decide, by decide, (by show 1 * 2 ≤ sizeLine; decide), fun q3 nq3 => ?_⟩
    have s4 := newS (o := .lst (List.replicate (2 : Int).toNat [V.str ws[i5]]).flatten) nq3
    have t3 : (upd (upd G11 q2 (.lst [V.str ws[i5]])) q3 (.lst (List.replicate (2 : Int).toNat [V.str ws[i5]]).flatten)) q3 = some (.lst ([ws[i5], ws[i5]].map V.str)) := upd_same
    have s34 : Same G11 (upd (upd G11 q2 (.lst [V.str ws[i5]])) q3 (.lst (List.replicate (2 : Int).toNat [V.str ws[i5]]).flatten)) := s3.trans s4
    generalize upd (upd G11 q2 (.lst [V.str ws[i5]])) q3 (.lst (List.replicate (2 : Int).toNat [V.str ws[i5]]).flatten) = G12 at t3 s34
    refine ⟨_, rfl, (by show 1 ≤ sizeLine; decide), fun q4 nq4 => ?_⟩
    have s5 := newS (o := .lst [V.str ot]) nq4
    have t4 : (upd G12 q4 (.lst [V.str ot])) q4 = some (.lst ([ot].map V.str)) := upd_same
    generalize upd G12 q4 (.lst [V.str ot]) = G13 at s5 t4
    refine ⟨(by show 3 ≤ sizeLine; decide), fun q5 nq5 => ?_⟩
    have s6 := newS (o := .lst [V.ref q1, .ref q3, .ref q4]) nq5
    have t5 : (upd G13 q5 (.lst [V.ref q1, .ref q3, .ref q4])) q5 = some (.lst [V.ref q1, .ref q3, .ref q4]) := upd_same
    generalize upd G13 q5 (.lst [V.ref q1, .ref q3, .ref q4]) = G14 at s6 t5
    have s56 := s5.trans s6
    have sA : Same G9 G14 := ((s1.trans s2).trans s34).trans s56
    obtain ⟨qm, mid, hat, gm, w1, w2, w4⟩ : ∃ (qm : Addr) (mid : List Str), atI [V.ref q1, .ref q3, .ref q4] r3 = some (.ref qm) ∧ G14 qm = some (.lst (mid.map V.str)) ∧ Wf mid ∧ sumL mid ≤ 2 * ws[i5].length + 10 ∧ mid.length ≤ 2 := by
      have er : r3 = 0 ∨ r3 = 1 ∨ r3 = 2 := by omega
      rcases er with rfl | rfl | rfl
      · exact ⟨q1, [], rfl, s56 _ _ (s34 _ _ t1), Wf.nil, Nat.zero_le _, Nat.zero_le _⟩
      · refine ⟨q3, [ws[i5], ws[i5]], rfl, s56 _ _ t3, wf5.app wf5, ?_, Nat.le_refl _⟩
        show ws[i5].length + (ws[i5].length + 0) ≤ _
        omega
      · refine ⟨q4, [ot], rfl, s6 _ _ t4, wfO, ?_, by show 1 ≤ 2; decide⟩
        show ot.length + 0 ≤ _
        omega
    obtain ⟨x1, x2, x3⟩ := mids mid w1 w2 w4
    refine ⟨_, rfl, q5, _, _, _, rfl, rfl, SqL.of t5, hat, p1, qm, _, _, rfl, rfl, s56 _ _ (s34 _ _ (s2 _ _ g1)), gm, small (by rw [List.length_map, List.length_map]; omega), fun p2 np2 => ?_⟩
    have s7 := newS (o := .lst ((ws.take i5).map V.str ++ mid.map V.str)) np2
    have g2 : (upd G14 p2 (.lst ((ws.take i5).map V.str ++ mid.map V.str))) p2 = some (.lst ((ws.take i5).map V.str ++ mid.map V.str)) := upd_same
    generalize upd G14 p2 (.lst ((ws.take i5).map V.str ++ mid.map V.str)) = G15 at s7 g2
    refine ⟨_, rfl, _, rfl, _, _, rfl, rfl, ((i5 + 1 : Nat) : Int), congrArg V.int eI, w0, _, rfl, SqL.of (s7 _ _ (sA _ _ gw9)), fun p3 np3 => ?_⟩
    rw [cutB]
    have s8 := newS (o := .lst ((ws.drop (i5 + 1)).map V.str)) np3
    refine ⟨p2, p3, _, _, rfl, rfl, s8 _ _ g2, upd_same, small (by rw [List.length_append, List.length_map, List.length_map, List.length_map]; omega), fun p4 np4 => ?_⟩
    have s9 := newS (o := .lst ((ws.take i5).map V.str ++ mid.map V.str ++ (ws.drop (i5 + 1)).map V.str)) np4
    have eq : (ws.take i5).map V.str ++ mid.map V.str ++ (ws.drop (i5 + 1)).map V.str = (ws.take i5 ++ mid ++ ws.drop (i5 + 1)).map V.str := by rw [List.map_append, List.map_append]
    rw [eq] at s9 ⊢
    have sB := ((sA.trans s7).trans s8).trans s9
    obtain ⟨o1, o2⟩ := out _ _ x1 x2 x3 (kbG.trans (Kb.of sB)) (pk9.same sB)
    exact ⟨_, p4, _, rfl, rfl, .inl (SqL.of upd_same), o1, o2⟩
  have n3 : ¬ r3 < 3 := fun z => n3 (decide_eq_true z)
  refine ⟨_, rfl, rfl, _, rfl, ite2 (fun w4 => ?W4) (fun n4 => ?_)⟩
  case W4 =>
    -- two words exchanged
    refine ⟨_, rfl, _, rfl, w0, _, _, _, rfl, rfl, SqL.of gw9, atI_nat hat6, _, rfl, _, rfl, w0, _, _, _, rfl, rfl, SqL.of gw9, atI_nat hat5, (by show 2 ≤ sizeLine; decide), fun t nt => ?_⟩
    have s1 := newS (o := .tup [V.str ws[i6], .str ws[i5]]) nt
    have gt : (upd G9 t (.tup [V.str ws[i6], .str ws[i5]])) t = some (.tup [V.str ws[i6], .str ws[i5]]) := upd_same
    generalize upd G9 t (.tup [V.str ws[i6], .str ws[i5]]) = G10 at s1 gt
    have ix5 : ixN (ws.map V.str).length ((i5 : Nat) : Int) = some i5 := by
      unfold ixN
      rw [ll, if_pos (by omega), if_pos (by omega), Int.toNat_natCast]
    refine ⟨t, _, rfl, SqT.of gt, rfl, _, _, rfl, _, rfl, _, rfl, w0, _, _, i5, rfl, rfl, s1 _ _ gw9, ix5, ?_⟩
    have e5 : (ws.map V.str).set i5 (.str ws[i6]) = (ws.set i5 ws[i6]).map V.str := by rw [List.map_set]
    rw [e5]
    have g5 : (upd G10 w0 (.lst ((ws.set i5 ws[i6]).map V.str))) w0 = some (.lst ((ws.set i5 ws[i6]).map V.str)) := upd_same
    have kb5 : Kb pk H (upd G10 w0 (.lst ((ws.set i5 ws[i6]).map V.str))) := (kbG.trans (Kb.of s1)).mk hw0
    have pk5 : Pk (upd G10 w0 (.lst ((ws.set i5 ws[i6]).map V.str))) pk := by
      obtain ⟨ns, e⟩ := pk9.same s1
      exact ⟨ns, by rw [upd_ne (Ne.symm wk)]; exact e⟩
    generalize upd G10 w0 (.lst ((ws.set i5 ws[i6]).map V.str)) = G11 at g5 kb5 pk5
    have ix6 : ixN ((ws.set i5 ws[i6]).map V.str).length ((i6 : Nat) : Int) = some i6 := by
      unfold ixN
      rw [List.length_map, List.length_set, if_pos (by omega), if_pos (by omega), Int.toNat_natCast]
    refine ⟨_, _, rfl, _, rfl, _, rfl, w0, _, _, i6, rfl, rfl, g5, ix6, ?_⟩
    have e6 : ((ws.set i5 ws[i6]).map V.str).set i6 (.str ws[i5]) = ((ws.set i5 ws[i6]).set i6 ws[i5]).map V.str := by rw [List.map_set (l := ws.set i5 ws[i6])]
    rw [e6]
    have g6 : (upd G11 w0 (.lst (((ws.set i5 ws[i6]).set i6 ws[i5]).map V.str))) w0 = some (.lst (((ws.set i5 ws[i6]).set i6 ws[i5]).map V.str)) := upd_same
    have kb6 : Kb pk H (upd G11 w0 (.lst (((ws.set i5 ws[i6]).set i6 ws[i5]).map V.str))) := kb5.mk hw0
    have pk6 : Pk (upd G11 w0 (.lst (((ws.set i5 ws[i6]).set i6 ws[i5]).map V.str))) pk := by
      obtain ⟨ns, e⟩ := pk5
      exact ⟨ns, by rw [upd_ne (Ne.symm wk)]; exact e⟩
    generalize upd G11 w0 (.lst (((ws.set i5 ws[i6]).set i6 ws[i5]).map V.str)) = G12 at g6 kb6 pk6
    have hA : Wf ((ws.set i5 ws[i6]).set i6 ws[i5]) := by
      refine wfW.sub fun y hy => ?_
      rcases List.mem_or_eq_of_mem_set hy with z | z
      · rcases List.mem_or_eq_of_mem_set z with z | z
        · exact z
        · rw [z]; exact m6
      · rw [z]; exact m5
    have l6 := sumL_mem m6
    have u1 := sumL_set (ws.set i5 ws[i6]) i6 ws[i5]
    have u2 := sumL_set ws i5 ws[i6]
    obtain ⟨o1, o2⟩ := out ((ws.set i5 ws[i6]).set i6 ws[i5]) G12 hA (by rw [List.length_set, List.length_set]; omega) (by rw [List.length_set, List.length_set]; omega) kb6 pk6
    exact ⟨rfl, ⟨_, rfl⟩, _, rfl, _, w0, _, rfl, rfl, .inl (SqL.of g6), o1, o2⟩
  have n4 : ¬ r3 = 3 := fun z => n4 (decide_eq_true (by rw [z]))
  refine ⟨_, rfl, rfl, _, rfl, ite2 (fun w5 => ?W5) (fun n5 => ?_)⟩
  case W5 =>
    -- a word put in
    refine ⟨⟨_, rfl⟩, _, rfl, _, rfl, (i5 : Int), rfl, w0, _, rfl, SqL.of gw9, fun p1 np1 => ?_⟩
    rw [cutA]
    have s1 := newS (o := .lst ((ws.take i5).map V.str)) np1
    have g1 : (upd G9 p1 (.lst ((ws.take i5).map V.str))) p1 = some (.lst ((ws.take i5).map V.str)) := upd_same
    generalize upd G9 p1 (.lst ((ws.take i5).map V.str)) = G10 at s1 g1
    refine ⟨_, rfl, (by show 1 ≤ sizeLine; decide), fun q4 nq4 => ?_⟩
    have s5 := newS (o := .lst [V.str ot]) nq4
    refine ⟨p1, q4, _, _, rfl, rfl, s5 _ _ g1, upd_same, small (by rw [List.length_map, List.length_singleton]; omega), fun p2 np2 => ?_⟩
    have s7 := newS (o := .lst ((ws.take i5).map V.str ++ [V.str ot])) np2
    have g2 : (upd (upd G10 q4 (.lst [V.str ot])) p2 (.lst ((ws.take i5).map V.str ++ [V.str ot]))) p2 = some (.lst ((ws.take i5).map V.str ++ [V.str ot])) := upd_same
    have sA : Same G9 _ := (s1.trans s5).trans s7
    generalize upd (upd G10 q4 (.lst [V.str ot])) p2 (.lst ((ws.take i5).map V.str ++ [V.str ot])) = G15 at g2 sA
    refine ⟨_, rfl, _, rfl, (i5 : Int), rfl, w0, _, rfl, SqL.of (sA _ _ gw9), fun p3 np3 => ?_⟩
    have cutC : cutV (ws.map V.str) (some ((i5 : Nat) : Int)) none = (ws.drop i5).map V.str := by rw [cutLo, List.map_drop]
    rw [cutC]
    have s8 := newS (o := .lst ((ws.drop i5).map V.str)) np3
    have lD : (ws.drop i5).length + i5 = ws.length := by rw [List.length_drop]; omega
    have lT : (ws.take i5).length = i5 := by rw [List.length_take]; omega
    refine ⟨p2, p3, _, _, rfl, rfl, s8 _ _ g2, upd_same, small (by rw [List.length_append, List.length_map, List.length_map, List.length_singleton]; omega), fun p4 np4 => ?_⟩
    have s9 := newS (o := .lst ((ws.take i5).map V.str ++ [V.str ot] ++ (ws.drop i5).map V.str)) np4
    have eq : (ws.take i5).map V.str ++ [V.str ot] ++ (ws.drop i5).map V.str = (ws.take i5 ++ [ot] ++ ws.drop i5).map V.str := by rw [List.map_append, List.map_append]; rfl
    rw [eq] at s9 ⊢
    have sB := (sA.trans s8).trans s9
    have wfE : Wf (ws.drop i5) := wfW.sub fun y hy => List.mem_of_mem_drop hy
    have eD : sumL (ws.drop i5) = ws[i5].length + sumL (ws.drop (i5 + 1)) := by
      rw [List.drop_eq_getElem_cons hi5]
      rfl
    have eO : sumL [ot] = ot.length := Nat.add_zero _
    obtain ⟨o1, o2⟩ := out (ws.take i5 ++ [ot] ++ ws.drop i5) _ ((wfT.app wfO).app wfE) (by rw [sumL_app, sumL_app, List.length_append, List.length_append, List.length_singleton]; omega) (by rw [List.length_append, List.length_append, List.length_singleton]; omega) (kbG.trans (Kb.of sB)) (pk9.same sB)
    exact ⟨_, p4, _, rfl, rfl, .inl (SqL.of upd_same), o1, o2⟩
  have n5 : ¬ r3 = 4 := fun z => n5 (decide_eq_true (by rw [z]))
  refine ⟨_, rfl, _, _, rfl, rfl, _, rfl, ite2 (fun w8 => ?W8) (fun n8 => ?_)⟩
  case W8 =>
    -- a sign put in, exchanged, left out
    have w8 : r3 < 8 := of_decide_eq_true w8
    have zs : x.length ≤ sizeLine := by omega
    have k1 := cutS_length x none (some (i7 : Int))
    have a1 : Asc 1 (⟨#[sc]⟩ : Str) := asc_sign lsc
    have l1 : (⟨#[sc]⟩ : Str).length = 1 := rfl
    have ap : ∀ (u y : Str), (u ++ y).length = u.length + y.length := fun u y => by
      rw [TL.len_tl, TL.tl_append, List.length_append, ← TL.len_tl, ← TL.len_tl]
    refine ⟨_, rfl, _, rfl, _, rfl, x, rfl, zs, _, rfl, _, rfl, rfl, .inr ⟨_, rfl, ?_⟩⟩
    obtain ⟨b, sg, eb, lb, hb, nb1⟩ : ∃ (b : Nat) (sg : Str), (if (!decide (V.int r3 = V.int 6)) = true then (1 : Int) else 0) = (b : Int) ∧ b ≤ 1 ∧ Txt.mul ⟨#[sc]⟩ (b : Int) = sg ∧ Asc 1 sg ∧ Kr1.nb sg ≤ 1 := by
      by_cases c : V.int r3 = V.int 6
      · refine ⟨0, "", by rw [decide_eq_true c]; rfl, by decide, rfl, ascLit (by decide +kernel) (by decide), by decide +kernel⟩
      · refine ⟨1, ⟨#[sc]⟩, by rw [decide_eq_false c]; rfl, by decide, rfl, a1, nb_sign sc⟩
    rw [eb]
    have lsg := nb1.1.len
    refine ⟨_, b, rfl, rfl, by omega, by rw [l1]; decide, by rw [l1]; omega, _, _, rfl, rfl, by rw [hb]; omega, ?_⟩
    rw [hb]
    refine ⟨_, rfl, _, rfl, _, rfl, _, _, rfl, rfl, .inr ⟨_, rfl, _, _, rfl, rfl, ?_⟩⟩
    obtain ⟨d, ed, ld⟩ : ∃ d : Nat, (if decide (r3 > 5) = true then (1 : Int) else 0) = (d : Int) ∧ d ≤ 1 := by
      by_cases c : r3 > 5
      · exact ⟨1, by rw [decide_eq_true c]; rfl, by decide⟩
      · exact ⟨0, by rw [decide_eq_false c]; rfl, by decide⟩
    rw [ed]
    refine ⟨((i7 + d : Nat) : Int), congrArg V.int (by omega), x, rfl, zs, _, _, rfl, rfl, ?_, ?_⟩
    · have k2 := cutS_length x (some ((i7 + d : Nat) : Int)) none
      rw [ap]
      omega
    · exact q _ _ kbG pk9 ((bt_cut hx nb1.1 nb1.2).up (by omega) (by omega))
  have n8 : ¬ r3 < 8 := fun z => n8 (decide_eq_true z)
  have ap : ∀ (u y : Str), (u ++ y).length = u.length + y.length := fun u y => by
    rw [TL.len_tl, TL.tl_append, List.length_append, ← TL.len_tl, ← TL.len_tl]
  refine ⟨_, rfl, rfl, _, rfl, ite2 (fun w9 => ?W9) (fun n9 => ?_)⟩
  case W9 =>
    -- blanks, line ends, great letters
    have t1 : Bt 1 1 (" " : Str) := ⟨ascLit (by decide +kernel) (by decide +kernel), by decide +kernel⟩
    have t2 : Bt 1 0 ("\n" : Str) := ⟨ascLit (by decide +kernel) (by decide +kernel), by decide +kernel⟩
    have u1 := bt_app hx t1
    have u2 := bt_app t1 hx
    have u3 := bt_app hx t2
    have u4 := bt_rep hx
    have u5 := bt_upper hx
    have v1 : (" " : Str).length = 1 := rfl
    have v2 : ("\n" : Str).length = 1 := rfl
    have v3 : ("  " : Str).length = 2 := rfl
    refine ⟨_, rfl, _, _, rfl, rfl, by rw [v1]; omega, _, rfl, _, _, rfl, rfl, by rw [v1]; omega, _, rfl, _, _, rfl, rfl, by rw [v2]; omega, _, rfl, x, rfl, by rw [v3]; omega, _, rfl, ⟨_, rfl⟩, x, rfl, rfl, by omega, (by show 5 ≤ sizeLine; decide), fun l nl => ?_⟩
    have s1 := newS (o := .lst [V.str (x ++ " "), .str (" " ++ x), .str (x ++ "\n"), .str (rep1 x " " "  "), .str (Txt.upper x)]) nl
    obtain ⟨y, hy, by'⟩ : ∃ y : Str, atI [V.str (x ++ " "), .str (" " ++ x), .str (x ++ "\n"), .str (rep1 x " " "  "), .str (Txt.upper x)] (((i5 : Nat) : Int) % 5) = some (.str y) ∧ Bt (3 * L + 20) (N + 2) y := by
      have h0 : 0 ≤ ((i5 : Nat) : Int) % 5 := Int.emod_nonneg _ (by decide)
      have h1 : ((i5 : Nat) : Int) % 5 < 5 := Int.emod_lt_of_pos _ (by decide)
      generalize ((i5 : Nat) : Int) % 5 = j at h0 h1
      have ej : j = 0 ∨ j = 1 ∨ j = 2 ∨ j = 3 ∨ j = 4 := by omega
      rcases ej with rfl | rfl | rfl | rfl | rfl
      · exact ⟨_, rfl, u1.up (by omega) (by omega)⟩
      · exact ⟨_, rfl, u2.up (by omega) (by omega)⟩
      · exact ⟨_, rfl, u3.up (by omega) (by omega)⟩
      · exact ⟨_, rfl, u4.up (by omega) (by omega)⟩
      · exact ⟨_, rfl, u5.up (by omega) (by omega)⟩
    exact ⟨_, rfl, _, _, rfl, rfl, (by show (0 : Int) < 5; decide), l, _, _, _, rfl, rfl, SqL.of upd_same, hy, q y _ (kbG.trans (Kb.of s1)) (pk9.same s1) by'⟩
  refine ⟨_, rfl, rfl, _, rfl, ite2 (fun w10 => ?W10) (fun n10 => ?_)⟩
  case W10 =>
    have t1 : Bt 1 1 (" " : Str) := ⟨ascLit (by decide +kernel) (by decide +kernel), by decide +kernel⟩
    have t2 : Bt 10 0 ot := ⟨⟨hms.wf.lo ot mo, lo10⟩, by rw [hms.wf.free ot mo]; exact Nat.le_refl _⟩
    have v1 : (" " : Str).length = 1 := rfl
    refine ⟨_, rfl, _, _, rfl, rfl, by rw [v1]; omega, _, rfl, _, _, rfl, rfl, by rw [ap, v1]; omega, ?_⟩
    exact q _ _ kbG pk9 ((bt_app (bt_app hx t1) t2).up (by omega) (by omega))
  refine ⟨_, rfl, rfl, _, rfl, ite2 (fun w11 => ?W11) (fun n11 => ?_)⟩
  case W11 =>
    -- a nought ahead
    refine ⟨⟨_, rfl⟩, _, rfl, _, rfl, (i5 : Int), rfl, w0, _, rfl, SqL.of gw9, fun p1 np1 => ?_⟩
    rw [cutA]
    have s1 := newS (o := .lst ((ws.take i5).map V.str)) np1
    have g1 : (upd G9 p1 (.lst ((ws.take i5).map V.str))) p1 = some (.lst ((ws.take i5).map V.str)) := upd_same
    generalize upd G9 p1 (.lst ((ws.take i5).map V.str)) = G10 at s1 g1
    have v0 : ("0" : Str).length = 1 := rfl
    have wfZ : Wf [("0" : Str) ++ ws[i5]] := by
      refine ⟨fun y hy c hc => ?_, fun y hy => ?_⟩
      · rw [List.mem_singleton.mp hy] at hc
        have hc : c ∈ TL.tl (("0" : Str) ++ ws[i5]) := hc
        rw [TL.tl_append] at hc
        rcases List.mem_append.mp hc with z | z
        · have : TL.tl ("0" : Str) = [48] := by decide +kernel
          rw [this] at z
          rw [List.mem_singleton.mp z]
          decide
        · exact wfW.lo _ m5 c z
      · rw [List.mem_singleton.mp hy, nb_app, wfW.free _ m5]
        decide +kernel
    refine ⟨_, rfl, _, rfl, w0, _, _, _, rfl, rfl, SqL.of (s1 _ _ gw9), atI_nat hat5, _, _, rfl, rfl, by rw [v0]; omega, (by show 1 ≤ sizeLine; decide), fun q4 nq4 => ?_⟩
    have s5 := newS (o := .lst [V.str (("0" : Str) ++ ws[i5])]) nq4
    refine ⟨p1, q4, _, _, rfl, rfl, s5 _ _ g1, upd_same, small (by rw [List.length_map, List.length_singleton]; omega), fun p2 np2 => ?_⟩
    have s7 := newS (o := .lst ((ws.take i5).map V.str ++ [V.str (("0" : Str) ++ ws[i5])])) np2
    have g2 : (upd (upd G10 q4 (.lst [V.str (("0" : Str) ++ ws[i5])])) p2 (.lst ((ws.take i5).map V.str ++ [V.str (("0" : Str) ++ ws[i5])]))) p2 = some (.lst ((ws.take i5).map V.str ++ [V.str (("0" : Str) ++ ws[i5])])) := upd_same
    have sA : Same G9 _ := (s1.trans s5).trans s7
    generalize upd (upd G10 q4 (.lst [V.str (("0" : Str) ++ ws[i5])])) p2 (.lst ((ws.take i5).map V.str ++ [V.str (("0" : Str) ++ ws[i5])])) = G15 at g2 sA
    refine ⟨_, rfl, _, rfl, _, _, rfl, rfl, ((i5 + 1 : Nat) : Int), congrArg V.int eI, w0, _, rfl, SqL.of (sA _ _ gw9), fun p3 np3 => ?_⟩
    rw [cutB]
    have s8 := newS (o := .lst ((ws.drop (i5 + 1)).map V.str)) np3
    refine ⟨p2, p3, _, _, rfl, rfl, s8 _ _ g2, upd_same, small (by rw [List.length_append, List.length_map, List.length_map, List.length_singleton]; omega), fun p4 np4 => ?_⟩
    have s9 := newS (o := .lst ((ws.take i5).map V.str ++ [V.str (("0" : Str) ++ ws[i5])] ++ (ws.drop (i5 + 1)).map V.str)) np4
    have eq : (ws.take i5).map V.str ++ [V.str (("0" : Str) ++ ws[i5])] ++ (ws.drop (i5 + 1)).map V.str = (ws.take i5 ++ [("0" : Str) ++ ws[i5]] ++ ws.drop (i5 + 1)).map V.str := by rw [List.map_append, List.map_append]; rfl
    rw [eq] at s9 ⊢
    have sB := (sA.trans s8).trans s9
    have eZ : sumL [("0" : Str) ++ ws[i5]] = 1 + ws[i5].length := by
      show (("0" : Str) ++ ws[i5]).length + 0 = _
      rw [ap, v0, Nat.add_zero]
    obtain ⟨x1, x2, x3⟩ := mids [("0" : Str) ++ ws[i5]] wfZ (by omega) (by show 1 ≤ 2; decide)
    obtain ⟨o1, o2⟩ := out _ _ x1 x2 x3 (kbG.trans (Kb.of sB)) (pk9.same sB)
    exact ⟨_, p4, _, rfl, rfl, .inl (SqL.of upd_same), o1, o2⟩
  -- the beginning
  refine ⟨⟨_, rfl⟩, _, rfl, _, rfl, _, _, rfl, rfl, ((i5 + 1 : Nat) : Int), congrArg V.int eI, w0, _, rfl, SqL.of gw9, fun p1 np1 => ?_⟩
  have cutE : cutV (ws.map V.str) none (some ((i5 + 1 : Nat) : Int)) = (ws.take (i5 + 1)).map V.str := by rw [cutHi, List.map_take]
  rw [cutE]
  have s1 := newS (o := .lst ((ws.take (i5 + 1)).map V.str)) np1
  have wfE : Wf (ws.take (i5 + 1)) := wfW.sub fun y hy => List.mem_of_mem_take hy
  have eT : sumL (ws.take (i5 + 1)) = sumL (ws.take i5) + ws[i5].length := by
    rw [List.take_add_one, List.getElem?_eq_getElem hi5, sumL_app]
    show _ + (ws[i5].length + 0) = _
    omega
  obtain ⟨o1, o2⟩ := out (ws.take (i5 + 1)) _ wfE (by rw [List.length_take]; omega) (by rw [List.length_take]; omega) (kbG.trans (Kb.of s1)) (pk9.same s1)
  exact ⟨_, p1, _, rfl, rfl, .inl (SqL.of upd_same), o1, o2⟩
end
end Kq

namespace Kq
open PySem PySem.Spec PyProof.Rows L2 Kf Kg Kv GxR Kk Kr1
abbrev tKind : Stmt := tp 65
theorem kt_dp1 : ∀ k : Kt, k.dp + 1 ≤ k.d.dp
  | .op n => by simp only [Kt.dp, Kt.d, Dt.dp, Dt.dps]; omega
  | .num => by simp only [Kt.dp, Kt.d, Dt.dp, Dt.dps]; omega
  | .tru => by simp only [Kt.dp, Kt.d, Dt.dp, Dt.dps]; omega
  | .pr a b => by
    have := kt_dp1 a
    have := kt_dp1 b
    simp only [Kt.dp, Kt.d, Dt.dp, Dt.dps]
    omega
  | .ei a b => by
    have := kt_dp1 a
    have := kt_dp1 b
    simp only [Kt.dp, Kt.d, Dt.dp, Dt.dps]
    omega
  | .li a => by
    have := kt_dp1 a
    simp only [Kt.dp, Kt.d, Dt.dp, Dt.dps]
    omega
  | .fn a b => by
    have := kt_dp1 a
    have := kt_dp1 b
    simp only [Kt.dp, Kt.d, Dt.dp, Dt.dps]
    omega
theorem tk3 : ∀ k : Kt, (It'.kd k).tk.length + 1 ≤ 3 * 2 ^ k.dp := by
  have up : ∀ {a b : Nat}, a ≤ b → (2 : Nat) ^ a ≤ 2 ^ b := fun h => Nat.pow_le_pow_right (by decide) h
  have two : ∀ {a b x y : Nat}, x + 1 ≤ 3 * 2 ^ a → y + 1 ≤ 3 * 2 ^ b → x + y + 1 + 1 ≤ 3 * 2 ^ (max a b + 1) := fun {a b x y} h1 h2 => by
    have := up (Nat.le_max_left a b)
    have := up (Nat.le_max_right a b)
    rw [Nat.pow_succ]
    omega
  intro k
  induction k with
  | op n => exact Nat.le_refl _
  | num => decide
  | tru => decide
  | pr a b i j =>
    show (a.tk ++ b.tk).length + 1 + 1 ≤ _
    rw [List.length_append]
    exact two i j
  | ei a b i j =>
    show (a.tk ++ b.tk).length + 1 + 1 ≤ _
    rw [List.length_append]
    exact two i j
  | li a i =>
    have i : a.tk.length + 1 ≤ 3 * 2 ^ a.dp := i
    show a.tk.length + 1 + 1 ≤ 3 * 2 ^ (a.dp + 1)
    rw [Nat.pow_succ]
    omega
  | fn a b i j =>
    show (a.tk ++ b.tk).length + 1 + 1 ≤ _
    rw [List.length_append]
    exact two i j
theorem tk_few {k : Kt} {g : Nat} (h : k.d.dp ≤ g + 1) : (It'.kd k).tk.length + 1 ≤ 3 * 2 ^ g := by
  have h1 := kt_dp1 k
  have h2 := tk3 k
  have h3 : (2 : Nat) ^ k.dp ≤ 2 ^ g := Nat.pow_le_pow_right (by decide) (by omega)
  omega
theorem isK_of {k : Kt} (h : k.isD = true) : k.isK = true := by
  cases k <;> first | exact h | cases h
/-- a kind that is drawn -/
structure Kz' (k : Kt) : Prop where
  ok : k.ok
  isK : k.isK = true
  tk : (It'.kd k).tk.length ≤ 95
theorem it_lo {i : It'} (h : i.ok) : ∀ c ∈ i.wd.cps.toList, c < 128 := by
  cases i with
  | nm n =>
    have h : nmS n = true := h
    exact (asc_nm h).lo
  | kd k =>
    have e : (i : Str) → (i.cps.toList.all fun c => decide (c < 128)) = true → ∀ c ∈ i.cps.toList, c < 128 := fun i h c hc => of_decide_eq_true (List.all_eq_true.mp h c hc)
    cases k <;> (refine e _ ?_; simp only [It'.wd, Kt.wd]; decide +kernel)
theorem sumL_le {n : Nat} : ∀ {ws : List Str}, (∀ x ∈ ws, x.length ≤ n) → sumL ws ≤ n * ws.length
  | [], _ => Nat.zero_le _
  | a :: r, h => by
    have h1 := h a List.mem_cons_self
    have h2 := sumL_le (ws := r) fun x hx => h x (List.mem_cons_of_mem _ hx)
    show a.length + sumL r ≤ n * (r.length + 1)
    rw [Nat.mul_add]
    omega
theorem Kz'.bt {k : Kt} (h : Kz' k) : Bt 855 94 k.tx := by
  have ok := tk_ok (i := .kd k) h.ok
  have l := h.tk
  have s : sumL ((It'.kd k).tk.map It'.wd) ≤ 8 * ((It'.kd k).tk.map It'.wd).length := sumL_le fun x hx => by
    obtain ⟨i, hi, rfl⟩ := List.mem_map.mp hx
    exact wd_len (ok i hi)
  unfold Kt.tx
  refine bt_join ⟨fun x hx => ?_, fun x hx => ?_⟩ ?_ ?_
  · obtain ⟨i, hi, rfl⟩ := List.mem_map.mp hx
    exact it_lo (ok i hi)
  · obtain ⟨i, hi, rfl⟩ := List.mem_map.mp hx
    exact List.count_eq_zero.mpr (wd_no (ok i hi))
  · rw [List.length_map] at s ⊢
    omega
  · rw [List.length_map]
    omega
theorem Kz'.rk {k : Kt} (h : Kz' k) : Rk k.tx k := ⟨⟨h.ok, tx_split h.ok⟩, h.isK⟩
theorem Kz'.kw {k : Kt} (h : Kz' k) : Kw k := h.rk.kw (by have := h.bt.nb; omega)
theorem Kz'.wt {k : Kt} (h : Kz' k) : k.d.wt ≤ 1000000 := by
  have := wt_tk h.ok
  have := h.tk
  omega
section
variable {P : Program} {w : World} {K : PySem.W.Frag} {mg : Str → Option Value} {base : Heap}
abbrev psKind : List Str := ["_law_deck_here", "_law_names_here"]
abbrev nKind : List Str := ["_law_deck_here", "_law_names_here", "_law_many", "_law_kind_here", "_law_k"]
theorem scKind : FnScope nKind psKind (defScope tKind) := ⟨rfl, rfl, rfl, by decide +kernel, rfl, by decide +kernel, by decide +kernel⟩
def spKind : Sp := fun vs H Q _ => ∃ (d c o : Addr) (xs : List Str), vs = [.ref d, .ref o] ∧ Dk H d c ∧ H o = some (.lst (xs.map V.str)) ∧ o ≠ d ∧ o ≠ c ∧ 1 ≤ xs.length ∧ xs.length ≤ 26 ∧ (∀ x ∈ xs, nmS x = true) ∧
  ∀ (v : V) (k : Kt) (G : Hp), Kp d c H G → Dk G d c → Dd Non G k.d v → Kz' k → Q v G
theorem okKind {f fD fA fC : Addr} {fd fdD fdA fdC : FuncData} {k : Nat} (F : Fun K "_law_kind" "_law_kind" tKind f fd)
    (GD : FnOk P w K mg base CX0 k fD fdD ["_law_deck_here", "_law_most"] spDraw) (bD : Binds K fdD ["_law_deck_here", "_law_most"] []) (gD : mg "_law_draw" = some (.ref fD)) (kD : PySem.W.keepIn K (.ref fD) = true)
    (GA : FnOk P w K mg base CX0 k fA fdA psData (spData 6)) (bA : Binds K fdA psData []) (gA : mg "_law_data" = some (.ref fA)) (kA : PySem.W.keepIn K (.ref fA) = true)
    (GC : FnOk P w K mg base CX0 k fC fdC psCarried spCarried) (bC : Binds K fdC psCarried []) (gC : mg "_law_carried" = some (.ref fC)) (kC : PySem.W.keepIn K (.ref fC) = true)
    (mr : mg "range" = none) (mn : mg "int" = none) : FnOk P w K mg base CX0 (k + 1) f fd psKind spKind := by
  refine F.ok scKind (fun vs H Q E h => ?_) (fun cdv A outer s H vs Q E hr h => ?_)
  · obtain ⟨d, c, o, xs, rfl, _⟩ := h
    rfl
  obtain ⟨d, c, o, xs, rfl, dk, ho, od, oc, l0, lx, hx, q⟩ := h
  refine ⟨_, pss_cons (ps_set (i := 2) scKind.nd rfl (.inl rfl) (pe_call GD hr (by rfl) gD kD bD .nil pass0 (pa_cons (pv 0) (pa_cons pe_int pa_nil))))
    (pss_cons (ps_set (i := 3) scKind.nd rfl (.inl rfl) (pe_call GA hr (by rfl) gA kA bA .nil pass0 (pa_cons (pv 0) (pa_cons (pv 1) (pa_cons (pe_ix ix_list (pe_lst (pa_cons pe_int (pa_cons pe_int pa_nil))) (pe_callTy call_int1 (by rfl) mn (by decide +kernel) (pa_cons (pe_cmpR op_gt (pv 2) pe_int (nomark _)) pa_nil)) (fun _ _ => rfl)) pa_nil)))))
    (pss_cons (ps_for PassesOwn.never rfl (pi_range1 (by rfl) mr (pa_cons (pv 2) pa_nil)) (pg_name (i := 4) scKind.nd rfl (.inl rfl))
      (pss_one (ps_set (i := 3) scKind.nd rfl (.inl rfl) (pe_tup (pa_cons pe_str (pa_cons (pe_call GC hr (by rfl) gC kC bC .nil pass0 (pa_cons (pv 0) (pa_cons (pv 1) pa_nil))) (pa_cons (pv 3) pa_nil)))))))
    (pss_one (ps_ret (pv 3))))), ?_⟩
  refine ⟨_, rfl, d, c, 4, rfl, dk, by decide, by decide, fun r G1 r0 r1 kp1 dk1 => ?_⟩
  obtain ⟨m, rfl⟩ : ∃ m : Nat, r = (m : Int) := ⟨r.toNat, by omega⟩
  have ho1 := kp1 o _ od oc ho
  refine ⟨_, rfl, _, rfl, (by show 2 ≤ sizeLine; decide), fun l nl => ?_⟩
  have sl := newS (o := .lst [V.int 3, .int 1]) nl
  have dk2 := dk1.same sl
  have ho2 := sl _ _ ho1
  have kp2 : Kp d c H (upd G1 l (.lst [V.int 3, .int 1])) := kp1.trans (Kp.of sl)
  have gl : (upd G1 l (.lst [V.int 3, .int 1])) l = some (.lst [V.int 3, .int 1]) := upd_same
  generalize upd G1 l (.lst [V.int 3, .int 1]) = G2 at dk2 ho2 kp2 gl
  obtain ⟨g, hg, hg3⟩ : ∃ g : Nat, atI [V.int 3, V.int 1] (if decide ((m : Int) > 0) = true then (1 : Int) else 0) = some (.int (g : Int)) ∧ g ≤ 3 := by
    cases decide ((m : Int) > 0) with
    | true => exact ⟨1, rfl, by decide⟩
    | false => exact ⟨3, rfl, by decide⟩
  refine ⟨_, rfl, _, _, rfl, rfl, .inr ⟨_, rfl, l, _, _, _, rfl, rfl, SqL.of gl, hg, ?_⟩⟩
  refine ⟨d, c, o, xs, g, rfl, by omega, dk2, ho2, od, oc, l0, lx, hx, fun v x G3 kp3 dk3 hv kx => ?_⟩
  obtain ⟨kk, k1, k2, rfl⟩ := kt_dat _ x (Nat.le_refl _) kx.is
  have t1 := tk_few (k := kk) (g := 3) (by have := kx.dp; omega)
  have hp8 : (2 : Nat) ^ 3 = 8 := rfl
  refine ⟨_, rfl, (m : Int), rfl, by omega, by omega, for_range (lo := 0) (n := m) (fun i σ G => ∃ (y4 : Option V) (v : V) (kk : Kt), σ = [some (.ref d), some (.ref o), some (.int (m : Int)), some v, y4] ∧ Kp d c H G ∧ Dk G d c ∧ Dd Non G kk.d v ∧ kk.ok ∧ kk.isK = true ∧ (It'.kd kk).tk.length ≤ 23 + 24 * i)
    ⟨_, v, kk, rfl, kp2.trans kp3, dk3, hv, k1, isK_of k2, by omega⟩ (fun i σ G hi z => ?_) (fun σ G z => ?_)⟩
  · obtain ⟨y4, v, kk, rfl, kpG, dkG, hvG, k1, k2, k3⟩ := z
    refine ⟨_, rfl, _, rfl, d, c, o, xs, rfl, dkG, kpG o _ od oc ho, od, oc, l0, lx, hx, fun v' x' G3 kp3 dk3 hv' ha hwt hlo hdp => ?_⟩
    refine ⟨_, rfl, (by show 3 ≤ sizeLine; decide), fun p np => ?_⟩
    have sp := newS (o := .tup [V.str "fun", v', v]) np
    have hv3 := (hvG.kn (Kn.tk (Tk.kp kp3 dkG))).same sp
    obtain ⟨ka, a1, a2, rfl⟩ := kt_arg ha
    have t2 := tk_few (k := ka) (g := 3) hdp
    refine ⟨_, _, .fn ka kk, rfl, (kpG.trans kp3).trans (Kp.of sp), dk3.same sp, .tup upd_same (.cons (.str _) (.cons (hv'.same sp) (.cons hv3 .nil))), ⟨a1, k1⟩, ?_, ?_⟩
    · show (ka.isA && kk.ch Kt.isA) = true
      rw [a2]
      exact k2
    · have t2 : ka.tk.length + 1 ≤ 3 * 2 ^ 3 := t2
      have k3 : kk.tk.length ≤ 23 + 24 * i := k3
      show (ka.tk ++ kk.tk).length + 1 ≤ 23 + 24 * (i + 1)
      rw [List.length_append]
      omega
  · obtain ⟨y4, v, kk, rfl, kpG, dkG, hvG, k1, k2, k3⟩ := z
    exact ⟨_, rfl, q v kk G kpG dkG hvG ⟨k1, k2, by omega⟩⟩
end
end Kq

namespace Kq
open PySem PySem.Spec PyProof.Rows L2 Kf Kg Kv GxR Kk Kr1 Ki
abbrev tLaw : Stmt := tp 66
theorem isn {p b : Bool} {A B : Prop} (h : p = b) (k : B) : if (!decide (p = b)) = true then A else B := by
  rw [decide_eq_true h]
  exact k
theorem TbS.kp {T : List Addr} {H G : Hp} {d c : Addr} (t : TbS T H) (k : Kp d c H G) (x : Dk H d c) : TbS T G := fun p hp => by
  obtain ⟨ps, h1, h2⟩ := t p hp
  obtain ⟨_, ⟨_, _, hd⟩, ⟨_, hc, _⟩⟩ := x
  exact ⟨ps, k p _ (fun z => by rw [z, hd] at h1; cases h1) (fun z => by rw [z, hc] at h1; cases h1) h1, h2⟩
theorem TbS.kb {T : List Addr} {H G : Hp} {k : Addr} (t : TbS T H) (kb : Kb k H G) (p : Pk H k) : TbS T G := fun a ha => by
  obtain ⟨ps, h1, h2⟩ := t a ha
  obtain ⟨ns, e⟩ := p
  exact ⟨ps, kb a _ (fun z => by rw [z, e] at h1; cases h1) h1, h2⟩
theorem Dk.sm {T : List Addr} {H G : Hp} {d c : Addr} (x : Dk H d c) (t : TbS T H) (s : Sm T H G) : Dk G d c := by
  obtain ⟨n, ⟨a, b, e⟩, ⟨ns, f, l⟩⟩ := x
  exact ⟨n, ⟨a, b, s.at t e (fun _ z => by cases z)⟩, ⟨ns, s.at t f (fun _ z => by cases z), l⟩⟩
theorem Dk.kb {H G : Hp} {d c k : Addr} (x : Dk H d c) (kb : Kb k H G) (h1 : d ≠ k) (h2 : c ≠ k) : Dk G d c := by
  obtain ⟨n, ⟨a, b, e⟩, ⟨ns, f, l⟩⟩ := x
  exact ⟨n, ⟨a, b, kb _ _ h1 e⟩, ⟨ns, kb _ _ h2 f, l⟩⟩
theorem kn_kp {N : Addr → Prop} {H G : Hp} {d c : Addr} (k : Kp d c H G) (dk : Dk H d c) (h : ∀ b, N b → b ≠ d ∧ b ≠ c) : Kn N H G :=
  ⟨Tk.kp k dk, fun b xs n e => k b _ (h b n).1 (h b n).2 e, fun b xs n e => k b _ (h b n).1 (h b n).2 e⟩
theorem Kb.knN {k : Addr} {H G : Hp} (a : Kb k H G) (p : Pk H k) : Kn Non H G := (a.kn p).sub fun _ n => n.elim
/-- the lists of picks -/
structure Pks (d c D : Addr) (ks : List Addr) (G : Hp) : Prop where
  at_ : G D = some (.lst (ks.map V.ref))
  nd : ks.Nodup
  pk : ∀ k ∈ ks, Pk G k ∧ k ≠ d ∧ k ≠ c ∧ k ≠ D
/-- what stays -/
structure Lq (T : List Addr) (d c D : Addr) (ks : List Addr) (x : Dt) (v : V) (G : Hp) : Prop where
  dk : Dk G d c
  tb : TbS T G
  pks : Pks d c D ks G
  tm : Dd Non G x v
theorem Pks.same {d c D : Addr} {ks : List Addr} {H G : Hp} (p : Pks d c D ks H) (s : Same H G) : Pks d c D ks G := ⟨s _ _ p.at_, p.nd, fun k hk => ⟨(p.pk k hk).1.same s, (p.pk k hk).2⟩⟩
theorem Pks.kp {d c D : Addr} {ks : List Addr} {H G : Hp} (p : Pks d c D ks H) (s : Kp d c H G) (h1 : D ≠ d) (h2 : D ≠ c) : Pks d c D ks G := ⟨s _ _ h1 h2 p.at_, p.nd, fun k hk => by
  obtain ⟨⟨ns, e⟩, a, b, c'⟩ := p.pk k hk
  exact ⟨⟨ns, s _ _ a b e⟩, a, b, c'⟩⟩
theorem Lq.sm {T : List Addr} {d c D : Addr} {ks : List Addr} {x : Dt} {v : V} {H G : Hp} (l : Lq T d c D ks x v H) (s : Sm T H G) : Lq T d c D ks x v G := ⟨l.dk.sm l.tb s, s.2, ⟨s.at l.tb l.pks.at_ (fun _ z => by cases z), l.pks.nd, fun k hk => by
  obtain ⟨⟨ns, e⟩, r⟩ := l.pks.pk k hk
  exact ⟨⟨ns, s.at l.tb e (fun _ z => by cases z)⟩, r⟩⟩, l.tm.kn (s.kn l.tb)⟩
theorem Lq.kb {T : List Addr} {d c D : Addr} {ks : List Addr} {x : Dt} {v : V} {H G : Hp} {k : Addr} (l : Lq T d c D ks x v H) (hk : k ∈ ks) (s : Kb k H G) (p : Pk G k) : Lq T d c D ks x v G := by
  obtain ⟨pk, h1, h2, h3⟩ := l.pks.pk k hk
  refine ⟨l.dk.kb s (Ne.symm h1) (Ne.symm h2), TbS.kb l.tb s pk, ⟨s _ _ (Ne.symm h3) l.pks.at_, l.pks.nd, fun j hj => ?_⟩, l.tm.kn (s.knN pk)⟩
  obtain ⟨⟨ns, e⟩, r⟩ := l.pks.pk j hj
  by_cases z : j = k
  · rw [z]
    exact ⟨p, h1, h2, h3⟩
  · exact ⟨⟨ns, s _ _ z e⟩, r⟩
theorem Pks.put {d c D p : Addr} {ks : List Addr} {o : HO} {G : Hp} (h : Pks d c D ks G) (h1 : p ≠ D) (h2 : p ∉ ks) : Pks d c D ks (upd G p o) := ⟨by rw [upd_ne (Ne.symm h1)]; exact h.at_, h.nd, fun k hk => by
  obtain ⟨⟨ns, e⟩, r⟩ := h.pk k hk
  exact ⟨⟨ns, by rw [upd_ne (fun z => h2 (by rw [← z]; exact hk))]; exact e⟩, r⟩⟩
theorem TbS.put {T : List Addr} {G : Hp} {p : Addr} {o : HO} {xs : List V} (t : TbS T G) (h : G p = some (.lst xs)) : TbS T (upd G p o) := fun a ha => by
  obtain ⟨ps, h1, h2⟩ := t a ha
  exact ⟨ps, by rw [upd_ne (fun z => by rw [z, h] at h1; cases h1)]; exact h1, h2⟩
theorem TbS.nw {T : List Addr} {G : Hp} {p : Addr} {o : HO} (t : TbS T G) (h : G p = none) : TbS T (upd G p o) := t.same (newS h)
def scOut : Scope := { kind := .function, names := [((".0" : Str), NameKind.local), (("_law_again" : Str), NameKind.local), (("range" : Str), NameKind.globalImplicit), (("_law_deck_here" : Str), NameKind.free)], isGenerator := false, isCoroutine := false, more := [] }
theorem rel_free {env : Env} {x : Str} : ∀ {names : List (Str × NameKind)}, names.lookup x = some .free →
    (names.map fun (n, k) => if (k == NameKind.free && env.scope.kind == .function && env.kindOf n == some .cell) then (n, NameKind.cell) else (n, k)).lookup x = some .cell ∨
    (names.map fun (n, k) => if (k == NameKind.free && env.scope.kind == .function && env.kindOf n == some .cell) then (n, NameKind.cell) else (n, k)).lookup x = some .free
  | [], h => by simp at h
  | (n, k) :: r, h => by
    have ih := @rel_free env x r
    rw [List.map_cons, List.lookup_cons] at *
    cases hx : x == n with
    | true =>
      rw [hx] at h
      have hk : k = .free := Option.some.inj h
      subst hk
      dsimp only
      by_cases c : (NameKind.free == NameKind.free && env.scope.kind == .function && env.kindOf n == some .cell) = true
      · rw [if_pos c]
        dsimp only
        rw [hx]
        exact .inl rfl
      · rw [if_neg c]
        dsimp only
        rw [hx]
        exact .inr rfl
    | false =>
      rw [hx] at h
      dsimp only
      by_cases c : (k == NameKind.free && env.scope.kind == .function && env.kindOf n == some .cell) = true
      · rw [if_pos c]
        dsimp only
        rw [hx]
        exact ih h
      · rw [if_neg c]
        dsimp only
        rw [hx]
        exact ih h
theorem blk_in {N : List Str} {scope scope' : Scope} {own : List (Str × Nat)} {cl : List (Str × Addr)} {C : Addr} {env : Env} (h : BlkOk N scope scope' own) (hf : ∀ y ∈ scope'.names, y.2 = .free → scope.names.lookup y.1 = some .free) : BlkOk N (compEnvC scope cl C env).scope scope' own :=
  ⟨h.kind, h.uniq, h.ix, fun y hy e => rel_free (hf y hy e), h.own⟩
/-- .. and the menu -/
structure Lw (T : List Addr) (d c D mA : Addr) (ks : List Addr) (x : Dt) (v : V) (G : Hp) : Prop where
  lq : Lq T d c D ks x v G
  mn : G mA = some (.lst ((["num", "truth", "open", "pair", "either", "list", "fun", "a", "0", "", "table", "nine", "A", "a1"] : List Str).map V.str))
theorem Lw.sm {T : List Addr} {d c D mA : Addr} {ks : List Addr} {x : Dt} {v : V} {H G : Hp} (l : Lw T d c D mA ks x v H) (s : Sm T H G) : Lw T d c D mA ks x v G := ⟨l.lq.sm s, s.at l.lq.tb l.mn (fun _ z => by cases z)⟩
theorem Lw.kb {T : List Addr} {d c D mA : Addr} {ks : List Addr} {x : Dt} {v : V} {H G : Hp} {k : Addr} (l : Lw T d c D mA ks x v H) (hk : k ∈ ks) (h : k ≠ mA) (s : Kb k H G) (p : Pk G k) : Lw T d c D mA ks x v G := ⟨l.lq.kb hk s p, s _ _ (Ne.symm h) l.mn⟩
def menu : List Str := ["num", "truth", "open", "pair", "either", "list", "fun", "a", "0", "", "table", "nine", "A", "a1"]
theorem menu_ok : Mn menu := by
  refine ⟨⟨fun x hx c hc => ?_, fun x hx => ?_⟩, fun x hx => ?_, by decide, by decide⟩
  · have h : (menu.all fun x => x.cps.toList.all fun c => decide (c < 128)) = true := by decide +kernel
    exact of_decide_eq_true (List.all_eq_true.mp (List.all_eq_true.mp h x hx) c hc)
  · have h : (menu.all fun x => decide (nb x = 0)) = true := by decide +kernel
    exact of_decide_eq_true (List.all_eq_true.mp h x hx)
  · have h : (menu.all fun x => decide (x.length ≤ 10)) = true := by decide +kernel
    exact of_decide_eq_true (List.all_eq_true.mp h x hx)
def fixed : List Str := ["", " ", "fun", "open", "open abcdefghi", "open fun", "list list", "fun fun num num num", "num num"]
theorem fixed_ok : ∀ x ∈ fixed, x.length ≤ 8000 ∧ nb x ≤ 150 := by
  intro x hx
  have h : (fixed.all fun x => decide (x.length ≤ 8000) && decide (nb x ≤ 150)) = true := by decide +kernel
  have := List.all_eq_true.mp h x hx
  obtain ⟨a, b⟩ := Bool.and_eq_true_iff.mp this
  exact ⟨of_decide_eq_true a, of_decide_eq_true b⟩
abbrev kL : Kt := .fn (.op "a") .num
theorem kL_ok : kL.ok := ⟨by show nmS "a" = true; decide +kernel, True.intro⟩
theorem kL_rk : Rk "fun open a num" kL := by
  have e : kL.tx = "fun open a num" := by decide +kernel
  have h := tx_split kL_ok
  rw [e] at h
  exact ⟨⟨kL_ok, h⟩, rfl⟩
theorem bt_hi {L N : Nat} {x : Str} (h : Bt L N x) (n : Nat) : Bt L N (cutS x none (some (n : Int))) := by
  have e := cutS_hi x n
  refine ⟨asc_tl (fun c hc => ?_) ?_, ?_⟩
  · rw [e] at hc
    exact h.asc.lo c (List.mem_of_mem_take hc)
  · have h1 := h.asc.len
    rw [TL.len_tl] at h1
    rw [e, List.length_take]
    omega
  · have h1 := h.nb
    unfold Kr1.nb at h1 ⊢
    rw [e]
    exact Nat.le_trans (List.Sublist.count_le _ (List.take_sublist _ _)) h1
section
variable {P : Program} {w : World} {K : PySem.W.Frag} {mg : Str → Option Value} {base : Heap} {T : List Addr}
abbrev nLaw : List Str := ["_law_script", "_law_deck_here", "_law_menu", "_law_turn", "_law_again", "_law_k", "_law_picks", "_law_kind_here", "_law_text", "_law_some", "_law_bent", "_law_step", "_law_thing", "_law_great"]
theorem scLaw : FnScope nLaw ["_law_script"] (defScope tLaw) := ⟨rfl, rfl, rfl, by decide +kernel, rfl, by decide +kernel, by decide +kernel⟩
def spLaw (K : PySem.W.Frag) (T : List Addr) : Sp := fun vs H Q _ => ∃ (a : Addr) (ns : List Int), vs = [.ref a] ∧ SqL K H a (ns.map V.int) ∧ ns.length ≤ 63 ∧ TbS T H ∧ ∀ G : Hp, Q (.bl true) G
theorem okLaw {f f1 f2 f3 f4 f5 f6 f7 f8 f9 : Addr} {fd fd1 fd2 fd3 fd4 fd5 fd6 fd7 fd8 fd9 : FuncData} {k : Nat} (F : Fun K "law" "law" tLaw f fd)
    (G1 : FnOk P w K mg base CX0 k f1 fd1 ["_law_script"] (spDeck K)) (b1 : Binds K fd1 ["_law_script"] []) (g1 : mg "_law_deck" = some (.ref f1)) (k1 : PySem.W.keepIn K (.ref f1) = true)
    (G2 : FnOk P w K mg base CX0 k f2 fd2 psCalled spCalled) (b2 : Binds K fd2 psCalled []) (g2 : mg "_law_called" = some (.ref f2)) (k2 : PySem.W.keepIn K (.ref f2) = true)
    (G3 : FnOk P w K mg base CX0 k f3 fd3 ["_law_deck_here", "_law_most"] spDraw) (b3 : Binds K fd3 ["_law_deck_here", "_law_most"] []) (g3 : mg "_law_draw" = some (.ref f3)) (k3 : PySem.W.keepIn K (.ref f3) = true)
    (G4 : FnOk P w K mg base CX0 k f4 fd4 psKind spKind) (b4 : Binds K fd4 psKind []) (g4 : mg "_law_kind" = some (.ref f4)) (k4 : PySem.W.keepIn K (.ref f4) = true)
    (G5 : FnOk P w K mg base CX0 k f5 fd5 ["_law_picks", "_law_many"] spPick) (b5 : Binds K fd5 ["_law_picks", "_law_many"] []) (g5 : mg "_law_pick" = some (.ref f5)) (k5 : PySem.W.keepIn K (.ref f5) = true)
    (G6 : FnOk P w K mg base CX0 k f6 fd6 psLBent spLBent) (b6 : Binds K fd6 psLBent []) (g6 : mg "_law_bent_text" = some (.ref f6)) (k6 : PySem.W.keepIn K (.ref f6) = true)
    (G7 : FnG P w K mg base CX0 k f7 fd7 ["_law_text"] (spRight T)) (b7 : Binds K fd7 ["_law_text"] []) (g7 : mg "_law_right" = some (.ref f7)) (k7 : PySem.W.keepIn K (.ref f7) = true)
    (G8 : FnG P w K mg base CX0 k f8 fd8 ["_law_thing"] (spTold T)) (b8 : Binds K fd8 ["_law_thing"] []) (g8 : mg "_law_told" = some (.ref f8)) (k8 : PySem.W.keepIn K (.ref f8) = true)
    (G9 : FnOk P w K mg base CX0 k f9 fd9 ["_law_kind_here"] (spLShow 100)) (b9 : Binds K fd9 ["_law_kind_here"] []) (g9 : mg "_law_kind_shown" = some (.ref f9)) (k9 : PySem.W.keepIn K (.ref f9) = true)
    (mr : mg "range" = none) (mp : mg "repr" = none) (ml : mg "len" = none) : FnG P w K mg base CX0 (k + 1) f fd ["_law_script"] (spLaw K T) := by
  refine okG F scLaw (fun vs H Q E h => ?_) (fun cdv A outer s H vs Q E still hr h => ?_)
  · obtain ⟨a, ns, rfl, _⟩ := h
    rfl
  obtain ⟨a, ns, rfl, hS, hl, tb, q⟩ := h
  have hu : (cxOf CX0 P w K mg base nLaw "law" (defScope tLaw) f cdv A outer s H E).nox.A.units + (170 + 1) < cLine := by
    have := hr.un
    show (A.deeper _).units + 171 < cLine
    omega
  refine ⟨_, pss_cons (ps_set (i := 1) scLaw.nd rfl (.inr rfl) (pe_call G1 hr (by rfl) g1 k1 b1 .nil pass0 (pa_cons (pv 0) pa_nil))) (pss_cons (ps_set (i := 2) scLaw.nd rfl (.inl rfl) (pe_lst (pa_cons pe_str (pa_cons pe_str (pa_cons pe_str (pa_cons pe_str (pa_cons pe_str (pa_cons pe_str (pa_cons pe_str (pa_cons pe_str (pa_cons pe_str (pa_cons pe_str (pa_cons pe_str (pa_cons pe_str (pa_cons pe_str (pa_cons pe_str pa_nil)))))))))))))))) (pss_cons (ps_for PassesOwn.never rfl (pi_range1 (by rfl) mr (pa_cons pe_int pa_nil)) (pg_name (i := 3) scLaw.nd rfl (.inl rfl)) (pss_cons (ps_setLc (i := 6) (own := [("_law_again", 4)]) (g := gName 4) (by rfl) scLaw.nd rfl rfl (sw_true rfl rfl rfl (by decide +kernel)) (pi_range1 (by rfl) mr (pa_cons pe_int pa_nil)) (blkOk_by (own := [("_law_again", 4)]) (N := nLaw) (sc := defScope tLaw) (by decide +kernel))
        (fun _ _ _ _ _ => pg_name (i := 4) scLaw.nd rfl (.inl rfl)) (fun _ _ _ _ _ => pts_nil)
        (fun _ _ _ _ _ => pe_lc (own := [("_law_k", 5)]) (g := gName 5) (by rfl) scLaw.nd (pi_range1 (by rfl) mr (pa_cons pe_int pa_nil)) (blk_in (scope := scOut) (blkOk_by (own := [("_law_k", 5)]) (N := nLaw) (sc := scOut) (by decide +kernel)) (by decide +kernel))
          (fun _ _ _ _ _ => pg_name (i := 5) scLaw.nd rfl (.inl rfl)) (fun _ _ _ _ _ => pts_nil)
          (fun _ _ _ _ _ => pe_call G3 hr (by rfl) g3 k3 b3 .nil pass0 (pa_cons (pv 1) (pa_cons pe_int pa_nil))))) (pss_cons (ps_set (i := 7) scLaw.nd rfl (.inl rfl) (pe_call G4 hr (by rfl) g4 k4 b4 .nil pass0 (pa_cons (pv 1) (pa_cons (pe_call G2 hr (by rfl) g2 k2 b2 .nil pass0 (pa_cons (pv 1) (pa_cons pe_int pa_nil))) pa_nil)))) (pss_cons (ps_set (i := 8) scLaw.nd rfl (.inl rfl) (pe_call G9 hr (by rfl) g9 k9 b9 .nil pass0 (pa_cons (pv 7) pa_nil))) (pss_one (ps_for PassesOwn.never rfl (pi_list (pv 6)) (pg_name (i := 9) scLaw.nd rfl (.inl rfl)) (pss_cons (ps_set (i := 10) scLaw.nd rfl (.inl rfl) (pv 8)) (pss_cons (ps_for PassesOwn.never rfl (pi_range1 (by rfl) mr (pa_cons (pe_op op_add pe_int (pe_call G5 hr (by rfl) g5 k5 b5 .nil pass0 (pa_cons (pv 9) (pa_cons pe_int pa_nil)))) pa_nil)) (pg_name (i := 11) scLaw.nd rfl (.inl rfl)) (pss_one (ps_set (i := 10) scLaw.nd rfl (.inl rfl) (pe_call G6 hr (by rfl) g6 k6 b6 .nil pass0 (pa_cons (pv 9) (pa_cons (pv 10) (pa_cons (pv 2) pa_nil))))))) (pss_one (ps_if (PW.pt (pw_or (pt_not (pt_val (pe_callG G7 still hr (by rfl) g7 k7 b7 .nil pass0 (pa_cons (pv 10) pa_nil)))) (pw_or1 (pt_cmpR op_ne (pe_callG G8 still hr (by rfl) g8 k8 b8 .nil pass0 (pa_cons (pv 8) pa_nil)) (pe_callB (call_showU (n := 170) still hu) (by rfl) mp PyProof.Rows.boot_repr (pa_cons (pv 7) pa_nil)) (nomark _))))) (pss_one (ps_ret pe_bl)) pss_nil)))))))))) (pss_cons (ps_for PassesOwn.never rfl (pi_list (pe_lst (pa_cons pe_non (pa_cons pe_int (pa_cons pe_bl (pa_cons (pe_tup pa_nil) (pa_cons (pe_lst pa_nil) (pa_cons pe_dnewK (pa_cons (pe_tup (pa_cons (pv 8) pa_nil)) (pa_cons (pe_lst (pa_cons (pv 8) pa_nil)) (pa_cons (pv 7) pa_nil))))))))))) (pg_name (i := 12) scLaw.nd rfl (.inl rfl)) (pss_one (ps_if (pt_cmpR op_isnot_bl (pe_callG G8 still hr (by rfl) g8 k8 b8 .nil pass0 (pa_cons (pv 12) pa_nil)) pe_bl (nomark _)) (pss_one (ps_ret pe_bl)) pss_nil))) (pss_cons (ps_set (i := 13) scLaw.nd rfl (.inl rfl) (pe_str)) (pss_cons (ps_for PassesOwn.never rfl (pi_range1 (by rfl) mr (pa_cons pe_int pa_nil)) (pg_name (i := 5) scLaw.nd rfl (.inl rfl)) (pss_one (ps_set (i := 13) scLaw.nd rfl (.inl rfl) (pe_op op_add_str (pe_op op_add_str (pe_op op_add_str (pe_ix ix_list (pe_lst (pa_cons pe_str (pa_cons pe_str pa_nil))) (pe_call G3 hr (by rfl) g3 k3 b3 .nil pass0 (pa_cons (pv 1) (pa_cons pe_int pa_nil))) (fun _ _ => rfl)) (pv 13)) pe_str) (pv 13))))) (pss_cons (ps_if (PW.pt (pw_or (pt_not (pt_val (pe_callG G7 still hr (by rfl) g7 k7 b7 .nil pass0 (pa_cons (pv 13) pa_nil)))) (pw_or1 (pt_not (pt_val (pe_callG G7 still hr (by rfl) g7 k7 b7 .nil pass0 (pa_cons (pe_slice sl_str (pv 13) po_none (po_some (pe_call G3 hr (by rfl) g3 k3 b3 .nil pass0 (pa_cons (pv 1) (pa_cons (pe_callB call_len_str (by rfl) ml PySem.boot_len (pa_cons (pv 13) pa_nil)) pa_nil))))) pa_nil))))))) (pss_one (ps_ret pe_bl)) pss_nil) (pss_cons (ps_for PassesOwn.never rfl (pi_list (pe_lst (pa_cons pe_str (pa_cons pe_str (pa_cons pe_str (pa_cons pe_str (pa_cons pe_str (pa_cons pe_str (pa_cons pe_str (pa_cons pe_str (pa_cons pe_str pa_nil))))))))))) (pg_name (i := 12) scLaw.nd rfl (.inl rfl)) (pss_one (ps_if (pt_not (pt_val (pe_callG G7 still hr (by rfl) g7 k7 b7 .nil pass0 (pa_cons (pv 12) pa_nil)))) (pss_one (ps_ret pe_bl)) pss_nil))) (pss_one (ps_ret (pe_cmpR op_eq (pe_callG G8 still hr (by rfl) g8 k8 b8 .nil pass0 (pa_cons pe_str pa_nil)) (pe_callB (call_showU (n := 170) still hu) (by rfl) mp PyProof.Rows.boot_repr (pa_cons (pe_tup (pa_cons pe_str (pa_cons (pe_tup (pa_cons pe_str (pa_cons pe_str pa_nil))) (pa_cons (pe_tup (pa_cons pe_str pa_nil)) pa_nil)))) pa_nil)) (nomark _))))))))))), ?_⟩
  have e0 : sizeLine = 16777216 := rfl
  refine ⟨_, rfl, a, ns, rfl, hS, hl, fun d c H1 s1 dk1 => ?_⟩
  have tb1 := tb.same s1
  refine ⟨(by show 14 ≤ sizeLine; decide), fun mA nmA => ?_⟩
  have s2 := newS (o := .lst (menu.map V.str)) nmA
  have offm := dk1.off nmA
  refine ⟨5, rfl, by decide, by decide, for_range (lo := 0) (n := 5) (fun i σ G => ∃ y3 y4 y5 y6 y7 y8 y9 y10 y11, σ = [some (.ref a), some (.ref d), some (.ref mA), y3, y4, y5, y6, y7, y8, y9, y10, y11, none, none] ∧ Dk G d c ∧ TbS T G ∧ G mA = some (.lst (menu.map V.str)) ∧ (i ≠ 0 → ∃ (v : V) (k : Kt), y7 = some v ∧ y8 = some (.str k.tx) ∧ Kz' k ∧ Dd Non G k.d v))
    ⟨_, _, _, _, _, _, _, _, _, rfl, dk1.same s2, tb1.same s2, upd_same, fun h => absurd rfl h⟩ (fun i σ G hi z => ?_) (fun σ G z => ?_)⟩
  · obtain ⟨y3, y4, y5, y6, y7, y8, y9, y10, y11, rfl, dkG, tbG, gm, _⟩ := z
    refine ⟨3, rfl, by decide, by decide, fun D nD => ?_⟩
    have offD := dkG.off nD
    have mD : mA ≠ D := ne_of_none gm nD
    refine lc_range (lo := 0) (n := 3) (fun i F => Dk F d c ∧ TbS T F ∧ F mA = some (.lst (menu.map V.str)) ∧ ∃ ks : List Addr, ks.length = i ∧ Pks d c D ks F ∧ ∀ k ∈ ks, k ≠ mA) ⟨dkG.put offD.1 offD.2, TbS.nw tbG nD, by rw [upd_ne mD]; exact gm, [], rfl, ⟨upd_same, List.nodup_nil, fun _ z => absurd z List.not_mem_nil⟩, fun _ z => absurd z List.not_mem_nil⟩ (fun i2 F hi2 z => ?_) (fun F z => ?_)
    · obtain ⟨dkF, tbF, gmF, ks, lk, pF, km⟩ := z
      refine ⟨rfl, 16, rfl, by decide, by decide, fun D2 nD2 => ?_⟩
      have off2 := dkF.off nD2
      have mD2 : mA ≠ D2 := ne_of_none gmF nD2
      have D2D : D2 ≠ D := fun z => by
        rw [z, pF.at_] at nD2
        cases nD2
      have D2k : D2 ∉ ks := fun z => by
        obtain ⟨⟨ns, e⟩, _⟩ := pF.pk D2 z
        rw [e] at nD2
        cases nD2
      refine lc_range (lo := 0) (n := 16) (fun j F2 => Dk F2 d c ∧ TbS T F2 ∧ F2 mA = some (.lst (menu.map V.str)) ∧ Pks d c D ks F2 ∧ ∃ ns : List Int, ns.length = j ∧ F2 D2 = some (.lst (ns.map V.int))) ⟨dkF.put off2.1 off2.2, TbS.nw tbF nD2, by rw [upd_ne mD2]; exact gmF, pF.put D2D D2k, [], rfl, upd_same⟩ (fun j F2 hj z => ?_) (fun F2 z => ?_)
      · obtain ⟨dk2, tb2, gm2, p2, ns2, ln, g2⟩ := z
        refine ⟨rfl, _, rfl, d, c, 55440, rfl, dk2, by decide, by decide, fun r G3 r0 r1 kp3 dk3 => ?_⟩
        have g3 := kp3 D2 _ off2.1 off2.2 g2
        refine ⟨_, g3, by rw [List.length_map]; exact small1000 (by omega), dk3.put off2.1 off2.2, TbS.put (TbS.kp tb2 kp3 dk2) g3, by rw [upd_ne mD2]; exact kp3 mA _ offm.1 offm.2 gm2, (p2.kp kp3 offD.1 offD.2).put D2D D2k, ns2 ++ [r], by rw [List.length_append, ln]; rfl, ?_⟩
        rw [upd_same, List.map_append]
        rfl
      · obtain ⟨dk2, tb2, gm2, p2, ns2, ln, g2⟩ := z
        refine ⟨_, p2.at_, by rw [List.length_map]; exact small1000 (by omega), dk2.put offD.1 offD.2, TbS.put tb2 p2.at_, by rw [upd_ne mD]; exact gm2, ks ++ [D2], by rw [List.length_append, lk]; rfl, ⟨?_, ?_, fun k hk => ?_⟩, fun k hk => ?_⟩
        · rw [upd_same, List.map_append]
          rfl
        · exact List.nodup_append.mpr ⟨p2.nd, List.nodup_cons.mpr ⟨List.not_mem_nil, List.nodup_nil⟩, fun x hx y hy => by
            rw [List.mem_singleton.mp hy]
            exact fun z => D2k (by rw [← z]; exact hx)⟩
        · rcases List.mem_append.mp hk with z | z
          · obtain ⟨⟨ns, e⟩, h1, h2, h3⟩ := p2.pk k z
            exact ⟨⟨ns, by rw [upd_ne h3]; exact e⟩, h1, h2, h3⟩
          · rw [List.mem_singleton.mp z]
            exact ⟨⟨ns2, by rw [upd_ne D2D]; exact g2⟩, off2.1, off2.2, D2D⟩
        · rcases List.mem_append.mp hk with z | z
          · exact km k z
          · rw [List.mem_singleton.mp z]
            exact Ne.symm mD2
    obtain ⟨dkF, tbF, gmF, ks, lk, pF, km⟩ := z
    -- the kind, its text
    refine ⟨_, rfl, _, rfl, d, c, rfl, dkF, fun o xs G2 kp2 dk2 no ho n4 => ?_⟩
    have offo := dkF.off no
    have lx : xs.length = 4 := n4.len
    refine ⟨d, c, o, xs, rfl, dk2, ho, offo.1, offo.2, by omega, by omega, n4.nm, fun v kk G3 kp3 dk3 dv kz => ?_⟩
    have kpA := kp2.trans kp3
    have tb3 := TbS.kp tbF kpA dkF
    have p3 := pF.kp kpA offD.1 offD.2
    have gm3 := kpA mA _ offm.1 offm.2 gmF
    have dptk := dp_tk kk
    have kzt := kz.tk
    refine ⟨_, rfl, kk, v, rfl, by omega, dv.any, kz.wt, fun G4 s4 => ?_⟩
    have lw4 : Lw T d c D mA ks kk.d v G4 := ⟨⟨dk3.same s4, tb3.same s4, p3.same s4, dv.same s4⟩, s4 _ _ gm3⟩
    have kbt := kz.bt
    refine ⟨_, rfl, D, rfl, ⟨_, SqL.of lw4.lq.pks.at_⟩, for_list (xs := ks.map V.ref) (fun j σ G => ∃ y9 y10 y11, σ = [some (.ref a), some (.ref d), some (.ref mA), some (.int (0 + (i : Int))), y4, y5, some (.ref D), some v, some (.str kk.tx), y9, y10, y11, none, none] ∧ Lw T d c D mA ks kk.d v G) ⟨_, _, _, rfl, lw4⟩ (fun j σ G _ z => ?_) (fun j u σ G hu z => ?_) (fun σ G z => ?_)⟩
    · obtain ⟨_, _, _, _, lw⟩ := z
      exact SqL.of lw.lq.pks.at_
    · obtain ⟨y9, y10, y11, rfl, lw⟩ := z
      obtain ⟨k, rfl, hkm⟩ : ∃ k, u = .ref k ∧ k ∈ ks := by
        rw [List.getElem?_map] at hu
        cases hq : ks[j]? with
        | none => rw [hq] at hu; cases hu
        | some k =>
          rw [hq] at hu
          exact ⟨k, (Option.some.inj hu).symm, List.mem_of_getElem? hq⟩
      refine ⟨_, rfl, _, rfl, k, 2, rfl, (lw.lq.pks.pk k hkm).1, by decide, fun r G7 r0 r1 kb7 pk7 => ⟨_, _, rfl, rfl, ?_⟩⟩
      have lw7 := lw.kb hkm (km k hkm) kb7 pk7
      obtain ⟨m, rfl⟩ : ∃ m : Nat, r = (m : Int) := ⟨r.toNat, by omega⟩
      rw [show ((fun i j => V.int (i + j)) (1 : Int) (m : Int)) = V.int (((1 + m : Nat)) : Int) from congrArg V.int (by omega)]
      refine ⟨((1 + m : Nat) : Int), rfl, by omega, by omega, for_range (lo := 0) (n := 1 + m) (fun i2 σ G => ∃ (y11 : Option V) (bt : Str) (L N : Nat), σ = [some (.ref a), some (.ref d), some (.ref mA), some (.int (0 + (i : Int))), y4, y5, some (.ref D), some v, some (.str kk.tx), some (.ref k), some (.str bt), y11, none, none] ∧ Lw T d c D mA ks kk.d v G ∧ Bt L N bt ∧ L + 10 ≤ 865 * 3 ^ i2 ∧ N ≤ 94 + 2 * i2)
        ⟨_, kk.tx, 855, 94, rfl, lw7, kbt, by decide, Nat.le_refl _⟩ (fun i2 σ G hi2 z => ?_) (fun σ G z => ?_)⟩
      · obtain ⟨y11, bt, L, N, rfl, lwG, hb, hL, hN⟩ := z
        have p1 : (3 : Nat) ^ i2 ≤ 3 ^ 1 := Nat.pow_le_pow_right (by decide) (by omega)
        have p2 : (3 : Nat) ^ (i2 + 1) = 3 ^ i2 * 3 := Nat.pow_succ _ _
        have p3 : (3 : Nat) ^ 1 = 3 := rfl
        refine ⟨_, rfl, _, rfl, _, rfl, k, mA, bt, menu, L, N, rfl, (lwG.lq.pks.pk k hkm).1, lwG.mn, Ne.symm (km k hkm), menu_ok, hb, by omega, fun y G8 kb8 pk8 hy => ?_⟩
        exact ⟨_, y, 3 * L + 20, N + 2, rfl, lwG.kb hkm (km k hkm) kb8 pk8, hy, by omega, by omega⟩
      · obtain ⟨y11, bt, L, N, rfl, lwG, hb, hL, hN⟩ := z
        have p1 : (3 : Nat) ^ (1 + m) ≤ 3 ^ 2 := Nat.pow_le_pow_right (by decide) (by omega)
        have p3 : (3 : Nat) ^ 2 = 9 := rfl
        have q1 := hb.asc.len
        have q2 := hb.nb
        have q3 := kbt.asc.len
        have q4 := kbt.nb
        refine ⟨_, rfl, bt, rfl, by omega, by omega, lwG.lq.tb, fun G9 s9 => ⟨_, rfl, iteF ?_⟩⟩
        have lw9 := lwG.sm s9
        refine ⟨_, rfl, _, .str kk.tx, rfl, .str _, lw9.lq.tb, (fun h => Bool.noConfusion (show true = false from h)), fun z hz => ?_⟩
        cases hz
        refine ⟨by omega, by omega, fun k2 hk2 Gx sx => ?_, fun hno => absurd kz.rk (hno kk)⟩
        have e := kd_uniq kz.rk.1 hk2.1
        subst e
        have lwx := lw9.sm sx
        refine ⟨_, rfl, v, kk.d, rfl, lwx.lq.tm.any, kz.kw.shw, rfl, _, rfl, ite2 (fun e => ?_) (fun _ => ?_)⟩
        · exfalso
          simp at e
        · exact ⟨_, _, _, rfl, lwx⟩
    · obtain ⟨y9, y10, y11, rfl, lw⟩ := z
      exact ⟨_, _, _, _, _, _, _, _, _, rfl, lw.lq.dk, lw.lq.tb, lw.mn, fun _ => ⟨v, kk, rfl, rfl, kz, lw.lq.tm⟩⟩
  obtain ⟨y3, y4, y5, y6, y7, y8, y9, y10, y11, rfl, dkG, tbG, gm, hkk⟩ := z
  obtain ⟨v, kk, rfl, rfl, kz, dv⟩ := hkk (by decide)
  -- what is no text
  refine ⟨Nat.zero_le _, fun a1 n1 => ⟨Nat.zero_le _, fun a2 n2 => fun a3 n3 => ⟨_, rfl, (by show 1 ≤ sizeLine; decide), fun a4 n4 => ⟨_, rfl, (by show 1 ≤ sizeLine; decide), fun a5 n5 => ⟨_, rfl, (by show 9 ≤ sizeLine; decide), fun p7 n7 => ?_⟩⟩⟩⟩⟩
  have t1 := newS (o := .tup []) n1
  have t2 := newS (o := .lst []) n2
  have t3 := newS (o := .dK []) n3
  have t4 := newS (o := .tup [V.str kk.tx]) n4
  have t5 := newS (o := .lst [V.str kk.tx]) n5
  have t6 := newS (o := .lst [V.non, .int 7, .bl true, .ref a1, .ref a2, .ref a3, .ref a4, .ref a5, v]) n7
  have LL : DdL Any _ [.non, .int 7, .bl true, .tup [], .lst [], .dct [], .tup [.str kk.tx], .lst [.str kk.tx], kk.d] [V.non, .int 7, .bl true, .ref a1, .ref a2, .ref a3, .ref a4, .ref a5, v] :=
    .cons .non (.cons (.int _) (.cons (.bl _) (.cons (.tup (t6 _ _ (t5 _ _ (t4 _ _ (t3 _ _ (t2 _ _ upd_same))))) .nil) (.cons (.lst True.intro (t6 _ _ (t5 _ _ (t4 _ _ (t3 _ _ upd_same)))) .nil) (.cons (.dct True.intro (t6 _ _ (t5 _ _ (t4 _ _ upd_same)))) (.cons (.tup (t6 _ _ (t5 _ _ upd_same)) (.cons (.str _) .nil)) (.cons (.lst True.intro (t6 _ _ upd_same) (.cons (.str _) .nil)) (.cons ((dv.any).same (((((t1.trans t2).trans t3).trans t4).trans t5).trans t6)) .nil))))))))
  have tA : Same G _ := ((((t1.trans t2).trans t3).trans t4).trans t5).trans t6
  have g7 : (upd (upd (upd (upd (upd (upd G a1 (.tup [])) a2 (.lst [])) a3 (.dK [])) a4 (.tup [V.str kk.tx])) a5 (.lst [V.str kk.tx])) p7 (.lst [V.non, .int 7, .bl true, .ref a1, .ref a2, .ref a3, .ref a4, .ref a5, v])) p7 = some (.lst [V.non, .int 7, .bl true, .ref a1, .ref a2, .ref a3, .ref a4, .ref a5, v]) := upd_same
  have dk7 := dkG.same tA
  have tb7 := tbG.same tA
  generalize upd (upd (upd (upd (upd (upd G a1 (.tup [])) a2 (.lst [])) a3 (.dK [])) a4 (.tup [V.str kk.tx])) a5 (.lst [V.str kk.tx])) p7 (.lst [V.non, .int 7, .bl true, .ref a1, .ref a2, .ref a3, .ref a4, .ref a5, v]) = G7 at LL g7 dk7 tb7
  have RR : ∀ y ∈ ([.non, .int 7, .bl true, .tup [], .lst [], .dct [], .tup [.str kk.tx], .lst [.str kk.tx], kk.d] : List Dt), y.isStr = false := fun y hy => by
    simp only [List.mem_cons, List.not_mem_nil, or_false] at hy
    rcases hy with rfl | rfl | rfl | rfl | rfl | rfl | rfl | rfl | rfl
    all_goals first | rfl | (rw [Kt.d_eq]; rfl)
  generalize ([.non, .int 7, .bl true, .tup [], .lst [], .dct [], .tup [.str kk.tx], .lst [.str kk.tx], kk.d] : List Dt) = zs at LL RR
  refine ⟨p7, rfl, ⟨_, SqL.of g7⟩, for_list (xs := [V.non, .int 7, .bl true, .ref a1, .ref a2, .ref a3, .ref a4, .ref a5, v]) (fun j σ G => ∃ y12, σ = [some (.ref a), some (.ref d), some (.ref mA), y3, y4, y5, y6, some v, some (.str kk.tx), y9, y10, y11, y12, none] ∧ Dk G d c ∧ TbS T G ∧ G p7 = some (.lst [V.non, .int 7, .bl true, .ref a1, .ref a2, .ref a3, .ref a4, .ref a5, v]) ∧ DdL Any G zs [V.non, .int 7, .bl true, .ref a1, .ref a2, .ref a3, .ref a4, .ref a5, v]) ⟨_, rfl, dk7, tb7, g7, LL⟩ (fun j σ G _ z => ?_) (fun j u σ G hu z => ?_) (fun σ G z => ?_)⟩
  · obtain ⟨_, _, _, _, g, _⟩ := z
    exact SqL.of g
  · obtain ⟨y12, rfl, dkx, tbx, gx, Lx⟩ := z
    obtain ⟨y, hy, ry⟩ := Lx.get hu
    have hns := RR y (List.mem_of_getElem? hy)
    refine ⟨_, rfl, u, y, rfl, ry, tbx, fun _ Gx sx => ⟨_, _, rfl, rfl, _, rfl, isn rfl ⟨_, rfl, dkx.sm tbx sx, sx.2, sx.at tbx gx (fun _ z => by cases z), Lx.kn (sx.kn tbx)⟩⟩, fun z hz => ?_⟩
    rw [hz] at hns
    exact Bool.noConfusion (show true = false from hns)
  obtain ⟨y12, rfl, dkx, tbx, _, _⟩ := z
  clear LL g7 dk7 tb7 RR t1 t2 t3 t4 t5 t6 tA
  -- a great one, and its beginning
  have v0 : (" " : Str).length = 1 := rfl
  have bs : Bt 1 1 (" " : Str) := ⟨ascLit (by decide +kernel) (by decide +kernel), by decide +kernel⟩
  have b2 : ∀ r : Int, 0 ≤ r → r < 2 → ∃ wd : Str, atI [V.str "pair ", V.str "either "] r = some (.str wd) ∧ Bt 7 1 wd := fun r h0 h1 => by
    have er : r = 0 ∨ r = 1 := by omega
    rcases er with rfl | rfl
    · exact ⟨_, rfl, ascLit (by decide +kernel) (by decide +kernel), by decide +kernel⟩
    · exact ⟨_, rfl, ascLit (by decide +kernel) (by decide +kernel), by decide +kernel⟩
  have ap : ∀ (u y : Str), (u ++ y).length = u.length + y.length := fun u y => by
    rw [TL.len_tl, TL.tl_append, List.length_append, ← TL.len_tl, ← TL.len_tl]
  refine ⟨6, rfl, by decide, by decide, for_range (lo := 0) (n := 6) (fun i σ G => ∃ (y5 : Option V) (g : Str) (L N : Nat), σ = [some (.ref a), some (.ref d), some (.ref mA), y3, y4, y5, y6, some v, some (.str kk.tx), y9, y10, y11, y12, some (.str g)] ∧ Dk G d c ∧ TbS T G ∧ 1 ≤ g.length ∧ Bt L N g ∧ L + 8 ≤ 13 * 2 ^ i ∧ N + 2 ≤ 2 * 2 ^ i)
    ⟨_, "truth", 5, 0, rfl, dkx, tbx, by decide +kernel, ⟨ascLit (by decide +kernel) (by decide +kernel), by decide +kernel⟩, by decide, by decide⟩ (fun i σ G hi z => ?_) (fun σ G z => ?_)⟩
  · obtain ⟨y5, g, L, N, rfl, dkG, tbG, hg, hb, hL, hN⟩ := z
    have p1 : (2 : Nat) ^ i ≤ 2 ^ 5 := Nat.pow_le_pow_right (by decide) (by omega)
    have p2 : (2 : Nat) ^ (i + 1) = 2 ^ i * 2 := Nat.pow_succ _ _
    have p3 : (2 : Nat) ^ 5 = 32 := rfl
    have q1 := hb.asc.len
    refine ⟨(by show 2 ≤ sizeLine; decide), fun l nl => ?_⟩
    have sl := newS (o := .lst [V.str "pair ", .str "either "]) nl
    have offl := dkG.off nl
    refine ⟨_, rfl, d, c, 2, rfl, dkG.same sl, by decide, by decide, fun r G2 r0 r1 kp2 dk2 => ?_⟩
    obtain ⟨wd, hwd, hbw⟩ := b2 r r0 r1
    have q2 := hbw.asc.len
    have u1 := bt_app (bt_app (bt_app hbw hb) bs) hb
    refine ⟨l, _, _, _, rfl, rfl, SqL.of (kp2 l _ offl.1 offl.2 upd_same), hwd, _, rfl, _, _, rfl, rfl, by omega, _, _, rfl, rfl, by rw [ap, v0]; omega, _, rfl, _, _, rfl, rfl, by rw [ap, ap, v0]; omega, ?_⟩
    exact ⟨_, _, _, _, rfl, dk2, TbS.kp (tbG.same sl) kp2 (dkG.same sl), by rw [ap, ap, ap, v0]; omega, u1, by omega, by omega⟩
  obtain ⟨y5', g, L, N, rfl, dkG, tbG, hg, hb, hL, hN⟩ := z
  have p3 : (2 : Nat) ^ 6 = 64 := rfl
  have q1 := hb.asc.len
  have q2 := hb.nb
  refine ⟨_, rfl, g, rfl, by omega, by omega, tbG, fun G2 s2 => ⟨_, rfl, iteF ?_⟩⟩
  have dk2 := dkG.sm tbG s2
  refine ⟨_, rfl, _, rfl, _, rfl, g, rfl, by omega, d, c, _, rfl, dk2, by omega, by omega, fun r G3 r0 r1 kp3 dk3 => ?_⟩
  obtain ⟨n, rfl⟩ : ∃ n : Nat, r = (n : Int) := ⟨r.toNat, by omega⟩
  have tb3 := TbS.kp s2.2 kp3 dk2
  have hc := bt_hi hb n
  have q3 := hc.asc.len
  have q4 := hc.nb
  refine ⟨(n : Int), rfl, g, rfl, by omega, _, rfl, by omega, by omega, tb3, fun G4 s4 => ⟨_, rfl, iteF ?_⟩⟩
  -- texts as they are written here
  refine ⟨(by show 9 ≤ sizeLine; decide), fun l nl => ?_⟩
  have sl := newS (o := .lst (fixed.map V.str)) nl
  refine ⟨l, rfl, ⟨_, SqL.of upd_same⟩, for_list (xs := fixed.map V.str) (fun j σ G => ∃ y12, σ = [some (.ref a), some (.ref d), some (.ref mA), y3, y4, y5', y6, some v, some (.str kk.tx), y9, y10, y11, y12, some (.str g)] ∧ TbS T G ∧ G l = some (.lst (fixed.map V.str))) ⟨_, rfl, s4.2.same sl, upd_same⟩ (fun j σ G _ z => ?_) (fun j u σ G hu z => ?_) (fun σ G z => ?_)⟩
  · obtain ⟨_, _, _, g⟩ := z
    exact SqL.of g
  · obtain ⟨y12', rfl, tbx, gx⟩ := z
    rw [List.getElem?_map] at hu
    obtain ⟨x, hx, rfl⟩ := Option.map_eq_some_iff.mp hu
    obtain ⟨f1, f2⟩ := fixed_ok x (List.mem_of_getElem? hx)
    exact ⟨_, rfl, x, rfl, f1, f2, tbx, fun Gx sx => ⟨_, rfl, iteF ⟨_, rfl, sx.2, sx.at tbx gx (fun _ z => by cases z)⟩⟩⟩
  obtain ⟨y12', rfl, tbx, gx⟩ := z
  refine ⟨_, .str "fun open a num", rfl, .str _, tbx, (fun h => Bool.noConfusion (show true = false from h)), fun z hz => ?_⟩
  cases hz
  refine ⟨by decide +kernel, by decide +kernel, fun k2 hk2 Gx sx => ?_, fun hno => absurd kL_rk (hno kL)⟩
  have e := kd_uniq kL_rk.1 hk2.1
  subst e
  refine ⟨(by show 2 ≤ sizeLine; decide), fun p1 n1 => ⟨(by show 1 ≤ sizeLine; decide), fun p2 n2 => ⟨(by show 3 ≤ sizeLine; decide), fun p3 n3 => ?_⟩⟩⟩
  have t1 := newS (o := .tup [.str "open", .str "a"]) n1
  have t2 := newS (o := .tup [.str "num"]) n2
  have t3 := newS (o := .tup [.str "fun", .ref p1, .ref p2]) n3
  refine ⟨.ref p3, kL.d, rfl, ?_, (kL_rk.kw (by decide +kernel)).shw, rfl, ?_⟩
  · exact .tup upd_same (.cons (.str _) (.cons (.tup (t3 _ _ (t2 _ _ upd_same)) (.cons (.str _) (.cons (.str _) .nil))) (.cons (.tup (t3 _ _ upd_same) (.cons (.str _) .nil)) .nil)))
  · have z := q (upd (upd (upd Gx p1 (.tup [.str "open", .str "a"])) p2 (.tup [.str "num"])) p3 (.tup [.str "fun", .ref p1, .ref p2]))
    show Q (.bl (decide (V.str kL.d.toP.shown = V.str kL.d.toP.shown))) _
    rw [decide_eq_true rfl]
    exact z
end
end Kq

/-! the end where some of the defs hold generator expressions -/
namespace Kg
open PySem PySem.Spec PyProof.Rows L2 LamX
/-- the def's code object, its table: empty -/
def TabOf (mg : Str → Option Value) (h : Heap) (x : Str) : Prop := ∃ (a : Addr) (o : Obj) (fd : FuncData) (c p : Addr), mg x = some (.ref a) ∧ h.get? a = some o ∧ o.data = .func fd ∧ fd.code = .ref c ∧ h.IsCode c p #[] ∧ h.TableAt c p #[]
theorem walk_ofNs {l : PySem.W.OpenLaw} {n k : Nat} {q : Program} {loose : List Str} {XP : (Str → Option Value) → Heap → Prop} {YP : World → Heap → Prop} {d : DefRec} {K : Params → PySem.W.Frag} {CX : World → CXT} {x : Str} (names : List Str)
    (hn : l.most = some n) (hn2 : n ≤ sizeLine) (hdf : d.params.defaults = []) (hr : Room k callerA) (hrec : (names.all fun y => (recsOf q).any fun e => e.name == y) = true) (hY : ∀ (w : World) (h : Heap), YP w h → (K w.params).In h)
    (F : ∀ (w : World) (mg : Str → Option Value) (fa : Addr) (h : Heap), YP w h → (K w.params).In h → h.Ns mainGlobals mg → mg d.name = some (.ref fa) → (∀ y ∈ names, TabOf mg h y) → LawAtS l w (K w.params) (CX w) k n x mg fa h)
    (hCX : ∀ (w : World) (H : Hp) (s : Shared) (e : Value) (s' : Shared), CX w [] H s (fun _ _ _ => False) e s' → False) :
    PySem.W.WalkO q loose XP YP l.row.toRowW d [] (fun f vs => PySem.call f vs) := by
  refine Att.attach_callB hn hdf fun w s₀ s₁ mg mb fa o pm cd doc a vs ns G Y ho hd hcd hmg hobj hints hlen hbits hg => ?_
  have KX := hY w _ Y
  have own : ∀ y ∈ names, TabOf mg s₁.heap y := fun y hy => by
    obtain ⟨dL, hm, hn1⟩ := List.any_eq_true.mp (List.all_eq_true.mp hrec y hy)
    have hn2 : dL.name = y := beq_iff_eq.mp hn1
    obtain ⟨a', o', fd', c', P', h1, h2, h3, h4, h5, h6⟩ := G.T.tab dL hm
    exact ⟨a', o', fd', c', P', by rw [← hn2]; exact h1, h2, h3, h4, h5, h6⟩
  obtain ⟨fd, cs, sp, hT, nT, C, hb, hsp, hF⟩ := F w mg fa _ Y KX G.T.g hmg own
  exact law_callTs KX G.T.g G.T.b G.T.builtins G.T.nolimit hg hT nT C G.T.bmain hobj hints (Nat.le_trans hlen hn2) hr hF hb (fun H hH hS => hsp H a ns hlen hbits hH hS) fun H e s' => hCX w H s₁ e s'
/-- such a def by what is written of it -/
theorem tabOf_at {K : PySem.W.Frag} {mg : Str → Option Value} {h : Heap} {x name qual : Str} {f c p : Addr} {params : Arguments} {body : List Stmt} {scope : Scope} {oc dV kV doc pm ct e : Value} {od an dd : Option Addr} {sl sl' : Array (Option Value)} {vs : Array Value} (X : K.In h) (T : TabOf mg h x) (g : mg x = some (.ref f))
    (l : K.lookup f = some ⟨oc, od, .func (PySem.W.fnOf name qual params body scope dV kV doc pm an (.ref c) ct), sl⟩) (t : K.lookup c = some ⟨e, dd, .fields vs, sl'⟩) (v : vs[11]? = some (.ref p)) :
    h.get? p = some { cls := .none, data := .fields #[] } ∧ PySem.W.CodeHd h c p := by
  obtain ⟨a', o', fd', c', P', h1, h2, h3, h4, h5, h6⟩ := T
  rw [g] at h1
  cases h1
  rw [X _ _ l] at h2
  cases h2
  cases h3
  cases h4
  obtain ⟨⟨oc', vc, e1, e2, e3, e4⟩, hP⟩ := id h6
  rw [X _ _ t] at e1
  cases e1
  cases e3
  rw [v] at e4
  cases e4
  exact ⟨hP, .of h5 h6⟩
end Kg

/-! classes held against one another, by what is written of them -/
namespace Kq
open PySem PySem.Spec PyProof.Rows L2 Kf Kg Kv GxR
section
variable {K : PySem.W.Frag} {t : Value} {n C : Addr} {b : Bool}
theorem kit_self : PySem.W.kitOne K (.ref n) (.ref n) = some true := by
  unfold PySem.W.kitOne
  rw [if_pos (by simp)]
theorem kit_cl (iC : PySem.W.isClsIn K C = true) (tC : PySem.W.typeIn K (.ref C) = some (.type "type")) (s : PySem.W.subIn K t (.ref C) = some b) : PySem.W.kitCls K t (.ref C) = some b := by
  unfold PySem.W.isClsIn at iC
  show (if ((PySem.W.clsIn K C).isSome && PySem.W.typeIn K (.ref C) == some (.type "type")) = true then PySem.W.subIn K t (.ref C) else none) = _
  rw [if_pos (by rw [iC, tC]; simp)]
  exact s
theorem kit_no (ne : (Value.ref n == Value.ref C) = false) (iC : PySem.W.isClsIn K C = true) (tC : PySem.W.typeIn K (.ref C) = some (.type "type")) (s : PySem.W.subIn K (.ref n) (.ref C) = some false) : PySem.W.kitOne K (.ref n) (.ref C) = some false := by
  unfold PySem.W.kitOne
  rw [if_neg (by rw [ne]; exact Bool.false_ne_true)]
  exact kit_cl iC tC s
theorem kit_tyV (s : PySem.W.subIn K (.ref n) (.type "ValueError") = some true) : PySem.W.kitOne K (.ref n) (.type "ValueError") = some true := by
  unfold PySem.W.kitOne
  rw [if_neg (show ¬ (Value.ref n == Value.type "ValueError") = true from Bool.false_ne_true)]
  show (if PySem.W.kitMeta "ValueError" = true then PySem.W.subIn K (.ref n) (.type "ValueError") else none) = _
  rw [if_pos (by decide +kernel)]
  exact s
theorem any_no {c : Value} {r : List Value} (h : PySem.W.kitOne K t c = some false) (k : PySem.W.kitAny K t r = some false) : PySem.W.kitAny K t (c :: r) = some false := by
  unfold PySem.W.kitAny
  rw [h]
  exact k
theorem exm_yes {c : Value} (sB : PySem.W.subIn K (.ref C) (.type "BaseException") = some true) (iC : PySem.W.isClsIn K C = true) (tC : PySem.W.typeIn K (.ref C) = some (.type "type")) (s : PySem.W.subIn K c (.ref C) = some true) : PySem.W.exmOne K c (.ref C) = some true := by
  unfold PySem.W.exmOne
  rw [if_pos (by rw [sB]; simp)]
  exact kit_cl iC tC s
end
/-- what is asked of a class that a refusal is no case of -/
structure Cls (K : PySem.W.Frag) (mg : Str → Option Value) (n C : Addr) (x : Str) : Prop where
  g : mg x = some (.ref C)
  no : PySem.W.kitOne K (.ref n) (.ref C) = some false
end Kq

namespace Kq
open PySem PySem.Spec PyProof.Rows L2 Kf Kg Kv GxR
def KeysAre : List DictEntry → List (Str × Value) → Prop
  | [], [] => True
  | e :: es, (x, v) :: xs => (∃ t, e.key = .str x t) ∧ e.val = v ∧ KeysAre es xs
  | _, _ => False
theorem find_keys (z : Str) : ∀ {es : List DictEntry} {xs : List (Str × Value)}, KeysAre es xs → (es.find? (·.key.isStr z)).map (·.val) = xs.lookup z ∧ es.any (·.refKey) = false
  | [], [], _ => ⟨rfl, rfl⟩
  | e :: es, (x, v) :: xs, h => by
    obtain ⟨⟨t, h1⟩, h2, h3⟩ := h
    obtain ⟨i1, i2⟩ := find_keys z h3
    have e1 : e.key.isStr z = (z == x) := by
      rw [h1]
      show (x == z) = (z == x)
      by_cases c : x = z
      · subst c
        rfl
      · rw [beq_eq_false_iff_ne.mpr c, beq_eq_false_iff_ne.mpr (Ne.symm c)]
    have e2 : e.refKey = false := by
      unfold DictEntry.refKey
      rw [h1]
    refine ⟨?_, by rw [List.any_cons, e2, i2]; rfl⟩
    rw [List.find?_cons, List.lookup_cons, e1]
    cases c : (z == x) with
    | true => exact congrArg some h2
    | false => exact i1
  | [], _ :: _, h => h.elim
  | _ :: _, [], h => h.elim
theorem ns_keys {K : PySem.W.Frag} {a : Addr} {es : Array DictEntry} {n : Nat} {xs : List (Str × Value)} (l : K.lookup a = some ⟨.type "dict", none, .dict es n, #[]⟩) (h : KeysAre es.toList xs) (z : Str) : PySem.W.nsIn K a z = some (xs.lookup z) := by
  obtain ⟨i1, i2⟩ := find_keys z h
  unfold PySem.W.nsIn
  rw [l]
  simp only
  cases c : es.toList.find? (·.key.isStr z) with
  | some e =>
    rw [c] at i1
    exact congrArg some i1
  | none =>
    rw [c] at i1
    simp only [i2]
    exact congrArg some i1
theorem upOk {P : Program} {w : World} {K : PySem.W.Frag} {mg : Str → Option Value} {base : Heap} {CX : CXT} {j k : Nat} {f : Addr} {fd : FuncData} {ps : List Str} {sp : Sp} (F : FnOk P w K mg base CX j f fd ps sp) (h : j ≤ k) : FnOk P w K mg base CX k f fd ps sp :=
  ⟨F.len, fun A outer s H args us vs Q E hr => F.run A outer s H args us vs Q E (hr.mono h)⟩
theorem tt_of {x : Str} {q : Program} {mg : Str → Option Value} {h : Heap} (hrec : ((recsOf q).any fun e => e.name == x) = true)
    (tabs : ∀ e ∈ recsOf q, ∃ (a : Addr) (o : Obj) (fd : FuncData) (c p : Addr), mg e.name = some (.ref a) ∧ h.get? a = some o ∧ o.data = .func fd ∧ fd.code = .ref c ∧ h.IsCode c p #[] ∧ h.TableAt c p #[]) : Kg.TabOf mg h x := by
  obtain ⟨dL, hm, hn1⟩ := List.any_eq_true.mp hrec
  obtain ⟨a', o', fd', c', P', h1, h2, h3, h4, h5, h6⟩ := tabs dL hm
  exact ⟨a', o', fd', c', P', by rw [← (beq_iff_eq.mp hn1)]; exact h1, h2, h3, h4, h5, h6⟩
theorem tabX {base : Heap} {mg : Str → Option Value} {c p : Addr} (t : LamX.TabB base mg c p) : GxR.TabB base mg c p := ⟨t.code, t.bm, t.gP⟩
inductive Rl2 (R : List Str → Value → Prop) : List (Str × List Str) → List (Str × Value) → Prop
  | nil : Rl2 R [] []
  | cons {z : Str} {rs : List Str} {u : Value} {xs : List (Str × List Str)} {ys : List (Str × Value)} : R rs u → Rl2 R xs ys → Rl2 R ((z, rs) :: xs) ((z, u) :: ys)
theorem Rl2.look {R : List Str → Value → Prop} (k : Str) : ∀ {xs : List (Str × List Str)} {ys : List (Str × Value)}, Rl2 R xs ys → (xs.lookup k = none → ys.lookup k = none) ∧ ∀ rs, xs.lookup k = some rs → ∃ u, ys.lookup k = some u ∧ R rs u
  | _, _, .nil => ⟨fun _ => rfl, fun _ h => by cases h⟩
  | _, _, .cons (z := z) (u := u) r t => by
    obtain ⟨h1, h2⟩ := t.look k
    rw [List.lookup_cons, List.lookup_cons]
    cases c : (k == z) with
    | true => exact ⟨fun h => (by cases h), fun rs h => ⟨u, rfl, by rw [← Option.some.inj h]; exact r⟩⟩
    | false => exact ⟨h1, h2⟩
theorem all_mk {l : PySem.W.OpenLaw} {w : World} {K : PySem.W.Frag} {h : Heap} {mg : Str → Option Value} {fa dA dC cN cK x1 x2 x3 x4 x5 x6 x7 x8 x9 x10 x11 x12 o1 o2 o3 o4 o5 o6 o7 f1 f2 f3 f4 f5 f6 f7 f8 f9 f10 f11 f12 f13 f14 f15 f16 f17 f18 f19 f20 f21 f22 f23 f24 f25 f26 f27 f28 f29 f30 f31 f32 f33 f34 f35 f36 f37 f38 f39 c1 p1 : Addr} (X : K.In h) (G : h.Ns mainGlobals mg) (hfa : mg "law" = some (.ref fa))
    (TT1 : Kg.TabOf mg h "is_name")
    {od1 an1 od2 an2 od3 an3 od4 an4 od5 an5 od6 an6 od7 an7 od8 an8 od9 an9 od10 an10 od11 an11 od12 an12 od13 an13 od14 an14 od15 an15 od16 an16 od17 an17 od18 an18 od19 an19 od20 an20 od21 an21 od22 an22 od23 an23 od24 an24 od25 an25 od26 an26 od27 an27 od28 an28 od29 an29 od30 an30 od31 an31 od32 an32 od33 an33 od34 an34 od35 an35 od36 an36 od37 an37 od38 an38 od39 an39 dd1 dT1 dT2 dT3 dT4 dT5 dT6 dT7 : Option Addr} {sl1 sl2 sl3 sl4 sl5 sl6 sl7 sl8 sl9 sl10 sl11 sl12 sl13 sl14 sl15 sl16 sl17 sl18 sl19 sl20 sl21 sl22 sl23 sl24 sl25 sl26 sl27 sl28 sl29 sl30 sl31 sl32 sl33 sl34 sl35 sl36 sl37 sl38 sl39 sm1 sT1 sT2 sT3 sT4 sT5 sT6 sT7 : Array (Option Value)} {es esC : Array DictEntry} {nD nC nT1 nT2 nT3 nT4 nT5 nT6 nT7 : Nat} {oc1 kV1 dc1 pm1 ct1 oc2 kV2 dc2 pm2 ct2 oc3 kV3 dc3 pm3 ct3 oc4 kV4 dc4 pm4 ct4 oc5 kV5 dc5 pm5 ct5 oc6 kV6 dc6 pm6 ct6 oc7 kV7 dc7 pm7 ct7 oc8 kV8 dc8 pm8 ct8 oc9 kV9 dc9 pm9 ct9 oc10 kV10 dc10 pm10 ct10 oc11 kV11 dc11 pm11 ct11 oc12 kV12 dc12 pm12 ct12 oc13 kV13 dc13 pm13 ct13 oc14 kV14 dc14 pm14 ct14 oc15 kV15 dc15 pm15 ct15 oc16 kV16 dc16 pm16 ct16 oc17 kV17 dc17 pm17 ct17 oc18 kV18 dc18 pm18 ct18 oc19 kV19 dc19 pm19 ct19 oc20 kV20 dc20 pm20 ct20 oc21 kV21 dc21 pm21 ct21 oc22 kV22 dc22 pm22 ct22 oc23 kV23 dc23 pm23 ct23 oc24 kV24 dc24 pm24 ct24 oc25 kV25 dc25 pm25 ct25 oc26 kV26 dc26 pm26 ct26 oc27 kV27 dc27 pm27 ct27 oc28 kV28 dc28 pm28 ct28 oc29 kV29 dc29 pm29 ct29 oc30 kV30 dc30 pm30 ct30 oc31 kV31 dc31 pm31 ct31 oc32 kV32 dc32 pm32 ct32 oc33 kV33 dc33 pm33 ct33 oc34 kV34 dc34 pm34 ct34 oc35 kV35 dc35 pm35 ct35 oc36 kV36 dc36 pm36 ct36 oc37 kV37 dc37 pm37 ct37 oc38 kV38 dc38 pm38 ct38 oc39 kV39 dc39 pm39 ct39 cd2 cd3 cd4 cd5 cd6 cd7 cd8 cd9 cd10 cd11 cd12 cd13 cd14 cd15 cd16 cd17 cd18 cd19 cd20 cd21 cd22 cd23 cd24 cd25 cd26 cd27 cd28 cd29 cd30 cd31 cd32 cd33 cd34 cd35 cd36 cd37 cd38 cd39 e1 uL uN y1 y2 y3 y4 y5 y6 : Value} {vs1 iT1 iT2 iT3 iT4 iT5 iT6 iT7 : Array Value}
    (a1 : PySem.W.nsIn K mainGlobals "is_name" = some (some (.ref f1))) (l1 : K.lookup f1 = some ⟨oc1, od1, .func (PySem.W.fnOf "is_name" "is_name" (defArgs tName) (defBody tName) (defScope tName) .none kV1 dc1 pm1 an1 (.ref c1) ct1), sl1⟩)
      (q1 : PySem.W.codeIn K (.ref c1) "is_name" = true) (k1 : PySem.W.keepIn K (.ref f1) = true)
    (a2 : PySem.W.nsIn K mainGlobals "is_tagged" = some (some (.ref f2))) (l2 : K.lookup f2 = some ⟨oc2, od2, .func (PySem.W.fnOf "is_tagged" "is_tagged" (defArgs tTagged) (defBody tTagged) (defScope tTagged) .none kV2 dc2 pm2 an2 cd2 ct2), sl2⟩)
      (q2 : PySem.W.codeIn K cd2 "is_tagged" = true) (k2 : PySem.W.keepIn K (.ref f2) = true)
    (a3 : PySem.W.nsIn K mainGlobals "is_data" = some (some (.ref f3))) (l3 : K.lookup f3 = some ⟨oc3, od3, .func (PySem.W.fnOf "is_data" "is_data" (defArgs tIsData) (defBody tIsData) (defScope tIsData) .none kV3 dc3 pm3 an3 cd3 ct3), sl3⟩)
      (q3 : PySem.W.codeIn K cd3 "is_data" = true) (k3 : PySem.W.keepIn K (.ref f3) = true)
    (a4 : PySem.W.nsIn K mainGlobals "has_data_form" = some (some (.ref f4))) (l4 : K.lookup f4 = some ⟨oc4, od4, .func (PySem.W.fnOf "has_data_form" "has_data_form" (defArgs tForm) (defBody tForm) (defScope tForm) .none kV4 dc4 pm4 an4 cd4 ct4), sl4⟩)
      (q4 : PySem.W.codeIn K cd4 "has_data_form" = true) (k4 : PySem.W.keepIn K (.ref f4) = true)
    (a5 : PySem.W.nsIn K mainGlobals "kinds_within" = some (some (.ref f5))) (l5 : K.lookup f5 = some ⟨oc5, od5, .func (PySem.W.fnOf "kinds_within" "kinds_within" (defArgs tWithin) (defBody tWithin) (defScope tWithin) .none kV5 dc5 pm5 an5 cd5 ct5), sl5⟩)
      (q5 : PySem.W.codeIn K cd5 "kinds_within" = true) (k5 : PySem.W.keepIn K (.ref f5) = true)
    (a6 : PySem.W.nsIn K mainGlobals "is_first" = some (some (.ref f6))) (l6 : K.lookup f6 = some ⟨oc6, od6, .func (PySem.W.fnOf "is_first" "is_first" (defArgs tIsFirst) (defBody tIsFirst) (defScope tIsFirst) .none kV6 dc6 pm6 an6 cd6 ct6), sl6⟩)
      (q6 : PySem.W.codeIn K cd6 "is_first" = true) (k6 : PySem.W.keepIn K (.ref f6) = true)
    (a7 : PySem.W.nsIn K mainGlobals "is_argument" = some (some (.ref f7))) (l7 : K.lookup f7 = some ⟨oc7, od7, .func (PySem.W.fnOf "is_argument" "is_argument" (defArgs tIsArg) (defBody tIsArg) (defScope tIsArg) .none kV7 dc7 pm7 an7 cd7 ct7), sl7⟩)
      (q7 : PySem.W.codeIn K cd7 "is_argument" = true) (k7 : PySem.W.keepIn K (.ref f7) = true)
    (a8 : PySem.W.nsIn K mainGlobals "is_kind" = some (some (.ref f8))) (l8 : K.lookup f8 = some ⟨oc8, od8, .func (PySem.W.fnOf "is_kind" "is_kind" (defArgs tIsKind) (defBody tIsKind) (defScope tIsKind) .none kV8 dc8 pm8 an8 cd8 ct8), sl8⟩)
      (q8 : PySem.W.codeIn K cd8 "is_kind" = true) (k8 : PySem.W.keepIn K (.ref f8) = true)
    (a9 : PySem.W.nsIn K mainGlobals "form_of" = some (some (.ref f9))) (l9 : K.lookup f9 = some ⟨oc9, od9, .func (PySem.W.fnOf "form_of" "form_of" (defArgs tFormOf) (defBody tFormOf) (defScope tFormOf) .none kV9 dc9 pm9 an9 cd9 ct9), sl9⟩)
      (q9 : PySem.W.codeIn K cd9 "form_of" = true) (k9 : PySem.W.keepIn K (.ref f9) = true)
    (a10 : PySem.W.nsIn K mainGlobals "read" = some (some (.ref f10))) (l10 : K.lookup f10 = some ⟨oc10, od10, .func (PySem.W.fnOf "read" "read" (defArgs tRead) (defBody tRead) (defScope tRead) .none kV10 dc10 pm10 an10 cd10 ct10), sl10⟩)
      (q10 : PySem.W.codeIn K cd10 "read" = true) (k10 : PySem.W.keepIn K (.ref f10) = true)
    (a11 : PySem.W.nsIn K mainGlobals "read_words" = some (some (.ref f11))) (l11 : K.lookup f11 = some ⟨oc11, od11, .func (PySem.W.fnOf "read_words" "read_words" (defArgs tReadW) (defBody tReadW) (defScope tReadW) .none kV11 dc11 pm11 an11 cd11 ct11), sl11⟩)
      (q11 : PySem.W.codeIn K cd11 "read_words" = true) (k11 : PySem.W.keepIn K (.ref f11) = true)
    (a12 : PySem.W.nsIn K mainGlobals "roles_behind" = some (some (.ref f12))) (l12 : K.lookup f12 = some ⟨oc12, od12, .func (PySem.W.fnOf "roles_behind" "roles_behind" (defArgs tBehindR) (defBody tBehindR) (defScope tBehindR) .none kV12 dc12 pm12 an12 cd12 ct12), sl12⟩)
      (q12 : PySem.W.codeIn K cd12 "roles_behind" = true) (k12 : PySem.W.keepIn K (.ref f12) = true)
    (a13 : PySem.W.nsIn K mainGlobals "is_single" = some (some (.ref f13))) (l13 : K.lookup f13 = some ⟨oc13, od13, .func (PySem.W.fnOf "is_single" "is_single" (defArgs tIsSingle) (defBody tIsSingle) (defScope tIsSingle) .none kV13 dc13 pm13 an13 cd13 ct13), sl13⟩)
      (q13 : PySem.W.codeIn K cd13 "is_single" = true) (k13 : PySem.W.keepIn K (.ref f13) = true)
    (a14 : PySem.W.nsIn K mainGlobals "put_together" = some (some (.ref f14))) (l14 : K.lookup f14 = some ⟨oc14, od14, .func (PySem.W.fnOf "put_together" "put_together" (defArgs tPut) (defBody tPut) (defScope tPut) .none kV14 dc14 pm14 an14 cd14 ct14), sl14⟩)
      (q14 : PySem.W.codeIn K cd14 "put_together" = true) (k14 : PySem.W.keepIn K (.ref f14) = true)
    (a15 : PySem.W.nsIn K mainGlobals "single" = some (some (.ref f15))) (l15 : K.lookup f15 = some ⟨oc15, od15, .func (PySem.W.fnOf "single" "single" (defArgs tSingle) (defBody tSingle) (defScope tSingle) .none kV15 dc15 pm15 an15 cd15 ct15), sl15⟩)
      (q15 : PySem.W.codeIn K cd15 "single" = true) (k15 : PySem.W.keepIn K (.ref f15) = true)
    (a16 : PySem.W.nsIn K mainGlobals "joined" = some (some (.ref f16))) (l16 : K.lookup f16 = some ⟨oc16, od16, .func (PySem.W.fnOf "joined" "joined" (defArgs tJoined) (defBody tJoined) (defScope tJoined) .none kV16 dc16 pm16 an16 cd16 ct16), sl16⟩)
      (q16 : PySem.W.codeIn K cd16 "joined" = true) (k16 : PySem.W.keepIn K (.ref f16) = true)
    (a17 : PySem.W.nsIn K mainGlobals "read_kind" = some (some (.ref f17))) (l17 : K.lookup f17 = some ⟨oc17, od17, .func (PySem.W.fnOf "read_kind" "read_kind" (defArgs tReadK) (defBody tReadK) (defScope tReadK) .none kV17 dc17 pm17 an17 cd17 ct17), sl17⟩)
      (q17 : PySem.W.codeIn K cd17 "read_kind" = true) (k17 : PySem.W.keepIn K (.ref f17) = true)
    (a18 : PySem.W.nsIn K mainGlobals "_law_deck" = some (some (.ref f18))) (l18 : K.lookup f18 = some ⟨oc18, od18, .func (PySem.W.fnOf "_law_deck" "_law_deck" (defArgs tDeck) (defBody tDeck) (defScope tDeck) .none kV18 dc18 pm18 an18 cd18 ct18), sl18⟩)
      (q18 : PySem.W.codeIn K cd18 "_law_deck" = true) (k18 : PySem.W.keepIn K (.ref f18) = true)
    (a19 : PySem.W.nsIn K mainGlobals "_law_mixed" = some (some (.ref f19))) (l19 : K.lookup f19 = some ⟨oc19, od19, .func (PySem.W.fnOf "_law_mixed" "_law_mixed" (defArgs tMixed) (defBody tMixed) (defScope tMixed) .none kV19 dc19 pm19 an19 cd19 ct19), sl19⟩)
      (q19 : PySem.W.codeIn K cd19 "_law_mixed" = true) (k19 : PySem.W.keepIn K (.ref f19) = true)
    (a20 : PySem.W.nsIn K mainGlobals "_law_draw" = some (some (.ref f20))) (l20 : K.lookup f20 = some ⟨oc20, od20, .func (PySem.W.fnOf "_law_draw" "_law_draw" (defArgs tDraw) (defBody tDraw) (defScope tDraw) .none kV20 dc20 pm20 an20 cd20 ct20), sl20⟩)
      (q20 : PySem.W.codeIn K cd20 "_law_draw" = true) (k20 : PySem.W.keepIn K (.ref f20) = true)
    (a21 : PySem.W.nsIn K mainGlobals "_law_names" = some (some (.ref f21))) (l21 : K.lookup f21 = some ⟨oc21, od21, .func (PySem.W.fnOf "_law_names" "_law_names" (defArgs tNames) (defBody tNames) (defScope tNames) .none kV21 dc21 pm21 an21 cd21 ct21), sl21⟩)
      (q21 : PySem.W.codeIn K cd21 "_law_names" = true) (k21 : PySem.W.keepIn K (.ref f21) = true)
    (a22 : PySem.W.nsIn K mainGlobals "_law_called" = some (some (.ref f22))) (l22 : K.lookup f22 = some ⟨oc22, od22, .func (PySem.W.fnOf "_law_called" "_law_called" (defArgs tCalled) (defBody tCalled) (defScope tCalled) .none kV22 dc22 pm22 an22 cd22 ct22), sl22⟩)
      (q22 : PySem.W.codeIn K cd22 "_law_called" = true) (k22 : PySem.W.keepIn K (.ref f22) = true)
    (a23 : PySem.W.nsIn K mainGlobals "_law_data" = some (some (.ref f23))) (l23 : K.lookup f23 = some ⟨oc23, od23, .func (PySem.W.fnOf "_law_data" "_law_data" (defArgs tData) (defBody tData) (defScope tData) .none kV23 dc23 pm23 an23 cd23 ct23), sl23⟩)
      (q23 : PySem.W.codeIn K cd23 "_law_data" = true) (k23 : PySem.W.keepIn K (.ref f23) = true)
    (a24 : PySem.W.nsIn K mainGlobals "_law_carried" = some (some (.ref f24))) (l24 : K.lookup f24 = some ⟨oc24, od24, .func (PySem.W.fnOf "_law_carried" "_law_carried" (defArgs tCarried) (defBody tCarried) (defScope tCarried) .none kV24 dc24 pm24 an24 cd24 ct24), sl24⟩)
      (q24 : PySem.W.codeIn K cd24 "_law_carried" = true) (k24 : PySem.W.keepIn K (.ref f24) = true)
    (a25 : PySem.W.nsIn K mainGlobals "_law_kind_shown" = some (some (.ref f25))) (l25 : K.lookup f25 = some ⟨oc25, od25, .func (PySem.W.fnOf "_law_kind_shown" "_law_kind_shown" (defArgs tLShow) (defBody tLShow) (defScope tLShow) .none kV25 dc25 pm25 an25 cd25 ct25), sl25⟩)
      (q25 : PySem.W.codeIn K cd25 "_law_kind_shown" = true) (k25 : PySem.W.keepIn K (.ref f25) = true)
    (a26 : PySem.W.nsIn K mainGlobals "_law_is_name" = some (some (.ref f26))) (l26 : K.lookup f26 = some ⟨oc26, od26, .func (PySem.W.fnOf "_law_is_name" "_law_is_name" (defArgs tLName) (defBody tLName) (defScope tLName) .none kV26 dc26 pm26 an26 cd26 ct26), sl26⟩)
      (q26 : PySem.W.codeIn K cd26 "_law_is_name" = true) (k26 : PySem.W.keepIn K (.ref f26) = true)
    (a27 : PySem.W.nsIn K mainGlobals "_law_is_data" = some (some (.ref f27))) (l27 : K.lookup f27 = some ⟨oc27, od27, .func (PySem.W.fnOf "_law_is_data" "_law_is_data" (defArgs tLData) (defBody tLData) (defScope tLData) .none kV27 dc27 pm27 an27 cd27 ct27), sl27⟩)
      (q27 : PySem.W.codeIn K cd27 "_law_is_data" = true) (k27 : PySem.W.keepIn K (.ref f27) = true)
    (a28 : PySem.W.nsIn K mainGlobals "_law_is_carried" = some (some (.ref f28))) (l28 : K.lookup f28 = some ⟨oc28, od28, .func (PySem.W.fnOf "_law_is_carried" "_law_is_carried" (defArgs tLCar) (defBody tLCar) (defScope tLCar) .none kV28 dc28 pm28 an28 cd28 ct28), sl28⟩)
      (q28 : PySem.W.codeIn K cd28 "_law_is_carried" = true) (k28 : PySem.W.keepIn K (.ref f28) = true)
    (a29 : PySem.W.nsIn K mainGlobals "_law_is_kind" = some (some (.ref f29))) (l29 : K.lookup f29 = some ⟨oc29, od29, .func (PySem.W.fnOf "_law_is_kind" "_law_is_kind" (defArgs tLKnd) (defBody tLKnd) (defScope tLKnd) .none kV29 dc29 pm29 an29 cd29 ct29), sl29⟩)
      (q29 : PySem.W.codeIn K cd29 "_law_is_kind" = true) (k29 : PySem.W.keepIn K (.ref f29) = true)
    (a30 : PySem.W.nsIn K mainGlobals "_law_word" = some (some (.ref f30))) (l30 : K.lookup f30 = some ⟨oc30, od30, .func (PySem.W.fnOf "_law_word" "_law_word" (defArgs tLWord) (defBody tLWord) (defScope tLWord) .none kV30 dc30 pm30 an30 cd30 ct30), sl30⟩)
      (q30 : PySem.W.codeIn K cd30 "_law_word" = true) (k30 : PySem.W.keepIn K (.ref f30) = true)
    (a31 : PySem.W.nsIn K mainGlobals "_law_kind_from" = some (some (.ref f31))) (l31 : K.lookup f31 = some ⟨oc31, od31, .func (PySem.W.fnOf "_law_kind_from" "_law_kind_from" (defArgs tLFrom) (defBody tLFrom) (defScope tLFrom) .none kV31 dc31 pm31 an31 cd31 ct31), sl31⟩)
      (q31 : PySem.W.codeIn K cd31 "_law_kind_from" = true) (k31 : PySem.W.keepIn K (.ref f31) = true)
    (a32 : PySem.W.nsIn K mainGlobals "_law_pick" = some (some (.ref f32))) (l32 : K.lookup f32 = some ⟨oc32, od32, .func (PySem.W.fnOf "_law_pick" "_law_pick" (defArgs tPick) (defBody tPick) (defScope tPick) .none kV32 dc32 pm32 an32 cd32 ct32), sl32⟩)
      (q32 : PySem.W.codeIn K cd32 "_law_pick" = true) (k32 : PySem.W.keepIn K (.ref f32) = true)
    (a33 : PySem.W.nsIn K mainGlobals "_law_bent_text" = some (some (.ref f33))) (l33 : K.lookup f33 = some ⟨oc33, od33, .func (PySem.W.fnOf "_law_bent_text" "_law_bent_text" (defArgs tLBent) (defBody tLBent) (defScope tLBent) .none kV33 dc33 pm33 an33 cd33 ct33), sl33⟩)
      (q33 : PySem.W.codeIn K cd33 "_law_bent_text" = true) (k33 : PySem.W.keepIn K (.ref f33) = true)
    (a34 : PySem.W.nsIn K mainGlobals "_law_refused" = some (some (.ref f34))) (l34 : K.lookup f34 = some ⟨oc34, od34, .func (PySem.W.fnOf "_law_refused" "_law_refused" (defArgs tLRefused) (defBody tLRefused) (defScope tLRefused) .none kV34 dc34 pm34 an34 cd34 ct34), sl34⟩)
      (q34 : PySem.W.codeIn K cd34 "_law_refused" = true) (k34 : PySem.W.keepIn K (.ref f34) = true)
    (a35 : PySem.W.nsIn K mainGlobals "_law_read" = some (some (.ref f35))) (l35 : K.lookup f35 = some ⟨oc35, od35, .func (PySem.W.fnOf "_law_read" "_law_read" (defArgs tLRead) (defBody tLRead) (defScope tLRead) .none kV35 dc35 pm35 an35 cd35 ct35), sl35⟩)
      (q35 : PySem.W.codeIn K cd35 "_law_read" = true) (k35 : PySem.W.keepIn K (.ref f35) = true)
    (a36 : PySem.W.nsIn K mainGlobals "_law_told" = some (some (.ref f36))) (l36 : K.lookup f36 = some ⟨oc36, od36, .func (PySem.W.fnOf "_law_told" "_law_told" (defArgs tLTold) (defBody tLTold) (defScope tLTold) .none kV36 dc36 pm36 an36 cd36 ct36), sl36⟩)
      (q36 : PySem.W.codeIn K cd36 "_law_told" = true) (k36 : PySem.W.keepIn K (.ref f36) = true)
    (a37 : PySem.W.nsIn K mainGlobals "_law_right" = some (some (.ref f37))) (l37 : K.lookup f37 = some ⟨oc37, od37, .func (PySem.W.fnOf "_law_right" "_law_right" (defArgs tLRight) (defBody tLRight) (defScope tLRight) .none kV37 dc37 pm37 an37 cd37 ct37), sl37⟩)
      (q37 : PySem.W.codeIn K cd37 "_law_right" = true) (k37 : PySem.W.keepIn K (.ref f37) = true)
    (a38 : PySem.W.nsIn K mainGlobals "_law_kind" = some (some (.ref f38))) (l38 : K.lookup f38 = some ⟨oc38, od38, .func (PySem.W.fnOf "_law_kind" "_law_kind" (defArgs tKind) (defBody tKind) (defScope tKind) .none kV38 dc38 pm38 an38 cd38 ct38), sl38⟩)
      (q38 : PySem.W.codeIn K cd38 "_law_kind" = true) (k38 : PySem.W.keepIn K (.ref f38) = true)
    (a39 : PySem.W.nsIn K mainGlobals "law" = some (some (.ref f39))) (l39 : K.lookup f39 = some ⟨oc39, od39, .func (PySem.W.fnOf "law" "law" (defArgs tLaw) (defBody tLaw) (defScope tLaw) .none kV39 dc39 pm39 an39 cd39 ct39), sl39⟩)
      (q39 : PySem.W.codeIn K cd39 "law" = true) (k39 : PySem.W.keepIn K (.ref f39) = true)
    (t1 : K.lookup c1 = some ⟨e1, dd1, .fields vs1, sm1⟩) (v1 : vs1[11]? = some (.ref p1)) (n1 : K.lookup p1 = none)
    (aL : PySem.W.nsIn K mainGlobals "LETTERS" = some (some uL)) (rL : RelV (.str lets) uL) (aN : PySem.W.nsIn K mainGlobals "LONGEST_NAME" = some (some uN)) (rN : RelV (.int 8) uN)
    (aD : PySem.W.nsIn K mainGlobals "KIND_FORMS" = some (some (.ref dA))) (lD : K.lookup dA = some ⟨.type "dict", none, .dict es nD, #[]⟩) (tD : PySem.W.KeysLit w.params es.toList) (sD : (dA == sysModules) = false)
    (kD : KeysAre es.toList [("open", .ref o1), ("num", .ref o2), ("truth", .ref o3), ("pair", .ref o4), ("either", .ref o5), ("list", .ref o6), ("fun", .ref o7)])
    (lT1 : K.lookup o1 = some ⟨.type "tuple", dT1, .seq iT1 nT1, sT1⟩) (vT1 : iT1.size ≤ sizeLine ∧ Vals [V.str "name"] iT1.toList)
    (lT2 : K.lookup o2 = some ⟨.type "tuple", dT2, .seq iT2 nT2, sT2⟩) (vT2 : iT2.size ≤ sizeLine ∧ Vals [] iT2.toList)
    (lT3 : K.lookup o3 = some ⟨.type "tuple", dT3, .seq iT3 nT3, sT3⟩) (vT3 : iT3.size ≤ sizeLine ∧ Vals [] iT3.toList)
    (lT4 : K.lookup o4 = some ⟨.type "tuple", dT4, .seq iT4 nT4, sT4⟩) (vT4 : iT4.size ≤ sizeLine ∧ Vals [V.str "kind", V.str "kind"] iT4.toList)
    (lT5 : K.lookup o5 = some ⟨.type "tuple", dT5, .seq iT5 nT5, sT5⟩) (vT5 : iT5.size ≤ sizeLine ∧ Vals [V.str "kind", V.str "kind"] iT5.toList)
    (lT6 : K.lookup o6 = some ⟨.type "tuple", dT6, .seq iT6 nT6, sT6⟩) (vT6 : iT6.size ≤ sizeLine ∧ Vals [V.str "kind"] iT6.toList)
    (lT7 : K.lookup o7 = some ⟨.type "tuple", dT7, .seq iT7 nT7, sT7⟩) (vT7 : iT7.size ≤ sizeLine ∧ Vals [V.str "kind", V.str "kind"] iT7.toList)
    (aC : PySem.W.nsIn K mainGlobals "COUNTED" = some (some (.ref dC))) (lC : K.lookup dC = some ⟨.type "dict", none, .dict esC nC, #[]⟩) (tC : PySem.W.KeysLit w.params esC.toList) (sC : (dC == sysModules) = false)
    (kC : KeysAre esC.toList [("fills", y1), ("items", y2), ("rows", y3), ("names", y4), ("setting", y5), ("pairs", y6)])
    (aX : PySem.W.nsIn K mainGlobals "NoText" = some (some (.ref cN))) (xP : PySem.W.excIn K cN [.type "ValueError", .type "Exception", .type "BaseException", .type "object"] "ValueError.__new__" = true) (kX : PySem.W.keepIn K (.ref cN) = true) (bX : PySem.W.subIn K (.ref cN) (.type "BaseException") = some true) (tX : PySem.W.typeIn K (.ref cN) = some (.type "type")) (vX : PySem.W.subIn K (.ref cN) (.type "ValueError") = some true)
    (gX : PySem.W.findIn K (.ref cN) "__getattribute__" = some (some (.builtin "BaseException.__getattribute__"))) (hX : PySem.W.findIn K (.ref cN) "__getattr__" = some none) (dX : PySem.W.hasDictIn K cN = true) (cX : PySem.W.findIn K (.ref cN) "__class__" = some (some (.builtin "object.__class__"))) (sX : PySem.W.specialIn K (.builtin "object.__class__") "__get__" = some (some (.builtin "getset_descriptor.__get__"))) (uX : PySem.W.takesIn K (.builtin "object.__class__") = some true) (mX : PySem.W.mroIn K cN (.type "object") = some true)
    (aK : PySem.W.nsIn K mainGlobals "KindError" = some (some (.ref cK))) (bK : PySem.W.subIn K (.ref cK) (.type "BaseException") = some true) (iK : PySem.W.isClsIn K cK = true) (tK : PySem.W.typeIn K (.ref cK) = some (.type "type")) (sK : PySem.W.subIn K (.ref cN) (.ref cK) = some true)
    (xa1 : PySem.W.nsIn K mainGlobals "TooMany" = some (some (.ref x1))) (xn1 : (Value.ref cN == Value.ref x1) = false) (xi1 : PySem.W.isClsIn K x1 = true) (xt1 : PySem.W.typeIn K (.ref x1) = some (.type "type")) (xs1 : PySem.W.subIn K (.ref cN) (.ref x1) = some false)
    (xa2 : PySem.W.nsIn K mainGlobals "TooMuch" = some (some (.ref x2))) (xn2 : (Value.ref cN == Value.ref x2) = false) (xi2 : PySem.W.isClsIn K x2 = true) (xt2 : PySem.W.typeIn K (.ref x2) = some (.type "type")) (xs2 : PySem.W.subIn K (.ref cN) (.ref x2) = some false)
    (xa3 : PySem.W.nsIn K mainGlobals "NoKind" = some (some (.ref x3))) (xn3 : (Value.ref cN == Value.ref x3) = false) (xi3 : PySem.W.isClsIn K x3 = true) (xt3 : PySem.W.typeIn K (.ref x3) = some (.type "type")) (xs3 : PySem.W.subIn K (.ref cN) (.ref x3) = some false)
    (xa4 : PySem.W.nsIn K mainGlobals "NoLead" = some (some (.ref x4))) (xn4 : (Value.ref cN == Value.ref x4) = false) (xi4 : PySem.W.isClsIn K x4 = true) (xt4 : PySem.W.typeIn K (.ref x4) = some (.type "type")) (xs4 : PySem.W.subIn K (.ref cN) (.ref x4) = some false)
    (xa5 : PySem.W.nsIn K mainGlobals "NoName" = some (some (.ref x5))) (xn5 : (Value.ref cN == Value.ref x5) = false) (xi5 : PySem.W.isClsIn K x5 = true) (xt5 : PySem.W.typeIn K (.ref x5) = some (.type "type")) (xs5 : PySem.W.subIn K (.ref cN) (.ref x5) = some false)
    (xa6 : PySem.W.nsIn K mainGlobals "Taken" = some (some (.ref x6))) (xn6 : (Value.ref cN == Value.ref x6) = false) (xi6 : PySem.W.isClsIn K x6 = true) (xt6 : PySem.W.typeIn K (.ref x6) = some (.type "type")) (xs6 : PySem.W.subIn K (.ref cN) (.ref x6) = some false)
    (xa7 : PySem.W.nsIn K mainGlobals "Ring" = some (some (.ref x7))) (xn7 : (Value.ref cN == Value.ref x7) = false) (xi7 : PySem.W.isClsIn K x7 = true) (xt7 : PySem.W.typeIn K (.ref x7) = some (.type "type")) (xs7 : PySem.W.subIn K (.ref cN) (.ref x7) = some false)
    (xa8 : PySem.W.nsIn K mainGlobals "NoBack" = some (some (.ref x8))) (xn8 : (Value.ref cN == Value.ref x8) = false) (xi8 : PySem.W.isClsIn K x8 = true) (xt8 : PySem.W.typeIn K (.ref x8) = some (.type "type")) (xs8 : PySem.W.subIn K (.ref cN) (.ref x8) = some false)
    (xa9 : PySem.W.nsIn K mainGlobals "NoRow" = some (some (.ref x9))) (xn9 : (Value.ref cN == Value.ref x9) = false) (xi9 : PySem.W.isClsIn K x9 = true) (xt9 : PySem.W.typeIn K (.ref x9) = some (.type "type")) (xs9 : PySem.W.subIn K (.ref cN) (.ref x9) = some false)
    (xa10 : PySem.W.nsIn K mainGlobals "Unbounded" = some (some (.ref x10))) (xn10 : (Value.ref cN == Value.ref x10) = false) (xi10 : PySem.W.isClsIn K x10 = true) (xt10 : PySem.W.typeIn K (.ref x10) = some (.type "type")) (xs10 : PySem.W.subIn K (.ref cN) (.ref x10) = some false)
    (xa11 : PySem.W.nsIn K mainGlobals "Broken" = some (some (.ref x11))) (xn11 : (Value.ref cN == Value.ref x11) = false) (xi11 : PySem.W.isClsIn K x11 = true) (xt11 : PySem.W.typeIn K (.ref x11) = some (.type "type")) (xs11 : PySem.W.subIn K (.ref cN) (.ref x11) = some false)
    (xa12 : PySem.W.nsIn K mainGlobals "Used" = some (some (.ref x12))) (xn12 : (Value.ref cN == Value.ref x12) = false) (xi12 : PySem.W.isClsIn K x12 = true) (xt12 : PySem.W.typeIn K (.ref x12) = some (.type "type")) (xs12 : PySem.W.subIn K (.ref cN) (.ref x12) = some false)
    (z1 : PySem.W.nsIn K mainGlobals "range" = some none) (z2 : PySem.W.nsIn K mainGlobals "len" = some none) (z3 : PySem.W.nsIn K mainGlobals "list" = some none) (z4 : PySem.W.nsIn K mainGlobals "reversed" = some none) (z5 : PySem.W.nsIn K mainGlobals "tuple" = some none) (z6 : PySem.W.nsIn K mainGlobals "all" = some none) (z7 : PySem.W.nsIn K mainGlobals "isinstance" = some none) (z8 : PySem.W.nsIn K mainGlobals "str" = some none) (z9 : PySem.W.nsIn K mainGlobals "int" = some none) (z10 : PySem.W.nsIn K mainGlobals "zip" = some none) (z11 : PySem.W.nsIn K mainGlobals "enumerate" = some none) (z12 : PySem.W.nsIn K mainGlobals "repr" = some none) (z13 : PySem.W.nsIn K mainGlobals "min" = some none) (z14 : PySem.W.nsIn K mainGlobals "ValueError" = some none) :
    LawG l w K CX0 160 63 "_law_script" mg fa h := by
  have e := hfa.symm.trans (PySem.W.mg_of X G a39)
  cases e
  have F1 := fun_mk (st := tName) l1 q1 k1
  have b1 := F1.binds (ps := ["thing"]) fun _ _ _ _ _ _ us hl => match us, hl with | [_], _ => rfl
  have g1 := PySem.W.mg_of X G a1
  have F2 := fun_mk (st := tTagged) l2 q2 k2
  have b2 := F2.binds (ps := ["thing", "word", "many"]) fun _ _ _ _ _ _ us hl => match us, hl with | [_, _, _], _ => rfl
  have g2 := PySem.W.mg_of X G a2
  have F3 := fun_mk (st := tIsData) l3 q3 k3
  have b3 := F3.binds (ps := ["thing"]) fun _ _ _ _ _ _ us hl => match us, hl with | [_], _ => rfl
  have g3 := PySem.W.mg_of X G a3
  have F4 := fun_mk (st := tForm) l4 q4 k4
  have b4 := F4.binds (ps := ["thing"]) fun _ _ _ _ _ _ us hl => match us, hl with | [_], _ => rfl
  have g4 := PySem.W.mg_of X G a4
  have F5 := fun_mk (st := tWithin) l5 q5 k5
  have b5 := F5.binds (ps := ["kind"]) fun _ _ _ _ _ _ us hl => match us, hl with | [_], _ => rfl
  have g5 := PySem.W.mg_of X G a5
  have F6 := fun_mk (st := tIsFirst) l6 q6 k6
  have b6 := F6.binds (ps := ["thing"]) fun _ _ _ _ _ _ us hl => match us, hl with | [_], _ => rfl
  have g6 := PySem.W.mg_of X G a6
  have F7 := fun_mk (st := tIsArg) l7 q7 k7
  have b7 := F7.binds (ps := ["thing"]) fun _ _ _ _ _ _ us hl => match us, hl with | [_], _ => rfl
  have g7 := PySem.W.mg_of X G a7
  have F8 := fun_mk (st := tIsKind) l8 q8 k8
  have b8 := F8.binds (ps := ["thing"]) fun _ _ _ _ _ _ us hl => match us, hl with | [_], _ => rfl
  have g8 := PySem.W.mg_of X G a8
  have F9 := fun_mk (st := tFormOf) l9 q9 k9
  have b9 := F9.binds (ps := ["role", "word"]) fun _ _ _ _ _ _ us hl => match us, hl with | [_, _], _ => rfl
  have g9 := PySem.W.mg_of X G a9
  have F10 := fun_mk (st := tRead) l10 q10 k10
  have b10 := F10.binds (ps := ["text", "role"]) fun _ _ _ _ _ _ us hl => match us, hl with | [_, _], _ => rfl
  have g10 := PySem.W.mg_of X G a10
  have F11 := fun_mk (st := tReadW) l11 q11 k11
  have b11 := F11.binds (ps := ["words", "first", "again"]) fun _ _ _ _ _ _ us hl => match us, hl with | [_, _, _], _ => rfl
  have g11 := PySem.W.mg_of X G a11
  have F12 := fun_mk (st := tBehindR) l12 q12 k12
  have b12 := F12.binds (ps := ["word", "role", "left"]) fun _ _ _ _ _ _ us hl => match us, hl with | [_, _, _], _ => rfl
  have g12 := PySem.W.mg_of X G a12
  have F13 := fun_mk (st := tIsSingle) l13 q13 k13
  have b13 := F13.binds (ps := ["word", "role"]) fun _ _ _ _ _ _ us hl => match us, hl with | [_, _], _ => rfl
  have g13 := PySem.W.mg_of X G a13
  have F14 := fun_mk (st := tPut) l14 q14 k14
  have b14 := F14.binds (ps := ["words", "roles"]) fun _ _ _ _ _ _ us hl => match us, hl with | [_, _], _ => rfl
  have g14 := PySem.W.mg_of X G a14
  have F15 := fun_mk (st := tSingle) l15 q15 k15
  have b15 := F15.binds (ps := ["word", "role"]) fun _ _ _ _ _ _ us hl => match us, hl with | [_, _], _ => rfl
  have g15 := PySem.W.mg_of X G a15
  have F16 := fun_mk (st := tJoined) l16 q16 k16
  have b16 := F16.binds (ps := ["word", "role", "parts"]) fun _ _ _ _ _ _ us hl => match us, hl with | [_, _, _], _ => rfl
  have g16 := PySem.W.mg_of X G a16
  have F17 := fun_mk (st := tReadK) l17 q17 k17
  have b17 := F17.binds (ps := ["text"]) fun _ _ _ _ _ _ us hl => match us, hl with | [_], _ => rfl
  have g17 := PySem.W.mg_of X G a17
  have F18 := fun_mk (st := tDeck) l18 q18 k18
  have b18 := F18.binds (ps := ["_law_script"]) fun _ _ _ _ _ _ us hl => match us, hl with | [_], _ => rfl
  have g18 := PySem.W.mg_of X G a18
  have F19 := fun_mk (st := tMixed) l19 q19 k19
  have b19 := F19.binds (ps := ["_law_cell", "_law_k"]) fun _ _ _ _ _ _ us hl => match us, hl with | [_, _], _ => rfl
  have g19 := PySem.W.mg_of X G a19
  have F20 := fun_mk (st := tDraw) l20 q20 k20
  have b20 := F20.binds (ps := ["_law_deck_here", "_law_most"]) fun _ _ _ _ _ _ us hl => match us, hl with | [_, _], _ => rfl
  have g20 := PySem.W.mg_of X G a20
  have F21 := fun_mk (st := tNames) l21 q21 k21
  have b21 := F21.binds (ps := ["_law_deck_here", "_law_many"]) fun _ _ _ _ _ _ us hl => match us, hl with | [_, _], _ => rfl
  have g21 := PySem.W.mg_of X G a21
  have F22 := fun_mk (st := tCalled) l22 q22 k22
  have b22 := F22.binds (ps := psCalled) fun _ _ _ _ _ _ us hl => match us, hl with | [_, _], _ => rfl
  have g22 := PySem.W.mg_of X G a22
  have F23 := fun_mk (st := tData) l23 q23 k23
  have b23 := F23.binds (ps := psData) fun _ _ _ _ _ _ us hl => match us, hl with | [_, _, _], _ => rfl
  have g23 := PySem.W.mg_of X G a23
  have F24 := fun_mk (st := tCarried) l24 q24 k24
  have b24 := F24.binds (ps := psCarried) fun _ _ _ _ _ _ us hl => match us, hl with | [_, _], _ => rfl
  have g24 := PySem.W.mg_of X G a24
  have F25 := fun_mk (st := tLShow) l25 q25 k25
  have b25 := F25.binds (ps := ["_law_kind_here"]) fun _ _ _ _ _ _ us hl => match us, hl with | [_], _ => rfl
  have g25 := PySem.W.mg_of X G a25
  have F26 := fun_mk (st := tLName) l26 q26 k26
  have b26 := F26.binds (ps := ["_law_thing"]) fun _ _ _ _ _ _ us hl => match us, hl with | [_], _ => rfl
  have g26 := PySem.W.mg_of X G a26
  have F27 := fun_mk (st := tLData) l27 q27 k27
  have b27 := F27.binds (ps := ["_law_thing"]) fun _ _ _ _ _ _ us hl => match us, hl with | [_], _ => rfl
  have g27 := PySem.W.mg_of X G a27
  have F28 := fun_mk (st := tLCar) l28 q28 k28
  have b28 := F28.binds (ps := ["_law_thing"]) fun _ _ _ _ _ _ us hl => match us, hl with | [_], _ => rfl
  have g28 := PySem.W.mg_of X G a28
  have F29 := fun_mk (st := tLKnd) l29 q29 k29
  have b29 := F29.binds (ps := ["_law_thing"]) fun _ _ _ _ _ _ us hl => match us, hl with | [_], _ => rfl
  have g29 := PySem.W.mg_of X G a29
  have F30 := fun_mk (st := tLWord) l30 q30 k30
  have b30 := F30.binds (ps := ["_law_words", "_law_spot"]) fun _ _ _ _ _ _ us hl => match us, hl with | [_, _], _ => rfl
  have g30 := PySem.W.mg_of X G a30
  have F31 := fun_mk (st := tLFrom) l31 q31 k31
  have b31 := F31.binds (ps := psLFrom) fun _ _ _ _ _ _ us hl => match us, hl with | [_, _], _ => rfl
  have g31 := PySem.W.mg_of X G a31
  have F32 := fun_mk (st := tPick) l32 q32 k32
  have b32 := F32.binds (ps := ["_law_picks", "_law_many"]) fun _ _ _ _ _ _ us hl => match us, hl with | [_, _], _ => rfl
  have g32 := PySem.W.mg_of X G a32
  have F33 := fun_mk (st := tLBent) l33 q33 k33
  have b33 := F33.binds (ps := psLBent) fun _ _ _ _ _ _ us hl => match us, hl with | [_, _, _], _ => rfl
  have g33 := PySem.W.mg_of X G a33
  have F34 := fun_mk (st := tLRefused) l34 q34 k34
  have b34 := F34.binds (ps := ["_law_e"]) fun _ _ _ _ _ _ us hl => match us, hl with | [_], _ => rfl
  have g34 := PySem.W.mg_of X G a34
  have F35 := fun_mk (st := tLRead) l35 q35 k35
  have b35 := F35.binds (ps := ["_law_text"]) fun _ _ _ _ _ _ us hl => match us, hl with | [_], _ => rfl
  have g35 := PySem.W.mg_of X G a35
  have F36 := fun_mk (st := tLTold) l36 q36 k36
  have b36 := F36.binds (ps := ["_law_thing"]) fun _ _ _ _ _ _ us hl => match us, hl with | [_], _ => rfl
  have g36 := PySem.W.mg_of X G a36
  have F37 := fun_mk (st := tLRight) l37 q37 k37
  have b37 := F37.binds (ps := ["_law_text"]) fun _ _ _ _ _ _ us hl => match us, hl with | [_], _ => rfl
  have g37 := PySem.W.mg_of X G a37
  have F38 := fun_mk (st := tKind) l38 q38 k38
  have b38 := F38.binds (ps := psKind) fun _ _ _ _ _ _ us hl => match us, hl with | [_, _], _ => rfl
  have g38 := PySem.W.mg_of X G a38
  have F39 := fun_mk (st := tLaw) l39 q39 k39
  have m_range := PySem.W.mg_none_of X G z1
  have m_len := PySem.W.mg_none_of X G z2
  have m_list := PySem.W.mg_none_of X G z3
  have m_reversed := PySem.W.mg_none_of X G z4
  have m_tuple := PySem.W.mg_none_of X G z5
  have m_all := PySem.W.mg_none_of X G z6
  have m_isinstance := PySem.W.mg_none_of X G z7
  have m_str := PySem.W.mg_none_of X G z8
  have m_int := PySem.W.mg_none_of X G z9
  have m_zip := PySem.W.mg_none_of X G z10
  have m_enumerate := PySem.W.mg_none_of X G z11
  have m_repr := PySem.W.mg_none_of X G z12
  have m_min := PySem.W.mg_none_of X G z13
  have m_ValueError := PySem.W.mg_none_of X G z14
  have C1 := Kg.funC_mk (st := tName) l1 q1
  obtain ⟨h1, hc1⟩ := Kg.tabOf_at X TT1 g1 l1 t1 v1
  have gL := PySem.W.mg_of X G aL
  have gN := PySem.W.mg_of X G aN
  have gD := PySem.W.mg_of X G aD
  have gC := PySem.W.mg_of X G aC
  have nt : NT K mg cN := ⟨PySem.W.mg_of X G aX, xP, kX, bX, tX⟩
  have ni : NTI K mg cN cK := ⟨⟨gX, hX, bX, dX, cX, sX, uX, mX⟩, PySem.W.mg_of X G aK, exm_yes bK iK tK sK, kit_self, kit_tyV vX,
    ⟨x1, x2, x3, x4, x5, x6, x7, x8, x9, PySem.W.mg_of X G xa1, PySem.W.mg_of X G xa2, PySem.W.mg_of X G xa3, PySem.W.mg_of X G xa4, PySem.W.mg_of X G xa5, PySem.W.mg_of X G xa6, PySem.W.mg_of X G xa7, PySem.W.mg_of X G xa8, PySem.W.mg_of X G xa9, (any_no (kit_no xn1 xi1 xt1 xs1) (any_no (kit_no xn2 xi2 xt2 xs2) (any_no (kit_no xn3 xi3 xt3 xs3) (any_no (kit_no xn4 xi4 xt4 xs4) (any_no (kit_no xn5 xi5 xt5 xs5) (any_no (kit_no xn6 xi6 xt6 xs6) (any_no (kit_no xn7 xi7 xt7 xs7) (any_no (kit_no xn8 xi8 xt8 xs8) (any_no (kit_no xn9 xi9 xt9 xs9) rfl)))))))))⟩,
    ⟨x10, x11, x12, PySem.W.mg_of X G xa10, PySem.W.mg_of X G xa11, PySem.W.mg_of X G xa12, (any_no (kit_no xn10 xi10 xt10 xs10) (any_no (kit_no xn11 xi11 xt11 xs11) (any_no (kit_no xn12 xi12 xt12 xs12) rfl)))⟩⟩
  have hD : Forms K w dA es nD := by
    refine ⟨⟨lD, tD, sD⟩, fun z hz => ?_, fun z m hz => ?_⟩
    · rw [ns_keys lD kD]
      unfold ar at hz
      repeat' split at hz
      all_goals first | cases hz | skip
      rename_i c1 c2 c3 c4 c5 c6 c7
      simp only [List.lookup_cons, beq_eq_false_iff_ne.mpr c1, beq_eq_false_iff_ne.mpr c2, beq_eq_false_iff_ne.mpr c3, beq_eq_false_iff_ne.mpr c4, beq_eq_false_iff_ne.mpr c5, beq_eq_false_iff_ne.mpr c6, beq_eq_false_iff_ne.mpr c7, List.lookup_nil]
    · unfold ar at hz
      repeat' split at hz
      all_goals first | (rename_i c1; subst c1; cases hz) | cases hz
      · exact ⟨o1, [V.str "name"], (ns_keys lD kD _).trans rfl, rfl, fun H => .inr ⟨_, iT1, nT1, lT1, rfl, rfl, vT1.1, vT1.2⟩⟩
      · exact ⟨o2, [], (ns_keys lD kD _).trans rfl, rfl, fun H => .inr ⟨_, iT2, nT2, lT2, rfl, rfl, vT2.1, vT2.2⟩⟩
      · exact ⟨o3, [], (ns_keys lD kD _).trans rfl, rfl, fun H => .inr ⟨_, iT3, nT3, lT3, rfl, rfl, vT3.1, vT3.2⟩⟩
      · exact ⟨o4, [V.str "kind", V.str "kind"], (ns_keys lD kD _).trans rfl, rfl, fun H => .inr ⟨_, iT4, nT4, lT4, rfl, rfl, vT4.1, vT4.2⟩⟩
      · exact ⟨o5, [V.str "kind", V.str "kind"], (ns_keys lD kD _).trans rfl, rfl, fun H => .inr ⟨_, iT5, nT5, lT5, rfl, rfl, vT5.1, vT5.2⟩⟩
      · exact ⟨o6, [V.str "kind"], (ns_keys lD kD _).trans rfl, rfl, fun H => .inr ⟨_, iT6, nT6, lT6, rfl, rfl, vT6.1, vT6.2⟩⟩
      · exact ⟨o7, [V.str "kind", V.str "kind"], (ns_keys lD kD _).trans rfl, rfl, fun H => .inr ⟨_, iT7, nT7, lT7, rfl, rfl, vT7.1, vT7.2⟩⟩
  have hA : RForms K w dA es nD := by
    have r2 : Rl2 (fun rs u => ∃ t, u = Value.ref t ∧ ∀ G : Hp, SqT K G t (rs.map V.str)) tblK [("open", .ref o1), ("num", .ref o2), ("truth", .ref o3), ("pair", .ref o4), ("either", .ref o5), ("list", .ref o6), ("fun", .ref o7)] := (.cons ⟨o1, rfl, fun H => .inr ⟨_, iT1, nT1, lT1, rfl, rfl, vT1.1, vT1.2⟩⟩ (.cons ⟨o2, rfl, fun H => .inr ⟨_, iT2, nT2, lT2, rfl, rfl, vT2.1, vT2.2⟩⟩ (.cons ⟨o3, rfl, fun H => .inr ⟨_, iT3, nT3, lT3, rfl, rfl, vT3.1, vT3.2⟩⟩ (.cons ⟨o4, rfl, fun H => .inr ⟨_, iT4, nT4, lT4, rfl, rfl, vT4.1, vT4.2⟩⟩ (.cons ⟨o5, rfl, fun H => .inr ⟨_, iT5, nT5, lT5, rfl, rfl, vT5.1, vT5.2⟩⟩ (.cons ⟨o6, rfl, fun H => .inr ⟨_, iT6, nT6, lT6, rfl, rfl, vT6.1, vT6.2⟩⟩ (.cons ⟨o7, rfl, fun H => .inr ⟨_, iT7, nT7, lT7, rfl, rfl, vT7.1, vT7.2⟩⟩ .nil)))))))
    refine ⟨⟨lD, tD, sD⟩, fun z rs hz => ?_, fun z hz => ?_⟩
    · obtain ⟨u, hu, t, rfl, ht⟩ := (r2.look z).2 rs hz
      exact ⟨t, by rw [ns_keys lD kD, hu], ht⟩
    · rw [ns_keys lD kD, (r2.look z).1 hz]
  have hC : CForms K w dC esC nC := ⟨⟨lC, tC, sC⟩, (ns_keys lC kC _).trans rfl, (ns_keys lC kC _).trans rfl⟩
  refine ⟨PySem.W.fnOf "law" "law" (defArgs tLaw) (defBody tLaw) (defScope tLaw) .none kV39 dc39 pm39 an39 cd39 ct39, [(c1, p1)], spLaw K [p1], ?T, fun s v => .of_eq rfl, fun H a ns hl _ hH hS => ⟨a, ns, rfl, hS, hl, ?S, fun _ => rfl⟩, fun base _ _ TB => ?_⟩
  case T =>
    intro p hp
    · rw [List.mem_singleton.mp hp]; exact ⟨h1, n1, hc1⟩
  case S =>
    intro p hp
    have q : ∀ p ∈ [p1], H p = some (.tbl #[]) := by
      intro p hp
      · rw [List.mem_singleton.mp hp]; exact hH (c1, p1) (by simp)
    exact ⟨#[], q p hp, True.intro⟩
  have T1 := tabX (TB (c1, p1) (by simp))
  have M1 : p1 ∈ [p1] := by simp
  have D0 : ∀ k, FnOk l.prog w K mg base CX0 (k + 2) f20 _ ["_law_deck_here", "_law_most"] spDraw := fun k => okDraw F20 F19 b19 g19
  have N0 : ∀ k, FnOk l.prog w K mg base CX0 (k + 4) f1 _ ["thing"] (spName [p1]) := fun k => okName C1 T1 M1 gL rL gN rN m_all m_isinstance m_str m_len
  have O0 : ∀ k, FnOk l.prog w K mg base CX0 (k + 5) f4 _ ["thing"] (spForm [p1]) := fun k => okForm F4 (N0 k) b1 g1 k1 gD hD m_isinstance m_tuple m_str m_len
  have I0 : ∀ k, FnOk l.prog w K mg base CX0 (k + 6) f3 _ ["thing"] (spIsData [p1]) := fun k => okIsData F3 (O0 k) b4 g4 k4 (fun N => okWithin F5) b5 g5 k5
  have TG : ∀ k, FnOk l.prog w K mg base CX0 (k + 1) f2 _ ["thing", "word", "many"] spTagged := fun k => okTagged F2 m_isinstance m_tuple m_len
  have FI : ∀ k, FnOk l.prog w K mg base CX0 (k + 7) f6 _ ["thing"] (spYes [p1] fstD) := fun k => okIsFirst F6 (TG (k + 5)) b2 g2 k2 (I0 k) b3 g3 k3
  have AR : ∀ k, FnOk l.prog w K mg base CX0 (k + 8) f7 _ ["thing"] (spYes [p1] argD) := fun k => okIsArg F7 (FI k) b6 g6 k6 (I0 (k + 1)) b3 g3 k3
  have IK := okIsKind (P := l.prog) (w := w) (base := base) (k := 0) F8 (TG 7) b2 g2 k2 (AR 0) b7 g7 k7 (I0 2) b3 g3 k3
  have FO := okFormOf (P := l.prog) (w := w) (base := base) (k := 0) F9 gD hA
  have SIW := okIsSingleW (P := l.prog) (w := w) (base := base) (k := 4) F13 (N0 0) b1 g1 k1
  have SI := okWeak SIW single_old
  have RBW := okBehindW (P := l.prog) (w := w) (base := base) (k := 5) F12 nt SIW b13 g13 k13 (upOk FO (by decide)) b9 g9 k9 gC hC
  have RB := okWeak RBW (behind_old (cN := cN))
  have SG := okSingle (P := l.prog) (w := w) (mg := mg) (base := base) (k := 0) F15
  have JO := okJoined (P := l.prog) (w := w) (mg := mg) (base := base) (k := 0) F16 gC hC
  have PT := okPut (P := l.prog) (w := w) (base := base) (k := 6) F14 (upOk SI (by decide)) b13 g13 k13 RB b12 g12 k12 (upOk SG (by decide)) b15 g15 k15 (upOk JO (by decide)) b16 g16 k16 m_list m_reversed m_zip m_len
  have RW := okReadW (P := l.prog) (w := w) (base := base) (k := 7) F11 nt (upOk RBW (by decide)) b12 g12 k12 PT b14 g14 k14 m_list m_reversed m_enumerate m_len
  have RD := okRead (P := l.prog) (w := w) (base := base) (k := 8) F10 nt RW b11 g11 k11 m_isinstance m_str
  have RK := okReadK (P := l.prog) (w := w) (base := base) (k := 9) F17 nt RD b10 g10 k10 IK b8 g8 k8
  have DA := okData (P := l.prog) (w := w) (base := base) F23 b23 g23 D0 b20 g20 k20 m_len m_min
  have NM := okNames (P := l.prog) (w := w) (base := base) (k := 0) F21 (D0 0) b20 g20 k20 m_list m_range
  have CA := okCalled (P := l.prog) (w := w) (base := base) (k := 3) F22 (D0 1) b20 g20 k20 NM b21 g21 k21
  have CR := okCarried (P := l.prog) (w := w) (base := base) (k := 6) F24 (D0 4) b20 g20 k20 (DA 4) b23 g23 k23 m_range
  have DE := okDeck (P := l.prog) (w := w) (base := base) (k := 0) F18 m_list m_reversed
  have LS := okLShow (P := l.prog) (w := w) (base := base) F25 b25 g25 m_isinstance m_tuple 100
  have LD := okLData (P := l.prog) (w := w) (base := base) F27 b27 g27 F26 b26 g26 m_isinstance m_tuple m_str m_len 153
  have LC := okLCar (P := l.prog) (w := w) (base := base) (n := 153) (k := 155) F28 LD b27 g27 k27 m_isinstance m_tuple m_str m_len
  have LK := okLKnd (P := l.prog) (w := w) (base := base) (n := 153) (k := 156) F29 (upOk LD (by decide)) b27 g27 k27 LC b28 g28 k28 m_isinstance m_tuple m_str m_len
  have LF := okLFrom (P := l.prog) (w := w) (base := base) F31 b31 g31 F30 b30 g30 m_tuple m_range m_len m_min 152
  have LR := okLRead (P := l.prog) (w := w) (base := base) (k := 157) (W := 152) F35 (upOk LF (by decide)) b31 g31 k31 LK b29 g29 k29 m_len
  have RX := okRef (P := l.prog) (w := w) (base := base) (k := 9) F34 nt ni m_isinstance m_ValueError
  have TO := okTold (P := l.prog) (w := w) (base := base) (k := 10) (T := [p1]) F36 ni RK b17 g17 k17 RX b34 g34 k34 m_repr
  have RI := okRight (P := l.prog) (w := w) (base := base) (k := 158) (T := [p1]) F37 LR b35 g35 k35 (TO.up (by decide)) b36 g36 k36 m_repr
  have PI := okPick (P := l.prog) (w := w) (mg := mg) (base := base) (k := 0) F32
  have BT := okLBent (P := l.prog) (w := w) (base := base) (k := 1) F33 PI b32 g32 k32 m_len m_int
  have KI := okKind (P := l.prog) (w := w) (base := base) (k := 10) F38 (D0 8) b20 g20 k20 (upOk (DA 6) (by decide)) b23 g23 k23 (upOk CR (by decide)) b24 g24 k24 m_range m_int
  exact (okLaw (k := 159) F39 (upOk DE (by decide)) b18 g18 k18 (upOk CA (by decide)) b22 g22 k22 (D0 157) b20 g20 k20 (upOk KI (by decide)) b38 g38 k38 (upOk PI (by decide)) b32 g32 k32 (upOk BT (by decide)) b33 g33 k33 RI b37 g37 k37 (TO.up (by decide)) b36 g36 k36 (upOk LS (by decide)) b25 g25 k25 m_range m_repr m_len).up (by decide)
end Kq
open PySem PySem.W PyProof.Rows
set_option maxRecDepth 100000 in
set_option maxHeartbeats 0 in
theorem PySem.Challenge.cw_kindalone_k14_texts_of_no_kind_holds : PySem.Challenge.rw_kindalone_k14_texts_of_no_kind.Holds := by
  w_on; o_law; k_head; (case hw => w_witness2)
  k_fill
  refine Kf.walk_ofG (l := PySem.Challenge.rw_kindalone_k14_texts_of_no_kind) (n := 63) (k := 160) (x := "_law_script") (CX := fun _ => L2.CX0) rfl (by decide) rfl ⟨rfl, by decide, by decide⟩ (fun w h Y => PySem.W.kIn_of Y) ?F (fun _ _ _ _ _ h => h)
  case F =>
    intro w mg fa h Y KX G hmg tabs
    have TT1 : Kg.TabOf mg h "is_name" := by
      refine Kq.tt_of ?_ tabs
      decide +kernel
    refine' Kq.all_mk KX G hmg TT1 ?a1 ?l1 ?q1 ?k1 ?a2 ?l2 ?q2 ?k2 ?a3 ?l3 ?q3 ?k3 ?a4 ?l4 ?q4 ?k4 ?a5 ?l5 ?q5 ?k5 ?a6 ?l6 ?q6 ?k6 ?a7 ?l7 ?q7 ?k7 ?a8 ?l8 ?q8 ?k8 ?a9 ?l9 ?q9 ?k9 ?a10 ?l10 ?q10 ?k10 ?a11 ?l11 ?q11 ?k11 ?a12 ?l12 ?q12 ?k12 ?a13 ?l13 ?q13 ?k13 ?a14 ?l14 ?q14 ?k14 ?a15 ?l15 ?q15 ?k15 ?a16 ?l16 ?q16 ?k16 ?a17 ?l17 ?q17 ?k17 ?a18 ?l18 ?q18 ?k18 ?a19 ?l19 ?q19 ?k19 ?a20 ?l20 ?q20 ?k20 ?a21 ?l21 ?q21 ?k21 ?a22 ?l22 ?q22 ?k22 ?a23 ?l23 ?q23 ?k23 ?a24 ?l24 ?q24 ?k24 ?a25 ?l25 ?q25 ?k25 ?a26 ?l26 ?q26 ?k26 ?a27 ?l27 ?q27 ?k27 ?a28 ?l28 ?q28 ?k28 ?a29 ?l29 ?q29 ?k29 ?a30 ?l30 ?q30 ?k30 ?a31 ?l31 ?q31 ?k31 ?a32 ?l32 ?q32 ?k32 ?a33 ?l33 ?q33 ?k33 ?a34 ?l34 ?q34 ?k34 ?a35 ?l35 ?q35 ?k35 ?a36 ?l36 ?q36 ?k36 ?a37 ?l37 ?q37 ?k37 ?a38 ?l38 ?q38 ?k38 ?a39 ?l39 ?q39 ?k39 ?t1 ?v1 ?n1 ?aL ?rL ?aN ?rN ?aD ?lD ?tD ?sD ?kD ?lT1 ?vT1 ?lT2 ?vT2 ?lT3 ?vT3 ?lT4 ?vT4 ?lT5 ?vT5 ?lT6 ?vT6 ?lT7 ?vT7 ?aC ?lC ?tC ?sC ?kC ?aX ?xP ?kX ?bX ?tX ?vX ?gX ?hX ?dX ?cX ?sX ?uX ?mX ?aK ?bK ?iK ?tK ?sK ?xa1 ?xn1 ?xi1 ?xt1 ?xs1 ?xa2 ?xn2 ?xi2 ?xt2 ?xs2 ?xa3 ?xn3 ?xi3 ?xt3 ?xs3 ?xa4 ?xn4 ?xi4 ?xt4 ?xs4 ?xa5 ?xn5 ?xi5 ?xt5 ?xs5 ?xa6 ?xn6 ?xi6 ?xt6 ?xs6 ?xa7 ?xn7 ?xi7 ?xt7 ?xs7 ?xa8 ?xn8 ?xi8 ?xt8 ?xs8 ?xa9 ?xn9 ?xi9 ?xt9 ?xs9 ?xa10 ?xn10 ?xi10 ?xt10 ?xs10 ?xa11 ?xn11 ?xi11 ?xt11 ?xs11 ?xa12 ?xn12 ?xi12 ?xt12 ?xs12 ?z1 ?z2 ?z3 ?z4 ?z5 ?z6 ?z7 ?z8 ?z9 ?z10 ?z11 ?z12 ?z13 ?z14
    (case a1 => k_is); (case l1 => k_is); (case q1 => k_is); (case k1 => k_is)
    (case a2 => k_is); (case l2 => k_is); (case q2 => k_is); (case k2 => k_is)
    (case a3 => k_is); (case l3 => k_is); (case q3 => k_is); (case k3 => k_is)
    (case a4 => k_is); (case l4 => k_is); (case q4 => k_is); (case k4 => k_is)
    (case a5 => k_is); (case l5 => k_is); (case q5 => k_is); (case k5 => k_is)
    (case a6 => k_is); (case l6 => k_is); (case q6 => k_is); (case k6 => k_is)
    (case a7 => k_is); (case l7 => k_is); (case q7 => k_is); (case k7 => k_is)
    (case a8 => k_is); (case l8 => k_is); (case q8 => k_is); (case k8 => k_is)
    (case a9 => k_is); (case l9 => k_is); (case q9 => k_is); (case k9 => k_is)
    (case a10 => k_is); (case l10 => k_is); (case q10 => k_is); (case k10 => k_is)
    (case a11 => k_is); (case l11 => k_is); (case q11 => k_is); (case k11 => k_is)
    (case a12 => k_is); (case l12 => k_is); (case q12 => k_is); (case k12 => k_is)
    (case a13 => k_is); (case l13 => k_is); (case q13 => k_is); (case k13 => k_is)
    (case a14 => k_is); (case l14 => k_is); (case q14 => k_is); (case k14 => k_is)
    (case a15 => k_is); (case l15 => k_is); (case q15 => k_is); (case k15 => k_is)
    (case a16 => k_is); (case l16 => k_is); (case q16 => k_is); (case k16 => k_is)
    (case a17 => k_is); (case l17 => k_is); (case q17 => k_is); (case k17 => k_is)
    (case a18 => k_is); (case l18 => k_is); (case q18 => k_is); (case k18 => k_is)
    (case a19 => k_is); (case l19 => k_is); (case q19 => k_is); (case k19 => k_is)
    (case a20 => k_is); (case l20 => k_is); (case q20 => k_is); (case k20 => k_is)
    (case a21 => k_is); (case l21 => k_is); (case q21 => k_is); (case k21 => k_is)
    (case a22 => k_is); (case l22 => k_is); (case q22 => k_is); (case k22 => k_is)
    (case a23 => k_is); (case l23 => k_is); (case q23 => k_is); (case k23 => k_is)
    (case a24 => k_is); (case l24 => k_is); (case q24 => k_is); (case k24 => k_is)
    (case a25 => k_is); (case l25 => k_is); (case q25 => k_is); (case k25 => k_is)
    (case a26 => k_is); (case l26 => k_is); (case q26 => k_is); (case k26 => k_is)
    (case a27 => k_is); (case l27 => k_is); (case q27 => k_is); (case k27 => k_is)
    (case a28 => k_is); (case l28 => k_is); (case q28 => k_is); (case k28 => k_is)
    (case a29 => k_is); (case l29 => k_is); (case q29 => k_is); (case k29 => k_is)
    (case a30 => k_is); (case l30 => k_is); (case q30 => k_is); (case k30 => k_is)
    (case a31 => k_is); (case l31 => k_is); (case q31 => k_is); (case k31 => k_is)
    (case a32 => k_is); (case l32 => k_is); (case q32 => k_is); (case k32 => k_is)
    (case a33 => k_is); (case l33 => k_is); (case q33 => k_is); (case k33 => k_is)
    (case a34 => k_is); (case l34 => k_is); (case q34 => k_is); (case k34 => k_is)
    (case a35 => k_is); (case l35 => k_is); (case q35 => k_is); (case k35 => k_is)
    (case a36 => k_is); (case l36 => k_is); (case q36 => k_is); (case k36 => k_is)
    (case a37 => k_is); (case l37 => k_is); (case q37 => k_is); (case k37 => k_is)
    (case a38 => k_is); (case l38 => k_is); (case q38 => k_is); (case k38 => k_is)
    (case a39 => k_is); (case l39 => k_is); (case q39 => k_is); (case k39 => k_is)
    (case t1 => k_is); (case v1 => rfl); (case n1 => rfl)
    (case aL => k_is); (case rL => exact ⟨_, rfl⟩); (case aN => k_is); (case rN => exact ⟨_, rfl⟩)
    (case aD => k_is); (case lD => k_is); (case tD => exact ⟨⟨_, _, rfl, rfl⟩, ⟨_, _, rfl, rfl⟩, ⟨_, _, rfl, rfl⟩, ⟨_, _, rfl, rfl⟩, ⟨_, _, rfl, rfl⟩, ⟨_, _, rfl, rfl⟩, ⟨_, _, rfl, rfl⟩, trivial⟩); (case sD => rfl)
    (case kD => exact ⟨⟨_, rfl⟩, rfl, ⟨_, rfl⟩, rfl, ⟨_, rfl⟩, rfl, ⟨_, rfl⟩, rfl, ⟨_, rfl⟩, rfl, ⟨_, rfl⟩, rfl, ⟨_, rfl⟩, rfl, trivial⟩)
    (case lT1 => k_is); (case vT1 => exact ⟨by decide, (.cons ⟨_, rfl⟩ .nil)⟩)
    (case lT2 => k_is); (case vT2 => exact ⟨by decide, .nil⟩)
    (case lT3 => k_is); (case vT3 => exact ⟨by decide, .nil⟩)
    (case lT4 => k_is); (case vT4 => exact ⟨by decide, (.cons ⟨_, rfl⟩ (.cons ⟨_, rfl⟩ .nil))⟩)
    (case lT5 => k_is); (case vT5 => exact ⟨by decide, (.cons ⟨_, rfl⟩ (.cons ⟨_, rfl⟩ .nil))⟩)
    (case lT6 => k_is); (case vT6 => exact ⟨by decide, (.cons ⟨_, rfl⟩ .nil)⟩)
    (case lT7 => k_is); (case vT7 => exact ⟨by decide, (.cons ⟨_, rfl⟩ (.cons ⟨_, rfl⟩ .nil))⟩)
    (case aC => k_is); (case lC => k_is); (case tC => exact ⟨⟨_, _, rfl, rfl⟩, ⟨_, _, rfl, rfl⟩, ⟨_, _, rfl, rfl⟩, ⟨_, _, rfl, rfl⟩, ⟨_, _, rfl, rfl⟩, ⟨_, _, rfl, rfl⟩, trivial⟩); (case sC => rfl)
    (case kC => exact ⟨⟨_, rfl⟩, rfl, ⟨_, rfl⟩, rfl, ⟨_, rfl⟩, rfl, ⟨_, rfl⟩, rfl, ⟨_, rfl⟩, rfl, ⟨_, rfl⟩, rfl, trivial⟩)
    (case aX => k_is); (case xP => k_exc); (case kX => k_is); (case bX => k_is); (case tX => k_is); (case vX => k_is); (case gX => k_is); (case hX => k_is); (case dX => k_is); (case cX => k_is); (case sX => k_is); (case uX => k_is); (case mX => k_is); (case aK => k_is); (case bK => k_is); (case iK => k_is); (case tK => k_is); (case sK => k_is)
    (case xa1 => k_is); (case xn1 => rfl); (case xi1 => k_is); (case xt1 => k_is); (case xs1 => k_is)
    (case xa2 => k_is); (case xn2 => rfl); (case xi2 => k_is); (case xt2 => k_is); (case xs2 => k_is)
    (case xa3 => k_is); (case xn3 => rfl); (case xi3 => k_is); (case xt3 => k_is); (case xs3 => k_is)
    (case xa4 => k_is); (case xn4 => rfl); (case xi4 => k_is); (case xt4 => k_is); (case xs4 => k_is)
    (case xa5 => k_is); (case xn5 => rfl); (case xi5 => k_is); (case xt5 => k_is); (case xs5 => k_is)
    (case xa6 => k_is); (case xn6 => rfl); (case xi6 => k_is); (case xt6 => k_is); (case xs6 => k_is)
    (case xa7 => k_is); (case xn7 => rfl); (case xi7 => k_is); (case xt7 => k_is); (case xs7 => k_is)
    (case xa8 => k_is); (case xn8 => rfl); (case xi8 => k_is); (case xt8 => k_is); (case xs8 => k_is)
    (case xa9 => k_is); (case xn9 => rfl); (case xi9 => k_is); (case xt9 => k_is); (case xs9 => k_is)
    (case xa10 => k_is); (case xn10 => rfl); (case xi10 => k_is); (case xt10 => k_is); (case xs10 => k_is)
    (case xa11 => k_is); (case xn11 => rfl); (case xi11 => k_is); (case xt11 => k_is); (case xs11 => k_is)
    (case xa12 => k_is); (case xn12 => rfl); (case xi12 => k_is); (case xt12 => k_is); (case xs12 => k_is)
    (case z1 => k_is); (case z2 => k_is); (case z3 => k_is); (case z4 => k_is); (case z5 => k_is); (case z6 => k_is); (case z7 => k_is); (case z8 => k_is); (case z9 => k_is); (case z10 => k_is); (case z11 => k_is); (case z12 => k_is); (case z13 => k_is); (case z14 => k_is)
