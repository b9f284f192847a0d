import PyProof.Rows.All
import Wide.All
import OpenK.AllK
import Wide.FinOn
import HandS.ForMost
import HandS.Rev
import HandS.StrMore
import HandS.IsInst
import HandS.Wide
import HandS.Replace
import HandS.Codes
import HandS.GenList
import HandS.AnyAll
import HandS.EndOwn
import HandS.ExcOwn
import PyProof.ReprRoads
import HandS.Walk
import HandS.Dict
import HandS.TupAny
import HandS.Style
import KE.KDictPairs
import KE.GoesMore
import HandS.Iter
import KE.KRevSl
import PyProof.Draws
import PyProof.EnumMake
import PyProof.EqKinds
import HandS.More
import PyProof.Rows.IntBool
import PyProof.CallStr
import PyProof.IsRules
import PyProof.ReprLen
import PyProof.FitsInt
import PyProof.StrLawsRepr
import HandS.FStrTup
import PyProof.Rows.RegReprOcc
import PyProof.Rows.StrCase
import HandS.Flow
import HandS.Text
import KE.KIntText
import PyProof.Rows.Digits
import PyProof.Rows.StrOr
import KE.KDictZip
import KE.GoesZip
import HandS.Zip
import HandS.TupMul
import HandS.RaiseMore
import HandS.Comp
import HandS.RevTup
import PyProof.TupleOfGen
import HandS.Star
import PyProof.EnumIter
import PyProof.SumWalkG
import PyProof.ListOps
import HandS.ExcValue
import HandS.SetBool
import PySem.Challenge.RW_kindalone_k13_worths_written_and_read
set_option Elab.async false
set_option linter.all false
set_option maxRecDepth 100000
set_option maxHeartbeats 4000000
namespace Kq
open PySem PySem.Spec PyProof.Rows L2
/-! the program's defs, by their places -/
def tp (i : Nat) : Stmt := PySem.Challenge.pw_kindalone_k13_worths_written_and_read.main.body.getD i (.Pass ⟨0, 0, 0, 0⟩)
abbrev tMixed : Stmt := tp 30
abbrev tDraw : Stmt := tp 31
/-! heaps -/
theorem newS {H : Hp} {p : Addr} {o : HO} (h : H p = none) : Same H (upd H p o) := fun b u e => by
  rw [upd_ne (ne_of_none e h)]
  exact e
/-- but for d and c all that stood stands -/
def Kp (d c : Addr) (H G : Hp) : Prop := ∀ b o, b ≠ d → b ≠ c → H b = some o → G b = some o
theorem Kp.rfl {d c : Addr} {H : Hp} : Kp d c H H := fun _ _ _ _ e => e
theorem Kp.trans {d c : Addr} {H G F : Hp} (a : Kp d c H G) (b : Kp d c G F) : Kp d c H F := fun x o h1 h2 e => b x o h1 h2 (a x o h1 h2 e)
theorem Kp.of {d c : Addr} {H G : Hp} (a : Same H G) : Kp d c H G := fun x o _ _ e => a x o e
theorem Kp.at1 {d c : Addr} {H : Hp} {o : HO} : Kp d c H (upd H d o) := fun x u h1 _ e => by rw [upd_ne h1]; exact e
theorem Kp.at2 {d c : Addr} {H : Hp} {o : HO} : Kp d c H (upd H c o) := fun x u _ h2 e => by rw [upd_ne h2]; exact e
/-- the deck of drawn cells -/
structure Dk (H : Hp) (d c : Addr) : Prop where
  ne : d ≠ c
  dd : ∃ seed k : Int, H d = some (.lst [.ref c, .int seed, .int k])
  cc : ∃ ns : List Int, H c = some (.lst (ns.map V.int)) ∧ ns.length ≤ 63
theorem Dk.same {H G : Hp} {d c : Addr} (x : Dk H d c) (s : Same H G) : Dk G d c := by
  obtain ⟨n, ⟨a, b, e⟩, ⟨ns, f, l⟩⟩ := x
  exact ⟨n, ⟨a, b, s _ _ e⟩, ⟨ns, s _ _ f, l⟩⟩
theorem sz {n : Nat} (h : n ≤ 1000) : n ≤ sizeLine := Nat.le_of_lt (small1000 h)
section
variable {P : Program} {w : World} {K : PySem.W.Frag} {mg : Str → Option Value} {base : Heap}
/-! _law_mixed -/
theorem scMixed : FnScope ["_law_cell", "_law_k", "_law_number"] ["_law_cell", "_law_k"] (defScope tMixed) := ⟨rfl, rfl, rfl, by decide +kernel, rfl, by decide +kernel, by decide +kernel⟩
def spMixed : Sp := fun vs H Q _ => ∃ a b : Int, vs = [.int a, .int b] ∧ ∀ r : Int, Q (.int r) H
theorem okMixed {f : Addr} {fd : FuncData} {k : Nat} (F : Fun K "_law_mixed" "_law_mixed" tMixed f fd) : FnOk P w K mg base CX0 (k + 1) f fd ["_law_cell", "_law_k"] spMixed := by
  refine F.ok scMixed (fun vs H Q E h => ?_) (fun cdv A outer s H vs Q E hr h => ?_)
  · obtain ⟨a, b, rfl, _⟩ := h
    rfl
  obtain ⟨a, b, rfl, q⟩ := h
  refine ⟨_, pss_cons (ps_set (i := 2) scMixed.nd rfl (.inl rfl) (pe_op op_mod (pe_op op_mul (pe_op op_add (pe_op op_add (pe_op op_mod (pv 0) pe_int) (pe_op op_mul pe_int (pv 1))) pe_int) pe_int) pe_int))
    (pss_cons (ps_set (i := 2) scMixed.nd rfl (.inl rfl) (pe_op op_mod (pe_op op_add (pe_op op_add (pe_op op_mul (pv 2) (pv 2)) (pe_op op_mul pe_int (pv 1))) pe_int) pe_int))
    (pss_one (ps_ret (pe_op op_fdiv (pe_op op_mod (pe_op op_mul (pv 2) (pe_op op_add (pe_op op_fdiv (pv 2) pe_int) pe_int)) pe_int) pe_int)))), ?_⟩
  refine ⟨_, rfl, _, _, rfl, rfl, (by show (0 : Int) < 2147483629; decide), _, rfl, _, _, rfl, rfl, .inl ⟨by decide, by decide⟩, _, _, rfl, rfl, _, _, rfl, rfl, _, _, rfl, rfl, .inr ⟨by decide, by decide⟩, _, _, rfl, rfl, (by show (0 : Int) < 2147483647; decide), ?_⟩
  generalize hx : (a % 2147483629 + 104729 * b + 1) * 48271 % 2147483647 = x
  have x0 : 0 ≤ x := by rw [← hx]; exact Int.emod_nonneg _ (by decide)
  have x1 : x < 2147483647 := by rw [← hx]; exact Int.emod_lt_of_pos _ (by decide)
  refine ⟨_, rfl, _, rfl, _, _, rfl, rfl, .inl ⟨by omega, by omega⟩, _, rfl, _, _, rfl, rfl, .inl ⟨by decide, by decide⟩, _, _, rfl, rfl, _, _, rfl, rfl, _, _, rfl, rfl, (by show (0 : Int) < 2147483587; decide), ?_⟩
  generalize hy : (x * x + 69621 * b + 7) % 2147483587 = y
  have y0 : 0 ≤ y := by rw [← hy]; exact Int.emod_nonneg _ (by decide)
  have y1 : y < 2147483587 := by rw [← hy]; exact Int.emod_lt_of_pos _ (by decide)
  refine ⟨_, rfl, _, rfl, _, _, rfl, rfl, ⟨by decide, by decide⟩, _, _, rfl, rfl, _, _, rfl, rfl, .inl ⟨by omega, by omega⟩, _, _, rfl, rfl, (by show (0 : Int) < 2305843009213693951; decide), _, _, rfl, rfl, ⟨by decide, by decide⟩, q _⟩
/-! _law_draw -/
theorem scDraw : FnScope ["_law_deck_here", "_law_most", "_law_cell"] ["_law_deck_here", "_law_most"] (defScope tDraw) := ⟨rfl, rfl, rfl, by decide +kernel, rfl, by decide +kernel, by decide +kernel⟩
def spDraw : Sp := fun vs H Q _ => ∃ (d c : Addr) (m : Int), vs = [.ref d, .int m] ∧ Dk H d c ∧ 0 < m ∧ m < 1125899906842624 ∧ ∀ (r : Int) (G : Hp), 0 ≤ r → r < m → Kp d c H G → Dk G d c → Q (.int r) G
theorem dpInts (K : PySem.W.Frag) (H : Hp) : ∀ ns : List Int, DpAll K H (ns.map V.int) (ns.map PyData.int)
  | [] => .nil
  | n :: ns => .cons (.int n) (dpInts K H ns)
theorem okDraw {f fM : Addr} {fd fdM : FuncData} {k : Nat} (F : Fun K "_law_draw" "_law_draw" tDraw f fd) (FM : Fun K "_law_mixed" "_law_mixed" tMixed fM fdM) (bM : Binds K fdM ["_law_cell", "_law_k"] []) (gM : mg "_law_mixed" = some (.ref fM)) :
    FnOk P w K mg base CX0 (k + 2) f fd ["_law_deck_here", "_law_most"] spDraw := by
  have GM : FnOk P w K mg base CX0 (k + 1) fM fdM ["_law_cell", "_law_k"] spMixed := okMixed FM
  refine F.ok scDraw (fun vs H Q E h => ?_) (fun cdv A outer s H vs Q E hr h => ?_)
  · obtain ⟨d, c, m, rfl, _⟩ := h
    rfl
  obtain ⟨d, c, m, rfl, ⟨ndc, ⟨seed, k0, hd⟩, ⟨ns, hc, hl⟩⟩, m0, m1, q⟩ := h
  refine ⟨_, pss_cons (ps_asg (pe_op op_add (pe_ix ix_list (pv 0) pe_int (fun _ _ => rfl)) pe_int) (pg_sub (pv 0) pe_int set_list))
    (pss_cons (ps_if (pt_cmpR (op_eqD hr.units) (pe_ix ix_list (pv 0) pe_int (fun _ _ => rfl)) (pe_lst pa_nil) (nomark _))
      (pss_one (ps_ret (pe_op op_mod (pe_call GM hr (by rfl) gM FM.kp bM .nil pass0 (pa_cons (pe_ix ix_list (pv 0) pe_int (fun _ _ => rfl)) (pa_cons (pe_ix ix_list (pv 0) pe_int (fun _ _ => rfl)) pa_nil))) (pv 1)))) pss_nil)
    (pss_cons (ps_set (i := 2) scDraw.nd rfl (.inl rfl) (pe_bm0 PySem.F.plainAttrs_list PySem.F.slot_list_pop PySem.F.type_list_pop mt_pop (pe_ix ix_list (pv 0) pe_int (fun _ _ => rfl))))
    (pss_cons (ps_if (pt_cmpR op_lt (pv 2) (pe_op op_pow pe_int pe_int) (nomark _))
      (pss_one (ps_ret (pe_op op_mod (pe_call GM hr (by rfl) gM FM.kp bM .nil pass0 (pa_cons (pv 2) (pa_cons (pe_ix ix_list (pv 0) pe_int (fun _ _ => rfl)) pa_nil))) (pv 1)))) pss_nil)
    (pss_cons (ps_expr (pe_bm PySem.F.plainAttrs_list PySem.F.slot_list_append PySem.F.type_list_append mt_append (pe_ix ix_list (pv 0) pe_int (fun _ _ => rfl)) (pa_cons (pe_op op_fdivW (pv 2) (pv 1)) pa_nil)))
    (pss_one (ps_ret (pe_op op_mod (pv 2) (pv 1)))))))), ?_⟩
  -- the count
  refine ⟨_, rfl, d, _, _, _, rfl, rfl, SqL.of hd, atI_nat (j := 2) rfl, _, _, rfl, rfl, _, rfl, d, _, _, 2, rfl, rfl, hd, rfl, ?_⟩
  generalize hH1 : upd H d _ = H1
  have d1 : H1 d = some (.lst [.ref c, .int seed, .int (k0 + 1)]) := by rw [← hH1, upd_same]; rfl
  have c1 : H1 c = some (.lst (ns.map V.int)) := by rw [← hH1, upd_ne ndc.symm]; exact hc
  have p1 : Kp d c H H1 := by rw [← hH1]; exact Kp.at1
  clear hH1
  -- no cell left?
  refine ⟨_, rfl, d, _, _, _, rfl, rfl, SqL.of d1, atI_nat (j := 0) rfl, Nat.zero_le _, fun p np => ?_⟩
  have sp : Same H1 (upd H1 p (.lst [])) := newS np
  have d2 := sp _ _ d1
  have c2 := sp _ _ c1
  have p2 : Kp d c H (upd H1 p (.lst [])) := p1.trans (.of sp)
  refine ⟨.list (ns.map PyData.int), .list [], .lst (SqL.of c2) (dpInts K _ ns), .lst (SqL.of upd_same) .nil, PySem.W.ke_shaped_ints ns, rfl, _, rfl, ?_⟩
  generalize upd H1 p (.lst []) = H2 at d2 c2 p2
  refine ite2 (fun _ => ?_) (fun hne => ?_)
  · refine ⟨_, rfl, d, _, _, _, rfl, rfl, SqL.of d2, atI_nat (j := 1) rfl, _, rfl, d, _, _, _, rfl, rfl, SqL.of d2, atI_nat (j := 2) rfl, _, _, rfl, fun r => ?_⟩
    exact ⟨_, rfl, _, _, rfl, rfl, m0, q _ _ (Int.emod_nonneg _ (by omega)) (Int.emod_lt_of_pos _ m0) p2 ⟨ndc, ⟨_, _, d2⟩, ⟨ns, c2, hl⟩⟩⟩
  · have nn : ns ≠ [] := fun z => hne (by rw [z]; rfl)
    obtain ⟨n, hn⟩ : ∃ n, (ns.map V.int)[(ns.map V.int).length - 1]? = some (.int n) := by
      have h0 : 0 < ns.length := List.length_pos_iff.mpr nn
      rw [List.length_map, List.getElem?_map, List.getElem?_eq_getElem (by omega)]
      exact ⟨_, rfl⟩
    have ed : (ns.map V.int).dropLast = ns.dropLast.map V.int := by rw [List.map_dropLast]
    refine ⟨_, rfl, d, _, _, _, rfl, rfl, SqL.of d2, atI_nat (j := 0) rfl, .inl ⟨rfl, _, SqL.of c2⟩, c, _, _, rfl, rfl, c2, hn, ?_⟩
    rw [ed]
    generalize hH3 : upd H2 c _ = H3
    have d3 : H3 d = some (.lst [.ref c, .int seed, .int (k0 + 1)]) := by rw [← hH3, upd_ne ndc]; exact d2
    have c3 : H3 c = some (.lst (ns.dropLast.map V.int)) := by rw [← hH3, upd_same]
    have p3 : Kp d c H H3 := by rw [← hH3]; exact p2.trans Kp.at2
    have l3 : ns.dropLast.length ≤ 62 := by rw [List.length_dropLast]; omega
    clear hH3
    refine ⟨_, rfl, _, _, rfl, rfl, ⟨by decide, by decide, by decide⟩, _, _, rfl, rfl, _, rfl, ite2 (fun _ => ?_) (fun _ => ?_)⟩
    · refine ⟨_, rfl, _, rfl, d, _, _, _, rfl, rfl, SqL.of d3, atI_nat (j := 2) rfl, _, _, rfl, fun r => ?_⟩
      exact ⟨_, rfl, _, _, rfl, rfl, m0, q _ _ (Int.emod_nonneg _ (by omega)) (Int.emod_lt_of_pos _ m0) p3 ⟨ndc, ⟨_, _, d3⟩, ⟨_, c3, by omega⟩⟩⟩
    · refine ⟨_, rfl, d, _, _, _, rfl, rfl, SqL.of d3, atI_nat (j := 0) rfl, .inl ⟨rfl, _, SqL.of c3⟩, _, rfl, _, rfl, _, _, rfl, rfl, wide_div (b := 51) m0 (by show m.natAbs < 2251799813685248; omega) (by decide) (by decide), c, _, _, rfl, rfl, c3, (by rw [List.length_map]; exact small1000 (by omega)), ?_⟩
      refine ⟨_, rfl, _, rfl, _, _, rfl, rfl, m0, q _ _ (Int.emod_nonneg _ (by omega)) (Int.emod_lt_of_pos _ m0) (p3.trans Kp.at2) ⟨ndc, ⟨seed, k0 + 1, (by rw [upd_ne ndc]; exact d3)⟩, ⟨ns.dropLast ++ [n / m], ?_, ?_⟩⟩⟩
      · rw [upd_same, List.map_append]
        rfl
      · rw [List.length_append, List.length_singleton]
        omega
end
end Kq

namespace Kr
open PySem PySem.Spec PyProof.Rows L2 RT
section
variable {prog : Program} {w : World} {A : Around} {E : Value → Shared → Prop} {s : Shared}
/-- a list grows by what a walk from behind over another list gives -/
theorem growRev {R : Result → Shared → Prop} {it l S : Addr} {its : Array Value} {res : Value} {c0 : Nat} (hh : A.handled = none) (hit : s.heap.IsRevIter it l ((its.size : Int) - 1))
    (hl : s.heap.IsList l its) (hne : l ≠ it) (hn : its.size ≤ sizeLine) (hS : s.heap.get? S = some { cls := .type "list", data := .seq #[] c0 }) (hSi : S ≠ it) (hSl : S ≠ l)
    (hR : ∀ (h' : Heap) (tk : Nat) (acc : Array Value) (c : Nat), (∀ b o, b ≠ it → b ≠ S → s.heap.get? b = some o → h'.get? b = some o) →
      h'.get? S = some { cls := .type "list", dict := none, data := .seq acc c, slots := #[] } → ItemsOf (fun i v => its[its.size - 1 - i]? = some v) acc its.size → R (.ok (.ret res)) { s with heap := h', toks := tk }) :
    wpAny (model prog w) A.in1 (Builtin.List.listExtendWith (.ref S) (.ref it) res)
      (fun fin s' => match fin with
        | .done f => R (.ok f) s'
        | .again c' => c'.quiet = true ∧ codeAny (model prog w) A c' R s') (fun e s' => R (.error e) s') s := by
  have W := (Walks.listRev (prog := prog) (w := w) (A := A.in1) hh it l hne its).toS
  have out : S ∉ [it, l] := by
    intro z
    rcases List.mem_cons.mp z with z | z
    · exact hSi z
    · exact hSl (List.mem_singleton.mp z)
  have ty : s.TypeIs (.ref it) "list_reverseiterator" := hit.typeIs
  have no : Builtin.List.listSameRef (.ref S) (.ref it) = false := by
    simp [Builtin.List.listSameRef, hSi]
  unfold Builtin.List.listExtendWith
  refine wpAny_bind (wpAny_typeOf ty ?_)
  rw [if_neg (by rw [no]; decide)]
  refine wpAny_bind (wpAny_pyIter_revIter hit ?_)
  refine wpAny_bind (wpAny_holding ?_)
  unfold Builtin.List.listLengthHint
  refine wpAny_bind (wpAny_specialOf ty RT.nolen_lri ?_)
  show wpAny _ A.in1 (specialOf (.ref it) (Str.ofString "__length_hint__") >>= _) _ _ _
  refine wpAny_bind (wpAny_specialOf ty RT.hint_lri ?_)
  generalize hid : ("list_reverseiterator.__length_hint__" : String) = nm
  wp_delta
  have sp : splitId nm = some ("list_reverseiterator", "__length_hint__") := by
    subst hid
    decide +kernel
  rw [sp]
  subst hid
  refine wpAny_bind (wpAny_isInstance (b := true) ty (by rw [isSubtype_type]; kernel_rfl) ?_)
  refine wpAny_pure ?_
  rw [if_neg (by decide)]
  have z0 : ((its.size : Nat) : Int) - 1 - ((0 : Nat) : Int) = (its.size : Int) - 1 := by omega
  have st0 : s.heap.IsRevIter it l ((its.size : Int) - 1 - ((0 : Nat) : Int)) := by rw [z0]; exact hit
  refine wpAny_pure ⟨plainId_quiet F.plain_extend_loop _, ?_⟩
  refine codeAny_extend_loopS W hn S out res its.size 0 _ _ _ rfl (Nat.zero_le _) ⟨Nat.zero_le _, st0, hl⟩ hS (ItemsOf.nil _) (fun s' acc' c' mv hS' hacc => ?_)
  rw [Moved.eq_with mv]
  refine hR s'.heap s'.toks acc' c' (fun b o h1 h2 e => mv.heap b o (fun z => ?_) e) hS' hacc
  rcases List.mem_cons.mp z with z | z
  · exact h2 z
  · exact h1 (List.mem_singleton.mp z)
theorem call_list_rev {Q : Value → Shared → Prop} {it l : Addr} {its : Array Value} (hh : A.handled = none) (hit : s.heap.IsRevIter it l ((its.size : Int) - 1)) (hl : s.heap.IsList l its) (hne : l ≠ it) (hn : its.size ≤ sizeLine)
    (hQ : ∀ (h' : Heap) (tk : Nat) (acc : Array Value) (c : Nat), (∀ b o, b ≠ it → s.heap.get? b = some o → h'.get? b = some o) →
      h'.get? s.heap.objs.size = some { cls := .type "list", dict := none, data := .seq acc c, slots := #[] } → ItemsOf (fun i v => its[its.size - 1 - i]? = some v) acc its.size → Q (.ref s.heap.objs.size) { s with heap := h', toks := tk }) :
    wpAny (model prog w) A (call (.type "list") [.ref it]) Q E s := by
  obtain ⟨oi, hoi, _⟩ := id hit
  obtain ⟨ol, hol, _⟩ := id hl
  have n1 : s.heap.objs.size ≠ it := Nat.ne_of_gt (Heap.lt_size hoi)
  have n2 : s.heap.objs.size ≠ l := Nat.ne_of_gt (Heap.lt_size hol)
  refine callType_codes (Q₁ := fun obj s₁ => obj = .ref s.heap.objs.size ∧ s₁ = { s with heap := s.heap.push { cls := .type "list", data := .seq #[] } })
    F.called_list (F.typeCall_list_1 _) F.entry_list_init (code_list_new _ ⟨rfl, rfl⟩) (fun obj s₁ h₁ => ?_)
  obtain ⟨rfl, rfl⟩ := h₁
  have hS : (s.heap.push { cls := .type "list", data := .seq #[] }).get? s.heap.objs.size
      = some { cls := .type "list", data := .seq #[] } := Heap.get?_push_size _ rfl
  refine ⟨⟨_, hS, rfl⟩, F.args_list_init_2 _ _, ?_⟩
  show wpAny _ _ (do
    let old ← Builtin.List.listItems (.ref s.heap.objs.size)
    Builtin.List.listUpdate (.ref s.heap.objs.size) (fun _ => #[])
    letGo old.toList.reverse
    Builtin.List.listExtendWith (.ref s.heap.objs.size) (.ref it) .none) _ _ _
  refine wpAny_bind ?_
  unfold Builtin.List.listItems
  refine wpAny_bind (wpAny_seqItems hS rfl (wpAny_pure ?_))
  show wpAny _ _ (do
    updateSeq s.heap.objs.size (fun _ => #[])
    letGo (#[] : Array Value).toList.reverse
    Builtin.List.listExtendWith (.ref s.heap.objs.size) (.ref it) .none) _ _ _
  refine wpAny_bind (wpAny_updateSeq hS rfl ?_)
  have hS2 := Heap.get?_update_self (Obj.mapSeq fun _ => (#[] : Array Value)) hS rfl
  refine wpAny_bind (wpAny_letGo ?_)
  generalize hh2 : (s.heap.push { cls := .type "list", data := .seq #[] }).update s.heap.objs.size (Obj.mapSeq fun _ => (#[] : Array Value)) = h2 at hS2 ⊢
  have kp : ∀ b o, s.heap.get? b = some o → h2.get? b = some o := fun b o e => by
    rw [← hh2, Heap.get?_update_other _ _ (Nat.ne_of_gt (Heap.lt_size e))]
    exact Heap.get?_push_of_some _ e
  have hl2 : h2.IsList l its := by
    obtain ⟨o, e, r⟩ := id hl
    exact ⟨o, kp _ _ e, r⟩
  refine growRev (A := A.in1) (s := { s with heap := h2 }) hh (hit.at fun o e => kp _ _ e) hl2 hne hn hS2 n1 n2 (fun h' tk acc c k e i => ?_)
  exact ⟨rfl, hQ h' tk acc c (fun b o hb hbo => k b o hb (Nat.ne_of_lt (Heap.lt_size hbo)) (kp b o hbo)) e i⟩
end
/-- list(reversed(x)), x a list -/
def tListRev (K : PySem.W.Frag) (te : TE) : TE := fun σ H Q => te σ H fun v G => ∃ (a : Addr) (xs : List V), v = .ref a ∧ SqL K G a xs ∧ ∀ q, G q = none → Q (.ref q) (upd G q (.lst xs.reverse))
theorem pe_listRev {X : Cx} {e : Expr} {te : TE} {p p2 pos pos2 : Pos} (hc : X.calm = true) (hg : Gl X "list") (hm : X.mg "list" = none) (hg2 : Gl X "reversed") (hm2 : X.mg "reversed" = none) (he : PE X e te)
    (hs : starEach [e] X.env = (false, eval e X.env) :: starEach [] X.env := by rfl)
    (hs2 : starEach [.Call (.Name "reversed" p2) [e] [] pos2] X.env = (false, eval (.Call (.Name "reversed" p2) [e] [] pos2) X.env) :: starEach [] X.env := by rfl) :
    PE X (.Call (.Name "list" p) [.Call (.Name "reversed" p2) [e] [] pos2] [] pos) (tListRev X.K te) := by
  refine ⟨fun pins s σ H Q I h => ?_⟩
  have inner := fun (Q' : Value → Shared → Prop) (k : ∀ (a : Addr) (xs : List V) (its : List Value) (s1 : Shared) (G : Hp), Inv X pins σ G s1 → SqL X.K G a xs → Vals xs its → PlainL s1.heap a its.toArray → xs.length ≤ sizeLine →
      (∀ q, G q = none → Q (.ref q) (upd G q (.lst xs.reverse))) → Q' (.ref s1.heap.objs.size) { s1 with heap := s1.heap.push (revObj a ((its.toArray.size : Int) - 1)) }) =>
    show wpAny (model X.prog X.w) X.A (eval (.Call (.Name "reversed" p2) [e] [] pos2) X.env) Q' X.xe s from
      Call_ (ld_blt I hg2 hm2 PyProof.Rows.boot_reversed (PyProof.Rows.callWith_type1 (args_cons (thn (he.run pins s σ H _ I h) fun u s1 ⟨v, G, I1, r1, a, xs, ev, hq, q⟩ => args_nil (by
        subst ev
        obtain rfl : u = Value.ref a := r1
        obtain ⟨its, rv, pl, hz⟩ := I1.list hq
        exact call_reversed_list pl.isList (k a xs its s1 G I1 hq rv pl hz q))) hs) hs rfl))
  refine Call_ (ld_blt I hg hm boot_list (PyProof.Rows.callWith_type1 (args_cons (inner _ fun a xs its s1 G I1 hq rv pl hz q => args_nil ?_) hs2) hs2 rfl))
  have k0 : ∀ b o, s1.heap.get? b = some o → (s1.heap.push (revObj a ((its.toArray.size : Int) - 1))).get? b = some o := fun b o z => Heap.get?_push_of_some _ z
  obtain ⟨ol, hol, _⟩ := id pl.isList
  have hne : a ≠ s1.heap.objs.size := Nat.ne_of_lt (Heap.lt_size hol)
  have hn : its.toArray.size ≤ sizeLine := by rw [List.size_toArray, ← rv.length]; exact hz
  generalize hh3 : s1.heap.push (revObj a ((its.toArray.size : Int) - 1)) = h3 at k0 ⊢
  have it3 : h3.IsRevIter s1.heap.objs.size a ((its.toArray.size : Int) - 1) := by
    rw [← hh3]
    exact ⟨_, Heap.get?_push_size _ rfl, rfl, rfl⟩
  have l3 : h3.IsList a its.toArray := by
    rw [← hh3]
    exact pl.isList.push _
  have lt3 : s1.heap.objs.size < h3.objs.size := by
    obtain ⟨o, e, _⟩ := id it3
    exact Heap.lt_size e
  refine call_list_rev (s := { s1 with heap := h3 }) (I1.ok.hd hc) it3 l3 hne hn fun h' tk acc c hk hS hi => ?_
  have hgo : G h3.objs.size = none := I1.hok.fresh (Nat.le_of_lt lt3)
  refine ⟨.ref h3.objs.size, upd G h3.objs.size (.lst xs.reverse), I1.laid (t' := tk) (fun b o z => hk b o (Nat.ne_of_lt (Heap.lt_size z)) (k0 b o z)) (Nat.le_of_lt lt3)
    (show ObjOk X.prog X.w _ _ _ (.lst xs.reverse) from ⟨by rw [List.length_reverse]; exact hz, acc.toList, c, vals_rev rv hi, by rw [Array.toArray_toList]; exact hS⟩), rfl, q _ hgo⟩
/-- xs.extend(t), t a tuple -/
def rExtT (K : PySem.W.Frag) : V → List V → Hp → VK → Prop := fun x vs H Q => ∃ l b xs zs, x = .ref l ∧ vs = [.ref b] ∧ H l = some (.lst xs) ∧ SqT K H b zs ∧ xs.length + zs.length ≤ sizeLine ∧ Q .non (upd H l (.lst (xs ++ zs)))
theorem mt_extT {X : Cx} : MtM X "list.extend" (rExtT X.K) := by
  intro pins s σ H x vs v us Q I rx rv h
  obtain ⟨l, b, xs, zs, rfl, rfl, hl, hb, hz, q⟩ := h
  cases rx
  obtain ⟨u, rfl, ru⟩ := rv.one
  cases ru
  obtain ⟨z1, its, n, r1, _, e1⟩ := I.lstM hl
  obtain ⟨jts, r2, ⟨o, eo, oc, m, od⟩, z2⟩ := I.tuple hb
  have n1 := r1.length
  have n2 := r2.length
  have sm : its.toArray.size + jts.toArray.size ≤ sizeLine := by
    rw [List.size_toArray, List.size_toArray]
    omega
  have ty : s.TypeIs (.ref b) "tuple" := ⟨o, eo, oc⟩
  refine wpAny_call_entry F.slot_list_extend ⟨_, e1, rfl⟩ F.entry_list_extend ?_ (F.args_list_extend_2 _ _)
  show wpAny _ _ (Builtin.List.listExtendWith (.ref l) (.ref b) .none) _ _ _
  unfold Builtin.List.listExtendWith
  refine wpAny_bind (wpAny_typeOf ty ?_)
  have yes : (Builtin.List.listSameRef (.ref l) (.ref b) || Value.type "tuple" == Value.type "list" || Value.type "tuple" == Value.type "tuple") = true := by simp
  rw [if_pos yes]
  refine wpAny_bind ?_
  unfold Builtin.List.listItems
  refine wpAny_bind (wpAny_seqItems eo od (wpAny_pure ?_))
  refine wpAny_bind ?_
  refine wpAny_bind (wpAny_seqItems e1 rfl (wpAny_pure ?_))
  have long : (!its.toArray.isEmpty && Builtin.List.listTooLong (its.toArray.size + jts.toArray.size)) = false := by
    rw [notLongL sm, Bool.and_false]
  rw [if_neg (by rw [long]; exact Bool.false_ne_true)]
  refine wpAny_bind ?_
  show wpAny _ _ (updateSeq l (· ++ jts.toArray)) _ _ _
  refine wpAny_updateSeq e1 rfl ?_ (by rw [List.size_toArray]; omega) (by rw [Array.size_append]; omega)
  refine wpAny_pure ⟨_, rfl, ?_⟩
  refine ⟨.non, _, I.lset (its' := its ++ jts) hl e1 (by simp) (r1.append r2) ?_, rfl, q⟩
  rw [List.length_append]
  exact hz
end Kr

namespace Kq
open PySem PySem.Spec PyProof.Rows L2
abbrev tDeck : Stmt := tp 29
abbrev tNames : Stmt := tp 32
theorem Kp.mk {d c p : Addr} {H G : Hp} {o : HO} (a : Kp d c H G) (h : H p = none) : Kp d c H (upd G p o) := fun b u h1 h2 e => by
  rw [upd_ne (ne_of_none e h)]
  exact a b u h1 h2 e
theorem Dk.put {G : Hp} {d c p : Addr} {o : HO} (x : Dk G d c) (h : p ≠ d) (h' : p ≠ c) : Dk (upd G p o) d c := by
  obtain ⟨n, ⟨a, b, e⟩, ⟨ns, f, l⟩⟩ := x
  exact ⟨n, ⟨a, b, by rw [upd_ne h.symm]; exact e⟩, ⟨ns, by rw [upd_ne h'.symm]; exact f, l⟩⟩
theorem Dk.off {H : Hp} {d c p : Addr} (x : Dk H d c) (h : H p = none) : p ≠ d ∧ p ≠ c := by
  obtain ⟨n, ⟨a, b, e⟩, ⟨ns, f, l⟩⟩ := x
  exact ⟨(ne_of_none e h).symm, (ne_of_none f h).symm⟩
/-! texts of letters -/
def lets : Str := "abcdefghijklmnopqrstuvwxyz"
def sg (i : Nat) : Str := ⟨#[97 + i]⟩
theorem lets_at : ∀ i : Fin 26, lets.cps.toList[i.val]? = some (97 + i.val) := by decide +kernel
theorem lets_ix : ∀ i : Fin 26, Builtin.Str.occurrences lets (sg i.val) 0 lets.length 1 = [i.val] := by decide +kernel
structure Nm (x : Str) : Prop where
  low : ∀ c ∈ x.cps.toList, 97 ≤ c ∧ c < 123
  few : x.cps.toList.length ≤ 8
  one : 1 ≤ x.cps.toList.length
theorem app_cps (x y : Str) : (x ++ y).cps.toList = x.cps.toList ++ y.cps.toList := by
  show (x.cps ++ y.cps).toList = _
  rw [Array.toList_append]
theorem join_low : ∀ ks : List Nat, (∀ k ∈ ks, k < 26) → (∀ c ∈ (Txt.join (Str.ofString "") (ks.map sg)).cps.toList, 97 ≤ c ∧ c < 123) ∧ (Txt.join (Str.ofString "") (ks.map sg)).cps.toList.length = ks.length := by
  intro ks h
  rw [show ∀ a b, Txt.join a b = Str.join a b from TL.join_eq]
  induction ks with
  | nil => exact ⟨fun c z => absurd z (by simp [Str.join, Str.empty]), by simp [Str.join, Str.empty]⟩
  | cons k ks ih =>
    have hk := h k List.mem_cons_self
    have ih := ih fun j hj => h j (List.mem_cons_of_mem _ hj)
    cases ks with
    | nil =>
      refine ⟨fun c z => ?_, rfl⟩
      have e : c = 97 + k := by simpa [Str.join, sg] using z
      omega
    | cons j r =>
      have e : Str.join (Str.ofString "") ((k :: j :: r).map sg) = sg k ++ Str.ofString "" ++ Str.join (Str.ofString "") ((j :: r).map sg) := rfl
      rw [e, app_cps, app_cps]
      have e0 : (Str.ofString "").cps.toList = [] := by decide
      rw [e0, List.append_nil]
      refine ⟨fun c z => ?_, ?_⟩
      · rcases List.mem_append.mp z with z | z
        · have e : c = 97 + k := by simpa [sg] using z
          omega
        · exact ih.1 c z
      · rw [List.length_append, ih.2]
        show 1 + _ = _
        simp only [List.length_cons]
        omega
theorem join_nm {ks : List Nat} (h : ∀ k ∈ ks, k < 26) (h1 : 1 ≤ ks.length) (h8 : ks.length ≤ 8) : Nm (Txt.join (Str.ofString "") (ks.map sg)) := by
  obtain ⟨a, b⟩ := join_low ks h
  exact ⟨a, by omega, by omega⟩
theorem cutTo {xs : List V} {j : Nat} (h : j ≤ xs.length) : cutV xs none (some (j : Int)) = xs.take j := by
  unfold cutV
  rw [HT.sIx_nat, HT.sIx_none, Nat.min_eq_left h]
  rfl
section
variable {P : Program} {w : World} {K : PySem.W.Frag} {mg : Str → Option Value} {base : Heap}
/-! _law_deck -/
theorem scDeck : FnScope ["_law_script", "_law_cells", "_law_seed", "_law_cell"] ["_law_script"] (defScope tDeck) := ⟨rfl, rfl, rfl, by decide +kernel, rfl, by decide +kernel, by decide +kernel⟩
def spDeck (K : PySem.W.Frag) : Sp := fun vs H Q _ => ∃ (a : Addr) (ns : List Int), vs = [.ref a] ∧ SqL K H a (ns.map V.int) ∧ ns.length ≤ 63 ∧ ∀ (d c : Addr) (G : Hp), Same H G → Dk G d c → Q (.ref d) G
theorem okDeck {f : Addr} {fd : FuncData} {k : Nat} (F : Fun K "_law_deck" "_law_deck" tDeck f fd) (ml : mg "list" = none) (mr : mg "reversed" = none) : FnOk P w K mg base CX0 (k + 1) f fd ["_law_script"] (spDeck K) := by
  refine F.ok scDeck (fun vs H Q E h => ?_) (fun cdv A outer s H vs Q E hr h => ?_)
  · obtain ⟨a, ns, rfl, _⟩ := h
    rfl
  obtain ⟨a, ns, rfl, hS, hl, q⟩ := h
  refine ⟨_, pss_cons (ps_set (i := 1) scDeck.nd rfl (.inl rfl) (Kr.pe_listRev rfl (by rfl) ml (by rfl) mr (pe_slice sl_list (pv 0) po_none (po_some pe_int))))
    (pss_cons (ps_set (i := 2) scDeck.nd rfl (.inl rfl) pe_int)
    (pss_cons (ps_for PassesOwn.never rfl (pi_list (pv 1)) (pg_name (i := 3) scDeck.nd rfl (.inl rfl))
      (pss_one (ps_set (i := 2) scDeck.nd rfl (.inl rfl) (pe_op op_mod (pe_op op_add (pe_op op_add (pe_op op_mul (pv 2) pe_int) (pe_op op_mod (pv 3) pe_int)) pe_int) pe_int))))
    (pss_one (ps_ret (pe_lst (pa_cons (pv 1) (pa_cons (pv 2) (pa_cons pe_int pa_nil)))))))), ?_⟩
  refine ⟨_, rfl, 63, rfl, a, _, rfl, hS, fun p np => ?_⟩
  refine ⟨p, _, rfl, SqL.of upd_same, fun c nc => ?_⟩
  have e0 : cutV (ns.map V.int) none (some 63) = (ns.take 63).map V.int := by
    rw [List.take_of_length_le hl]
    unfold cutV
    rw [HT.sIx_none, show HT.sIx (ns.map V.int).length (ns.map V.int).length (some 63) = min 63 (ns.map V.int).length from HT.sIx_nat _ _ 63, List.drop_zero, List.take_of_length_le]
    rw [List.length_map]
    omega
  rw [e0, ← List.map_reverse]
  generalize hm : (ns.take 63).reverse = ms
  have lm : ms.length ≤ 63 := by rw [← hm, List.length_reverse, List.length_take]; omega
  generalize hG : upd (upd H p _) c (.lst (ms.map V.int)) = G
  have gc : G c = some (.lst (ms.map V.int)) := by rw [← hG, upd_same]
  have sG : Same H G := by
    rw [← hG]
    rw [e0] at nc
    exact (newS np).trans (newS nc)
  refine ⟨_, rfl, c, rfl, ⟨_, SqL.of gc⟩, for_list (xs := ms.map V.int) (fun i σ F => F = G ∧ ∃ (sd : Int) (y : Option V), σ = [some (.ref a), some (.ref c), some (.int sd), y]) ⟨rfl, _, none, rfl⟩ (fun i σ F _ z => by rw [z.1]; exact SqL.of gc) (fun i x σ F hx z => ?_) (fun σ F z => ?_)⟩
  · obtain ⟨rfl, sd, y, rfl⟩ := z
    obtain ⟨n, rfl⟩ : ∃ n, x = .int n := by
      rw [List.getElem?_map] at hx
      cases hq : ms[i]? with
      | none => rw [hq] at hx; cases hx
      | some n => rw [hq] at hx; exact ⟨n, (Option.some.inj hx).symm⟩
    exact ⟨_, rfl, _, _, rfl, rfl, .inr ⟨by decide, by decide⟩, _, rfl, _, _, rfl, rfl, (by show (0 : Int) < 1000000007; decide), _, _, rfl, rfl, _, _, rfl, rfl, _, _, rfl, rfl, (by show (0 : Int) < 2147483629; decide), rfl, _, _, rfl⟩
  · obtain ⟨rfl, sd, y, rfl⟩ := z
    refine ⟨_, rfl, _, rfl, (by show 3 ≤ sizeLine; decide), fun d nd => q d c _ (sG.trans (newS nd)) ⟨(ne_of_none gc nd).symm, ⟨_, _, upd_same⟩, ⟨ms, ?_, lm⟩⟩⟩
    rw [upd_ne (ne_of_none gc nd)]
    exact gc
end
end Kq

namespace Kq
open PySem PySem.Spec PyProof.Rows L2
theorem Kp.free {d c p : Addr} {H G : Hp} (a : Kp d c H G) (k : Dk G d c) (h : G p = none) : H p = none := by
  obtain ⟨h1, h2⟩ := k.off h
  cases e : H p with
  | none => rfl
  | some o =>
    rw [a p o h1 h2 e] at h
    cases h
theorem sg_len (ks : List Nat) : ((ks.map sg).map (·.length)).sum = ks.length := by
  induction ks with
  | nil => rfl
  | cons k ks ih =>
    rw [List.map_cons, List.map_cons, List.sum_cons, ih, List.length_cons]
    show 1 + ks.length = _
    omega
theorem lets_get {r : Int} (h0 : 0 ≤ r) (h1 : r < 26) : atI lets.cps.toList r = some (97 + r.toNat) := by
  have e : r = ((r.toNat : Nat) : Int) := by omega
  have q := atI_nat (lets_at ⟨r.toNat, by omega⟩)
  rw [← show r = (((⟨r.toNat, by omega⟩ : Fin 26).val : Nat) : Int) from e] at q
  exact q
theorem cutKs {ks : List Nat} {j : Nat} (h : j ≤ ks.length) : cutV ((ks.map sg).map V.str) none (some (j : Int)) = ((ks.take j).map sg).map V.str := by
  rw [cutTo (by rw [List.length_map, List.length_map]; exact h), List.map_take, List.map_take]
theorem lets_len : lets.length ≤ sizeLine := by decide
/-! rules for the inside of a comprehension, the written part named -/
theorem slK {X : Cx} (K : PySem.W.Frag) (h : X.K = K) : SlR X (rSlL K) := by
  subst h
  exact sl_list
def rJn (K : PySem.W.Frag) : V → List V → Hp → VK → Prop := fun x xs H Q => ∃ a p, ∃ ys : List Str, x = .str a ∧ xs = [.ref p] ∧ (SqL K H p (ys.map V.str) ∨ SqT K H p (ys.map V.str)) ∧ (ys.map (·.length)).sum + ys.length * a.length ≤ 16777216 ∧ Q (.str (Txt.join a ys)) H
theorem pe_joinK {X : Cx} (K : PySem.W.Frag) (h : X.K = K) {o e : Expr} {apos pos : Pos} {to te : TE} (ho : PE X o to) (he : PE X e te) (hbase : attributeBase o "join" X.env (eval o X.env) = eval o X.env := by rfl) (hline : (apos.endLine == pos.line) = true := by rfl)
    (hs : starEach [e] X.env = [(false, eval e X.env)] := by rfl) : PE X (.Call (.Attribute o "join" apos) [e] [] pos) (tM1 (rJn K) to te) := by
  subst h
  exact pe_join ho he hs hbase hline
theorem join_cps : ∀ ks : List Nat, (Txt.join (Str.ofString "") (ks.map sg)).cps.toList = ks.map (97 + ·) := by
  intro ks
  rw [show ∀ a b, Txt.join a b = Str.join a b from TL.join_eq]
  induction ks with
  | nil => rfl
  | cons k ks ih =>
    cases ks with
    | nil => rfl
    | cons j r =>
      have e : Str.join (Str.ofString "") ((k :: j :: r).map sg) = sg k ++ Str.ofString "" ++ Str.join (Str.ofString "") ((j :: r).map sg) := rfl
      rw [e, app_cps, app_cps, ih]
      rfl
theorem nodupR {f : Nat → Str} : ∀ n, (∀ i j, i < n → j < n → f i = f j → i = j) → ((List.range n).map f).Nodup
  | 0, _ => List.nodup_nil
  | n + 1, h => by
    rw [List.range_succ, List.map_append]
    refine List.nodup_append.mpr ⟨nodupR n fun i j hi hj e => h i j (by omega) (by omega) e, (by simp), fun x hx y hy e => ?_⟩
    obtain ⟨i, hi, rfl⟩ := List.mem_map.mp hx
    have ey : y = f n := List.mem_singleton.mp hy
    rw [ey] at e
    have hi := List.mem_range.mp hi
    have := h i n (by omega) (by omega) e
    omega
/-- the beginnings of a word -/
def nmPre (ks : List Nat) (j : Nat) : Str := Txt.join (Str.ofString "") ((ks.take (j + 1)).map sg)
theorem nmPre_inj {ks : List Nat} {n i j : Nat} (hn : n ≤ ks.length) (hi : i < n) (hj : j < n) (h : nmPre ks i = nmPre ks j) : i = j := by
  have e : (ks.take (i + 1)).map (97 + ·) = (ks.take (j + 1)).map (97 + ·) := by
    rw [← join_cps, ← join_cps]
    exact congrArg (fun s : Str => s.cps.toList) h
  have e2 := congrArg List.length e
  rw [List.length_map, List.length_map, List.length_take, List.length_take] at e2
  omega
/-- a word with another letter at a place -/
def nmAt (ls : List Nat) (a k j : Nat) : Str := Txt.join (Str.ofString "") ((ls.set a ((((k : Nat) : Int) + (0 + (j : Int))) % 26).toNat).map sg)
theorem nmAt_inj {ls : List Nat} {a k i j : Nat} (ha : a < ls.length) (hi : i < 26) (hj : j < 26) (h : nmAt ls a k i = nmAt ls a k j) : i = j := by
  have e : (ls.set a ((((k : Nat) : Int) + (0 + (i : Int))) % 26).toNat).map (97 + ·) = (ls.set a ((((k : Nat) : Int) + (0 + (j : Int))) % 26).toNat).map (97 + ·) := by
    rw [← join_cps, ← join_cps]
    exact congrArg (fun s : Str => s.cps.toList) h
  have e2 := congrArg (fun l => l[a]?) e
  simp only [List.getElem?_map, List.getElem?_set_self ha, Option.map_some] at e2
  have e3 := Option.some.inj e2
  omega
section
variable {P : Program} {w : World} {K : PySem.W.Frag} {mg : Str → Option Value} {base : Heap}
abbrev nNames : List Str := ["_law_deck_here", "_law_many", "_law_letters", "_law_k", "_law_word", "_law_long", "_law_at", "_law_found", "_law_one"]
theorem scNames : FnScope nNames ["_law_deck_here", "_law_many"] (defScope tNames) := ⟨rfl, rfl, rfl, by decide +kernel, rfl, by decide +kernel, by decide +kernel⟩
def spNames : Sp := fun vs H Q _ => ∃ (d c : Addr) (m : Int), vs = [.ref d, .int m] ∧ Dk H d c ∧ 0 ≤ m ∧ m ≤ 8 ∧
  ∀ (l : Addr) (xs : List Str) (G : Hp), Kp d c H G → Dk G d c → H l = none → G l = some (.lst (xs.map V.str)) → xs.length = m.toNat → (∀ x ∈ xs, Nm x) → xs.Nodup → Q (.ref l) G
theorem okNames {f fD : Addr} {fd fdD : FuncData} {k : Nat} (F : Fun K "_law_names" "_law_names" tNames f fd) (GD : FnOk P w K mg base CX0 (k + 2) fD fdD ["_law_deck_here", "_law_most"] spDraw) (bD : Binds K fdD ["_law_deck_here", "_law_most"] []) (gD : mg "_law_draw" = some (.ref fD)) (kD : PySem.W.keepIn K (.ref fD) = true)
    (ml : mg "list" = none) (mr : mg "range" = none) : FnOk P w K mg base CX0 (k + 3) f fd ["_law_deck_here", "_law_many"] spNames := by
  refine F.ok scNames (fun vs H Q E h => ?_) (fun cdv A outer s H vs Q E hr h => ?_)
  · obtain ⟨d, c, m, rfl, _⟩ := h
    rfl
  obtain ⟨d, c, m, rfl, dk, m0, m1, q⟩ := h
  refine ⟨_, pss_cons (ps_set (i := 2) scNames.nd rfl (.inr rfl) pe_str)
    (pss_cons (ps_set (i := 4) scNames.nd rfl (.inr rfl) (pe_lc (own := [("_law_k", 3)]) (g := gName 3) (by rfl) scNames.nd (pi_range1 (by rfl) mr (pa_cons pe_int pa_nil)) (blkOk_by (own := [("_law_k", 3)]) (N := nNames) (sc := defScope tNames) (by decide +kernel))
        (fun _ _ _ _ _ => pg_name (i := 3) scNames.nd rfl (.inl rfl)) (fun _ _ _ _ _ => pts_nil)
        (fun _ _ _ _ _ => pe_ix ix_str (pv 2) (pe_call GD hr (by rfl) gD kD bD .nil pass0 (pa_cons (pv 0) (pa_cons pe_int pa_nil))) (fun _ _ => rfl))))
    (pss_cons (ps_set (i := 5) scNames.nd rfl (.inl rfl) (pe_op op_add pe_int (pe_call GD hr (by rfl) gD kD bD .nil pass0 (pa_cons (pv 0) (pa_cons pe_int pa_nil)))))
    (pss_cons (ps_set (i := 6) scNames.nd rfl (.inl rfl) (pe_call GD hr (by rfl) gD kD bD .nil pass0 (pa_cons (pv 0) (pa_cons (pv 5) pa_nil))))
    (pss_cons (ps_if (pt_cmpR op_eq (pe_call GD hr (by rfl) gD kD bD .nil pass0 (pa_cons (pv 0) (pa_cons pe_int pa_nil))) pe_int (nomark _))
      (pss_one (ps_ret (pe_lc (own := [("_law_k", 3)]) (g := gName 3) (by rfl) scNames.nd (pi_range1 (by rfl) mr (pa_cons (pv 1) pa_nil)) (blkOk_by (own := [("_law_k", 3)]) (N := nNames) (sc := defScope tNames) (by decide +kernel))
        (fun _ _ _ _ _ => pg_name (i := 3) scNames.nd rfl (.inl rfl)) (fun _ _ _ _ _ => pts_nil)
        (fun _ _ _ _ _ => pe_joinK K rfl pe_str (pe_slice (slK K rfl) (pv 4) po_none (po_some (pe_op op_add pe_int (pv 3)))))))) pss_nil)
    (pss_cons (ps_set (i := 7) scNames.nd rfl (.inl rfl) (pe_lst pa_nil))
    (pss_cons (ps_for PassesOwn.never rfl (pi_range1 (by rfl) mr (pa_cons (pv 1) pa_nil)) (pg_name (i := 3) scNames.nd rfl (.inl rfl))
      (pss_cons (ps_set (i := 8) scNames.nd rfl (.inl rfl) (pe_callTy call_list_of (by rfl) ml boot_list (pa_cons (pe_slice sl_list (pv 4) po_none (po_some (pv 5))) pa_nil)))
      (pss_cons (ps_asg (pe_ix ix_str (pv 2) (pe_op op_mod (pe_op op_add (pe_bm PySem.F.plainAttrs_str PySem.F.slot_str_index PySem.F.type_str_index mt_sindex (pv 2) (pa_cons (pe_ix ix_list (pv 4) (pv 6) (fun _ _ => rfl)) pa_nil)) (pv 3)) pe_int) (fun _ _ => rfl)) (pg_sub (pv 8) (pv 6) set_list))
      (pss_one (ps_expr (pe_bm PySem.F.plainAttrs_list PySem.F.slot_list_append PySem.F.type_list_append mt_append (pv 7) (pa_cons (pe_join pe_str (pv 8)) pa_nil)))))))
    (pss_one (ps_ret (pv 7))))))))), ?_⟩
  -- the word
  refine ⟨8, rfl, by decide, by decide, fun W nW => lc_range (lo := 0) (n := 8) (fun i G => Kp d c H G ∧ Dk G d c ∧ ∃ ks : List Nat, ks.length = i ∧ (∀ k ∈ ks, k < 26) ∧ G W = some (.lst ((ks.map sg).map V.str)))
    ⟨(Kp.rfl).mk nW, dk.put (dk.off nW).1 (dk.off nW).2, [], rfl, (fun _ z => nomatch z), upd_same⟩ (fun i G hi z => ?_) (fun G z => ?_)⟩
  · obtain ⟨kp, dk1, ks, lk, hk, gW⟩ := z
    refine ⟨rfl, _, rfl, _, rfl, d, c, 26, rfl, dk1, by decide, by decide, fun r G1 r0 r1 kp1 dk2 => ?_⟩
    have off := dk.off nW
    have gW1 := kp1 W _ off.1 off.2 gW
    refine ⟨_, r, 97 + r.toNat, rfl, rfl, lets_len, lets_get r0 r1, _, gW1, ?_, (kp.trans kp1).mk nW, dk2.put off.1 off.2, ks ++ [r.toNat], ?_, ?_, ?_⟩
    · rw [List.length_map, List.length_map]
      exact small1000 (by omega)
    · rw [List.length_append, lk]
      rfl
    · intro j hj
      rcases List.mem_append.mp hj with hj | hj
      · exact hk j hj
      · rw [List.mem_singleton.mp hj]
        omega
    · rw [upd_same, List.map_append, List.map_append]
      rfl
  obtain ⟨kp, dk1, ks, lk, hk, gW⟩ := z
  have off := dk.off nW
  -- long, at
  refine ⟨_, rfl, d, c, 8, rfl, dk1, by decide, by decide, fun r5 G5 a0 a1 kp5 dk5 => ⟨_, _, rfl, rfl, ?_⟩⟩
  refine ⟨_, rfl, _, rfl, d, c, _, rfl, dk5, by omega, by omega, fun r6 G6 b0 b1 kp6 dk6 => ?_⟩
  refine ⟨_, rfl, d, c, 4, rfl, dk6, by decide, by decide, fun r7 G7 c0 c1 kp7 dk7 => ?_⟩
  have kpW : Kp d c G G7 := kp5.trans (kp6.trans kp7)
  have gW7 := kpW W _ off.1 off.2 gW
  have kp7' : Kp d c H G7 := kp.trans kpW
  clear kp5 kp6 kp7 dk5 dk6 gW kp dk1 kpW
  refine ⟨rfl, _, rfl, ite2 (fun c9 => ?b1) (fun _ => ?b2)⟩
  case b1 =>
    have m9 : m < 9 := by omega
    refine ⟨_, rfl, m, rfl, by omega, by omega, fun D nD => lc_range (lo := 0) (n := m.toNat) (fun i G => Kp d c H G ∧ Dk G d c ∧ G W = some (.lst ((ks.map sg).map V.str)) ∧ ∃ xs : List Str, xs.length = i ∧ (∀ x ∈ xs, Nm x) ∧ G D = some (.lst (xs.map V.str)) ∧ xs = (List.range i).map (nmPre ks)) ?_ (fun i G hi z => ?_) (fun G z => ?_)⟩
    · exact ⟨kp7'.mk (kp7'.free dk7 nD), dk7.put (dk7.off nD).1 (dk7.off nD).2, by rw [upd_ne (ne_of_none gW7 nD)]; exact gW7, [], rfl, (fun _ z => nomatch z), upd_same, rfl⟩
    · obtain ⟨kpi, dki, gWi, xs, lx, hx, gD', exs⟩ := z
      refine ⟨rfl, ⟨_, rfl⟩, _, rfl, _, rfl, _, _, rfl, rfl, ((i + 1 : Nat) : Int), congrArg V.int (by omega), W, _, rfl, SqL.of gWi, fun p np => ?_⟩
      rw [cutKs (ks := ks) (j := i + 1) (by omega)]
      have lt : (ks.take (i + 1)).length = i + 1 := by rw [List.length_take]; omega
      refine ⟨_, p, (ks.take (i + 1)).map sg, rfl, rfl, .inl (SqL.of upd_same), ?_, xs.map V.str, ?_, ?_, ?_⟩
      · rw [sg_len, List.length_map, lt]
        show i + 1 + (i + 1) * 0 ≤ 16777216
        omega
      · rw [upd_ne (ne_of_none gD' np)]
        exact gD'
      · rw [List.length_map]
        exact small1000 (by omega)
      · have hD : H D = none := kp7'.free dk7 nD
        refine ⟨(kpi.mk (kpi.free dki np)).mk hD, (dki.put (dki.off np).1 (dki.off np).2).put (dk7.off nD).1 (dk7.off nD).2, ?_, xs ++ [Txt.join (Str.ofString "") ((ks.take (i + 1)).map sg)], ?_, ?_, ?_, ?_⟩
        · rw [upd_ne (ne_of_none gW7 nD), upd_ne (ne_of_none gWi np)]
          exact gWi
        · rw [List.length_append, lx]
          rfl
        · intro x hx'
          rcases List.mem_append.mp hx' with z | z
          · exact hx x z
          · rw [List.mem_singleton.mp z]
            exact join_nm (fun j hj => hk j (List.mem_of_mem_take hj)) (by omega) (by omega)
        · rw [upd_same, List.map_append]
          rfl
        · rw [exs, List.range_succ, List.map_append]
          rfl
    · obtain ⟨kpi, dki, gWi, xs, lx, hx, gD', exs⟩ := z
      refine q D xs G kpi dki (kp7'.free dk7 nD) gD' lx hx ?_
      rw [exs]
      exact nodupR _ fun i j hi hj e => nmPre_inj (ks := ks) (n := m.toNat) (by omega) hi hj e
  case b2 =>
    refine ⟨Nat.zero_le _, fun Fd nF => ?_⟩
    have hF : H Fd = none := kp7'.free dk7 nF
    have offF := dk7.off nF
    have nFW : W ≠ Fd := ne_of_none gW7 nF
    refine ⟨_, rfl, m, rfl, by omega, by omega, for_range (lo := 0) (n := m.toNat) (fun i σ G => ∃ y3 y8, σ = [some (.ref d), some (.int m), some (.str lets), y3, some (.ref W), some (.int (1 + r5)), some (.int r6), some (.ref Fd), y8] ∧
      Kp d c H G ∧ Dk G d c ∧ G W = some (.lst ((ks.map sg).map V.str)) ∧ ∃ xs : List Str, xs.length = i ∧ (∀ x ∈ xs, Nm x) ∧ G Fd = some (.lst (xs.map V.str)) ∧ xs = (List.range i).map (nmAt (ks.take (1 + r5).toNat) r6.toNat (ks.getD r6.toNat 0))) ?_ (fun i σ G hi z => ?_) (fun σ G z => ?_)⟩
    · exact ⟨_, _, rfl, kp7'.mk hF, dk7.put offF.1 offF.2, by rw [upd_ne nFW]; exact gW7, [], rfl, (fun _ z => nomatch z), upd_same, rfl⟩
    · obtain ⟨y3, y8, rfl, kpi, dki, gWi, xs, lx, hx, gF, exs⟩ := z
      refine ⟨_, rfl, _, rfl, (((1 + r5).toNat : Nat) : Int), congrArg V.int (by omega), W, _, rfl, SqL.of gWi, fun p np => ?_⟩
      rw [cutKs (ks := ks) (j := (1 + r5).toNat) (by omega)]
      refine ⟨p, _, rfl, .inl (SqL.of upd_same), fun o no => ?_⟩
      have kp1 : Same G (upd (upd G p (.lst (((ks.take (1 + r5).toNat).map sg).map V.str))) o (.lst (((ks.take (1 + r5).toNat).map sg).map V.str))) := (newS np).trans (newS no)
      have gW1 := kp1 _ _ gWi
      have gF1 := kp1 _ _ gF
      have oG : G o = none := (newS np).free no
      generalize hG1 : upd (upd G p _) o (.lst (((ks.take (1 + r5).toNat).map sg).map V.str)) = G1 at kp1 gW1 gF1
      have gO : G1 o = some (.lst (((ks.take (1 + r5).toNat).map sg).map V.str)) := by rw [← hG1, upd_same]
      clear hG1
      have hat : r6.toNat < ks.length := by omega
      have h26 : ks[r6.toNat] < 26 := hk _ (List.getElem_mem hat)
      have e6 : r6 = ((r6.toNat : Nat) : Int) := by omega
      have gat : atI ((ks.map sg).map V.str) r6 = some (.str (sg ks[r6.toNat])) := by
        have z := atI_nat (xs := (ks.map sg).map V.str) (j := r6.toNat) (v := .str (sg ks[r6.toNat])) (by rw [List.getElem?_map, List.getElem?_map, List.getElem?_eq_getElem hat]; rfl)
        rw [← e6] at z
        exact z
      have occ : Builtin.Str.occurrences lets (sg ks[r6.toNat]) 0 lets.length 1 = [ks[r6.toNat]] := lets_ix ⟨ks[r6.toNat], h26⟩
      generalize hv : (((ks[r6.toNat] : Nat) : Int) + (0 + (i : Int))) % 26 = v
      have v0 : 0 ≤ v := by rw [← hv]; exact Int.emod_nonneg _ (by decide)
      have v1 : v < 26 := by rw [← hv]; exact Int.emod_lt_of_pos _ (by decide)
      refine ⟨_, rfl, _, rfl, rfl, _, rfl, _, rfl, W, _, _, _, rfl, rfl, SqL.of gW1, gat, lets, _, _, _, rfl, rfl, occ, _, rfl, _, _, rfl, rfl, _, _, rfl, rfl, (by show (0 : Int) < 26; decide), _, v, 97 + v.toNat, rfl, congrArg V.int hv, lets_len, lets_get v0 v1, ?_⟩
      have lq : ((ks.take (1 + r5).toNat).map sg).length = (1 + r5).toNat := by rw [List.length_map, List.length_take]; omega
      have eix : ixN (((ks.take (1 + r5).toNat).map sg).map V.str).length r6 = some r6.toNat := by
        unfold ixN
        rw [List.length_map, lq, if_pos b0, if_pos (by omega)]
      refine ⟨_, rfl, _, rfl, o, _, _, r6.toNat, rfl, rfl, gO, eix, ?_⟩
      have eset : ((((ks.take (1 + r5).toNat).map sg).map V.str).set r6.toNat (.str ⟨#[97 + v.toNat]⟩)) = ((((ks.take (1 + r5).toNat).set r6.toNat v.toNat).map sg).map V.str) := by
        rw [List.map_set, List.map_set]
        rfl
      rw [eset]
      generalize hls : (ks.take (1 + r5).toNat).set r6.toNat v.toNat = ls
      have ll : ls.length = (1 + r5).toNat := by rw [← hls, List.length_set, List.length_take]; omega
      have hls2 : ∀ k ∈ ls, k < 26 := fun j hj => by
        rw [← hls] at hj
        rcases List.mem_or_eq_of_mem_set hj with z | z
        · exact hk j (List.mem_of_mem_take z)
        · rw [z]
          omega
      have nFo : Fd ≠ o := fun z => by
        rw [z] at gF
        rw [gF] at oG
        cases oG
      have nWo : W ≠ o := fun z => by
        rw [z] at gWi
        rw [gWi] at oG
        cases oG
      have gF2 : (upd G1 o (.lst ((ls.map sg).map V.str))) Fd = some (.lst (xs.map V.str)) := by
        rw [upd_ne nFo]
        exact gF1
      refine ⟨_, rfl, .inl ⟨rfl, _, SqL.of gF2⟩, ⟨_, rfl⟩, _, rfl, _, o, ls.map sg, rfl, rfl, .inl (SqL.of upd_same), ?_, Fd, _, _, rfl, rfl, gF2, ?_, ?_⟩
      · rw [sg_len, List.length_map, ll]
        show (1 + r5).toNat + (1 + r5).toNat * 0 ≤ 16777216
        omega
      · rw [List.length_map]
        exact small1000 (by omega)
      · have oH : H o = none := kpi.free dki oG
        have offo := dki.off oG
        refine ⟨_, _, rfl, ((kpi.trans (Kp.of kp1)).mk oH).mk hF, ((dki.same kp1).put offo.1 offo.2).put offF.1 offF.2, ?_, xs ++ [Txt.join (Str.ofString "") (ls.map sg)], ?_, ?_, ?_, ?_⟩
        · rw [upd_ne nFW, upd_ne nWo]
          exact gW1
        · rw [List.length_append, lx]
          rfl
        · intro x hx'
          rcases List.mem_append.mp hx' with z | z
          · exact hx x z
          · rw [List.mem_singleton.mp z]
            exact join_nm hls2 (by omega) (by omega)
        · rw [upd_same, List.map_append]
          rfl
        · rw [exs, List.range_succ, List.map_append, ← hls, ← hv]
          have eg : ks.getD r6.toNat 0 = ks[r6.toNat] := by simp [List.getD, List.getElem?_eq_getElem hat]
          rw [eg]
          rfl
    · obtain ⟨y3, y8, rfl, kpi, dki, gWi, xs, lx, hx, gF, exs⟩ := z
      refine ⟨_, rfl, q Fd xs G kpi dki hF gF lx hx ?_⟩
      rw [exs]
      exact nodupR _ fun i j hi hj e => nmAt_inj (by rw [List.length_take]; omega) (by omega) (by omega) e
end
end Kq

namespace Kq
open PySem PySem.Spec PyProof.Rows L2
/-- the tuples stay -/
def Tk (H G : Hp) : Prop := ∀ b xs, H b = some (.tup xs) → G b = some (.tup xs)
theorem Tk.of {H G : Hp} (s : Same H G) : Tk H G := fun b xs e => s b _ e
theorem Tk.rfl {H : Hp} : Tk H H := fun _ _ e => e
theorem Tk.trans {H G F : Hp} (a : Tk H G) (b : Tk G F) : Tk H F := fun x o e => b x o (a x o e)
theorem Tk.kp {H G : Hp} {d c : Addr} (a : Kp d c H G) (k : Dk H d c) : Tk H G := fun b xs e => by
  obtain ⟨n, ⟨s, k0, hd⟩, ⟨ns, hc, _⟩⟩ := k
  refine a b _ (fun z => ?_) (fun z => ?_) e
  · rw [z, hd] at e
    cases e
  · rw [z, hc] at e
    cases e
theorem Tk.put {H G : Hp} {p : Addr} {o : HO} (a : Tk H G) (h : ∀ xs, H p ≠ some (.tup xs)) : Tk H (upd G p o) := fun b xs e => by
  rw [upd_ne (fun z => h xs (by rw [← z]; exact e))]
  exact a b xs e
theorem cutFrom1 (x : V) (vs : List V) : cutV (x :: vs) (some 1) none = vs := by
  unfold cutV
  rw [show HT.sIx (x :: vs).length 0 (some 1) = min 1 (x :: vs).length from HT.sIx_nat _ _ 1, HT.sIx_none, List.length_cons, Nat.min_eq_left (by omega)]
  show (vs.take (vs.length + 1 - 1)) = vs
  rw [Nat.add_sub_cancel, List.take_length]
theorem notWhole (x : V) (vs : List V) : ¬ (HT.sIx (x :: vs).length 0 (some 1) = 0 ∧ HT.sIx (x :: vs).length (x :: vs).length none = (x :: vs).length) := by
  rw [show HT.sIx (x :: vs).length 0 (some 1) = min 1 (x :: vs).length from HT.sIx_nat _ _ 1, List.length_cons, Nat.min_eq_left (by omega)]
  rintro ⟨h, _⟩
  cases h
theorem smk {H G : Hp} {p : Addr} {o : HO} (a : Same H G) (h : H p = none) : Same H (upd G p o) := fun b u e => by
  rw [upd_ne (ne_of_none e h)]
  exact a b u e
end Kq

namespace Kq
open PySem PySem.Spec PyProof.Rows L2
theorem Nm.ok {x : Str} (h : Nm x) : PyData.strOk x = true := by
  unfold PyData.strOk
  rw [← Array.all_toList, List.all_eq_true]
  intro c hc
  have := (h.low c hc).2
  exact decide_eq_true (by omega)
theorem dpStrs (K : PySem.W.Frag) (H : Hp) : ∀ xs : List Str, DpAll K H (xs.map V.str) (xs.map PyData.str)
  | [] => .nil
  | x :: xs => .cons (.str x) (dpStrs K H xs)
theorem layStrs : ∀ xs : List Str, (∀ x ∈ xs, Nm x) → PyData.canLayAll0 (xs.map PyData.str) = true ∧ PyData.depthAll (xs.map PyData.str) = 0
  | [], _ => ⟨by simp [PyData.canLayAll0], by simp [PyData.depthAll]⟩
  | x :: xs, h => by
    obtain ⟨a, b⟩ := layStrs xs fun y hy => h y (List.mem_cons_of_mem _ hy)
    have c := (h x List.mem_cons_self).ok
    exact ⟨by simp [PyData.canLayAll0, PyData.canLay0, a, c], by simp [PyData.depthAll, PyData.depth, b]⟩
theorem shStrs {xs : List Str} (h : ∀ x ∈ xs, Nm x) : SeqAt.shaped (.list (xs.map PyData.str)) = true := by
  obtain ⟨a, b⟩ := layStrs xs h
  simp [SeqAt.shaped, PyData.canLay0, PyData.depth, a, b]
theorem eqvNil (xs : List Str) : PyData.eqv (.list (xs.map PyData.str)) (.list []) = xs.isEmpty := by
  cases xs <;> simp [PyData.eqv, PyData.eqvAll]
theorem isiK {X : Cx} (K : PySem.W.Frag) (h : X.K = K) : CallR X (.builtin "isinstance") (rIsi K) := by
  subst h
  exact call_isi
theorem ixTK {X : Cx} (K : PySem.W.Frag) (h : X.K = K) : IxR X (rIxT K) := by
  subst h
  exact ix_tup
section
variable {P : Program} {w : World} {K : PySem.W.Frag} {mg : Str → Option Value} {base : Heap}
theorem noFn {f : Addr} {fd : FuncData} {ps : List Str} {sp : Sp} {k : Nat} (no : ∀ vs H Q E, ¬ sp vs H Q E) : FnOk P w K mg base CX0 k f fd ps sp :=
  ⟨fun vs H Q E h => absurd h (no vs H Q E), fun A outer s H args us vs Q E _ _ _ _ h => absurd h (no vs H Q E)⟩
end
end Kq

/-! all(..) of a generator expression whose element may call defs -/
namespace Kg
open PySem PySem.Spec PyProof.Rows L2 GenW GxR
open Sem (wp)
theorem over_startC {A : Around} {elt t it : Expr} {ifs : List Expr} {scope : Scope} {pos : Pos} {iv acc : Value} {env : Env} : A.over (.compStart (.GeneratorExp elt [⟨t, it, ifs, 0⟩] scope pos) 0 iv acc env) [] = A.deeper env := by
  first
    | rfl
    | (obtain ⟨hd, d, fr, gs, u⟩ := A; simp [Around.over, Around.deeper, marksOver, frameCount, unitsOf, envsOf, guardsOf, pushEnvs, pushGuards, Code.envs, Code.env?, Code.isFrame, Code.guards, Code.isGuard, Code.weight, Code.frames, Code.isCreation, Code.isCaller, Code.cUnits])
theorem over_loopC {A : Around} {elt t it : Expr} {ifs : List Expr} {scope : Scope} {pos : Pos} {iv acc : Value} {env : Env} : A.over (.compLoop (.GeneratorExp elt [⟨t, it, ifs, 0⟩] scope pos) 0 iv acc env) [] = A.deeper env := by
  first
    | rfl
    | (obtain ⟨hd, d, fr, gs, u⟩ := A; simp [Around.over, Around.deeper, marksOver, frameCount, unitsOf, envsOf, guardsOf, pushEnvs, pushGuards, Code.envs, Code.env?, Code.isFrame, Code.guards, Code.isGuard, Code.weight, Code.frames, Code.isCreation, Code.isCaller, Code.cUnits])
/-- the scope of a generator expression within a def: its own names, those that it captures (with their places in N) -/
structure GxS (N : List Str) (sc scope : Scope) (own : List Str) (caps : List (Str × Nat)) : Prop where
  kind : scope.kind = .function
  co : scope.isCoroutine = false
  cell : ∀ y ∈ scope.names, y.2 ≠ .cell
  dot : scope.names.lookup (".0" : Str) = some NameKind.local
  nd : (own ++ caps.map (·.1)).Nodup
  caps : ∀ p ∈ caps, N[p.2]? = some p.1 ∧ scope.names.lookup p.1 = some .free
  free : ∀ y ∈ scope.names, y.2 = .free → sc.names.lookup y.1 = some .cell ∨ sc.names.lookup y.1 = some .free
  uniq : ∀ y ∈ scope.names, scope.names.lookup y.1 = some y.2
abbrev gxN (own : List Str) (caps : List (Str × Nat)) : List Str := own ++ caps.map (·.1)
abbrev gxSt (own : List Str) (caps : List (Str × Nat)) (σ : L2.St) : L2.St := own.map (fun _ => none) ++ caps.map (fun p => (σ[p.2]?).join)
abbrev gxEnv (X : Cx) (scope : Scope) (C : Addr) (code : Value) : Env := genEnv scope (cloFrom X.env.cells scope.names []) C code builtinsNs X.env
/-- the context of its frame -/
abbrev gcx (X : Cx) (A : Around) (N : List Str) (s : Shared) (H : Hp) (cenv : Env) (fp : List Addr) : Cx :=
  { X with A := A.deeper cenv, N := N, s_0 := s, H_0 := H, env := cenv, outer := X.stack, stack := cenv :: X.stack, ex := fp, fn := fun _ => false, calm := true, pn := [], xe := fun _ _ => False }
section
variable {X : Cx} {pins : List (Addr × Obj)} {σ : L2.St} {H : Hp} {s : Shared}
theorem gx_start {A : Around} {scope : Scope} {own : List Str} {caps : List (Str × Nat)} {fp : List Addr} {code : Value} {m0 : Str → Option Value} {s1 : Shared} (I : Inv X pins σ H s) (S : GxS X.N X.env.scope scope own caps) (hh : A.handled = none) (hfr : A.frames = some X.stack)
    (hfp : ∀ b ∈ fp, FpOk X pins H b ∧ b < s.heap.objs.size) (hns : s1.heap.Ns s.heap.objs.size m0) (kp : ∀ b o, s.heap.get? b = some o → s1.heap.get? b = some o) (hos : s1.os = s.os) (hb : AllBare s1.gens) :
    Inv (gcx X A (gxN own caps) s H (gxEnv X scope s.heap.objs.size code) fp) [] (gxSt own caps σ) H s1 := by
  have hfree : ∀ y ∈ scope.names, y.2 = .free → ∃ c, X.env.cells.lookup y.1 = some c := fun y hy e => by
    rcases S.free y hy e with k | k
    · exact I.ok.has _ (.inl k)
    · exact I.ok.has _ (.inr k)
  have cm : ∀ {y c}, (y, c) ∈ cloFrom X.env.cells scope.names [] → X.env.cells.lookup y = some c ∧ c < s.heap.objs.size := fun {y c} hm => by
    rcases cloFrom_mem hm with hm | ⟨h1, rfl⟩
    · cases hm
    · obtain ⟨c, hc⟩ := hfree _ h1 rfl
      rw [hc]
      obtain ⟨w, z⟩ := I.cell _ _ hc
      exact ⟨rfl, z.lt⟩
  have mem : ∀ {y c}, (cloFrom X.env.cells scope.names []).lookup y = some c → X.env.cells.lookup y = some c ∧ c < s.heap.objs.size := fun {y c} e => cm (PySem.mem_of_lookup e)
  have look : ∀ {y}, scope.names.lookup y = some .free → ∃ c, (cloFrom X.env.cells scope.names []).lookup y = some c := fun {y} hl => by
    have hy : (y, NameKind.free) ∈ scope.names := PySem.mem_of_lookup hl
    exact mem_lookup (cloFrom_has (cells := X.env.cells) (acc := []) hy)
  have nfs : ∀ b o, X.base.get? b = some o → b ∉ frs X.stack := fun b o e z => by
    rcases List.mem_cons.mp (I.stkSub b z) with z | z
    · have h1 := Heap.lt_size e
      have h2 := Nat.le_trans I.ok.bsz I.ok.above
      rw [z] at h1
      exact absurd (Nat.lt_of_lt_of_le h1 h2) (Nat.lt_irrefl _)
    · exact I.ok.nofr e z
  have okB : (gcx X A (gxN own caps) s H (gxEnv X scope s.heap.objs.size code) fp).Ok := by
    refine ⟨I.ok.mod, S.kind, I.ok.glob, rfl, Nat.le_refl _, fun y z c e1 e2 => I.ok.inj y z c (mem e1).1 (mem e2).1, fun y hy => ?_, fun y c z e => ?_, fun _ => hh, ?_, .inr ⟨rfl, rfl⟩, fun b hb => ⟨Nat.ne_of_lt (hfp b hb).2, fun y c e z => (hfp b hb).1.2.2.2.2.1 y c (mem e).1 z⟩,
      I.bs, Nat.le_trans I.ok.bsz I.sz, fun b o e hb => ?_, fun b hb z => ?_, I.stack, I.stkFree⟩
    · have hy : scope.names.lookup y = some .cell ∨ scope.names.lookup y = some .free := hy
      rcases hy with hy | hy
      · exact absurd rfl (S.cell _ (PySem.mem_of_lookup hy))
      · exact look hy
    · cases z
    · exact Around.frames_deeper hfr
    · rcases (hfp b hb).1.2.2.2.1 with z | z
      · exact I.ok.noex b o e z
      · exact absurd (Nat.lt_of_lt_of_le (Heap.lt_size e) (Nat.le_trans I.ok.bsz z)) (Nat.lt_irrefl _)
    · rcases List.mem_cons.mp (I.stkSub b z) with z | z
      · exact (hfp b hb).1.2.1 z
      · exact (hfp b hb).1.2.2.1 z
  refine ⟨okB, hos, hb, Un.kept kp, ⟨m0, hns, fun i y av e1 e2 e3 => ?_⟩, fun y c e => ?_, I.hok.fresh (Nat.le_refl _), fun y c e => ?_, fun p hp => ?_, I.hok.kept kp, ?_⟩
  · have e1 : (own ++ caps.map (·.1))[i]? = some y := e1
    have e2 : (own.map (fun _ => (none : Option V)) ++ caps.map (fun p => (σ[p.2]?).join))[i]? = some (some av) := e2
    by_cases hi : i < own.length
    · rw [List.getElem?_append_left (by rw [List.length_map]; exact hi), List.getElem?_map, List.getElem?_eq_getElem hi] at e2
      cases e2
    · rw [List.getElem?_append_right (by rw [List.length_map]; omega), List.length_map, List.getElem?_map] at e2
      rw [List.getElem?_append_right (by omega), List.getElem?_map] at e1
      cases hc : caps[i - own.length]? with
      | none => rw [hc] at e1; cases e1
      | some p =>
        rw [hc] at e1 e2
        have e1 : p.1 = y := Option.some.inj e1
        have e2 : (σ[p.2]?).join = some av := Option.some.inj e2
        obtain ⟨hN, hf⟩ := S.caps p (List.mem_of_getElem? hc)
        have hσ : σ[p.2]? = some (some av) := by
          cases q : σ[p.2]? with
          | none => rw [q] at e2; cases e2
          | some o => rw [q] at e2; exact congrArg some e2
        have hv : X.env.scope.names.lookup p.1 = some .cell ∨ X.env.scope.names.lookup p.1 = some .free := S.free (p.1, .free) (PySem.mem_of_lookup hf) rfl
        obtain ⟨m, hm, hl⟩ := I.loc
        obtain ⟨u, ru, lk⟩ := hl p.2 p.1 av hN hσ (.inr hv)
        subst e1
        refine ⟨u, ru, .inr ⟨.inr hf, ?_⟩⟩
        obtain ⟨c, hc'⟩ := look hf
        refine ⟨c, hc', ?_⟩
        rcases lk with ⟨h1, _⟩ | ⟨_, c2, h2, h3⟩
        · have h1 : X.env.scope.names.lookup p.1 = some .local := h1
          rcases hv with hv | hv
          · rw [hv] at h1; cases h1
          · rw [hv] at h1; cases h1
        · rw [(mem hc').1] at h2
          cases h2
          obtain ⟨o, ho, hd⟩ := h3
          exact ⟨o, kp _ _ ho, hd⟩
  · obtain ⟨v, o, ho, hd⟩ := I.cell y c (mem e).1
    exact ⟨v, o, kp _ _ ho, hd⟩
  · exact I.freeC y c (mem e).1
  · exact absurd (show p ∈ ([] : List (Addr × Obj)) ++ [] from hp) (by simp)
  · show (own.map (fun _ => (none : Option V)) ++ caps.map (fun p => (σ[p.2]?).join)).length = (own ++ caps.map (·.1)).length
    simp
end
/-! the protocol -/
/-- behind the whole: only the table of generators has turned, things may be new -/
def Done (Qf : Value → Shared → Prop) (b : Bool) (s : Shared) : Prop := ∀ s' : Shared, (∀ x o, s.heap.get? x = some o → s'.heap.get? x = some o) → s'.os = s.os → AllBare s'.gens → Qf (.bool b) s'
def GEndA (Qf : Value → Shared → Prop) : Nat → Shared → Shared → Prop := fun _ _ s => AllBare s.gens ∧ Done Qf true s
def GProto (Qf : Value → Shared → Prop) (a : Addr) (g : Nat) : Protocol := fun _ _ v s kap =>
  ∃ b : Bool, v = .bool b ∧ s.heap.IsGen a g ∧ s.heap.NoLimit ∧ AllBare s.gens ∧ (b = true → ∀ s' : Shared, s'.heap = s.heap → s'.os = s.os → AllBare s'.gens → kap (.send .none) s') ∧ (b = false → Done Qf false s)
section
variable {P : Program} {w : World} {A : Around} {Qf : Value → Shared → Prop} {a : Addr} {g : Nat}
/-- all's own loop -/
theorem all_drain (hh : A.handled = none) (hd : A.depth < recursionLimit) : ∀ (n : Nat) (s : Shared), s.heap.IsGen a g → s.heap.NoLimit →
    (∃ gs, s.gens[g]? = some gs ∧ gs.Goes (model P w) A.in1.in1 (fun n s₀ r s₁ => r = .ok .next ∧ GEndA Qf n s₀ s₁) (GProto Qf a g) n (.send .none) (s.setGen g .running)) →
    codeAny (model P w) A (.builtin "all.loop" ⟨[.ref a], []⟩) (fun r s' => ∃ b : Bool, r = .ok (.ret (.bool b)) ∧ Qf (.bool b) s') s := by
  intro n
  induction n with
  | zero =>
    intro s hg hl ⟨gs, hgs, hgo⟩
    refine codeAny_builtin F.entry_all_loop ?_
    rw [Around.under_plainId F.plain_all_loop _]
    show wpAny _ A.in1 (pyNext (.ref a) >>= _) _ _ s
    refine wpAny_bind (wpAny_pyNext_genexpQ (A := A.in1) (P := GEndA Qf) hh hl hd hg hgs hgo (fun v s₁ gs' hbare hv => ?_) (fun s₁ hp h' hk => ?_))
    · obtain ⟨b, rfl, hg1, hl1, hb1, ht, hf⟩ := hv
      cases b with
      | true => exact False.elim (ht rfl s₁ rfl rfl hb1)
      | false =>
        refine wpAny_bind (wpAny_holding (wpAny_truthy_bool ?_))
        refine wpAny_bind (wpAny_letGo ?_)
        simp only [Bool.false_eq_true, if_false]
        refine wpAny_bind (wpAny_rule (wpAny_pure ⟨false, rfl, hf rfl _ (fun x o e => e) rfl (allBare_setGen hb1 hbare)⟩))
    · refine wpAny_bind (wpAny_rule (wpAny_pure ⟨true, rfl, hp.2 _ hk rfl (allBare_setGen hp.1 rfl)⟩))
  | succ n ih =>
    intro s hg hl ⟨gs, hgs, hgo⟩
    have hgl : g < s.gens.size := (Array.getElem?_eq_some_iff.mp hgs).1
    refine codeAny_builtin F.entry_all_loop ?_
    rw [Around.under_plainId F.plain_all_loop _]
    show wpAny _ A.in1 (pyNext (.ref a) >>= _) _ _ s
    refine wpAny_bind (wpAny_gsz (n := g + 1) hgl (wpAny_pyNext_genexpQ (A := A.in1) (P := GEndA Qf) hh hl hd hg hgs hgo (fun v s₁ gs' hbare hv => ?_) (fun s₁ hp h' hk => ?_)))
    · intro hsz
      have hsz1 : g < s₁.gens.size := by
        have q : (s₁.setGen g gs').gens.size = s₁.gens.size := setGen_size _ _ _
        have hsz' : g + 1 ≤ (s₁.setGen g gs').gens.size := hsz
        omega
      obtain ⟨b, rfl, hg1, hl1, hb1, ht, hf⟩ := hv
      refine wpAny_bind (wpAny_holding (wpAny_truthy_bool ?_))
      refine wpAny_bind (wpAny_letGo ?_)
      cases b with
      | true =>
        simp only [if_true]
        refine wpAny_pure ⟨plainId_quiet F.plain_all_loop _, ih _ hg1 hl1 ⟨gs', setGen_at hsz1, ?_⟩⟩
        exact ht rfl _ rfl rfl (allBare_setGen (s := s₁.setGen g gs') (allBare_setGen hb1 hbare) rfl)
      | false =>
        simp only [Bool.false_eq_true, if_false]
        refine wpAny_bind (wpAny_rule (wpAny_pure ⟨false, rfl, hf rfl _ (fun x o e => e) rfl (allBare_setGen hb1 hbare)⟩))
    · intro hsz
      refine wpAny_bind (wpAny_rule (wpAny_pure ⟨true, rfl, hp.2 _ hk rfl (allBare_setGen hp.1 rfl)⟩))
theorem call_all_gen {E : Value → Shared → Prop} {n : Nat} {s : Shared} (hh : A.handled = none) (hd : A.depth < recursionLimit) (hg : s.heap.IsGen a g) (hl : s.heap.NoLimit)
    (hgo : ∃ gs, s.gens[g]? = some gs ∧ gs.Goes (model P w) A.in1.in1 (fun n s₀ r s₁ => r = .ok .next ∧ GEndA Qf n s₀ s₁) (GProto Qf a g) n (.send .none) (s.setGen g .running)) : wpAny (model P w) A (call (.builtin "all") [.ref a]) Qf E s := by
  refine call_function_tree F.kind_all F.plain_all F.entry_all (F.args_all1 _) ?_
  unfold Builtin.«all»
  refine wpAny_bind (m := oneArg "all" _) (wpAny_pure ?_)
  refine wpAny_bind (wpAny_pyIter_gen hg ?_)
  refine wpAny_pure ⟨plainId_quiet F.plain_all_loop _, codeAny_mono (all_drain hh hd n s hg hl hgo) fun r s' h => ?_⟩
  obtain ⟨b, rfl, q⟩ := h
  exact q
end
end Kg

namespace Kg
open PySem PySem.Spec PyProof.Rows L2 GenW GxR
open Sem (wp)
theorem inv_same {G : Cx} {pins : List (Addr × Obj)} {σ : L2.St} {H : Hp} {s s' : Shared} (I : Inv G pins σ H s) (hk : ∀ x o, s.heap.get? x = some o → s'.heap.get? x = some o) (ho : s'.os = s.os) (hb : AllBare s'.gens) : Inv G pins σ H s' :=
  I.call' (ch := []) ho (Un.kept hk) (I.hok.kept hk) hb fun b z => by simp at z
/-- a turn's wish -/
def Turns (J : It) (σ0 : L2.St) (vs : List Nat) (g : TG) (te : TE) (Qe : Bool → Hp → Prop) (W : Nat → Nat → Hp → Prop) : Prop :=
  ∀ i m H, W i m H → (J.stop i H ∧ Qe true H) ∨ (J.go i H ∧ ∃ Nx : Hp → Prop, (∀ H', Nx H' → ∃ m', m' < m ∧ W (i + 1) m' H') ∧ ∀ x H', J.yld i H x H' → g x σ0 H' fun σ2 H2 => wipe σ2 vs = σ0 ∧ te σ2 H2 fun y H4 => ∃ b, y = .bl b ∧ if b = true then Nx H4 else Qe false H4)
section
variable {X : Cx} {A : Around} {N : List Str} {s4 : Shared} {H0 : Hp} {cenv : Env} {fp : List Addr} {tg elt iter : Expr} {scope : Scope} {pos : Pos} {it a : Addr} {gi : Nat} {go : Obj} {J : It} {tn : Nat → Heap → Prop} {σ0 : L2.St} {vs : List Nat} {g : TG} {te : TE} {Qe : Bool → Hp → Prop} {W : Nat → Nat → Hp → Prop} {Qf : Value → Shared → Prop}
theorem gx_loop (hh : A.handled = none) (hco : cenv.scope.isCoroutine = false) (T : Turn X.prog X.w X.K tg J fp it tn) (haf : a ∉ fp) (hgen : ∀ h : Heap, h.get? a = some go → h.IsGen a gi)
    (pg : PG (gcx X A N s4 H0 cenv fp) tg g) (pe : PE (gcx X A N s4 H0 cenv fp) elt te) (turn : Turns J σ0 vs g te Qe W)
    (hfin : ∀ b s H', Inv (gcx X A N s4 H0 cenv fp) [(a, go)] σ0 H' s → Qe b H' → Done Qf b s) :
    ∀ (m n i : Nat) (H : Hp) (s₀ s : Shared), m < n → W i m H → Inv (gcx X A N s4 H0 cenv fp) [(a, go)] σ0 H s → tn i s.heap → (∀ b ∈ fp, H b = none) →
      Seg (model X.prog X.w) A (fun n s₀ r s₁ => r = .ok .next ∧ GEndA Qf n s₀ s₁) (GProto Qf a gi) n s₀ (.compLoop (.GeneratorExp elt [⟨tg, iter, [], 0⟩] scope pos) 0 (.ref it) .none cenv)
        ((model X.prog X.w).den (.compLoop (.GeneratorExp elt [⟨tg, iter, [], 0⟩] scope pos) 0 (.ref it) .none cenv)) [] s := by
  have stat : ∀ {σ' : L2.St} {H' : Hp} {s' : Shared}, Inv (gcx X A N s4 H0 cenv fp) [(a, go)] σ' H' s' → (∀ b ∈ fp, H' b = none) → ∀ b ∈ fp, FpOk (gcx X A N s4 H0 cenv fp) [(a, go)] H' b := fun {σ' H' s'} I' hn b hb =>
    ⟨hn b hb, (I'.ok.exf b hb).1, I'.ok.exfs b hb, .inl hb, fun x c e => (I'.ok.exf b hb).2 x c e, fun p hp z => by
      have hp : p ∈ [(a, go)] := hp
      rw [List.mem_singleton.mp hp] at z
      have z : a = b := z
      exact haf (by rw [z]; exact hb)⟩
  have hy : ∀ v, yieldOut cenv v = yieldValue v := fun v => by simp only [yieldOut, hco, Bool.false_eq_true, if_false]
  intro m
  induction m using Nat.strongRecOn with
  | ind m ih =>
    intro n i H s₀ s hmn hW I hst hn
    obtain ⟨n, rfl⟩ : ∃ k, n = k + 1 := ⟨n - 1, by omega⟩
    show Seg _ A _ _ _ s₀ _ ((compTurn (.GeneratorExp elt [⟨tg, iter, [], 0⟩] scope pos) 0 (.ref it) .none cenv).onRaise (leaving cenv)) [] s
    rw [compTurn_gen, Sem.onRaise_eq_wrap]
    refine seg_bind_wrap (wpAny_standAt ?_)
    rcases turn i m H hW with ⟨stop, qq⟩ | ⟨hgo, Nx, hNx, step⟩
    · refine seg_bind_wrap ?_
      rw [over_loopC]
      refine thn (T.done (gcx X A N s4 H0 cenv fp) rfl rfl rfl rfl i [(a, go)] s _ H _ I (stat I hn) hst stop) fun r s6 ⟨hr, I6⟩ => ?_
      subst hr
      exact seg_end (.ok .next) ⟨rfl, I6.bare, hfin true s6 H I6 qq⟩
    · refine seg_bind_wrap ?_
      rw [over_loopC]
      refine thn (T.item (gcx X A N s4 H0 cenv fp) rfl rfl rfl rfl i [(a, go)] s _ H _ I (stat I hn) hst hgo) fun r s6 ⟨u, hr, h6⟩ => ?_
      subst hr
      refine seg_bind_wrap ?_
      rw [over_loopC]
      refine thn h6 fun _ s7 ⟨x, H7, I7, r7, y7, st7, n7⟩ => ?_
      have I7' := I7.pinned (stat I7 n7) (T.obj _ _ st7)
      refine seg_bind_wrap ?_
      rw [over_loopC]
      refine wpAny_mono (pg.run _ s7 _ H7 x u _ I7' r7 (step x H7 y7)) (fun _ s8 ⟨σ8, H8, I8, hw8, q8⟩ => ?_) fun _ _ e => e.elim
      have fin : ∀ {s' : Shared} {H' : Hp}, Inv (gcx X A N s4 H0 cenv fp) ([(a, go)] ++ pinsAt fp s7.heap) σ8 H' s' → Inv (gcx X A N s4 H0 cenv fp) [(a, go)] σ0 H' s' ∧ tn (i + 1) s'.heap ∧ ∀ b ∈ fp, H' b = none := fun {s' H'} I' => by
        have pin' : ∀ b ∈ fp, ∀ o, s7.heap.get? b = some o → s'.heap.get? b = some o ∧ H' b = none := fun b hb o e =>
          let z := I'.pin (b, o) (List.mem_append_right _ (List.mem_append_right _ (mem_pinsAt hb e)))
          ⟨z.1, z.2.1⟩
        have hl : σ0.length = σ8.length := by rw [← hw8, wipe_length]
        refine ⟨(I'.unpinned (pins := [(a, go)])).weak hl (fun j v e => ?_), T.keep _ _ _ st7 fun b hb o e => (pin' b hb o e).1, fun b hb => ?_⟩
        · rw [← hw8] at e
          exact (wipe_some e).1
        · obtain ⟨o, e, _⟩ := T.obj _ _ st7 b hb
          exact (pin' b hb o e).2
      simp only [List.forIn_nil]
      refine seg_bind_wrap (wpAny_pure ?_)
      simp only [if_true]
      simp only [hy]
      rw [Sem.bind_eq_wrap', Sem.bind_eq_wrap', Sem.wrap_wrap, Sem.wrap_wrap]
      refine seg_wrap ?_
      rw [over_loopC]
      refine wpAny_mono (pe.run _ s8 σ8 H8 _ I8 q8) (fun v s10 ⟨y, H10, I10, r10, b, hyb, q10⟩ => ?_) fun _ _ e => e.elim
      subst hyb
      obtain rfl : v = Value.bool b := r10
      obtain ⟨J1, J2, J3⟩ := fin I10
      have hga : s10.heap.IsGen a gi := hgen _ (J1.pin (a, go) (List.mem_append_right _ (List.mem_singleton.mpr rfl))).1
      refine seg_at (seg_yield rfl rfl rfl ⟨b, rfl, hga, J1.nolimit, J1.bare, fun hb s'' e1 e2 e3 => ?_, fun hb => ?_⟩)
      · subst hb
        rw [if_pos rfl] at q10
        obtain ⟨m', hm', w'⟩ := hNx H10 q10
        refine seg_again rfl (ih m' hm' n (i + 1) H10 s'' s'' (by omega) w' (inv_same J1 (fun x o e => by rw [e1]; exact e) e2 e3) (by rw [e1]; exact J2) J3)
      · subst hb
        rw [if_neg Bool.false_ne_true] at q10
        exact hfin false s10 H10 J1 q10
theorem gx_begin (hh : A.handled = none) (hco : cenv.scope.isCoroutine = false) (T : Turn X.prog X.w X.K tg J fp it tn) (haf : a ∉ fp) (hgen : ∀ h : Heap, h.get? a = some go → h.IsGen a gi)
    (pg : PG (gcx X A N s4 H0 cenv fp) tg g) (pe : PE (gcx X A N s4 H0 cenv fp) elt te) (turn : Turns J σ0 vs g te Qe W)
    (hfin : ∀ b s H', Inv (gcx X A N s4 H0 cenv fp) [(a, go)] σ0 H' s → Qe b H' → Done Qf b s) {m : Nat} {H : Hp} {s : Shared} (w0 : W 0 m H) (I : Inv (gcx X A N s4 H0 cenv fp) [(a, go)] σ0 H s) (hst : tn 0 s.heap) (hn : ∀ b ∈ fp, H b = none) :
    Seg (model X.prog X.w) A (fun n s₀ r s₁ => r = .ok .next ∧ GEndA Qf n s₀ s₁) (GProto Qf a gi) (m + 1) s (.compStart (.GeneratorExp elt [⟨tg, iter, [], 0⟩] scope pos) 0 (.ref it) .none cenv)
      ((model X.prog X.w).den (.compStart (.GeneratorExp elt [⟨tg, iter, [], 0⟩] scope pos) 0 (.ref it) .none cenv)) [] s := by
  have loop := gx_loop (iter := iter) (scope := scope) (pos := pos) hh hco T haf hgen pg pe turn hfin m (m + 1) 0 H s s (Nat.lt_succ_self _) w0 I hst hn
  show Seg _ A _ _ _ s _ ((compStart (.GeneratorExp elt [⟨tg, iter, [], 0⟩] scope pos) 0 (.ref it) .none cenv).onRaise (leaving cenv)) [] s
  unfold compStart
  rw [Sem.onRaise_eq_wrap]
  show Seg _ A _ _ _ s _ ((ask >>= _).wrap _ _ _ _) [] s
  refine seg_bind_wrap (wpAny_askSetting ?_)
  split
  · exact seg_again rfl loop
  · first
      | exact seg_bind_wrap (wpAny_rule (seg_bind_wrap (wpAny_standAt (seg_bind_wrap (T.self _ 0 s _ _ hst (seg_again rfl loop))))))
      | (refine seg_bind_wrap (wpAny_rule ?_); show Seg _ A _ _ _ s _ ((standAt iter.pos >>= _).wrap _ _ _ _) [] s; exact seg_bind_wrap (wpAny_standAt (seg_bind_wrap (T.self _ 0 s _ _ hst (seg_again rfl loop)))))
end
/-! the rule -/
section
variable {X : Cx}
/-- all(elt for tg in iter) -/
def tAllG (P : Addr) (wi : TI) (own : List Str) (caps : List (Str × Nat)) (vs : List Nat) (g : TG) (te : TE) : TE := fun σ H Q => wi σ H fun J H1 => TabG H1 P ∧ ∀ H2, Tabbed P H1 H2 → ∃ W : Nat → Nat → Hp → Prop, (∃ m, W 0 m H2) ∧ Turns J (gxSt own caps σ) vs g te (fun b H' => Q (.bl b) H') W
theorem pe_allG {c P : Addr} {elt tg iter : Expr} {p pos gpos : Pos} {scope : Scope} {own : List Str} {caps : List (Str × Nat)} {vs : List Nat} {wi : TI} {g : TG} {te : TE} {k : Nat}
    (hr : Room k X.A) (hg : Gl X "all") (hm : X.mg "all" = none) (TB : TabB X.base X.mg c P) (hcode : X.env.code = .ref c) (S : GxS X.N X.env.scope scope own caps) (hi : PI X tg iter wi)
    (pg : ∀ (s : Shared) (H : Hp) (C : Addr) (cd : Value) (fp : List Addr), PG (gcx X X.A.in1.in1 (gxN own caps) s H (gxEnv X scope C cd) fp) tg g)
    (pe : ∀ (s : Shared) (H : Hp) (C : Addr) (cd : Value) (fp : List Addr), PE (gcx X X.A.in1.in1 (gxN own caps) s H (gxEnv X scope C cd) fp) elt te)
    (hs : ∀ v, genFold iter X.env v = pure v := by intro _; rfl)
    (he : starEach [.GeneratorExp elt [⟨tg, iter, [], 0⟩] scope gpos] X.env = (false, eval (.GeneratorExp elt [⟨tg, iter, [], 0⟩] scope gpos) X.env) :: starEach [] X.env := by rfl) :
    PE X (.Call (.Name "all" p) [.GeneratorExp elt [⟨tg, iter, [], 0⟩] scope gpos] [] pos) (tAllG P wi own caps vs g te) := by
  refine ⟨fun pins s σ H Q I h => ?_⟩
  have hfree : ∀ y ∈ scope.names, y.2 = .free → ∃ c, X.env.cells.lookup y.1 = some c := fun y hy e => by
    rcases S.free y hy e with k | k
    · exact I.ok.has _ (.inl k)
    · exact I.ok.has _ (.inr k)
  refine wpAny_Call_Name_kw (ld_blt I hg hm PyProof.Rows.boot_all ?_)
  refine PyProof.Rows.callWith_builtin1 ?_ he (by rfl)
  rw [he]
  show wpAny _ _ (spliced ((false, eval (.GeneratorExp elt [⟨tg, iter, [], 0⟩] scope gpos) X.env) :: backTo pos (starEach [] X.env))) _ _ s
  refine Calls.spliced_cons ?_
  refine wpAny_GeneratorExp_make S.co (closure_ok hfree) S.cell S.dot S.kind (by have := hr.dp; omega) ?_ hs
  refine thn (hi.run pins s σ H _ I h) fun xv s1 hx => thn hx fun itv s2 h2 => ?_
  obtain ⟨it, fp, tn, J, H1, rfl, I2, T, st2, f2, ⟨ps, hP, ht⟩, q⟩ := h2
  refine ⟨I2.nolimit, ?_⟩
  have hPs : s2.heap.get? P = some { cls := .none, data := .fields ps } := I2.hok P _ hP
  have cd : PySem.W.CodeHd s2.heap c P := TB.code.keeps I2.bk
  have sz2 : ∀ b ∈ fp, b < s2.heap.objs.size := fun b hb => by
    obtain ⟨o, e, _⟩ := T.obj _ _ st2 b hb
    exact Heap.lt_size e
  have cont : ∀ (code : Value) (h3 : Heap) (tk : Nat) (ps' more : Array Value), Heap.ExtBut P s2.heap h3 → s2.heap.objs.size ≤ h3.objs.size → h3.get? P = some { cls := .none, data := .fields ps' } → ps' = ps ++ more → TriplesOk ps'.toList →
      wpAny (model X.prog X.w) X.A (builtinsFor X.env.globals X.env.builtins) (fun bi s₄ =>
        ∀ h', h'.Ns s₄.heap.objs.size (fun y => if y = ".0" then some (.ref it) else none) → Heap.SameBut s₄.heap.objs.size (s₄.heap.push { cls := .type "frame", data := .dict #[] }) h' →
          wpAny (model X.prog X.w) X.A (spliced (backTo pos (starEach [] X.env))) (fun us s' => wpAny (model X.prog X.w) X.A (call (.builtin "all") (.ref h'.objs.size :: us)) (EP X pins σ Q) X.xe s') X.xe { s₄ with
            gens := s₄.gens.push (.fresh (.compStart (.GeneratorExp elt [⟨tg, iter, [], 0⟩] scope gpos) 0 (.ref it) .none (genEnv scope (cloFrom X.env.cells scope.names []) s₄.heap.objs.size code bi X.env))),
            toks := s₄.toks + 1 + 1 + 1,
            heap := h'.push { cls := .type "generator", data := .fields #[.int s₄.gens.size 0, .str "<genexpr>" (s₄.toks + 1), .str (X.env.qual ++ "<genexpr>") (s₄.toks + 1 + 1)] } }) X.xe { s2 with heap := h3, toks := tk } := by
    intro code h3 tk ps' more hx hsz hP3 hmore ht3
    obtain ⟨bm, ob, e1, e2, e3, e4, e5, e6, e7, e8⟩ := TB.bm
    have keep3 : ∀ b u, b ≠ P → s2.heap.get? b = some u → h3.get? b = some u := fun b u hb e => hx b u hb e
    refine wpAny_builtinsFor (m := X.mg) (by rw [I2.ok.glob]; exact (I2.mod.glob.keeps I2.bk).extBut hx TB.gP) e1 e2 (keep3 _ _ e4 (I2.bk _ _ e5)) e6 e7 e8 ?_
    intro h' hns hsb
    have I3 : Inv X pins σ (upd H1 P (.tbl (ps ++ more))) { s2 with heap := h3, toks := tk } := inv_tab (more := more) (g' := s2.gens) (d' := s2.drawn) (t' := tk) I2 hP keep3 (by rw [← hmore]; exact hP3) I2.bare
    have hT : Tabbed P H1 (upd H1 P (.tbl (ps ++ more))) := ⟨⟨ps ++ more, upd_same, by rw [← hmore]; exact ht3⟩, fun b hb => upd_ne hb⟩
    obtain ⟨W, ⟨m, w0⟩, turn⟩ := q _ hT
    have nP : ∀ b ∈ fp, b ≠ P := fun b hb z => by
      have := (f2 b hb).1
      rw [z, hP] at this
      cases this
    have f3 : ∀ b ∈ fp, FpOk X pins (upd H1 P (.tbl (ps ++ more))) b ∧ b < h3.objs.size := fun b hb => ⟨⟨by rw [upd_ne (nP b hb)]; exact (f2 b hb).1, (f2 b hb).2⟩, Nat.lt_of_lt_of_le (sz2 b hb) hsz⟩
    generalize upd H1 P (.tbl (ps ++ more)) = H3 at I3 w0 f3
    have hsz' : h'.objs.size = h3.objs.size + 1 := by rw [hsb.1, Heap.size_push]
    have keep' : ∀ b o, h3.get? b = some o → h'.get? b = some o := fun b o e => hsb.extBut b o (Nat.ne_of_lt (Heap.lt_size e)) (Heap.get?_push_of_some _ e)
    refine Calls.spliced_nil ?_
    generalize hgo : ({ cls := .type "generator", data := .fields #[.int s2.gens.size 0, .str "<genexpr>" (tk + 1), .str (X.env.qual ++ "<genexpr>") (tk + 1 + 1)] } : Obj) = go
    have hgen : ∀ hp : Heap, hp.get? h'.objs.size = some go → hp.IsGen h'.objs.size s2.gens.size := fun hp e => ⟨go, _, _, e, by rw [← hgo], by rw [← hgo], by rw [← hgo]⟩
    have hput : (h'.push go).get? h'.objs.size = some go := Heap.get?_push_size _ (by rw [← hgo]; rfl)
    have hgd : ∀ v, go.data ≠ .cell v := fun v z => by rw [← hgo] at z; cases z
    show wpAny _ _ (call (.builtin "all") [.ref h'.objs.size]) _ _ { s2 with gens := s2.gens.push (.fresh (.compStart (.GeneratorExp elt [⟨tg, iter, [], 0⟩] scope gpos) 0 (.ref it) .none (gxEnv X scope h3.objs.size code))), toks := tk + 1 + 1 + 1, heap := h'.push go }
    have keep5 : ∀ b o, h3.get? b = some o → (h'.push go).get? b = some o := fun b o e => Heap.get?_push_of_some _ (keep' b o e)
    have hb5 : AllBare (s2.gens.push (.fresh (.compStart (.GeneratorExp elt [⟨tg, iter, [], 0⟩] scope gpos) 0 (.ref it) .none (gxEnv X scope h3.objs.size code)))) := I2.bare.push rfl
    have hrun : AllBare (({ s2 with gens := s2.gens.push (.fresh (.compStart (.GeneratorExp elt [⟨tg, iter, [], 0⟩] scope gpos) 0 (.ref it) .none (gxEnv X scope h3.objs.size code))), toks := tk + 1 + 1 + 1, heap := h'.push go } : Shared).setGen s2.gens.size .running).gens := allBare_setGen hb5 rfl
    have G0 : Inv (gcx X X.A.in1.in1 (gxN own caps) { s2 with heap := h3, toks := tk } H3 (gxEnv X scope h3.objs.size code) fp) [] (gxSt own caps σ) H3 (({ s2 with gens := s2.gens.push (.fresh (.compStart (.GeneratorExp elt [⟨tg, iter, [], 0⟩] scope gpos) 0 (.ref it) .none (gxEnv X scope h3.objs.size code))), toks := tk + 1 + 1 + 1, heap := h'.push go } : Shared).setGen s2.gens.size .running) :=
      gx_start (s := { s2 with heap := h3, toks := tk }) I3 S hr.hd I3.ok.frames f3 (hns.push go) keep5 rfl hrun
    have hna : H3 h'.objs.size = none := I3.hok.fresh (by show h3.objs.size ≤ h'.objs.size; omega)
    have G1 : Inv (gcx X X.A.in1.in1 (gxN own caps) { s2 with heap := h3, toks := tk } H3 (gxEnv X scope h3.objs.size code) fp) [(h'.objs.size, go)] (gxSt own caps σ) H3 (({ s2 with gens := s2.gens.push (.fresh (.compStart (.GeneratorExp elt [⟨tg, iter, [], 0⟩] scope gpos) 0 (.ref it) .none (gxEnv X scope h3.objs.size code))), toks := tk + 1 + 1 + 1, heap := h'.push go } : Shared).setGen s2.gens.size .running) :=
      G0.pins_of fun p hp => by
        rw [List.mem_singleton.mp hp]
        refine ⟨hput, hna, ?_, fun z => ?_, hgd⟩
        · show h'.objs.size ≠ h3.objs.size
          omega
        · have z : h'.objs.size ∈ frs X.stack := z
          rcases List.mem_cons.mp (I3.stkSub _ z) with z | z
          · have h1 := I3.lt
            rw [← z] at h1
            have h1 : h'.objs.size < h3.objs.size := h1
            omega
          · exact I3.nofs (show h3.objs.size ≤ h'.objs.size by omega) z
    have st5 : tn 0 (h'.push go) := T.keep _ _ _ st2 fun b hb o e => keep5 b o (keep3 b o (nP b hb) e)
    refine call_all_gen (n := m + 1) hr.hd (by have := hr.dp; omega) (hgen _ hput) (I3.nolimit.keeps keep5) ⟨_, Array.getElem?_push_size .., rfl, ?_⟩
    refine gx_begin (A := X.A.in1.in1) (N := gxN own caps) (σ0 := gxSt own caps σ) (vs := vs) (g := g) (te := te) (Qe := fun b H' => Q (.bl b) H') (W := W) hr.hd S.co T (fun z => ?_) hgen (pg _ _ _ _ _) (pe _ _ _ _ _) turn (fun b s6 H6 J6 q6 s7 k7 o7 b7 => ?_) w0 G1 st5 (fun b hb => (f3 b hb).1.1)
    · have z2 : h'.objs.size < h3.objs.size := (f3 _ z).2
      rw [hsz'] at z2
      exact absurd z2 (by omega)
    · have I6 : Inv X pins σ H6 s6 := I3.call' (ch := fp) J6.os J6.base J6.hok J6.bare fun b hb => ⟨(f3 b hb).1.2.2.2.1, (f3 b hb).1.2.1, (f3 b hb).1.2.2.2.2.1, (f3 b hb).1.2.2.2.2.2⟩
      exact ⟨.bl b, H6, inv_same I6 k7 o7 b7, rfl, q6⟩
  cases hf : codeAmong gpos ps.toList with
  | none =>
    refine wpAny_genexprCodeX hcode (cd.code hPs ht) (cd.tab hPs) hf fun c' h' tk hx hge hlt hco' _ htab' _ => ?_
    obtain ⟨o1, vs, f1, tf, fl, tg, inF, tx, tt, op, _, _, _, _, _, _, _, _, _, htr, _⟩ := hco'
    exact cont _ h' tk _ _ hx (Nat.le_trans hge (Nat.le_of_lt hlt)) htab'.2 rfl htr
  | some cv =>
    refine wpAny_genexprCode_hit hcode (cd.code hPs ht) hf ?_
    exact cont cv s2.heap s2.toks ps #[] (Heap.ExtBut.refl _ _) (Nat.le_refl _) hPs (by simp) ht
end
end Kg

/-! defs that are called where no repr is under way -/
namespace Kf
open PySem PySem.Spec PyProof.Rows L2 LamX
/-- no repr is under way -/
abbrev Still (A : Around) : Prop := A.guards = some []
/-- a def's promise, called where no repr is under way -/
structure FnG (P : Program) (w : World) (K : PySem.W.Frag) (mg : Str → Option Value) (base : Heap) (CX : CXT) (k : Nat) (f : Addr) (fd : FuncData) (ps : List Str) (sp : Sp) : Prop where
  cnt : ∀ vs H Q E, sp vs H Q E → vs.length = ps.length
  go : ∀ (A : Around) (o : List Env) (s : Shared) (H : Hp) (r : Args) (us : List Value) (vs : List V) (Q : VK) (E : XK), Still A → Room k A → Env0 P w K mg base A o s H → BindsTo s fd r (ps.zip us) → Vals vs us → sp vs H Q E →
    codeAny (model P w) A (.call (.ref f) r) (CR CX o P w H s Q E) s
section
variable {P : Program} {w : World} {K : PySem.W.Frag} {mg : Str → Option Value} {base : Heap} {CX : CXT}
theorem FnG.of {k : Nat} {f : Addr} {fd : FuncData} {ps : List Str} {sp : Sp} (F : FnOk P w K mg base CX k f fd ps sp) : FnG P w K mg base CX k f fd ps sp :=
  ⟨F.len, fun A o s H r us vs Q E _ => F.run A o s H r us vs Q E⟩
theorem FnG.up {j k : Nat} {f : Addr} {fd : FuncData} {ps : List Str} {sp : Sp} (F : FnG P w K mg base CX j f fd ps sp) (h : j ≤ k) : FnG P w K mg base CX k f fd ps sp :=
  ⟨F.cnt, fun A o s H r us vs Q E g hr => F.go A o s H r us vs Q E g (hr.mono h)⟩
/-- a def by its body -/
theorem fnG_of {k : Nat} {f : Addr} {nm ql : Str} {prm : Arguments} {bd : List Stmt} {sco : Scope} {dV kV doc pm cdv ct oc : Value} {an od : Option Addr} {sl : Array (Option Value)} {N ps : List Str} {sp : Sp}
    (at' : K.lookup f = some ⟨oc, od, .func (PySem.W.fnOf nm ql prm bd sco dV kV doc pm an cdv ct), sl⟩) (hc : PySem.W.codeIn K cdv ql = true) (S : FnScope N ps sco) (cnt : ∀ vs H Q E, sp vs H Q E → vs.length = ps.length)
    (body : ∀ (A : Around) (o : List Env) (s : Shared) (H : Hp) (vs : List V) (Q : VK) (E : XK), Still A → Room k (A.deeper (envOfC ql sco s.heap.objs.size f cdv)) → sp vs H Q E →
      ∃ t, PSs (cxOf CX P w K mg base N ql sco f cdv A o s H E) bd t ∧ t { nx := fun _ G => Q .non G, rt := Q } (start N vs) H) : FnG P w K mg base CX (k + 1) f (PySem.W.fnOf nm ql prm bd sco dV kV doc pm an cdv ct) ps sp where
  cnt := cnt
  go := by
    intro A o s H r us vs Q E still room e0 binds vals hsp
    have hold := fun b u (z : base.get? b = some u) => (e0.bs b u z).1
    have kx := e0.mod.kin.keeps hold
    have par : ∀ z ∈ ps.zip us, sco.names.lookup z.1 = some .local ∨ (sco.names.lookup z.1 = some .cell ∧ ((cellsFrom (s.heap.objs.size + 1) sco.names []).lookup z.1).isSome = true) := by
      intro z hz
      have hm : z.1 ∈ ps := (List.of_mem_zip (a := z.1) (b := z.2) hz).1
      exact (S.par z.1 hm).imp id fun q => ⟨q, PySem.W.cellsFrom_some _ _ _ (.inl q)⟩
    refine codeAny_call_function room.depth (kx _ _ at') rfl S.co S.gen rfl (PySem.W.codeRec_of kx hc) (binds _ _ _ _ (wpAny_newFunctionEnv_cells S.kind par ?_))
    rintro env rfl s1 x
    refine ⟨(e0.mod.nolimit.keeps hold).keeps x.toInCall.keep, codeAny_func ?_⟩
    obtain ⟨t, ht, hq⟩ := body A o s H vs Q E still (room.deeper _) hsp
    refine wpAny_mono (ht.run [] s1 (start N vs) H _ (inv_start S room.hd e0 (cnt _ _ _ _ hsp) vals x) hq) ?_ (fun _ _ z => z)
    intro fl s2 z
    match fl, z with
    | .ret u, ⟨v, _, G, J, rv, q⟩ => exact ⟨v, G, J.os, J.bare, J.base, J.hok, rv, q⟩
    | .next, ⟨_, G, J, q⟩ => exact ⟨V.non, G, J.os, J.bare, J.base, J.hok, rfl, q⟩
    | .brk, ⟨_, _, _, q⟩ => exact q.elim
    | .cont, ⟨_, _, _, q⟩ => exact q.elim
/-- a def of the text that lets nothing out -/
theorem okG {x ql : Str} {st : Stmt} {f : Addr} {fd : FuncData} {N ps : List Str} {k : Nat} {sp : Sp} (F : Fun K x ql st f fd) (S : FnScope N ps (defScope st)) (cnt : ∀ vs H Q E, sp vs H Q E → vs.length = ps.length)
    (body : ∀ (cdv : Value) (A : Around) (o : List Env) (s : Shared) (H : Hp) (vs : List V) (Q : VK) (E : XK), Still A → Room k (A.deeper (envOfC ql (defScope st) s.heap.objs.size f cdv)) → sp vs H Q E →
      ∃ t, PSs (cxOf CX0 P w K mg base N ql (defScope st) f cdv A o s H E).nox (defBody st) t ∧ t { nx := fun _ G => Q .non G, rt := Q } (start N vs) H) : FnG P w K mg base CX0 (k + 1) f fd ps sp := by
  obtain ⟨oc, od, kV, doc, pm, an, cdv, ct, sl, rfl, hl, hc⟩ := F.ex
  exact fnG_of hl hc S cnt fun A o s H vs Q E g hr h => (body cdv A o s H vs Q E g hr h).imp fun t z => ⟨z.1.nox, z.2⟩
end
section
variable {X : Cx} {CX : CXT} {k : Nat} {f : Addr} {fd : FuncData} {ps : List Str} {sp : Sp} {dvs : List V} {ds : List Value} {E : XK} {x : Str} {p pos : Pos} {e : Expr} {es : List Expr} {t : TA}
theorem goG {pins : List (Addr × Obj)} {σ : L2.St} {H : Hp} {s : Shared} {Q : VK} {us : List Value} {vs : List V} (F : FnG X.prog X.w X.K X.mg X.base CX k f fd ps sp) (g : Still X.A) (hr : Room k X.A) (hb : Binds X.K fd ps ds) (hd : Vals dvs ds) (hx : Passes CX X E) (I : Inv X pins σ H s) (rv : Vals vs us)
    (h : sp (vs ++ dvs) H Q E) : wpAny (model X.prog X.w) X.A (call (.ref f) us) (EP X pins σ Q) X.xe s := by
  have both := rv.append hd
  have n : (us ++ ds).length = ps.length := both.length.symm.trans (F.cnt _ _ _ _ h)
  refine wpAny_call (codeAny_mono (F.go X.A X.stack s H ⟨us, []⟩ _ _ Q E g hr I.env0 (hb s us I.kIn n) both h) ?_)
  intro r s2 z
  match r, z with
  | .error u, z => exact hx pins σ H s u s2 I z
  | .ok (.ret u), z => exact I.after z
  | .ok .next, z => exact z.elim
  | .ok .brk, z => exact z.elim
  | .ok .cont, z => exact z.elim
/-- f(e, ..) -/
theorem pe_callG (F : FnG X.prog X.w X.K X.mg X.base CX k f fd ps sp) (g : Still X.A) (hr : Room k X.A) (hg : Gl X x) (hm : X.mg x = some (.ref f)) (hk : PySem.W.keepIn X.K (.ref f) = true) (hb : Binds X.K fd ps ds) (hd : Vals dvs ds) (hx : Passes CX X E) (ha : PA X (e :: es) t)
    (hn : (x == ("__debug__" : Str)) = false := by decide) (h1 : starEach (e :: es) X.env = (false, eval e X.env) :: starEach es X.env := by rfl) (h2 : (backTo pos (starEach es X.env)).any (·.1) = false := by rfl) : PE X (.Call (.Name x p) (e :: es) [] pos) (tCall sp dvs E t) := by
  constructor
  intro pins s σ H Q I h
  refine wpAny_Call_Name_kw (ld_glob I hg hm (PySem.W.callWith_K (h₀ := X.base) I.ok.mod.kin hk (thn (ha.run pos pins s σ H _ I h) ?_) h1 h2) hn)
  rintro us s2 ⟨vs, G, J, rv, q⟩
  exact ⟨J.kIn, goG F g hr hb hd hx J rv q⟩
end
end Kf

/-! repr of data -/
namespace Kf
open PySem PySem.Spec PyProof.Rows L2
/-- data that shows as it is, of at most so many in one another -/
structure Shows (n : Nat) (d : PyData) : Prop where
  ok : d.showable = true
  nd : d.hasDict = false
  dp : d.depth ≤ n
  sz : d.shown.length ≤ sizeLine
def rShow (K : PySem.W.Frag) (n : Nat) : List V → Hp → VK → Prop := fun xs H Q => ∃ (a : Addr) (d : PyData), xs = [.ref a] ∧ Dp K H (.ref a) d ∧ Shows n d ∧ Q (.str d.shown) H
theorem call_show {X : Cx} {n : Nat} (g : Still X.A) (hu : X.A.units + (n + 1) < cLine) : CallR X (.builtin "repr") (rShow X.K n) := by
  intro pins s σ H xs us Q I r h
  obtain ⟨a, d, rfl, hd, sh, q⟩ := h
  rw [Vals.ref1 r]
  obtain ⟨as, rd⟩ := Dp.reads I d _ (.ref a) hd rfl
  exact repr_of_reads' rd sh.ok (PyData.noDict_hsm sh.nd) g (by have := sh.dp; omega) (fun _ _ e => e) (fun h' u tk hk => ⟨.str d.shown, H, I.kept hk, ⟨u, rfl⟩, q⟩) sh.sz
end Kf

/-! things of anything: none, truths, numbers, texts, tuples, lists, the empty dict -/
namespace Kv
open PySem PySem.Spec PyProof.Rows L2 Kf
inductive Dt where
  | non
  | bl (b : Bool)
  | int (i : Int)
  | str (x : Str)
  | tup (xs : List Dt)
  | lst (xs : List Dt)
  | dct (kvs : List (Str × Int))
/-- a dict of texts with numbers -/
def dkv (kvs : List (Str × Int)) : List (Key × V) := kvs.map fun p => (.inr p.1, .int p.2)
def dkp (kvs : List (Str × Int)) : List (PyData × PyData) := kvs.map fun p => (.str p.1, .int p.2)
mutual
/-- the thing stands at v; its lists and dicts at places N -/
inductive Dd (N : Addr → Prop) (H : Hp) : Dt → V → Prop
  | non : Dd N H .non .non
  | bl (b : Bool) : Dd N H (.bl b) (.bl b)
  | int (i : Int) : Dd N H (.int i) (.int i)
  | str (x : Str) : Dd N H (.str x) (.str x)
  | tup {a : Addr} {xs : List Dt} {vs : List V} : H a = some (.tup vs) → DdL N H xs vs → Dd N H (.tup xs) (.ref a)
  | lst {a : Addr} {xs : List Dt} {vs : List V} : N a → H a = some (.lst vs) → DdL N H xs vs → Dd N H (.lst xs) (.ref a)
  | dct {a : Addr} {kvs : List (Str × Int)} : N a → H a = some (.dK (dkv kvs)) → Dd N H (.dct kvs) (.ref a)
inductive DdL (N : Addr → Prop) (H : Hp) : List Dt → List V → Prop
  | nil : DdL N H [] []
  | cons {x : Dt} {xs : List Dt} {v : V} {vs : List V} : Dd N H x v → DdL N H xs vs → DdL N H (x :: xs) (v :: vs)
end
/-- what stood of tuples, and of lists and dicts at N, stands -/
structure Kn (N : Addr → Prop) (H G : Hp) : Prop where
  tup : ∀ b xs, H b = some (.tup xs) → G b = some (.tup xs)
  lst : ∀ b xs, N b → H b = some (.lst xs) → G b = some (.lst xs)
  dic : ∀ b xs, N b → H b = some (.dK xs) → G b = some (.dK xs)
theorem Kn.of {N : Addr → Prop} {H G : Hp} (s : Same H G) : Kn N H G := ⟨fun b _ e => s b _ e, fun b _ _ e => s b _ e, fun b _ _ e => s b _ e⟩
theorem Kn.trans {N : Addr → Prop} {H G F : Hp} (a : Kn N H G) (b : Kn N G F) : Kn N H F := ⟨fun x _ e => b.tup x _ (a.tup x _ e), fun x _ n e => b.lst x _ n (a.lst x _ n e), fun x _ n e => b.dic x _ n (a.dic x _ n e)⟩
theorem Kn.rfl {N : Addr → Prop} {H : Hp} : Kn N H H := ⟨fun _ _ e => e, fun _ _ _ e => e, fun _ _ _ e => e⟩
theorem Kn.sub {N M : Addr → Prop} {H G : Hp} (k : Kn N H G) (h : ∀ b, M b → N b) : Kn M H G := ⟨k.tup, fun b xs n e => k.lst b xs (h b n) e, fun b xs n e => k.dic b xs (h b n) e⟩
/-- another list, dict or the like is put at p -/
theorem Kn.put {N : Addr → Prop} {H G : Hp} {p : Addr} {o : HO} (k : Kn N H G) (n : ¬ N p) (h : ∀ xs, H p ≠ some (.tup xs)) : Kn N H (upd G p o) := by
  refine ⟨fun b xs e => ?_, fun b u hb e => ?_, fun b u hb e => ?_⟩
  · rw [upd_ne (fun z => h xs (by rw [← z]; exact e))]
    exact k.tup b xs e
  · rw [upd_ne (fun z => n (by rw [← z]; exact hb))]
    exact k.lst b u hb e
  · rw [upd_ne (fun z => n (by rw [← z]; exact hb))]
    exact k.dic b u hb e
/-- what was free is put at p -/
theorem Kn.new {N : Addr → Prop} {H G : Hp} {p : Addr} {o : HO} (k : Kn N H G) (h : H p = none) : Kn N H (upd G p o) := by
  refine ⟨fun b xs e => ?_, fun b u hb e => ?_, fun b u hb e => ?_⟩
  · rw [upd_ne (ne_of_none e h)]
    exact k.tup b xs e
  · rw [upd_ne (ne_of_none e h)]
    exact k.lst b u hb e
  · rw [upd_ne (ne_of_none e h)]
    exact k.dic b u hb e
mutual
theorem Dd.kn {N : Addr → Prop} {H G : Hp} (k : Kn N H G) : ∀ {x : Dt} {v : V}, Dd N H x v → Dd N G x v
  | _, _, .non => .non
  | _, _, .bl b => .bl b
  | _, _, .int i => .int i
  | _, _, .str x => .str x
  | _, _, .tup h t => .tup (k.tup _ _ h) (t.kn k)
  | _, _, .lst n h t => .lst n (k.lst _ _ n h) (t.kn k)
  | _, _, .dct n h => .dct n (k.dic _ _ n h)
theorem DdL.kn {N : Addr → Prop} {H G : Hp} (k : Kn N H G) : ∀ {xs : List Dt} {vs : List V}, DdL N H xs vs → DdL N G xs vs
  | _, _, .nil => .nil
  | _, _, .cons h t => .cons (h.kn k) (t.kn k)
end
mutual
/-- at fewer, or other places, where the heap has nothing elsewhere -/
theorem Dd.at {N M : Addr → Prop} {H : Hp} (k : ∀ b u, N b → H b = some u → M b) : ∀ {x : Dt} {v : V}, Dd N H x v → Dd M H x v
  | _, _, .non => .non
  | _, _, .bl b => .bl b
  | _, _, .int i => .int i
  | _, _, .str x => .str x
  | _, _, .tup h t => .tup h (t.at k)
  | _, _, .lst n h t => .lst (k _ _ n h) h (t.at k)
  | _, _, .dct n h => .dct (k _ _ n h) h
theorem DdL.at {N M : Addr → Prop} {H : Hp} (k : ∀ b u, N b → H b = some u → M b) : ∀ {xs : List Dt} {vs : List V}, DdL N H xs vs → DdL M H xs vs
  | _, _, .nil => .nil
  | _, _, .cons h t => .cons (h.at k) (t.at k)
end
/-- at any places -/
abbrev Any : Addr → Prop := fun _ => True
theorem Dd.any {N : Addr → Prop} {H : Hp} {x : Dt} {v : V} (h : Dd N H x v) : Dd Any H x v := h.at fun _ _ _ _ => trivial
theorem DdL.any {N : Addr → Prop} {H : Hp} {x : List Dt} {v : List V} (h : DdL N H x v) : DdL Any H x v := h.at fun _ _ _ _ => trivial
theorem Dd.same {N : Addr → Prop} {H G : Hp} {x : Dt} {v : V} (h : Dd N H x v) (s : Same H G) : Dd N G x v := h.kn (.of s)
theorem DdL.same {N : Addr → Prop} {H G : Hp} {x : List Dt} {v : List V} (h : DdL N H x v) (s : Same H G) : DdL N G x v := h.kn (.of s)
section
variable {N : Addr → Prop} {H : Hp}
theorem DdL.len : ∀ {xs : List Dt} {vs : List V}, DdL N H xs vs → xs.length = vs.length
  | _, _, .nil => rfl
  | _, _, .cons _ t => congrArg (· + 1) t.len
theorem DdL.app : ∀ {xs ys : List Dt} {vs ws : List V}, DdL N H xs vs → DdL N H ys ws → DdL N H (xs ++ ys) (vs ++ ws)
  | _, _, _, _, .nil, h => h
  | _, _, _, _, .cons h t, k => .cons h (t.app k)
theorem DdL.get : ∀ {xs : List Dt} {vs : List V} {i : Nat} {v : V}, DdL N H xs vs → vs[i]? = some v → ∃ x, xs[i]? = some x ∧ Dd N H x v
  | _, _, i, v, .nil, e => by simp at e
  | _, _, 0, v, .cons (x := x) (v := w) h t, e => ⟨x, rfl, by rw [← show w = v from Option.some.inj e]; exact h⟩
  | _, _, i + 1, v, .cons h t, e => DdL.get (i := i) t e
theorem DdL.get' : ∀ {xs : List Dt} {vs : List V} {i : Nat} {x : Dt}, DdL N H xs vs → xs[i]? = some x → ∃ v, vs[i]? = some v ∧ Dd N H x v
  | _, _, i, v, .nil, e => by simp at e
  | _, _, 0, v, .cons (x := w) (v := y) h t, e => ⟨y, rfl, by rw [← show w = v from Option.some.inj e]; exact h⟩
  | _, _, i + 1, v, .cons h t, e => DdL.get' (i := i) t e
theorem DdL.drop : ∀ {xs : List Dt} {vs : List V} (n : Nat), DdL N H xs vs → DdL N H (xs.drop n) (vs.drop n)
  | _, _, 0, h => h
  | _, _, n + 1, .nil => .nil
  | _, _, n + 1, .cons _ t => t.drop n
theorem DdL.take : ∀ {xs : List Dt} {vs : List V} (n : Nat), DdL N H xs vs → DdL N H (xs.take n) (vs.take n)
  | _, _, 0, h => .nil
  | _, _, n + 1, .nil => .nil
  | _, _, n + 1, .cons h t => .cons h (t.take n)
theorem DdL.rev : ∀ {xs : List Dt} {vs : List V}, DdL N H xs vs → DdL N H xs.reverse vs.reverse
  | _, _, .nil => .nil
  | _, _, .cons (x := x) (xs := xs) (v := v) (vs := vs) h t => by
    rw [List.reverse_cons, List.reverse_cons]
    exact t.rev.app (.cons h .nil)
theorem DdL.last : ∀ {xs : List Dt} {vs : List V}, DdL N H xs vs → vs ≠ [] → ∃ ys y ws w, xs = ys ++ [y] ∧ vs = ws ++ [w] ∧ DdL N H ys ws ∧ Dd N H y w
  | _, _, .nil, n => absurd rfl n
  | _, _, .cons (x := x) (v := v) h .nil, _ => ⟨[], x, [], v, rfl, rfl, .nil, h⟩
  | _, _, .cons (x := x) (v := v) h (.cons h' t'), _ => by
    obtain ⟨ys, y, ws, w, e1, e2, k, r⟩ := DdL.last (.cons h' t') (by simp)
    exact ⟨x :: ys, y, v :: ws, w, by rw [e1]; rfl, by rw [e2]; rfl, .cons h k, r⟩
theorem DdL.strs : ∀ (xs : List Str), DdL N H (xs.map Dt.str) (xs.map V.str)
  | [] => .nil
  | x :: xs => .cons (.str x) (DdL.strs xs)
theorem DdL.ints : ∀ (xs : List Int), DdL N H (xs.map Dt.int) (xs.map V.int)
  | [] => .nil
  | x :: xs => .cons (.int x) (DdL.ints xs)
end
/-! their classes -/
def Dt.cls : Dt → String
  | .non => "NoneType"
  | .bl _ => "bool"
  | .int _ => "int"
  | .str _ => "str"
  | .tup _ => "tuple"
  | .lst _ => "list"
  | .dct _ => "dict"
theorem Dd.ty {K : PySem.W.Frag} {N : Addr → Prop} {H : Hp} {x : Dt} {v : V} (h : Dd N H x v) : TyX K H v (.type x.cls) := by
  cases h with
  | non => exact .base .non
  | bl b => exact .base (.bl b)
  | int i => exact .base (.int i)
  | str x => exact .base (.str x)
  | tup h _ => exact .base (.tup h)
  | lst _ h _ => exact .base (.lst h)
  | dct _ h => exact .base (.dK h)
def Dt.isTup : Dt → Bool
  | .tup _ => true
  | _ => false
def Dt.isStr : Dt → Bool
  | .str _ => true
  | _ => false
def Dt.isBl : Dt → Bool
  | .bl _ => true
  | _ => false
def Dt.isInt : Dt → Bool
  | .bl _ => true
  | .int _ => true
  | _ => false
def Dt.isLst : Dt → Bool
  | .lst _ => true
  | _ => false
/-- isinstance of such a thing: the answers -/
theorem kTup (K : PySem.W.Frag) : ∀ x : Dt, PySem.W.kitOne K (.type x.cls) (.type "tuple") = some x.isTup := by
  intro x
  cases x <;> (refine kit_ty ?_; simp only [Dt.cls, Dt.isTup]; decide +kernel)
theorem kStr (K : PySem.W.Frag) : ∀ x : Dt, PySem.W.kitOne K (.type x.cls) (.type "str") = some x.isStr := by
  intro x
  cases x <;> (refine kit_ty ?_; simp only [Dt.cls, Dt.isStr]; decide +kernel)
theorem kBl (K : PySem.W.Frag) : ∀ x : Dt, PySem.W.kitOne K (.type x.cls) (.type "bool") = some x.isBl := by
  intro x
  cases x <;> (refine kit_ty ?_; simp only [Dt.cls, Dt.isBl]; decide +kernel)
theorem kInt (K : PySem.W.Frag) : ∀ x : Dt, PySem.W.kitOne K (.type x.cls) (.type "int") = some x.isInt := by
  intro x
  cases x <;> (refine kit_ty ?_; simp only [Dt.cls, Dt.isInt]; decide +kernel)
theorem kLst (K : PySem.W.Frag) : ∀ x : Dt, PySem.W.kitOne K (.type x.cls) (.type "list") = some x.isLst := by
  intro x
  cases x <;> (refine kit_ty ?_; simp only [Dt.cls, Dt.isLst]; decide +kernel)
/-! as data, shown -/
mutual
def Dt.toP : Dt → PyData
  | .non => .none
  | .bl b => .bool b
  | .int i => .int i
  | .str x => .str x
  | .tup xs => .tuple (Dt.toPs xs)
  | .lst xs => .list (Dt.toPs xs)
  | .dct kvs => .dict (dkp kvs)
def Dt.toPs : List Dt → List PyData
  | [] => []
  | x :: xs => x.toP :: Dt.toPs xs
end
section
variable {X : Cx} {pins : List (Addr × Obj)} {σ : L2.St} {H : Hp} {s : Shared} {N : Addr → Prop}
theorem reads_pairs {P : Program} {w : World} {h : Heap} : ∀ {kvs : List (Str × Int)} {vs : List (Key × Value)} {es : List DictEntry}, KV (dkv kvs) vs → Pairs (mixKind P w) es vs → ReadsAll h (es.map (·.key)) ((dkp kvs).map (·.1)) [] ∧ ReadsAll h (es.map (·.val)) ((dkp kvs).map (·.2)) []
  | [], _, _, r, p => by
    unfold KV at r
    cases r
    cases p
    exact ⟨.nil, .nil⟩
  | (x, i) :: kvs, _, _, r, p => by
    unfold KV at r
    cases r with
    | cons hh t =>
      cases p with
      | cons h1 h2 t2 =>
        rename_i q qs e es
        obtain ⟨a, b⟩ := reads_pairs (P := P) (w := w) (h := h) (kvs := kvs) (by unfold KV; exact t) t2
        obtain ⟨g1, tk, g2⟩ := hh
        have h1 : keyIs q.1 e.key = true := h1
        rw [← g1] at h1
        rcases keyIs_shape h1 with ⟨j, u, z, _⟩ | ⟨y, u, z, ek⟩
        · cases z
        cases z
        obtain ⟨k0, v0⟩ := e
        cases ek
        have ev := h2.trans g2
        dsimp only at ev
        subst ev
        exact ⟨.cons (.str _ u) a, .cons (as := []) (.int _ tk) b⟩
/-- a dict, as an object -/
theorem dct_obj (I : Inv X pins σ H s) {a : Addr} {kvs : List (Str × Int)} (h : H a = some (.dK (dkv kvs))) : ∃ o es n, s.heap.get? a = some o ∧ o.cls = .type "dict" ∧ o.data = .dict es n ∧ (a == sysModules) = false ∧ ReadsAll s.heap (es.toList.map (·.key)) ((dkp kvs).map (·.1)) [] ∧ ReadsAll s.heap (es.toList.map (·.val)) ((dkp kvs).map (·.2)) [] := by
  obtain ⟨_, low, vs, kv, o, es, ep, ho, hx, hd, _, pr, _⟩ := dk_of I.hok h
  obtain ⟨r1, r2⟩ := reads_pairs (h := s.heap) kv pr
  exact ⟨o, es, ep, ho, hx.1, hd, low, r1, r2⟩
mutual
theorem Dd.reads (I : Inv X pins σ H s) : ∀ {x : Dt} {v : V}, Dd N H x v → ∀ {u : Value}, RelV v u → ∃ as, Reads s.heap u x.toP as
  | _, _, .non, _, r => by
    cases r
    exact ⟨_, .none⟩
  | _, _, .bl b, _, r => by
    cases r
    exact ⟨_, .bool b⟩
  | _, _, .int i, _, r => by
    obtain ⟨t, rfl⟩ := r
    exact ⟨_, .int i t⟩
  | _, _, .str x, _, r => by
    obtain ⟨t, rfl⟩ := r
    exact ⟨_, .str x t⟩
  | _, _, .tup h t, _, r => by
    cases r
    obtain ⟨its, rv, ⟨o, ho, hc, n, hd⟩, _⟩ := I.tuple (SqT.of h)
    obtain ⟨as, ra⟩ := t.reads I rv
    exact ⟨_, .tuple ho hc hd ra⟩
  | _, _, .lst _ h t, _, r => by
    cases r
    obtain ⟨its, rv, ⟨o, n, ho, hc, _, hd⟩, _⟩ := I.list (SqL.of h)
    obtain ⟨as, ra⟩ := t.reads I rv
    exact ⟨_, .list ho hc hd ra⟩
  | _, _, .dct _ h, _, r => by
    cases r
    obtain ⟨o, es, n, ho, hc, hd, _, h4, h5⟩ := dct_obj I h
    exact ⟨_, .dict ho hc hd h4 h5⟩
theorem DdL.reads (I : Inv X pins σ H s) : ∀ {xs : List Dt} {vs : List V}, DdL N H xs vs → ∀ {us : List Value}, Vals vs us → ∃ as, ReadsAll s.heap us (Dt.toPs xs) as
  | _, _, .nil, _, r => by
    cases r
    exact ⟨_, .nil⟩
  | _, _, .cons h t, _, r => by
    cases r with
    | cons r1 r2 =>
      obtain ⟨as, ra⟩ := h.reads I r1
      obtain ⟨bs, rb⟩ := t.reads I r2
      exact ⟨_, .cons ra rb⟩
end
theorem shownAll_le {xs : List PyData} {n : Nat} (h : ∀ t ∈ PyData.shownAll xs, t.length ≤ n) : ∀ t ∈ PyData.shownAll xs, t.length ≤ n := h
mutual
theorem Dd.reprK (I : Inv X pins σ H s) : ∀ {x : Dt} {v : V}, Dd N H x v → ∀ {u : Value}, RelV v u → x.toP.showable = true → x.toP.shown.length ≤ sizeLine → ∃ bs, ReadAtMost s.heap x.toP.depth bs ∧ ReprK X.prog X.w bs s.heap x.toP.depth u x.toP.shown
  | _, _, .non, _, r, _, _ => by
    cases r
    exact ⟨[], (fun _ h => nomatch h), by simp only [Dt.toP, PyData.shown]; exact .of_is ReprIs.none _ _ _⟩
  | _, _, .bl b, _, r, _, _ => by
    cases r
    exact ⟨[], (fun _ h => nomatch h), by simp only [Dt.toP, PyData.shown]; exact .of_is (ReprIs.bool b) _ _ _⟩
  | _, _, .int i, _, r, hs, _ => by
    obtain ⟨t, rfl⟩ := r
    exact ⟨[], (fun _ h => nomatch h), by simp only [Dt.toP, PyData.shown]; exact .of_is (ReprIs.int t (by simpa [Dt.toP, PyData.showable] using hs)) _ _ _⟩
  | _, _, .str x, _, r, _, hz => by
    obtain ⟨t, rfl⟩ := r
    exact ⟨[], (fun _ h => nomatch h), by simp only [Dt.toP, PyData.shown]; exact .of_is (ReprIs.str x t (by simpa only [Dt.toP, PyData.shown] using hz)) _ _ _⟩
  | _, _, .tup (a := a) (xs := xs) h t, _, r, hs, hz => by
    cases r
    obtain ⟨its, rv, ⟨o, ho, hc, n, hd⟩, _⟩ := I.tuple (SqT.of h)
    have hz' : (tupleText (PyData.shownAll (Dt.toPs xs))).length ≤ sizeLine := by simpa only [Dt.toP, PyData.shown] using hz
    obtain ⟨as, ra⟩ := t.reads I rv
    obtain ⟨bs, hb, hk⟩ := t.reprK I rv (by simpa [Dt.toP, PyData.showable] using hs) (fun t ht => Nat.le_trans (tupleText_mem_le ht) hz')
    have rd : Reads s.heap (.ref a) (.tuple (Dt.toPs xs)) _ := .tuple ho hc hd ra
    have na : a ∉ bs := not_mem_of_deeper rd (by simp only [PyData.depth]; omega) hb
    have le : PyData.depthAll (Dt.toPs xs) ≤ (PyData.tuple (Dt.toPs xs)).depth := by simp only [PyData.depth]; omega
    exact ⟨a :: bs, ReadAtMost.cons rd le hb, by simp only [Dt.toP, PyData.depth, PyData.shown]; exact ReprK.tuple ho hc hd na hk⟩
  | _, _, .lst (a := a) (xs := xs) (vs := vs) _ h t, _, r, hs, hz => by
    cases r
    obtain ⟨its, rv, ⟨o, n, ho, hc, _, hd⟩, _⟩ := I.list (SqL.of h)
    have hz' : (listText (PyData.shownAll (Dt.toPs xs))).length ≤ sizeLine := by simpa only [Dt.toP, PyData.shown] using hz
    obtain ⟨as, ra⟩ := t.reads I rv
    obtain ⟨bs, hb, hk⟩ := t.reprK I rv (by simpa [Dt.toP, PyData.showable] using hs) (fun t ht => Nat.le_trans (listText_mem_le ht) hz')
    have rd : Reads s.heap (.ref a) (.list (Dt.toPs xs)) _ := .list ho hc hd ra
    have na : a ∉ bs := not_mem_of_deeper rd (by simp only [PyData.depth]; omega) hb
    have le : PyData.depthAll (Dt.toPs xs) ≤ (PyData.list (Dt.toPs xs)).depth := by simp only [PyData.depth]; omega
    refine ⟨a :: bs, ReadAtMost.cons rd le hb, ?_⟩
    simp only [Dt.toP, PyData.depth, PyData.shown]
    cases its with
    | nil =>
      cases rv
      cases t
      simp only [Dt.toPs, PyData.shownAll, listText_nil]
      exact ReprK.listEmpty ho hc hd
    | cons y l => exact ReprK.list ho hc hd na (by simpa using hk.length_eq) (fun i y e => hk.item i y (by simpa using e))
  | _, _, .dct (a := a) (kvs := kvs) _ h, _, r, hs, hz => by
    cases r
    obtain ⟨o, es, n, ho, hc, hd, low, h4, h5⟩ := dct_obj I h
    have rd : Reads s.heap (.ref a) (.dict (dkp kvs)) _ := .dict ho hc hd h4 h5
    have hz' : (dictText (PyData.shownKv (dkp kvs))).length ≤ sizeLine := by simpa only [Dt.toP, PyData.shown] using hz
    obtain ⟨hs1, hs2⟩ := PyData.showableKv_split (dkp kvs) (by simpa [Dt.toP, PyData.showable] using hs)
    obtain ⟨b1, hb1, k1⟩ := ReprAllK.of_readsAll (prog := X.prog) (w := X.w) h4 hs1 (fun _ hm => nomatch hm) (fun t ht => let ⟨p, hp, hl⟩ := PyData.shownKv_key_le _ t ht; Nat.le_trans hl (Nat.le_trans (dictText_mem_le hp) hz'))
    obtain ⟨b2, hb2, k2⟩ := ReprAllK.of_readsAll (prog := X.prog) (w := X.w) h5 hs2 (fun _ hm => nomatch hm) (fun t ht => let ⟨p, hp, hl⟩ := PyData.shownKv_val_le _ t ht; Nat.le_trans hl (Nat.le_trans (dictText_mem_le hp) hz'))
    have hb : ReadAtMost s.heap (PyData.depthKv (dkp kvs)) (b1 ++ b2) := (hb1.mono (PyData.depthAll_keys_le _)).append (hb2.mono (PyData.depthAll_vals_le _))
    have le : PyData.depthKv (dkp kvs) ≤ (PyData.dict (dkp kvs)).depth := by simp only [PyData.depth]; omega
    have hna : a ∉ b1 ++ b2 := not_mem_of_deeper rd (by simp only [PyData.depth]; omega) hb
    refine ⟨a :: (b1 ++ b2), ReadAtMost.cons rd le hb, ?_⟩
    simp only [Dt.toP, PyData.depth, PyData.shown, PyData.shownKv_eq]
    exact ReprK.dict ho hc hd low hna (ReprEntriesK.of_two es.toList _ _ (k1.more_le (fun b hb => List.mem_append_left _ hb) (PyData.depthAll_keys_le _)) (k2.more_le (fun b hb => List.mem_append_right _ hb) (PyData.depthAll_vals_le _)))
theorem DdL.reprK (I : Inv X pins σ H s) : ∀ {xs : List Dt} {vs : List V}, DdL N H xs vs → ∀ {us : List Value}, Vals vs us → PyData.showableAll (Dt.toPs xs) = true → (∀ t ∈ PyData.shownAll (Dt.toPs xs), t.length ≤ sizeLine) →
    ∃ bs, ReadAtMost s.heap (PyData.depthAll (Dt.toPs xs)) bs ∧ ReprAllK X.prog X.w bs s.heap (PyData.depthAll (Dt.toPs xs)) us (PyData.shownAll (Dt.toPs xs))
  | _, _, .nil, _, r, _, _ => by
    cases r
    exact ⟨[], (fun _ h => nomatch h), .nil⟩
  | _, _, .cons (x := x) (xs := xs) h t, _, r, hs, hz => by
    cases r with
    | cons r1 r2 =>
      have hs' : x.toP.showable = true ∧ PyData.showableAll (Dt.toPs xs) = true := by simpa [Dt.toPs, PyData.showableAll] using hs
      obtain ⟨as, ha, ka⟩ := h.reprK I r1 hs'.1 (hz _ (by simp [Dt.toPs, PyData.shownAll]))
      obtain ⟨bs, hb, kb⟩ := t.reprK I r2 hs'.2 (fun t ht => hz _ (by simp [Dt.toPs, PyData.shownAll, ht]))
      have m1 : x.toP.depth ≤ PyData.depthAll (Dt.toPs (x :: xs)) := by simp only [Dt.toPs, PyData.depthAll]; omega
      have m2 : PyData.depthAll (Dt.toPs xs) ≤ PyData.depthAll (Dt.toPs (x :: xs)) := by simp only [Dt.toPs, PyData.depthAll]; omega
      refine ⟨as ++ bs, (ha.mono m1).append (hb.mono m2), ?_⟩
      simp only [Dt.toPs, PyData.shownAll]
      exact .cons ((ka.more fun b hb => List.mem_append_left _ hb).level_le m1) (kb.more_le (fun b hb => List.mem_append_right _ hb) m2)
end
/-- it is shown: within the bounds -/
structure Shw (n : Nat) (x : Dt) : Prop where
  ok : x.toP.showable = true
  dp : x.toP.depth ≤ n
  sz : x.toP.shown.length ≤ sizeLine
def rShowU (n : Nat) : List V → Hp → VK → Prop := fun xs H Q => ∃ (v : V) (x : Dt), xs = [v] ∧ Dd Any H x v ∧ Shw n x ∧ Q (.str x.toP.shown) H
theorem call_showU {n : Nat} (g : Still X.A) (hu : X.A.units + (n + 1) < cLine) : CallR X (.builtin "repr") (rShowU n) := by
  intro pins s σ H xs us Q I r h
  obtain ⟨v, x, rfl, hd, sh, q⟩ := h
  cases r with
  | cons r1 r2 =>
    cases r2
    have done : ∀ (h' : Heap) (u tk : Tok), (∀ b o, s.heap.get? b = some o → h'.get? b = some o) → EP X pins σ Q (.str x.toP.shown u) { s with heap := h', toks := tk } := fun h' u tk hk => ⟨.str _, H, I.kept hk, ⟨u, rfl⟩, q⟩
    have dpx := sh.dp
    cases hd with
    | non =>
      cases r1
      exact PySem.P.repr_of_none (done s.heap _ _ fun _ _ e => e)
    | bl b =>
      cases r1
      exact PySem.P.repr_of_bool (by simpa only [Dt.toP, PyData.shown] using done s.heap _ _ fun _ _ e => e)
    | int i =>
      obtain ⟨t, rfl⟩ := r1
      exact PySem.P.repr_of_int (by simpa [Dt.toP, PyData.showable] using sh.ok) (by simpa only [Dt.toP, PyData.shown] using done s.heap _ _ fun _ _ e => e)
    | str y =>
      obtain ⟨t, rfl⟩ := r1
      exact PySem.P.repr_of_str (by simpa only [Dt.toP, PyData.shown] using done s.heap _ _ fun _ _ e => e) (by simpa only [Dt.toP, PyData.shown] using sh.sz)
    | tup h t =>
      rename_i a ys ws
      cases r1
      obtain ⟨its, rv, ⟨o, ho, hc, m, hd⟩, _⟩ := I.tuple (SqT.of h)
      have hz' : (tupleText (PyData.shownAll (Dt.toPs ys))).length ≤ sizeLine := by simpa only [Dt.toP, PyData.shown] using sh.sz
      obtain ⟨as, ra⟩ := t.reads I rv
      obtain ⟨bs, hb, hk⟩ := t.reprK I rv (by simpa [Dt.toP, PyData.showable] using sh.ok) (fun t ht => Nat.le_trans (tupleText_mem_le ht) hz')
      have rd : Reads s.heap (.ref a) (.tuple (Dt.toPs ys)) _ := .tuple ho hc hd ra
      have na : a ∉ bs := not_mem_of_deeper rd (by simp only [PyData.depth]; omega) hb
      have dp : PyData.depthAll (Dt.toPs ys) + 1 ≤ n := by simpa only [Dt.toP, PyData.depth, Nat.add_comm] using dpx
      exact call_repr_slot (by omega) ⟨o, ho, hc⟩ PySem.F.slot_tuple_repr (call_tuple_reprK ho hc hd na hk (A := X.A.in1) g (fun b _ => Clear.nil b) (by show X.A.units + 1 + _ < cLine; omega) (fun _ _ e => e) (fun h' u tk hk' => ⟨_, _, rfl, by simpa only [Dt.toP, PyData.shown] using done h' u tk hk'⟩) hz')
    | lst _ h t =>
      rename_i a ys ws _
      cases r1
      obtain ⟨its, rv, ⟨o, m, ho, hc, _, hd⟩, _⟩ := I.list (SqL.of h)
      have hz' : (listText (PyData.shownAll (Dt.toPs ys))).length ≤ sizeLine := by simpa only [Dt.toP, PyData.shown] using sh.sz
      obtain ⟨as, ra⟩ := t.reads I rv
      obtain ⟨bs, hb, hk⟩ := t.reprK I rv (by simpa [Dt.toP, PyData.showable] using sh.ok) (fun t ht => Nat.le_trans (listText_mem_le ht) hz')
      have rd : Reads s.heap (.ref a) (.list (Dt.toPs ys)) _ := .list ho hc hd ra
      have na : a ∉ bs := not_mem_of_deeper rd (by simp only [PyData.depth]; omega) hb
      have dp : PyData.depthAll (Dt.toPs ys) + 1 ≤ n := by simpa only [Dt.toP, PyData.depth, Nat.add_comm] using dpx
      cases its with
      | nil =>
        cases rv
        cases t
        exact call_repr_slot (by omega) ⟨o, ho, hc⟩ PySem.F.slot_list_repr.toG (call_list_repr_empty ⟨o, ho, hc⟩ ho hd ⟨_, _, rfl, by
          have z := done s.heap s.toks (s.toks + 1) fun _ _ e => e
          simp only [Dt.toP, Dt.toPs, PyData.shown, PyData.shownAll, listText_nil] at z
          exact z⟩)
      | cons y l =>
        exact call_repr_slot (by omega) ⟨o, ho, hc⟩ PySem.F.slot_list_repr.toG (call_list_reprK ho hc hd na (by simpa using hk.length_eq) (fun i y e => hk.item i y (by simpa using e)) (A := X.A.in1) g (fun b _ => Clear.nil b) (by show X.A.units + 1 + _ < cLine; omega) (fun _ _ e => e) (fun h' u tk hk' => ⟨_, _, rfl, by simpa only [Dt.toP, PyData.shown] using done h' u tk hk'⟩) hz')
    | dct _ h =>
      rename_i a kvs _
      cases r1
      obtain ⟨o, es, m, ho, hc, hd, low, h4, h5⟩ := dct_obj I h
      have rd : Reads s.heap (.ref a) (.dict (dkp kvs)) _ := .dict ho hc hd h4 h5
      have hz' : (dictText (PyData.shownKv (dkp kvs))).length ≤ sizeLine := by simpa only [Dt.toP, PyData.shown] using sh.sz
      obtain ⟨hs1, hs2⟩ := PyData.showableKv_split (dkp kvs) (by simpa [Dt.toP, PyData.showable] using sh.ok)
      obtain ⟨b1, hb1, k1⟩ := ReprAllK.of_readsAll (prog := X.prog) (w := X.w) h4 hs1 (fun _ hm => nomatch hm) (fun t ht => let ⟨p, hp, hl⟩ := PyData.shownKv_key_le _ t ht; Nat.le_trans hl (Nat.le_trans (dictText_mem_le hp) hz'))
      obtain ⟨b2, hb2, k2⟩ := ReprAllK.of_readsAll (prog := X.prog) (w := X.w) h5 hs2 (fun _ hm => nomatch hm) (fun t ht => let ⟨p, hp, hl⟩ := PyData.shownKv_val_le _ t ht; Nat.le_trans hl (Nat.le_trans (dictText_mem_le hp) hz'))
      have hb : ReadAtMost s.heap (PyData.depthKv (dkp kvs)) (b1 ++ b2) := (hb1.mono (PyData.depthAll_keys_le _)).append (hb2.mono (PyData.depthAll_vals_le _))
      have hna : a ∉ b1 ++ b2 := not_mem_of_deeper rd (by simp only [PyData.depth]; omega) hb
      have dp : PyData.depthKv (dkp kvs) + 1 ≤ n := by simpa only [Dt.toP, PyData.depth, Nat.add_comm] using dpx
      exact call_repr_slot (by omega) ⟨o, ho, hc⟩ PySem.F.slot_dict_repr (call_dict_reprK ho hc hd low hna (ReprEntriesK.of_two es.toList _ _ (k1.more_le (fun b hb => List.mem_append_left _ hb) (PyData.depthAll_keys_le _)) (k2.more_le (fun b hb => List.mem_append_right _ hb) (PyData.depthAll_vals_le _))) (A := X.A.in1) g (fun b _ => Clear.nil b) (by show X.A.units + 1 + _ < cLine; omega) (fun _ _ e => e) (fun h' u tk hk => ⟨_, _, rfl, by simpa only [Dt.toP, PyData.shown, PyData.shownKv_eq] using done h' u tk hk⟩) (by rw [← PyData.shownKv_eq]; exact hz'))
end
end Kv

namespace Kg
open PySem PySem.Spec PyProof.Rows L2 GxR
/-- a def whose code object is known -/
structure FunC (K : PySem.W.Frag) (x qual : Str) (st : Stmt) (f : Addr) (fd : FuncData) (c : Addr) : Prop where
  ex : ∃ (oc : Value) (od : Option Addr) (kV doc pm : Value) (an : Option Addr) (ct : Value) (osl : Array (Option Value)),
    fd = PySem.W.fnOf x qual (defArgs st) (defBody st) (defScope st) .none kV doc pm an (.ref c) ct ∧ K.lookup f = some ⟨oc, od, .func fd, osl⟩ ∧ PySem.W.codeIn K (.ref c) qual = true
section
variable {P : Program} {w : World} {K : PySem.W.Frag} {mg : Str → Option Value} {base : Heap}
theorem FunC.ok {x qual : Str} {st : Stmt} {f : Addr} {fd : FuncData} {c : Addr} {N ps : List Str} {k : Nat} {sp : Sp} (F : FunC K x qual st f fd c) (S : FnScope N ps (defScope st)) (len : ∀ vs H Q E, sp vs H Q E → vs.length = ps.length)
    (hbody : ∀ (A : Around) (outer : List Env) (s : Shared) (H : Hp) (vs : List V) (Q : VK) (E : XK), Room k (A.deeper (envOfC qual (defScope st) s.heap.objs.size f (.ref c))) → sp vs H Q E →
      ∃ t, PSs (cxOf CX0 P w K mg base N qual (defScope st) f (.ref c) A outer s H E).nox (defBody st) t ∧ t { nx := fun _ H' => Q .non H', rt := Q } (start N vs) H) : FnOk P w K mg base CX0 (k + 1) f fd ps sp := by
  obtain ⟨oc, od, kV, doc, pm, an, ct, osl, rfl, lk, hcd⟩ := F.ex
  refine fn_of lk hcd S len fun A outer s H vs Q E hr hsp => ?_
  obtain ⟨t, h, q⟩ := hbody A outer s H vs Q E hr hsp
  exact ⟨t, h.nox, q⟩
theorem funC_mk {x qual : Str} {st : Stmt} {f c : Addr} {oc : Value} {od an : Option Addr} {osl : Array (Option Value)} {kV doc pm ct : Value} (l : K.lookup f = some ⟨oc, od, .func (PySem.W.fnOf x qual (defArgs st) (defBody st) (defScope st) .none kV doc pm an (.ref c) ct), osl⟩)
    (h : PySem.W.codeIn K (.ref c) qual = true) : FunC K x qual st f (PySem.W.fnOf x qual (defArgs st) (defBody st) (defScope st) .none kV doc pm an (.ref c) ct) c := ⟨⟨oc, od, kV, doc, pm, an, ct, osl, rfl, l, h⟩⟩
end
def gxSB (N : List Str) (sc scope : Scope) (own : List Str) (caps : List (Str × Nat)) : Bool :=
  decide (scope.kind = .function) && !scope.isCoroutine && scope.names.all (fun y => !decide (y.2 = .cell)) && decide (scope.names.lookup (".0" : Str) = some NameKind.local) && decide ((own ++ caps.map (·.1)).Nodup) &&
  caps.all (fun p => decide (N[p.2]? = some p.1) && decide (scope.names.lookup p.1 = some .free)) && scope.names.all (fun y => !decide (y.2 = .free) || decide (sc.names.lookup y.1 = some .cell) || decide (sc.names.lookup y.1 = some .free)) && scope.names.all fun y => decide (scope.names.lookup y.1 = some y.2)
theorem gxS_by {N : List Str} {sc scope : Scope} {own : List Str} {caps : List (Str × Nat)} (h : gxSB N sc scope own caps = true) : GxS N sc scope own caps := by
  unfold gxSB at h
  simp only [Bool.and_eq_true, Bool.or_eq_true, Bool.not_eq_true', decide_eq_true_eq, decide_eq_false_iff_not, List.all_eq_true] at h
  obtain ⟨⟨⟨⟨⟨⟨⟨h1, h2⟩, h3⟩, h4⟩, h5⟩, h6⟩, h7⟩, h8⟩ := h
  refine ⟨h1, h2, h3, h4, h5, h6, fun y hy e => ?_, h8⟩
  rcases h7 y hy with (z | z) | z
  · exact absurd e z
  · exact .inl z
  · exact .inr z
/-! the tables of code objects -/
def TbS (T : List Addr) (H : Hp) : Prop := ∀ p ∈ T, TabG H p
/-- all but the tables stands; they are tables -/
def Sm (T : List Addr) (H G : Hp) : Prop := (∀ b u, b ∉ T → H b = some u → G b = some u) ∧ TbS T G
theorem TbS.same {T : List Addr} {H G : Hp} (t : TbS T H) (s : Same H G) : TbS T G := fun p hp => by
  obtain ⟨ps, h1, h2⟩ := t p hp
  exact ⟨ps, s _ _ h1, h2⟩
theorem Sm.refl {T : List Addr} {H : Hp} (t : TbS T H) : Sm T H H := ⟨fun _ _ _ e => e, t⟩
theorem Sm.of {T : List Addr} {H G : Hp} (s : Same H G) (t : TbS T H) : Sm T H G := ⟨fun b u _ e => s b u e, t.same s⟩
theorem Sm.trans {T : List Addr} {H G F : Hp} (a : Sm T H G) (b : Sm T G F) : Sm T H F := ⟨fun x u h e => b.1 x u h (a.1 x u h e), b.2⟩
theorem Sm.tab {T : List Addr} {H G : Hp} {p : Addr} (hp : p ∈ T) (t : TbS T H) (h : Tabbed p H G) : Sm T H G := by
  refine ⟨fun b u hb e => ?_, fun q hq => ?_⟩
  · rw [h.2 b (fun z => hb (by rw [z]; exact hp))]
    exact e
  · by_cases z : q = p
    · rw [z]
      exact h.1
    · obtain ⟨ps, h1, h2⟩ := t q hq
      exact ⟨ps, by rw [h.2 q z]; exact h1, h2⟩
theorem TbS.off {T : List Addr} {H : Hp} {b : Addr} {u : HO} (t : TbS T H) (e : H b = some u) (n : ∀ ps, u ≠ .tbl ps) : b ∉ T := fun hb => by
  obtain ⟨ps, h1, _⟩ := t b hb
  rw [e] at h1
  exact n ps (Option.some.inj h1)
theorem Sm.at {T : List Addr} {H G : Hp} (a : Sm T H G) (t : TbS T H) {b : Addr} {u : HO} (e : H b = some u) (n : ∀ ps, u ≠ .tbl ps) : G b = some u := a.1 b u (t.off e n) e
theorem Sm.free {T : List Addr} {H G : Hp} {p : Addr} (a : Sm T H G) (h : G p = none) : H p = none := by
  cases e : H p with
  | none => rfl
  | some u =>
    by_cases hp : p ∈ T
    · obtain ⟨ps, h1, _⟩ := a.2 p hp
      rw [h] at h1
      cases h1
    · rw [a.1 p u hp e] at h
      cases h
/-! all over a list, over a tuple -/
section
variable {K : PySem.W.Frag} {a : Addr} {xs : List V} {g : TG} {te : TE} {vs : List Nat} {σ0 : L2.St} {G : Hp} {Qe : Bool → Hp → Prop}
theorem all_list (Pv : Nat → Hp → Prop) (h0 : Pv 0 G) (hl : ∀ i H, i ≤ xs.length → Pv i H → SqL K H a xs)
    (hs : ∀ i x H, xs[i]? = some x → Pv i H → g x σ0 H fun σ2 H2 => wipe σ2 vs = σ0 ∧ te σ2 H2 fun y H4 => ∃ b, y = .bl b ∧ if b = true then Pv (i + 1) H4 else Qe false H4) (hd : ∀ H, Pv xs.length H → Qe true H) :
    ∃ W : Nat → Nat → Hp → Prop, (∃ m, W 0 m G) ∧ Turns (Itl K a) σ0 vs g te Qe W := by
  refine ⟨fun i m F => m = xs.length - i ∧ i ≤ xs.length ∧ Pv i F, ⟨_, rfl, Nat.zero_le _, h0⟩, fun i m F z => ?_⟩
  obtain ⟨rfl, hi, p⟩ := z
  have q := hl i F hi p
  by_cases lt : i < xs.length
  · refine .inr ⟨⟨xs, xs[i], q, List.getElem?_eq_getElem lt⟩, Pv (i + 1), fun F' p' => ⟨xs.length - (i + 1), by omega, rfl, lt, p'⟩, fun x F' y => ?_⟩
    obtain ⟨e, y⟩ := y
    subst e
    exact hs i x _ (y xs q) p
  · have e : i = xs.length := by omega
    subst e
    exact .inl ⟨⟨xs, q, Nat.le_refl _⟩, hd F p⟩
theorem all_tup (Pv : Nat → Hp → Prop) (h0 : Pv 0 G) (hl : ∀ i H, i ≤ xs.length → Pv i H → SqT K H a xs)
    (hs : ∀ i x H, xs[i]? = some x → Pv i H → g x σ0 H fun σ2 H2 => wipe σ2 vs = σ0 ∧ te σ2 H2 fun y H4 => ∃ b, y = .bl b ∧ if b = true then Pv (i + 1) H4 else Qe false H4) (hd : ∀ H, Pv xs.length H → Qe true H) :
    ∃ W : Nat → Nat → Hp → Prop, (∃ m, W 0 m G) ∧ Turns (Itt K a) σ0 vs g te Qe W := by
  refine ⟨fun i m F => m = xs.length - i ∧ i ≤ xs.length ∧ Pv i F, ⟨_, rfl, Nat.zero_le _, h0⟩, fun i m F z => ?_⟩
  obtain ⟨rfl, hi, p⟩ := z
  have q := hl i F hi p
  by_cases lt : i < xs.length
  · refine .inr ⟨⟨xs, xs[i], q, List.getElem?_eq_getElem lt⟩, Pv (i + 1), fun F' p' => ⟨xs.length - (i + 1), by omega, rfl, lt, p'⟩, fun x F' y => ?_⟩
    obtain ⟨e, y⟩ := y
    subst e
    exact hs i x _ (y xs q) p
  · have e : i = xs.length := by omega
    subst e
    exact .inl ⟨⟨xs, q, Nat.le_refl _⟩, hd F p⟩
/-- all over what walks -/
theorem all_it {J : It} {n : Nat} {I : Hp → Prop} {Y : Nat → Hp → V → Hp → Prop} (w : Walk J n I Y) (Pv : Nat → Hp → Prop) (h0 : Pv 0 G) (hl : ∀ i H, i ≤ n → Pv i H → I H)
    (hs : ∀ i x H H', i < n → Pv i H → Y i H x H' → g x σ0 H' fun σ2 H2 => wipe σ2 vs = σ0 ∧ te σ2 H2 fun y H4 => ∃ b, y = .bl b ∧ if b = true then Pv (i + 1) H4 else Qe false H4) (hd : ∀ H, Pv n H → Qe true H) :
    ∃ W : Nat → Nat → Hp → Prop, (∃ m, W 0 m G) ∧ Turns J σ0 vs g te Qe W := by
  refine ⟨fun i m F => m = n - i ∧ i ≤ n ∧ Pv i F, ⟨_, rfl, Nat.zero_le _, h0⟩, fun i m F z => ?_⟩
  obtain ⟨rfl, hi, p⟩ := z
  have q := hl i F hi p
  by_cases lt : i < n
  · exact .inr ⟨w.goes i F lt q, Pv (i + 1), fun F' p' => ⟨n - (i + 1), by omega, rfl, lt, p'⟩, fun x F' y => hs i x F F' lt p (w.yields i F x F' lt q y)⟩
  · have e : i = n := by omega
    subst e
    exact .inl ⟨w.stops F q, hd F p⟩
theorem Sm.kn {T : List Addr} {N : Addr → Prop} {H G : Hp} (a : Sm T H G) (t : TbS T H) : Kv.Kn N H G :=
  ⟨fun b xs e => a.at t e (fun ps z => by cases z), fun b xs _ e => a.at t e (fun ps z => by cases z), fun b xs _ e => a.at t e (fun ps z => by cases z)⟩
theorem Sm.new {T : List Addr} {H G : Hp} {p : Addr} {o : HO} (a : Sm T H G) (h : H p = none) (tb : TbS T H) : Sm T H (upd G p o) := by
  refine ⟨fun b u hb e => ?_, fun q hq => ?_⟩
  · rw [upd_ne (ne_of_none e h)]
    exact a.1 b u hb e
  · obtain ⟨ps, h1, h2⟩ := a.2 q hq
    obtain ⟨ps0, h10, _⟩ := tb q hq
    exact ⟨ps, by rw [upd_ne (ne_of_none h10 h)]; exact h1, h2⟩
end
end Kg

/-! dict(..) of a tuple of pairs, a tuple of two turned about -/
namespace Kt
open PySem PySem.Spec PyProof.Rows L2
section
variable {X : Cx}
/-- tuple(l): the object is known -/
theorem call_tupleF : CallR X (.type "tuple") (fun xs H Q => ∃ p ys, xs = [.ref p] ∧ SqL X.K H p ys ∧ ∀ l (o : Obj), H l = none → o.dict = none → o.cls = .type "tuple" → Q (.ref l) (upd H l (.frz o (.tup ys)))) := by
  intro pins s σ H xs us Q I r h
  obtain ⟨p, ys, rfl, hq, q⟩ := h
  obtain ⟨u, rfl, rx⟩ := vals1 r
  cases rx
  obtain ⟨its, r', pl, hz⟩ := I.list hq
  have hlen := r'.length
  refine call_tuple_list pl.isList (fun h' kp => ?_) (by simp only [List.size_toArray] <;> omega)
  have I1 : Inv X pins σ H { s with heap := h' } := I.kept (t' := s.toks) kp
  have I2 : Inv X pins σ (upd H h'.objs.size (.frz { cls := .type "tuple", data := .seq its.toArray } (.tup ys))) { s with heap := h'.push { cls := .type "tuple", data := .seq its.toArray } } :=
    I1.laid (t' := s.toks) (fun b o e => Heap.get?_push_of_some _ e) (Nat.le_refl _) (show ObjOk X.prog X.w _ _ _ (.frz _ (.tup ys)) from ⟨Heap.get?_push_size _ rfl, hz, its, r', IsTup.new _ _⟩)
  exact ⟨.ref h'.objs.size, _, I2, rfl, q _ _ (I1.hok.fresh (Nat.le_refl _)) rfl rfl⟩
/-- () -/
def tTup0 : TE := fun _ H Q => ∀ p (o : Obj), H p = none → o.dict = none → o.cls = .type "tuple" → Q (.ref p) (upd H p (.frz o (.tup [])))
theorem pe_tup0 {x1 : Nat} {pos : Pos} : PE X (.Tuple [] x1 pos) tTup0 := by
  refine ⟨fun pins s σ H Q I h => ?_⟩
  refine wpAny_Tuple_spliced (thn ((pa_nil (X := X)).run pos pins s σ H (fun xs H1 => xs = [] ∧ H1 = H) I ⟨rfl, rfl⟩) fun us s1 ⟨xs, H1, I1, r, e1, e2⟩ => ?_)
  subst e1 e2
  cases r
  refine ⟨Nat.zero_le _, ?_⟩
  refine ⟨.ref s1.heap.objs.size, _, I1.laid (t' := s1.toks) (o := .frz { cls := .type "tuple", data := .seq ([] : List Value).toArray } (.tup [])) (fun b u e => Heap.get?_push_of_some _ e) (Nat.le_refl _) ?_, rfl, h _ _ (I1.hok.fresh (Nat.le_refl _)) rfl rfl⟩
  exact ⟨Heap.get?_push_size _ rfl, Nat.zero_le _, [], .nil, IsTup.new _ _⟩
theorem raws_of {pins : List (Addr × Obj)} {σ : L2.St} {H : Hp} {s : Shared} (I : Inv X pins σ H s) : ∀ {ps : List Addr} {kvs : List (Key × V)}, Paired (fun p kv => SqT X.K H p [kV kv.1, kv.2]) ps kvs →
    ∃ (prs : List (Key × Value)) (raws : List (Value × Value)), KV kvs prs ∧ prs.length = ps.length ∧ raws.length = ps.length ∧ ∀ (j : Nat) (u v : Value), raws[j]? = some (u, v) → ∃ (b : Addr) (k : Key), ps[j]? = some b ∧ IsTup s.heap b #[u, v] ∧ prs[j]? = some (k, v) ∧ keyIs k u = true
  | _, _, .nil => ⟨[], [], .nil, rfl, rfl, fun j u v e => by simp at e⟩
  | _, _, .cons (a := p) (b := kv) h t => by
    obtain ⟨prs, raws, r, hl, hl2, hp⟩ := raws_of I t
    obtain ⟨its, rv, ht, _⟩ := I.tuple h
    obtain ⟨u, y, ei, ru, ry⟩ := vals2 rv
    subst ei
    refine ⟨(kv.1, y) :: prs, (u, y) :: raws, .cons ⟨rfl, ry⟩ r, by rw [List.length_cons, List.length_cons, hl], by rw [List.length_cons, List.length_cons, hl2], fun j u' v' e => ?_⟩
    cases j with
    | zero =>
      have e' : (u, y) = (u', v') := Option.some.inj e
      cases e'
      exact ⟨p, kv.1, rfl, ht, rfl, kV_is (P := X.prog) (w := X.w) ru⟩
    | succ j =>
      obtain ⟨b, k, e1, e2, e3, e4⟩ := hp j u' v' (by simpa using e)
      exact ⟨b, k, by simpa using e1, e2, by simpa using e3, e4⟩
/-- dict(t) of a tuple of pairs -/
theorem call_dictF (hcalm : X.calm = true) : CallR X (.type "dict") (fun xs H Q => ∃ (a : Addr) (o : Obj) (ps : List Addr) (kvs : List (Key × V)), xs = [.ref a] ∧ H a = some (.frz o (.tup (ps.map V.ref))) ∧ o.dict = none ∧ o.cls = .type "tuple" ∧ Paired (fun p kv => SqT X.K H p [kV kv.1, kv.2]) ps kvs ∧
    ∀ p, H p = none → Q (.ref p) (upd H p (.dK (mergeK [] kvs)))) := by
  intro pins s σ H xs us Q I r q
  obtain ⟨a, o, ps, kvs, ex, hq, hod, hoc, hp, q⟩ := q
  subst ex
  obtain ⟨u, eu, rx⟩ := vals1 r
  subst eu
  cases rx
  obtain ⟨ho, hz, its, rv, o2, ho2, hc2, n2, hdat⟩ := I.hok a _ hq
  rw [ho] at ho2
  cases ho2
  have ei := refs_at rv
  subst ei
  rw [List.length_map] at hz
  obtain ⟨prs, raws, rel, hl, hl2, hpr⟩ := raws_of I hp
  have PA := PairArg.tuple (prog := X.prog) (w := X.w) a (ps.map Value.ref).toArray (fun j => (ps[j]?).getD 0) raws
  refine PySem.call_dict_pairs (knd := mixKind X.prog X.w) (kvs := prs) PA (I.ok.hd hcalm) ⟨⟨o, n2, ho, hoc, hod, hdat⟩, by simp [hl2], fun j k v e => ?_⟩ ⟨by rw [hl, hl2], fun i key v e => ?_⟩ (by rw [hl2]; exact hz) fun h' tk hd' k => ?_
  · obtain ⟨b, kk, e1, e2, e3, e4⟩ := hpr j k v e
    refine ⟨by simp [e1], .inl ?_⟩
    show s.heap.IsTuple ((ps[j]?).getD 0) #[k, v]
    rw [e1]
    exact e2
  · obtain ⟨b, kk, e1, e2, e3, e4⟩ := hpr i key v e
    exact ⟨kk, e3, e4⟩
  · have hm : (s.heap.objs.size == sysModules) = false := beq_eq_false_iff_ne.mpr (Nat.ne_of_gt I.big)
    have hlen : (mergeK [] kvs).length ≤ sizeLine := by
      refine Nat.le_trans (length_mergeK kvs []) ?_
      rw [List.length_nil, Nat.zero_add, rel.length, hl]
      exact hz
    exact ⟨.ref s.heap.objs.size, upd H s.heap.objs.size (.dK (mergeK [] kvs)), I.laid (t' := tk) (fun b o e => k b o (by simp) e) (Nat.le_refl _) (show ObjOk X.prog X.w _ _ _ (.dK (mergeK [] kvs)) from ⟨hlen, hm, merged [] prs, KV.merge rel .nil, hd'⟩), rfl, q _ (I.hok.fresh (Nat.le_refl _))⟩
end
/-! t[::-1], t of two -/
section
variable {prog : Program} {w : World} {A : Around} {E : Value → Shared → Prop} {s : Shared}
theorem getItem_two {t sl : Addr} {x y vl vu vs : Value} {Q : Value → Shared → Prop} (ht : IsTup s.heap t #[x, y]) (hs : s.heap.IsSliceOf sl vl vu vs) (pl : IsPart vl none) (pu : IsPart vu none) (ps : IsPart vs (some (-1)))
    (h : Q (.ref s.heap.objs.size) { s with heap := s.heap.push { cls := .type "tuple", data := .seq #[y, x] } }) : wpAny (model prog w) A (getItem (.ref t) (.ref sl)) Q E s := by
  have htake : sizeOk (.seq #[y, x]) := by
    show 2 ≤ sizeLine
    decide
  obtain ⟨os, hos, hcs, hds⟩ := id hs
  have hTs : s.TypeIs (.ref sl) "slice" := ⟨os, hos, hcs⟩
  unfold getItem
  try with_reducible refine wpAny_holding ?_
  first | refine wpAny_bind (wpAny_pure ?_) | skip
  refine wpAny_bind (wpAny_sequenceKey ht.typeIs (by decide) ?_)
  refine wpAny_bind (wpAny_callSpecial?_slot (name := Str.ofString "__getitem__") ht.typeIs PyProof.Rows.slot_tuple_getitem
    (wpAny_call_entry PyProof.Rows.slot_tuple_getitem ht.typeIs entry_tuple_getitem ?_ (args_tuple_getitem _ _)))
  show wpAny _ _ (Builtin.Tuple.tupleItemsOf (.ref t) >>= _) _ _ s
  refine wpAny_bind (tupleItemsOf_ ht ?_)
  refine wpAny_bind (wpAny_typeOf hTs ?_)
  rw [if_pos (by decide)]
  refine wpAny_bind ?_
  unfold Builtin.Slice.sliceApplied Builtin.Slice.sliceFields
  refine wpAny_bind (wpAny_bind (wpAny_field hos hds (x := vl) rfl (wpAny_bind (wpAny_field hos hds (x := vu) rfl (wpAny_bind (wpAny_field hos hds (x := vs) rfl (wpAny_pure ?_)))))))
  refine wpAny_bind (HT.slicePart_ ps ?_)
  show wpAny _ _ (if ((-1 : Int) == 0) = true then _ else _) _ _ s
  rw [if_neg (by decide)]
  refine wpAny_bind (HT.slicePart_ pl (wpAny_bind (HT.slicePart_ pu (wpAny_bind (wpAny_pure ?_)))))
  refine wpAny_pure ?_
  show wpAny _ _ (if (((1 : Int) == 0 && (-1 : Int) == 1 && (2 : Nat) == 2) = true) then _ else _) _ _ s
  rw [if_neg (by decide)]
  generalize hA : (List.filterMap _ (List.range _)).toArray = arr
  have eA : arr = #[y, x] := by
    rw [← hA]
    first
      | rfl
      | kernel_rfl
      | with_unfolding_all rfl
  subst eA
  show wpAny _ _ (Builtin.Tuple.tupleExact #[y, x] >>= fun v => ret v) _ _ s
  have e : ((List.range 2).filterMap fun (m : Nat) => (#[x, y] : Array Value)[((1 : Int) + (m : Int) * (-1)).toNat]?).toArray = #[y, x] := rfl
  first
    | exact wpAny_bind (m := Builtin.Tuple.tupleExact _) (wpAny_newObj_type (wpAny_pure ⟨_, rfl, wpAny_pure h⟩) htake)
    | exact wpAny_bind (m := Builtin.Tuple.tupleExact _) (wpAny_newObj_type (wpAny_bind (wpAny_pure (wpAny_pure ⟨_, rfl, wpAny_pure h⟩))) htake)
    | exact wpAny_bind (wpAny_bind (m := Builtin.Tuple.tupleExact _) (wpAny_newObj_type (wpAny_pure (wpAny_pure ⟨_, rfl, wpAny_pure h⟩)) htake))
    | exact wpAny_bind (wpAny_bind (m := Builtin.Tuple.tupleExact _) (wpAny_newObj_type (wpAny_pure ⟨_, rfl, wpAny_pure h⟩) htake))
end
section
variable {X : Cx}
def tRev2 (K : PySem.W.Frag) (te : TE) : TE := fun σ H Q => te σ H fun x H1 => ∃ a y z, x = .ref a ∧ SqT K H1 a [y, z] ∧ ∀ p, H1 p = none → Q (.ref p) (upd H1 p (.tup [z, y]))
theorem pe_rev2 {e : Expr} {te : TE} {k : Nat} {p1 p2 p3 pos : Pos} (he : PE X e te) : PE X (.Subscript e (.Slice none none (some (.UnaryOp .USub (.Constant (.int 1) k p1) p2)) p3) pos) (tRev2 X.K te) := by
  refine ⟨fun pins s σ H Q I h => ?_⟩
  refine Subscript_ (thn (he.run pins s σ H _ I h) fun v s1 ⟨x, H1, I1, r1, q1⟩ => ?_)
  obtain ⟨a, y, z, ex, hx, q⟩ := q1
  subst ex
  cases r1
  have hst : PO X (some (.UnaryOp .USub (.Constant (.int 1) k p1) p2)) (tPart (tUn (rU fun i => .int (-i)) (tC (.int 1)))) := po_some (pe_un un_neg pe_int)
  refine wpAny_Slice (thn (po_none.run pins s1 σ H1 (fun o H2 => o = none ∧ H2 = H1) I1 ⟨rfl, rfl⟩) fun vl s2 ⟨l, H2, I2, pl, el, e2⟩ => ?_)
  subst el e2
  refine thn (po_none.run pins s2 σ H2 (fun o H3 => o = none ∧ H3 = H2) I2 ⟨rfl, rfl⟩) fun vu s3 ⟨u, H3, I3, pu, eu, e3⟩ => ?_
  subst eu e3
  refine thn (hst.run pins s3 σ H3 (fun o H4 => o = some (-1) ∧ H4 = H3) I3 ⟨1, rfl, -1, rfl, rfl, rfl⟩) fun vs s4 ⟨o, H4, I4, ps, eo, e4⟩ => ?_
  subst eo e4
  have I5 : Inv X pins σ H4 { s4 with heap := s4.heap.push { cls := .type "slice", data := .fields #[vl, vu, vs] } } := I4.kept (t' := s4.toks) fun b ob q => Heap.get?_push_of_some _ q
  obtain ⟨its, r, ht, hz⟩ := I5.tuple hx
  obtain ⟨yv, zv, ei, ry, rz⟩ := vals2 r
  subst ei
  show wpAny (model X.prog X.w) X.A (subscriptTail e (.Slice none none (some (.UnaryOp .USub (.Constant (.int 1) k p1) p2)) p3) (.ref a) (.ref s4.heap.objs.size)) (EP X pins σ Q) X.xe { s4 with heap := s4.heap.push { cls := .type "slice", data := .fields #[vl, vu, vs] } }
  refine tail_any (ops := [.ref a, .ref s4.heap.objs.size]) ht.typeIs (PyProof.Rows.slot_tuple_getitem.lookup) ?_ (by with_unfolding_all rfl)
  refine getItem_two ht (Heap.IsSliceOf.new _ vl vu vs) pl pu ps ?_
  refine ⟨.ref _, _, I5.laid (t' := s4.toks) (o := .tup [z, y]) (fun b ob q => Heap.get?_push_of_some _ q) (Nat.le_refl _) ?_, rfl, q _ (I5.hok.fresh (Nat.le_refl _))⟩
  exact ⟨by show 2 ≤ sizeLine; decide, [zv, yv], .cons rz (.cons ry .nil), IsTup.new _ _⟩
end
end Kt

/-! further rules: == of tuples by texts, enumerate of a tuple, a text many times, a tuple turned about -/
namespace Kv
open PySem PySem.Spec PyProof.Rows L2 Kf
theorem vals_at : ∀ {xs : List V} {us : List Value} {i : Nat} (h : i < us.length), Vals xs us → ∃ x, xs[i]? = some x ∧ RelV x us[i]
  | _, _, i, h, .nil => absurd h (Nat.not_lt_zero _)
  | _, _, 0, h, .cons r t => ⟨_, rfl, r⟩
  | _, _, i + 1, h, .cons r t => by
    obtain ⟨x, e, q⟩ := vals_at (i := i) (Nat.lt_of_succ_lt_succ h) t
    exact ⟨x, e, q⟩
/-- at places that both have stand texts -/
def BothTxt (xs ys : List V) : Prop := ∀ (i : Nat) (u v : V), xs[i]? = some u → ys[i]? = some v → ∃ a b : Str, u = .str a ∧ v = .str b
def rEqTT (K : PySem.W.Frag) : R2 := fun x y H Q => ∃ (a b : Addr) (xs ys : List V), x = .ref a ∧ y = .ref b ∧ SqT K H a xs ∧ SqT K H b ys ∧ BothTxt xs ys ∧ Q (.bl (decide (xs = ys))) H
theorem op_eqTT {X : Cx} (hu : X.A.units + 64 < cLine) : OpR X (compareOp .Eq) (rEqTT X.K) := by
  intro pins s σ H x y v u Q I rx ry h
  obtain ⟨a, b, xs, ys, rfl, rfl, ha, hb, bt, q⟩ := h
  cases rx
  cases ry
  obtain ⟨is, r1, ⟨o1, h1, c1, n1, d1⟩, _⟩ := I.tuple ha
  obtain ⟨js, r2, ⟨o2, h2, c2, n2, d2⟩, _⟩ := I.tuple hb
  have l1 := r1.length
  have l2 := r2.length
  refine PySem.SeqAt.eq_tupleAt (e := fun i => decide (xs[i]? = ys[i]?)) ⟨o1, h1, c1, n1, d1⟩ ⟨o2, h2, c2, n2, d2⟩ (by omega) (fun j j1 j2 => ?_) ?_
  · have j1' : j < is.length := by simpa using j1
    have j2' : j < js.length := by simpa using j2
    obtain ⟨p, ep, rp⟩ := vals_at j1' r1
    obtain ⟨p', ep', rp'⟩ := vals_at j2' r2
    obtain ⟨sa, sb, rfl, rfl⟩ := bt j p p' ep ep'
    obtain ⟨t1, e1⟩ := rp
    obtain ⟨t2, e2⟩ := rp'
    have z := PySem.SeqAt.EqAt.str_str (A := X.A.in1) (s := s) sa t1 sb t2
    simp only [List.getElem_toArray, e1, e2, ep, ep']
    have e : decide (some (V.str sa) = some (V.str sb)) = (sa == sb) := by
      by_cases c : sa = sb
      · subst c
        simp
      · have : ¬ some (V.str sa) = some (V.str sb) := fun z => c (V.str.inj (Option.some.inj z))
        rw [decide_eq_false this]
        exact (beq_eq_false_iff_ne.mpr c).symm
    rw [e]
    exact z
  · have e : ((List.range (min is.toArray.size js.toArray.size)).all (fun i => decide (xs[i]? = ys[i]?)) && is.toArray.size == js.toArray.size) = decide (xs = ys) := by
      rw [List.size_toArray, List.size_toArray, ← l1, ← l2]
      by_cases c : xs = ys
      · subst c
        simp
      · rw [decide_eq_false c]
        by_cases cl : xs.length = ys.length
        · rw [Bool.and_eq_false_iff]
          left
          rw [← Bool.not_eq_true, List.all_eq_true]
          intro all
          refine c (List.ext_getElem? fun i => ?_)
          by_cases hi : i < xs.length
          · exact of_decide_eq_true (all i (List.mem_range.mpr (by omega)))
          · rw [List.getElem?_eq_none (by omega), List.getElem?_eq_none (by omega)]
        · rw [Bool.and_eq_false_iff]
          right
          exact beq_eq_false_iff_ne.mpr cl
    rw [e]
    exact ⟨.bl _, H, I, rfl, q⟩
/-! a text many times -/
theorem fold_app : ∀ (l : List (Array Nat)) (acc : Array Nat), (l.foldl (· ++ ·) acc).toList = acc.toList ++ (l.map Array.toList).flatten
  | [], acc => by simp
  | x :: l, acc => by
    rw [List.foldl_cons, fold_app l]
    simp [Array.toList_append, List.append_assoc]
theorem mul_cps (z : Str) (n : Nat) : (∀ c ∈ (Txt.mul z (n : Int)).cps.toList, c ∈ z.cps.toList) ∧ (Txt.mul z (n : Int)).cps.toList.length ≤ z.cps.toList.length * n := by
  unfold Txt.mul
  by_cases h1 : (n : Int) < 1
  · rw [if_pos h1]
    exact ⟨fun c h => absurd h (by simp [Str.empty]), by simp [Str.empty]⟩
  rw [if_neg h1]
  by_cases h2 : ((n : Int) == 1 || z.length == 0) = true
  · rw [if_pos h2]
    exact ⟨fun c h => h, Nat.le_mul_of_pos_right _ (by omega)⟩
  rw [if_neg h2]
  show (∀ c ∈ ((List.replicate (n : Int).toNat z.cps).foldl (· ++ ·) #[]).toList, c ∈ z.cps.toList) ∧ ((List.replicate (n : Int).toNat z.cps).foldl (· ++ ·) #[]).toList.length ≤ _
  rw [fold_app, Int.toNat_natCast, List.map_replicate]
  refine ⟨fun c h => ?_, ?_⟩
  · have h' : c ∈ (List.replicate n z.cps.toList).flatten := by simpa using h
    obtain ⟨l, hl, hc⟩ := List.mem_flatten.mp h'
    rw [(List.mem_replicate.mp hl).2] at hc
    exact hc
  · have e : ((#[] : Array Nat).toList ++ (List.replicate n z.cps.toList).flatten).length = n * z.cps.toList.length := by simp
    rw [e, Nat.mul_comm]
    exact Nat.le_refl _
def rMulS : R2 := fun x y H Q => ∃ (z : Str) (n : Nat), x = .str z ∧ y = .int (n : Int) ∧ n ≤ 1000 ∧ z.length ≤ sizeLine ∧ z.length * n ≤ sizeLine ∧ Q (.str (Txt.mul z (n : Int))) H
theorem op_mulS {X : Cx} : OpR X (binaryOp .Mult) rMulS := by
  intro pins s σ H x y v u Q I rx ry h
  obtain ⟨z, n, rfl, rfl, hn, hz0, hz1, q⟩ := h
  have hz : z.length ≤ 16777216 := hz0
  obtain ⟨t1, rfl⟩ := rx
  obtain ⟨t2, rfl⟩ := ry
  refine SB.mul (x := z) (n := (n : Int)) ⟨?_, fun h1 _ => ?_, fun h1 _ => ?_⟩ fun t' k => ⟨.str _, H, I.tok _, ⟨t', rfl⟩, q⟩
  · have a : decide ((n : Int) < -(2 ^ 63 : Int)) = false := decide_eq_false (by omega)
    have b : decide ((n : Int) ≥ 2 ^ 63) = false := decide_eq_false (by omega)
    rw [a, b]
    rfl
  · have h0 : (0 : Int) < (n : Int) := by omega
    have h3 : (16777216 : Int) ≤ (2 ^ 63 - 1) / (n : Int) := by
      rw [Int.le_ediv_iff_mul_le h0]
      omega
    omega
  · have le : z.length * (n : Int).toNat ≤ 16777216 := by
      rw [Int.toNat_natCast]
      exact hz1
    unfold Builtin.Str.tooLong
    exact decide_eq_false (by have : sizeLine = 16777216 := rfl; omega)
/-! a tuple turned about -/
theorem fm_congr {α β : Type} {f g : α → Option β} : ∀ {l : List α}, (∀ x ∈ l, f x = g x) → l.filterMap f = l.filterMap g
  | [], _ => rfl
  | x :: l, h => by
    rw [List.filterMap_cons, List.filterMap_cons, h x List.mem_cons_self, fm_congr fun y hy => h y (List.mem_cons_of_mem _ hy)]
section
variable {prog : Program} {w : World} {A : Around} {E : Value → Shared → Prop} {s : Shared}
theorem getItem_back {t sl : Addr} {its : Array Value} {vl vu vs : Value} {Q : Value → Shared → Prop} (ht : IsTup s.heap t its) (hz : its.size ≤ sizeLine) (hs : s.heap.IsSliceOf sl vl vu vs) (pl : IsPart vl none) (pu : IsPart vu none) (ps : IsPart vs (some (-1)))
    (h : Q (.ref s.heap.objs.size) { s with heap := s.heap.push { cls := .type "tuple", data := .seq its.toList.reverse.toArray } }) : wpAny (model prog w) A (getItem (.ref t) (.ref sl)) Q E s := by
  have htake : sizeOk (.seq its.toList.reverse.toArray) := by
    show its.toList.reverse.toArray.size ≤ sizeLine
    simpa using hz
  obtain ⟨os, hos, hcs, hds⟩ := id hs
  have hTs : s.TypeIs (.ref sl) "slice" := ⟨os, hos, hcs⟩
  unfold getItem
  try with_reducible refine wpAny_holding ?_
  first | refine wpAny_bind (wpAny_pure ?_) | skip
  refine wpAny_bind (wpAny_sequenceKey ht.typeIs (by decide) ?_)
  refine wpAny_bind (wpAny_callSpecial?_slot (name := Str.ofString "__getitem__") ht.typeIs PyProof.Rows.slot_tuple_getitem
    (wpAny_call_entry PyProof.Rows.slot_tuple_getitem ht.typeIs entry_tuple_getitem ?_ (args_tuple_getitem _ _)))
  show wpAny _ _ (Builtin.Tuple.tupleItemsOf (.ref t) >>= _) _ _ s
  refine wpAny_bind (tupleItemsOf_ ht ?_)
  refine wpAny_bind (wpAny_typeOf hTs ?_)
  rw [if_pos (by decide)]
  refine wpAny_bind ?_
  unfold Builtin.Slice.sliceApplied Builtin.Slice.sliceFields
  refine wpAny_bind (wpAny_bind (wpAny_field hos hds (x := vl) rfl (wpAny_bind (wpAny_field hos hds (x := vu) rfl (wpAny_bind (wpAny_field hos hds (x := vs) rfl (wpAny_pure ?_)))))))
  refine wpAny_bind (HT.slicePart_ ps ?_)
  show wpAny _ _ (if ((-1 : Int) == 0) = true then _ else _) _ _ s
  rw [if_neg (by decide)]
  refine wpAny_bind (HT.slicePart_ pl (wpAny_bind (HT.slicePart_ pu (wpAny_bind (wpAny_pure ?_)))))
  refine wpAny_pure ?_
  have en : Builtin.Slice.slicePlaces ((its.size : Int) - 1) (-1) (-1) = its.size := by
    unfold Builtin.Slice.slicePlaces
    simp only [show ¬ ((-1 : Int) > 0) by decide, if_false, show (- -1 : Int) = 1 by decide, Int.ediv_one]
    split <;> omega
  show wpAny _ _ (if ((((its.size : Int) - 1) == 0 && (-1 : Int) == 1 && Builtin.Slice.slicePlaces ((its.size : Int) - 1) (-1) (-1) == its.size) = true) then _ else _) _ _ s
  rw [if_neg (by simp)]
  generalize hA : (List.filterMap _ (List.range _)).toArray = arr
  have hA' : (List.filterMap (fun k : Nat => its[(((its.size : Int) - 1) + (k : Int) * (-1)).toNat]?) (List.range (Builtin.Slice.slicePlaces ((its.size : Int) - 1) (-1) (-1)))).toArray = arr := hA
  have eA : arr = its.toList.reverse.toArray := by
    rw [← hA', en]
    have e : List.filterMap (fun k : Nat => its[(((its.size : Int) - 1) + (k : Int) * (-1)).toNat]?) (List.range its.size) = List.filterMap (its[·]?) ((List.range its.size).map fun k => its.size - 1 - k) := by
      rw [List.filterMap_map]
      refine fm_congr fun k hk => ?_
      have := List.mem_range.mp hk
      show its[(((its.size : Int) - 1) + (k : Int) * (-1)).toNat]? = its[its.size - 1 - k]?
      have e2 : (((its.size : Int) - 1) + (k : Int) * (-1)).toNat = its.size - 1 - k := by omega
      rw [e2]
    rw [e, PySem.W.krv_range, List.filterMap_reverse, PySem.W.krv_all]
  subst eA
  show wpAny _ _ (Builtin.Tuple.tupleExact its.toList.reverse.toArray >>= fun v => ret v) _ _ s
  first
    | exact wpAny_bind (m := Builtin.Tuple.tupleExact _) (wpAny_newObj_type (wpAny_pure ⟨_, rfl, wpAny_pure h⟩) htake)
    | exact wpAny_bind (m := Builtin.Tuple.tupleExact _) (wpAny_newObj_type (wpAny_bind (wpAny_pure (wpAny_pure ⟨_, rfl, wpAny_pure h⟩))) htake)
end
section
variable {X : Cx}
def tRevT (K : PySem.W.Frag) (te : TE) : TE := fun σ H Q => te σ H fun x H1 => ∃ (a : Addr) (xs : List V), x = .ref a ∧ SqT K H1 a xs ∧ ∀ p, H1 p = none → Q (.ref p) (upd H1 p (.tup xs.reverse))
theorem pe_revT {e : Expr} {te : TE} {k : Nat} {p1 p2 p3 pos : Pos} (he : PE X e te) : PE X (.Subscript e (.Slice none none (some (.UnaryOp .USub (.Constant (.int 1) k p1) p2)) p3) pos) (tRevT X.K te) := by
  refine ⟨fun pins s σ H Q I h => ?_⟩
  refine Subscript_ (thn (he.run pins s σ H _ I h) fun v s1 ⟨x, H1, I1, r1, q1⟩ => ?_)
  obtain ⟨a, xs, ex, hx, q⟩ := q1
  subst ex
  cases r1
  have hst : PO X (some (.UnaryOp .USub (.Constant (.int 1) k p1) p2)) (tPart (tUn (rU fun i => .int (-i)) (tC (.int 1)))) := po_some (pe_un un_neg pe_int)
  refine wpAny_Slice (thn (po_none.run pins s1 σ H1 (fun o H2 => o = none ∧ H2 = H1) I1 ⟨rfl, rfl⟩) fun vl s2 ⟨l, H2, I2, pl, el, e2⟩ => ?_)
  subst el e2
  refine thn (po_none.run pins s2 σ H2 (fun o H3 => o = none ∧ H3 = H2) I2 ⟨rfl, rfl⟩) fun vu s3 ⟨u, H3, I3, pu, eu, e3⟩ => ?_
  subst eu e3
  refine thn (hst.run pins s3 σ H3 (fun o H4 => o = some (-1) ∧ H4 = H3) I3 ⟨1, rfl, -1, rfl, rfl, rfl⟩) fun vs s4 ⟨o, H4, I4, ps, eo, e4⟩ => ?_
  subst eo e4
  have I5 : Inv X pins σ H4 { s4 with heap := s4.heap.push { cls := .type "slice", data := .fields #[vl, vu, vs] } } := I4.kept (t' := s4.toks) fun b ob q => Heap.get?_push_of_some _ q
  obtain ⟨its, r, ht, hz⟩ := I5.tuple hx
  have lr := r.length
  show wpAny (model X.prog X.w) X.A (subscriptTail e (.Slice none none (some (.UnaryOp .USub (.Constant (.int 1) k p1) p2)) p3) (.ref a) (.ref s4.heap.objs.size)) (EP X pins σ Q) X.xe { s4 with heap := s4.heap.push { cls := .type "slice", data := .fields #[vl, vu, vs] } }
  refine tail_any (ops := [.ref a, .ref s4.heap.objs.size]) ht.typeIs (PyProof.Rows.slot_tuple_getitem.lookup) ?_ (by with_unfolding_all rfl)
  refine getItem_back ht (by rw [List.size_toArray]; omega) (Heap.IsSliceOf.new _ vl vu vs) pl pu ps ?_
  refine ⟨.ref _, _, I5.laid (t' := s4.toks) (o := .tup xs.reverse) (fun b ob q => Heap.get?_push_of_some _ q) (Nat.le_refl _) ?_, rfl, q _ (I5.hok.fresh (Nat.le_refl _))⟩
  exact ⟨by rw [List.length_reverse]; exact hz, its.reverse, r.reverse, IsTup.new _ _⟩
end
/-! a list == the empty list -/
def rEqL0 (K : PySem.W.Frag) : R2 := fun x y H Q => ∃ (a b : Addr) (xs : List V), x = .ref a ∧ y = .ref b ∧ SqL K H a xs ∧ SqL K H b [] ∧ Q (.bl xs.isEmpty) H
theorem op_eqL0 {X : Cx} (hu : X.A.units + 64 < cLine) : OpR X (compareOp .Eq) (rEqL0 X.K) := by
  intro pins s σ H x y v u Q I rx ry h
  obtain ⟨a, b, xs, rfl, rfl, ha, hb, q⟩ := h
  cases rx
  cases ry
  obtain ⟨is, r1, ⟨o1, n1, h1, c1, _, d1⟩, _⟩ := I.list ha
  obtain ⟨js, r2, ⟨o2, n2, h2, c2, _, d2⟩, _⟩ := I.list hb
  cases r2
  cases r1 with
  | nil => exact PySem.SeqAt.eq_listAt (e := fun _ => true) ⟨o1, h1, c1, n1, d1⟩ ⟨o2, h2, c2, n2, d2⟩ rfl (by omega) (fun j j1 _ => absurd j1 (Nat.not_lt_zero _)) ⟨.bl true, H, I, rfl, q⟩
  | cons r t => exact PySem.SeqAt.eq_list_lengthsAt ⟨o1, h1, c1, n1, d1⟩ ⟨o2, h2, c2, n2, d2⟩ (by simp) (by omega) ⟨.bl false, H, I, rfl, q⟩
end Kv

/-! enumerate of a tuple -/
namespace PySem
open Sem (wp)
open AutoSeq1 (wpAny_loadPart')
theorem enumT_new (l : Addr) (its : Array Value) :
    Meets (Builtin.«enumerate.__new__» ⟨[.type "enumerate", .ref l], []⟩) (fun _ R s => s.heap.IsTuple l its ∧
      R (.ok (.ret (.ref (s.heap.push { cls := .type "tuple_iterator", data := .fields #[.ref l, .int 0 0] }).objs.size)))
        { s with heap := (s.heap.push { cls := .type "tuple_iterator", data := .fields #[.ref l, .int 0 0] }).push { cls := .type "enumerate", data := .fields #[.none, .bool false, .ref s.heap.objs.size, rawInt 0, .none, .none] } }) :=
  .of_wp fun prog w A R s h => by
    obtain ⟨hp, g, d, tk, os⟩ := s
    obtain ⟨hT, h⟩ := h
    obtain ⟨o, ho, hc, n, hd⟩ := id hT
    have ff := sub_enumerate
    wp_walk using wpAny_loadPart' ho
    refine wpAny_stack_any fun st => wpAny_pure ?_
    split
    · rename_i c _ _ _ _ _
      cases (c == Value.type "enumerate")
      · wp_walk using wpAny_loadPart' ho, wpAny_pyIter_tuple hT
        exact ⟨_, rfl, h⟩
      · wp_walk using wpAny_loadPart' ho, wpAny_pyIter_tuple hT
        exact ⟨_, rfl, h⟩
    · wp_walk using wpAny_loadPart' ho, wpAny_pyIter_tuple hT
      exact ⟨_, rfl, h⟩
end PySem
namespace Kv
open PySem PySem.Spec PyProof.Rows L2 Kf
/-- the tuple at a, each item in a new pair -/
def IteT (K : PySem.W.Frag) (a : Addr) : It where
  go := fun i H => ∃ (xs : List V) (x : V), SqT K H a xs ∧ xs[i]? = some x
  yld := fun i H v G => ∃ T x, v = .ref T ∧ H T = none ∧ G = upd H T (.tup [.int (i : Nat), x]) ∧ ∀ xs, SqT K H a xs → xs[i]? = some x
  stop := fun i H => ∃ xs : List V, SqT K H a xs ∧ xs.length ≤ i
theorem turn_enumT {P : Program} {w : World} {K : PySem.W.Frag} {elts : List Expr} {kk : Nat} {tpos : Pos} (a e it : Addr) :
    Turn P w K (.Tuple elts kk tpos) (IteT K a) [e, it] e (fun i h => (∃ old, IsEnum h e it ((i : Nat) : Int) old) ∧ h.IsTupleIter it a i ∧ e ≠ it) where
  mem := by simp
  obj := by
    intro i h st b hb
    obtain ⟨⟨old, he⟩, ⟨o, ho, hc, hd⟩, _⟩ := st
    rcases (by simpa using hb : b = e ∨ b = it) with rfl | rfl
    · exact ⟨_, he, fun v q => nomatch q⟩
    · exact ⟨o, ho, fun v q => by rw [hd] at q; cases q⟩
  keep := fun i h h' st k => let ⟨⟨old, he⟩, hi, hne⟩ := st; ⟨⟨old, k e (by simp) _ he⟩, hi.at fun o q => k it (by simp) o q, hne⟩
  item := by
    intro X hP hw hK hc i pins s σ H E I hf st hg
    subst hP hw hK
    obtain ⟨⟨old, he⟩, hit, hne⟩ := st
    obtain ⟨xs, x, hq, hx⟩ := hg
    obtain ⟨its, rv, tp, hz⟩ := I.tuple hq
    obtain ⟨u, hu, ru⟩ := rv.get hx
    obtain ⟨oi, hoi, hci, hdi⟩ := id hit
    obtain ⟨ot, hot, hct, nt, hdt⟩ := id tp
    have lt : i < its.length := (List.getElem?_eq_some_iff.mp hu).1
    have ai : a ≠ it := fun z => by
      rw [z, hoi] at hot
      cases hot
      rw [hci] at hct
      exact absurd (Value.type.inj hct) (by decide)
    have ea : e ≠ a := fun z => by
      rw [← z, he] at hot
      cases hot
      exact absurd (Value.type.inj hct) (by decide)
    have hel : e < s.heap.objs.size := Heap.lt_size he
    have hil : it < s.heap.objs.size := Heap.lt_size hoi
    refine wpAny_pyNext_enum_itemD (Draws.tuple (A := X.A.in1) (I.ok.hd hc) it a ai its.toArray) he ⟨hit, ⟨ot, hot, hct, nt, hdt⟩⟩ (by simpa using lt) hne (by simp [hne, ea]) ?_
    intro u' h1 tk hu' ho hst hT hsz hk
    have eu : u' = u := by
      have z : its[i]? = some u' := by simpa using hu'
      rw [hu] at z
      exact (Option.some.inj z).symm
    subst eu
    refine ⟨_, rfl, wpAny_letOwnedTupleGo_enum (s := { s with heap := h1, toks := tk + 1 }) ho ?_⟩
    intro h2 he' sb
    have hT2 : h2.get? s.heap.objs.size = some { cls := .type "tuple", data := .seq #[.int i tk, u'] } := (sb.2 _ (Nat.ne_of_gt hel)).trans hT
    have new : ObjOk X.prog X.w (upd H s.heap.objs.size (.tup [.int (i : Nat), x])) h2 s.heap.objs.size (.tup [.int (i : Nat), x]) := ⟨by show 2 ≤ sizeLine; decide, [.int i tk, u'], .cons ⟨_, rfl⟩ (.cons ru .nil), ⟨_, hT2, rfl, _, rfl⟩⟩
    have J : Inv X pins σ (upd H s.heap.objs.size (.tup [.int (i : Nat), x])) { s with heap := h2, toks := tk + 1 } :=
      I.turnedNew (ch := [e, it]) (fun b ob hb q => (sb.2 b (fun z => hb (by simp [z]))).trans (hk b ob (fun z => hb (by simp [z])) (fun z => hb (by simp [z])) q)) hf (Nat.le_refl _) new
    refine ⟨.ref s.heap.objs.size, _, J, rfl, ⟨_, x, rfl, I.hok.fresh (Nat.le_refl _), rfl, fun ys hy => by rw [I.tuple_inj hy hq]; exact hx⟩, ⟨⟨u', ?_⟩, hst.1.at fun o q => (sb.2 it (Ne.symm hne)).trans q, hne⟩, fun b hb => ?_⟩
    · rw [show ((i + 1 : Nat) : Int) = (i : Int) + 1 by omega]
      exact he'
    · have lb : b < s.heap.objs.size := by
        rcases (by simpa using hb : b = e ∨ b = it) with rfl | rfl
        · exact hel
        · exact hil
      rw [upd_ne (Nat.ne_of_lt lb)]
      exact (hf b hb).1
  done := by
    intro X hP hw hK hc i pins s σ H E I hf st hg
    subst hP hw hK
    obtain ⟨⟨old, he⟩, hit, hne⟩ := st
    obtain ⟨xs, hq, hx⟩ := hg
    obtain ⟨its, rv, tp, hz⟩ := I.tuple hq
    obtain ⟨oi, hoi, hci, hdi⟩ := id hit
    obtain ⟨ot, hot, hct, nt, hdt⟩ := id tp
    have ai : a ≠ it := fun z => by
      rw [z, hoi] at hot
      cases hot
      rw [hci] at hct
      exact absurd (Value.type.inj hct) (by decide)
    obtain ⟨f0, f1, f2, f3, f4, f5⟩ := hf it (by simp)
    have hl := rv.length
    have none : its.toArray[i]? = none := by
      rw [List.getElem?_toArray]
      exact List.getElem?_eq_none (by omega)
    have D : Draws X.prog X.w X.A.in1 it [it, a] i (fun _ _ => True) (fun j h => j = i ∧ h.IsTupleIter it a i ∧ h.IsTuple a its.toArray) :=
      { live := fun _ _ st => let ⟨o, ho, _⟩ := st.2.1; ⟨o, ho⟩
        frame := fun _ _ _ st hk => ⟨st.1, st.2.1.at fun o e => hk it (by simp) o e, st.2.2.at fun o e => hk a (by simp) o e⟩
        item := fun j s Q E hj st _ => absurd st.1 (Nat.ne_of_lt hj)
        done := fun s Q E st hE => wpAny_nextOf_tuple_end (I.ok.hd hc) st.2.1 st.2.2 none hE }
    exact wpAny_pyNext_enum_endD D he ⟨rfl, hit, ⟨ot, hot, hct, nt, hdt⟩⟩ fun h1 eb => ⟨rfl, I.turned (t' := s.toks) (fun b o hb q => eb b o hb q) f0 f1 f3 f4 f5⟩
  self := fun A i s Q E st h => let ⟨⟨_, he⟩, _⟩ := st; wpAny_pyIter_enum he h
def iEnumT (K : PySem.W.Frag) (ta : TA) : TI := fun σ H R => ta σ H fun vs G => ∃ (a : Addr) (xs : List V), vs = [.ref a] ∧ SqT K G a xs ∧ R (IteT K a) G
theorem pi_enumT {X : Cx} {e : Expr} {ta : TA} {p pos tpos : Pos} {elts : List Expr} {kk : Nat} (hg : Gl X "enumerate") (hm : X.mg "enumerate" = none) (ha : PA X [e] ta) (hs : starEach [e] X.env = [(false, eval e X.env)] := by rfl) :
    PI X (.Tuple elts kk tpos) (.Call (.Name "enumerate" p) [e] [] pos) (iEnumT X.K ta) := by
  constructor
  intro pins s σ H R I h
  refine Call_ (ld_blt I hg hm boot_enumerate (PyProof.Rows.callWith_type1 (thn (ha.run pos pins s σ H _ I h) ?_) hs rfl))
  rintro us s1 ⟨vs, G, J, r, a, xs, rfl, hq, q⟩
  rw [Vals.ref1 r]
  obtain ⟨its, rv, tp, hz⟩ := J.tuple hq
  have IT : s1.heap.IsTuple a its.toArray := let ⟨o, ho, hc, n, hd⟩ := tp; ⟨o, ho, hc, n, hd⟩
  have sz1 : (s1.heap.push { cls := .type "tuple_iterator", data := .fields #[.ref a, .int 0 0] }).objs.size = s1.heap.objs.size + 1 := Heap.size_push ..
  refine callType_new F.called_enumerate (by decide) (F.typeCall_enumerate_1 _) (F.newCall_enumerate_1 _) (fun obj => F.args_object_init_2 obj _) F.entry_enumerate_new (enumT_new a its.toArray) ⟨IT, ?_⟩
  show _ ∧ _
  rw [sz1]
  have he := Heap.get?_push_size (s1.heap.push { cls := .type "tuple_iterator", data := .fields #[.ref a, .int 0 0] }) (o := { cls := .type "enumerate", data := .fields #[.none, .bool false, .ref s1.heap.objs.size, rawInt 0, .none, .none] }) rfl
  rw [sz1] at he
  refine ⟨⟨_, he, rfl⟩, wpAny_pyIter_enum he ?_⟩
  have J2 := J.kept (h' := (s1.heap.push { cls := .type "tuple_iterator", data := .fields #[.ref a, .int 0 0] }).push { cls := .type "enumerate", data := .fields #[.none, .bool false, .ref s1.heap.objs.size, rawInt 0, .none, .none] }) (t' := s1.toks) (fun b o x => Heap.get?_push_of_some _ (Heap.get?_push_of_some _ x))
  refine ⟨s1.heap.objs.size + 1, [s1.heap.objs.size + 1, s1.heap.objs.size], _, _, G, rfl, J2, turn_enumT a (s1.heap.objs.size + 1) s1.heap.objs.size, ⟨⟨.none, he⟩, ⟨_, Heap.get?_push_of_some _ (Heap.get?_push_size _ rfl), rfl, rfl⟩, Nat.succ_ne_self _⟩, fun b hb => ?_, q⟩
  have le : s1.heap.objs.size ≤ b := by
    rcases (by simpa using hb : b = s1.heap.objs.size + 1 ∨ b = s1.heap.objs.size) with rfl | rfl
    · exact Nat.le_add_right _ _
    · exact Nat.le_refl _
  exact J.fpOk le (J.hok.fresh le)
theorem walk_enumT {K : PySem.W.Frag} {a : Addr} {xs : List V} : Walk (IteT K a) xs.length (fun H => SqT K H a xs) (YPair (fun i => some (.int (i : Nat))) (fun i => xs[i]?)) := by
  refine ⟨fun i _ hi q => ⟨xs, xs[i], q, by simp [hi]⟩, fun _ q => ⟨xs, q, Nat.le_refl _⟩, fun i H v G _ q y => ?_⟩
  obtain ⟨T, x, h1, h2, h3, h4⟩ := y
  exact ⟨T, .int (i : Nat), x, h1, h2, h3, rfl, h4 xs q⟩
end Kv

/-! a thing of anything == a text -/
namespace PySem.SeqAt
theorem sub_str_dic : isSubtype (.type "str") (.type "dict") = pure false := by kernel_rfl
theorem dic_declines (l : Addr) (es : Array DictEntry) (n : Nat) (dd : Option Addr) (sl : Array (Option Value)) (b : Str) (u : Tok) :
    Meets (Builtin.«dict.__eq__» ⟨[.ref l, .str b u], []⟩) (fun _ R s => s.heap.get? l = some { cls := .type "dict", dict := dd, data := .dict es n, slots := sl } ∧ R (.ok (.ret .notImplemented)) s) :=
  .of_wp fun prog w A R s h => by
    obtain ⟨hp, g, d, tk, os⟩ := s
    obtain ⟨hl, h⟩ := h
    have f1 := sub_str_dic
    wp_walk using AutoSeq1.wpAny_loadPart' hl
    exact ⟨_, rfl, h⟩
theorem str_declines_dic (b : Str) (u : Tok) (l : Addr) (es : Array DictEntry) (n : Nat) (dd : Option Addr) (sl : Array (Option Value)) :
    Meets (Builtin.«str.__eq__» ⟨[.str b u, .ref l], []⟩) (fun _ R s => s.heap.get? l = some { cls := .type "dict", dict := dd, data := .dict es n, slots := sl } ∧ R (.ok (.ret .notImplemented)) s) :=
  .of_wp fun prog w A R s h => by
    obtain ⟨hp, g, d, tk, os⟩ := s
    obtain ⟨hl, h⟩ := h
    wp_walk using AutoSeq1.wpAny_loadPart' hl, wpAny_load hl
    exact ⟨_, rfl, h⟩
theorem dic_str {A : Around} {s : Shared} {l : Addr} {o : Obj} {es : Array DictEntry} {n : Nat} (b : Str) (u : Tok) (ho : s.heap.get? l = some o) (hc : o.cls = .type "dict") (hd : o.data = .dict es n) (hu : A.units < cLine) : RcAt A s (.ref l) (.str b u) false := fun prog w E Q h => by
  obtain ⟨cls, dd, data, sl⟩ := o
  simp only at hc hd
  subst hc hd
  exact rc_eq_decline_or (k := false) ⟨_, ho, rfl⟩ (typeIs_str s b u) (by decide) sub_str_dic F.slot_dict_eq F.slot_str_eq_refl
    (fun _ hq => call_meets F.slot_dict_eq ⟨_, ho, rfl⟩ F.entry_dict_eq (F.args_dict_eq_2 _ _) (dic_declines l es n dd sl b u) ⟨ho, hq⟩)
    (fun _ hq => call_meets F.slot_str_eq_refl (typeIs_str s b u) F.entry_str_eq (F.args_str_eq_2 _ _) (str_declines_dic b u l es n dd sl) ⟨ho, hq⟩)
    (fun _ hq => wpAny_of_eq (rfl : isSame (.ref l) (.str b u) = pure false) hq) (.inr hu) h
end PySem.SeqAt
namespace Kv
open PySem PySem.Spec PyProof.Rows L2 Kf
def Dt.isS (x : Dt) (z : Str) : Bool := match x with
  | .str y => decide (y = z)
  | _ => false
def rEqUS : R2 := fun x y H Q => ∃ (d : Dt) (z : Str), Dd Any H d x ∧ y = .str z ∧ Q (.bl (d.isS z)) H
theorem op_eqUS {X : Cx} (hu : X.A.units + 64 < cLine) : OpR X (compareOp .Eq) rEqUS := by
  intro pins s σ H x y v u Q I rx ry h
  obtain ⟨d, z, hd, rfl, q⟩ := h
  obtain ⟨t2, rfl⟩ := ry
  have no : d.isS z = false → EP X pins σ Q (.bool false) s := fun e => by
    rw [e] at q
    exact ⟨.bl false, H, I, rfl, q⟩
  cases hd with
  | non =>
    cases rx
    exact SeqAt.RcAt.none_str z t2 _ _ _ _ (no rfl)
  | bl b =>
    cases rx
    exact SeqAt.RcAt.bool_str b z t2 _ _ _ _ (no rfl)
  | int i =>
    obtain ⟨t1, rfl⟩ := rx
    exact SeqAt.RcAt.int_str i t1 z t2 _ _ _ _ (no rfl)
  | str y =>
    obtain ⟨t1, rfl⟩ := rx
    refine SeqAt.RcAt.str_str y t1 z t2 _ _ _ _ ?_
    have e : (y == z) = (Dt.str y).isS z := by
      show (y == z) = decide (y = z)
      by_cases c : y = z
      · subst c
        simp
      · rw [decide_eq_false c]
        exact beq_eq_false_iff_ne.mpr c
    rw [e]
    exact ⟨.bl _, H, I, rfl, q⟩
  | tup h t =>
    cases rx
    obtain ⟨its, rv, ⟨o, ho, hc, n, hd⟩, _⟩ := I.tuple (SqT.of h)
    exact SeqAt.RcAt.tuple_str z t2 ⟨o, ho, hc, n, hd⟩ (by omega) _ _ _ _ (no rfl)
  | lst _ h t =>
    cases rx
    obtain ⟨its, rv, ⟨o, n, ho, hc, _, hd⟩, _⟩ := I.list (SqL.of h)
    exact SeqAt.RcAt.list_str z t2 ⟨o, ho, hc, n, hd⟩ (by omega) _ _ _ _ (no rfl)
  | dct _ h =>
    cases rx
    obtain ⟨o, es, n, ho, hc, hd, _, _, _⟩ := dct_obj I h
    exact SeqAt.dic_str z t2 ho hc hd (by omega) _ _ _ _ (no rfl)
end Kv

/-! numbers and truths reckoned with; a thing is a truth; None among things -/
namespace Kv
open PySem PySem.Spec PyProof.Rows L2 Kf
/-- a number, or a truth as a number -/
def nu : V → Option Int
  | .int i => some i
  | .bl b => some (if b = true then (1 : Int) else 0)
  | _ => none
section
variable {X : Cx}
theorem op_addU : OpR X (binaryOp .Add) (fun x y H Q => ∃ i j, nu x = some i ∧ y = .int j ∧ Q (.int (i + j)) H) := by
  intro pins s σ H x y v u Q I rx ry h
  obtain ⟨i, j, hx, rfl, q⟩ := h
  obtain ⟨t2, rfl⟩ := ry
  cases x with
  | int a =>
    obtain ⟨t1, rfl⟩ := rx
    cases hx
    exact (op_add (X := X)) pins s σ H (.int i) (.int j) _ _ Q I ⟨t1, rfl⟩ ⟨t2, rfl⟩ ⟨i, j, rfl, rfl, q⟩
  | bl b =>
    cases rx
    cases hx
    exact PySem.IntBool.add_bool_int ⟨.int _, H, I.tok _, ⟨_, rfl⟩, q⟩
  | _ => cases hx
theorem op_subU : OpR X (binaryOp .Sub) (fun x y H Q => ∃ i j, nu x = some i ∧ y = .int j ∧ Q (.int (i - j)) H) := by
  intro pins s σ H x y v u Q I rx ry h
  obtain ⟨i, j, hx, rfl, q⟩ := h
  obtain ⟨t2, rfl⟩ := ry
  cases x with
  | int a =>
    obtain ⟨t1, rfl⟩ := rx
    cases hx
    exact (op_sub (X := X)) pins s σ H (.int i) (.int j) _ _ Q I ⟨t1, rfl⟩ ⟨t2, rfl⟩ ⟨i, j, rfl, rfl, q⟩
  | bl b =>
    cases rx
    cases hx
    exact PySem.IntBool.sub_bool_int ⟨.int _, H, I.tok _, ⟨_, rfl⟩, q⟩
  | _ => cases hx
theorem op_subV : OpR X (binaryOp .Sub) (fun x y H Q => ∃ i j, x = .int i ∧ nu y = some j ∧ Q (.int (i - j)) H) := by
  intro pins s σ H x y v u Q I rx ry h
  obtain ⟨i, j, rfl, hy, q⟩ := h
  obtain ⟨t1, rfl⟩ := rx
  cases y with
  | int a =>
    obtain ⟨t2, rfl⟩ := ry
    cases hy
    exact (op_sub (X := X)) pins s σ H (.int i) (.int j) _ _ Q I ⟨t1, rfl⟩ ⟨t2, rfl⟩ ⟨i, j, rfl, rfl, q⟩
  | bl b =>
    cases ry
    cases hy
    exact PySem.IntBool.sub_int_bool ⟨.int _, H, I.tok _, ⟨_, rfl⟩, q⟩
  | _ => cases hy
theorem op_eqU1 : OpR X (compareOp .Eq) (fun x y H Q => ∃ i j, nu x = some i ∧ y = .int j ∧ ∀ b : Bool, Q (.bl b) H) := by
  intro pins s σ H x y v u Q I rx ry h
  obtain ⟨i, j, hx, rfl, q⟩ := h
  obtain ⟨t2, rfl⟩ := ry
  cases x with
  | int a =>
    obtain ⟨t1, rfl⟩ := rx
    exact SeqAt.RcAt.int_int a t1 j t2 _ _ _ _ ⟨.bl _, H, I, rfl, q _⟩
  | bl b =>
    cases rx
    exact SeqAt.RcAt.bool_int b j t2 _ _ _ _ ⟨.bl _, H, I, rfl, q _⟩
  | _ => cases hx
theorem call_strU : CallR X (.type "str") (fun xs H Q => ∃ x i, xs = [x] ∧ nu x = some i ∧ i.natAbs < 10 ^ 45 ∧ ∀ z : Str, z.length ≤ 50 → (∀ c ∈ z.cps.toList, c < 16 ^ 8) → Q (.str z) H) := by
  intro pins s σ H xs us Q I r h
  obtain ⟨x, i, rfl, hx, hi, q⟩ := h
  obtain ⟨u, rfl, rx⟩ := vals1 r
  cases x with
  | int a =>
    obtain ⟨t, rfl⟩ := rx
    cases hx
    have hl : i.natAbs.log2 < 1920 := by
      by_cases z : i.natAbs = 0
      · rw [z]
        decide
      · have : i.natAbs.log2 < 150 := (Nat.log2_lt z).mpr (Nat.lt_of_lt_of_le hi (by decide))
        omega
    refine PySem.P.str_of_int hl ⟨.str _, H, I.tok _, ⟨_, rfl⟩, q _ ?_ ?_⟩
    · have z := int_text_length_le10 (a := i) (k := 45) (by decide) hi
      have e : (Str.ofString (toString i)).length = (toString i).length := PySem.ofString_length _
      show (Str.ofString (toString i)).length ≤ 50
      rw [e]
      omega
    · intro c hc
      have hc : c ∈ (Str.ofString (toString i)).cps.toList := hc
      rw [Str.ofString_eq_toList] at hc
      simp only [List.mem_map] at hc
      obtain ⟨ch, _, rfl⟩ := hc
      exact ch.val.toNat_lt
  | bl b =>
    cases rx
    refine PySem.P.str_of_bool ⟨.str _, H, I.tok _, ⟨_, rfl⟩, q _ ?_ ?_⟩
    · cases b <;> decide +kernel
    · cases b <;> decide +kernel
  | _ => cases hx
/-- a thing is this truth -/
def Dt.isB (x : Dt) (b : Bool) : Bool := match x with
  | .bl c => decide (c = b)
  | _ => false
theorem op_isU : OpR X (compareOp .Is) (fun x y H Q => ∃ (d : Dt) (b : Bool), Dd Any H d x ∧ y = .bl b ∧ Q (.bl (d.isB b)) H) := by
  intro pins s σ H x y v u Q I rx ry h
  obtain ⟨d, b, hd, rfl, q⟩ := h
  cases ry
  have no : d.isB b = false → EP X pins σ Q (.bool false) s := fun e => by
    rw [e] at q
    exact ⟨.bl false, H, I, rfl, q⟩
  cases hd with
  | non =>
    cases rx
    exact wpAny_is_other rfl (fun z => by cases z) (no rfl)
  | bl c =>
    cases rx
    by_cases e : c = b
    · subst e
      exact wpAny_is_self rfl ⟨.bl true, H, I, rfl, by simpa [Dt.isB] using q⟩
    · exact wpAny_is_other rfl (fun z => e (Value.bool.inj z)) (no (by simp [Dt.isB, e]))
  | int i =>
    obtain ⟨t1, rfl⟩ := rx
    exact wpAny_is_other rfl (fun z => by cases z) (no rfl)
  | str y =>
    obtain ⟨t1, rfl⟩ := rx
    exact wpAny_is_other rfl (fun z => by cases z) (no rfl)
  | tup h t =>
    cases rx
    exact wpAny_is_other rfl (fun z => by cases z) (no rfl)
  | lst _ h t =>
    cases rx
    exact wpAny_is_other rfl (fun z => by cases z) (no rfl)
  | dct _ h =>
    cases rx
    exact wpAny_is_other rfl (fun z => by cases z) (no rfl)
/-- None, a number, a truth, a tuple -/
def Plainy (H : Hp) (z : V) : Prop := z = .non ∨ (∃ i, z = .int i) ∨ (∃ b, z = .bl b) ∨ ∃ a xs, z = .ref a ∧ H a = some (.tup xs)
theorem isNone_pl {z : V} {u : Value} {H : Hp} (r : RelV z u) (f : Plainy H z) : PySem.Numpy.isNone u = isNon z := by
  rcases f with rfl | ⟨i, rfl⟩ | ⟨b, rfl⟩ | ⟨a, xs, rfl, _⟩
  · cases r; rfl
  · obtain ⟨t, rfl⟩ := r; rfl
  · cases r; rfl
  · cases r; rfl
theorem any_pl {H : Hp} : ∀ {xs : List V} {us : List Value}, Vals xs us → (∀ z ∈ xs, Plainy H z) → us.any PySem.Numpy.isNone = xs.any isNon
  | _, _, .nil, _ => rfl
  | y :: xs, u :: us, .cons r t, f => by
    rw [List.any_cons, List.any_cons, isNone_pl r (f y (List.mem_cons_self ..)), any_pl t fun z hz => f z (List.mem_cons_of_mem _ hz)]
theorem pl_eq {A : Around} {pins : List (Addr × Obj)} {σ : L2.St} {H : Hp} {s : Shared} (I : Inv X pins σ H s) (hu : A.units < cLine) {z : V} {u : Value} (r : RelV z u) (f : Plainy H z) : SeqAt.EqAt A s u .none (PySem.Numpy.isNone u) := by
  rcases f with rfl | ⟨i, rfl⟩ | ⟨b, rfl⟩ | ⟨a, xs, rfl, h⟩
  · cases r
    exact SeqAt.EqAt.same _
  · obtain ⟨t, rfl⟩ := r
    exact SeqAt.EqAt.int_none i t
  · cases r
    exact SeqAt.EqAt.bool_none b
  · cases r
    obtain ⟨its, rv, ⟨o, ho, hc, n, hd⟩, _⟩ := I.tuple (SqT.of h)
    exact SeqAt.EqAt.tuple_none ⟨o, ho, hc, n, hd⟩ hu
theorem mem_pl {A : Around} {pins : List (Addr × Obj)} {σ : L2.St} {H : Hp} {s : Shared} (I : Inv X pins σ H s) (hu : A.units < cLine) : ∀ {xs : List V} {us : List Value}, Vals xs us → (∀ z ∈ xs, Plainy H z) → ∀ u ∈ us, SeqAt.EqAt A s u .none (PySem.Numpy.isNone u)
  | _, _, .nil, _ => fun u hu' => by cases hu'
  | y :: xs, u :: us, .cons r t, f => fun u' hu' => by
    rcases List.mem_cons.mp hu' with e | hu'
    · subst e
      exact pl_eq I hu r (f y (List.mem_cons_self ..))
    · exact mem_pl I hu t (fun z hz => f z (List.mem_cons_of_mem _ hz)) u' hu'
def rNoneInU (K : PySem.W.Frag) : R2 := fun x y H Q => ∃ p xs, x = .non ∧ y = .ref p ∧ SqL K H p xs ∧ (∀ z ∈ xs, Plainy H z) ∧ Q (.bl (xs.any isNon)) H
theorem op_noneInU (hu : X.A.units + 64 < cLine) : OpR X (compareOp .In) (rNoneInU X.K) := by
  intro pins s σ H x y v u Q I rx ry h
  obtain ⟨p, xs, rfl, rfl, hq, f, q⟩ := h
  cases rx
  cases ry
  obtain ⟨its, rv, hl, _⟩ := I.list hq
  have hu1 : X.A.in1.units < cLine := by show X.A.units + 1 < cLine; omega
  refine SeqAt.in_listAt PySem.Numpy.isNone hl.isList (fun z hz => mem_pl I hu1 rv f z (by simpa using hz)) ⟨.bl _, H, I, rfl, ?_⟩
  rw [show its.toArray.any PySem.Numpy.isNone = its.any PySem.Numpy.isNone by simp, any_pl rv f]
  exact q
end
end Kv

/-! things of anything: how great they are -/
namespace Kv
open PySem PySem.Spec PyProof.Rows L2 Kf
mutual
def Dt.sz : Dt → Nat
  | .tup xs => 1 + Dt.szs xs
  | .lst xs => 1 + Dt.szs xs
  | .dct kvs => 1 + 3 * kvs.length
  | _ => 1
def Dt.szs : List Dt → Nat
  | [] => 0
  | x :: xs => x.sz + Dt.szs xs
end
theorem sz_mem : ∀ {xs : List Dt} {x : Dt}, x ∈ xs → x.sz ≤ Dt.szs xs
  | y :: ys, x, h => by
    rcases List.mem_cons.mp h with rfl | h
    · exact Nat.le_add_right _ _
    · exact Nat.le_trans (sz_mem h) (Nat.le_add_left _ _)
theorem szs_app : ∀ (xs ys : List Dt), Dt.szs (xs ++ ys) = Dt.szs xs + Dt.szs ys
  | [], ys => by show _ = 0 + _; rw [Nat.zero_add]; rfl
  | x :: xs, ys => by
    show x.sz + Dt.szs (xs ++ ys) = x.sz + Dt.szs xs + Dt.szs ys
    rw [szs_app xs ys, Nat.add_assoc]
mutual
def Dt.dp : Dt → Nat
  | .tup xs => Dt.dps xs + 1
  | .lst xs => Dt.dps xs + 1
  | .dct _ => 1
  | _ => 0
def Dt.dps : List Dt → Nat
  | [] => 0
  | x :: xs => max x.dp (Dt.dps xs)
end
def kwt : List (Str × Int) → Nat
  | [] => 3
  | p :: r => 10 * p.1.length + 60 + kwt r
mutual
def Dt.wt : Dt → Nat
  | .non => 4
  | .bl _ => 5
  | .int _ => 52
  | .str x => 10 * x.length + 2
  | .tup xs => Dt.wts xs + 3
  | .lst xs => Dt.wts xs + 3
  | .dct kvs => kwt kvs
def Dt.wts : List Dt → Nat
  | [] => 0
  | x :: xs => x.wt + 2 + Dt.wts xs
end
mutual
def Dt.fine (B : Nat) : Dt → Prop
  | .int i => i.natAbs < B
  | .str x => ∀ c ∈ x.cps.toList, c < 16 ^ 8
  | .tup xs => Dt.fines B xs
  | .lst xs => Dt.fines B xs
  | .dct kvs => ∀ p ∈ kvs, (∀ c ∈ p.1.cps.toList, c < 16 ^ 8) ∧ p.2.natAbs < B
  | _ => True
def Dt.fines (B : Nat) : List Dt → Prop
  | [] => True
  | x :: xs => x.fine B ∧ Dt.fines B xs
end
theorem int_shw {B : Nat} (hB : B ≤ 10 ^ 45) (i : Int) (h : i.natAbs < B) : (PyData.int i).showable = true ∧ (PyData.int i).depth = 0 ∧ (PyData.int i).shown.length ≤ 52 := by
  have h : i.natAbs < 10 ^ 45 := Nat.lt_of_lt_of_le h hB
  refine ⟨?_, by simp [PyData.depth], ?_⟩
  · simp only [PyData.showable]
    refine decide_eq_true ?_
    by_cases z : i.natAbs = 0
    · rw [z]
      decide
    · have : i.natAbs.log2 < 150 := (Nat.log2_lt z).mpr (Nat.lt_of_lt_of_le h (by decide))
      omega
  · have z := int_text_length_le10 (a := i) (k := 45) (by decide) h
    simp only [PyData.shown]
    have e : (Str.ofString (toString i)).length = (toString i).length := PySem.ofString_length _
    rw [e]
    omega
theorem dct_shw {B : Nat} (hB : B ≤ 10 ^ 45) : ∀ (kvs : List (Str × Int)), (∀ p ∈ kvs, (∀ c ∈ p.1.cps.toList, c < 16 ^ 8) ∧ p.2.natAbs < B) → PyData.showableKv (dkp kvs) = true ∧ PyData.depthKv (dkp kvs) = 0 ∧ ((PyData.shownKv (dkp kvs)).map (·.length)).sum + 2 * (PyData.shownKv (dkp kvs)).length + 3 ≤ kwt kvs
  | [], _ => ⟨by simp [dkp, PyData.showableKv], by simp [dkp, PyData.depthKv], by simp [dkp, PyData.shownKv, kwt]⟩
  | (x, i) :: kvs, h => by
    obtain ⟨a, b, c⟩ := dct_shw hB kvs fun p hp => h p (List.mem_cons_of_mem _ hp)
    obtain ⟨f1, f2⟩ := h (x, i) List.mem_cons_self
    obtain ⟨i1, i2, i3⟩ := int_shw hB i f2
    have e : dkp ((x, i) :: kvs) = (.str x, .int i) :: dkp kvs := rfl
    rw [e]
    refine ⟨by simp only [PyData.showableKv, a, i1]; simp [PyData.showable], by simp only [PyData.depthKv, b, i2]; simp [PyData.depth], ?_⟩
    have z : (PyData.str x).shown.length ≤ 10 * x.length + 2 := by simp only [PyData.shown]; exact PySem.StrLaws.reprText_len x f1
    have e2 : ((": " : Str)).length = 2 := by decide +kernel
    simp only [PyData.shownKv, List.map_cons, List.sum_cons, List.length_cons, kwt, strLen_append, e2]
    omega
mutual
theorem Dt.shw {B : Nat} (hB : B ≤ 10 ^ 45) : ∀ (x : Dt), x.fine B → x.toP.showable = true ∧ x.toP.depth = x.dp ∧ x.toP.shown.length ≤ x.wt
  | .non, _ => ⟨by simp [Dt.toP, PyData.showable], by simp [Dt.toP, PyData.depth, Dt.dp], by simp only [Dt.toP, PyData.shown, Dt.wt]; decide⟩
  | .bl b, _ => ⟨by simp [Dt.toP, PyData.showable], by simp [Dt.toP, PyData.depth, Dt.dp], by cases b <;> (simp only [Dt.toP, PyData.shown, Dt.wt]; decide)⟩
  | .int i, h => by
    have h : i.natAbs < B := by simpa only [Dt.fine] using h
    have h : i.natAbs < 10 ^ 45 := Nat.lt_of_lt_of_le h hB
    refine ⟨?_, by simp [Dt.toP, PyData.depth, Dt.dp], ?_⟩
    · simp only [Dt.toP, PyData.showable]
      refine decide_eq_true ?_
      by_cases z : i.natAbs = 0
      · rw [z]
        decide
      · have : i.natAbs.log2 < 150 := (Nat.log2_lt z).mpr (Nat.lt_of_lt_of_le h (by decide))
        omega
    · have z := int_text_length_le10 (a := i) (k := 45) (by decide) h
      simp only [Dt.toP, PyData.shown, Dt.wt]
      have e : (Str.ofString (toString i)).length = (toString i).length := PySem.ofString_length _
      rw [e]
      omega
  | .str x, h => by
    have h : ∀ c ∈ x.cps.toList, c < 16 ^ 8 := by simpa only [Dt.fine] using h
    exact ⟨by simp [Dt.toP, PyData.showable], by simp [Dt.toP, PyData.depth, Dt.dp], by simp only [Dt.toP, PyData.shown, Dt.wt]; exact PySem.StrLaws.reprText_len x h⟩
  | .tup xs, h => by
    obtain ⟨a, b, c⟩ := Dt.shws hB xs (by simpa only [Dt.fine] using h)
    refine ⟨by simpa only [Dt.toP, PyData.showable] using a, by simp only [Dt.toP, PyData.depth, Dt.dp]; omega, ?_⟩
    simp only [Dt.toP, PyData.shown, Dt.wt]
    have := tupleText_len_le (PyData.shownAll (Dt.toPs xs))
    omega
  | .lst xs, h => by
    obtain ⟨a, b, c⟩ := Dt.shws hB xs (by simpa only [Dt.fine] using h)
    refine ⟨by simpa only [Dt.toP, PyData.showable] using a, by simp only [Dt.toP, PyData.depth, Dt.dp]; omega, ?_⟩
    simp only [Dt.toP, PyData.shown, Dt.wt]
    have := listText_len_le (PyData.shownAll (Dt.toPs xs))
    omega
  | .dct kvs, h => by
    obtain ⟨a, b, c⟩ := dct_shw hB kvs (by simpa only [Dt.fine] using h)
    refine ⟨by simp only [Dt.toP, PyData.showable, a], by simp only [Dt.toP, PyData.depth, b, Dt.dp], ?_⟩
    simp only [Dt.toP, PyData.shown, Dt.wt]
    have := dictText_len_le (PyData.shownKv (dkp kvs))
    omega
theorem Dt.shws {B : Nat} (hB : B ≤ 10 ^ 45) : ∀ (xs : List Dt), Dt.fines B xs → PyData.showableAll (Dt.toPs xs) = true ∧ PyData.depthAll (Dt.toPs xs) = Dt.dps xs ∧ ((PyData.shownAll (Dt.toPs xs)).map (·.length)).sum + 2 * (PyData.shownAll (Dt.toPs xs)).length ≤ Dt.wts xs
  | [], _ => ⟨by simp [Dt.toPs, PyData.showableAll], by simp [Dt.toPs, PyData.depthAll, Dt.dps], by simp [Dt.toPs, PyData.shownAll]⟩
  | x :: xs, h => by
    have h : x.fine B ∧ Dt.fines B xs := by simpa only [Dt.fines] using h
    obtain ⟨a, b, c⟩ := x.shw hB h.1
    obtain ⟨a', b', c'⟩ := Dt.shws hB xs h.2
    refine ⟨by simp [Dt.toPs, PyData.showableAll, a, a'], by simp [Dt.toPs, PyData.depthAll, Dt.dps, b, b'], ?_⟩
    simp only [Dt.toPs, PyData.shownAll, List.map_cons, List.sum_cons, List.length_cons, Dt.wts]
    omega
end
/-- it is fine, and within the bounds -/
structure Fine (B n W : Nat) (x : Dt) : Prop where
  ok : x.fine B
  dp : x.dp ≤ n
  wt : x.wt ≤ W
theorem Fine.shw {B n W : Nat} {x : Dt} (h : Fine B n W x) (hB : B ≤ 10 ^ 45) (hW : W ≤ sizeLine) : Shw n x := by
  obtain ⟨a, b, c⟩ := x.shw hB h.ok
  exact ⟨a, by rw [b]; exact h.dp, Nat.le_trans c (Nat.le_trans h.wt hW)⟩
mutual
theorem Dt.fine_up {B C : Nat} (h : B ≤ C) : ∀ {x : Dt}, x.fine B → x.fine C
  | .non, _ => by simp only [Dt.fine]
  | .bl _, _ => by simp only [Dt.fine]
  | .int i, f => by
    simp only [Dt.fine] at f ⊢
    omega
  | .str x, f => by
    simp only [Dt.fine] at f ⊢
    exact f
  | .tup xs, f => by
    simp only [Dt.fine] at f ⊢
    exact Dt.fines_up h f
  | .lst xs, f => by
    simp only [Dt.fine] at f ⊢
    exact Dt.fines_up h f
  | .dct kvs, f => by
    simp only [Dt.fine] at f ⊢
    exact fun p hp => ⟨(f p hp).1, Nat.lt_of_lt_of_le (f p hp).2 h⟩
theorem Dt.fines_up {B C : Nat} (h : B ≤ C) : ∀ {xs : List Dt}, Dt.fines B xs → Dt.fines C xs
  | [], _ => by simp only [Dt.fines]
  | x :: xs, f => by
    simp only [Dt.fines] at f ⊢
    exact ⟨Dt.fine_up h f.1, Dt.fines_up h f.2⟩
end
theorem Fine.mono {A B n W m V : Nat} {x : Dt} (h : Fine A n W x) (ha : A ≤ B) (hn : n ≤ m) (hw : W ≤ V) : Fine B m V x := ⟨Dt.fine_up ha h.ok, Nat.le_trans h.dp hn, Nat.le_trans h.wt hw⟩
mutual
theorem Dt.sz_wt : ∀ x : Dt, x.sz ≤ x.wt
  | .non => by simp only [Dt.sz, Dt.wt]; omega
  | .bl _ => by simp only [Dt.sz, Dt.wt]; omega
  | .int _ => by simp only [Dt.sz, Dt.wt]; omega
  | .str _ => by simp only [Dt.sz, Dt.wt]; omega
  | .tup xs => by
    have := Dt.szs_wts xs
    simp only [Dt.sz, Dt.wt]
    omega
  | .lst xs => by
    have := Dt.szs_wts xs
    simp only [Dt.sz, Dt.wt]
    omega
  | .dct kvs => by
    have : ∀ l : List (Str × Int), 1 + 3 * l.length ≤ kwt l := by
      intro l
      induction l with
      | nil => simp [kwt]
      | cons p r ih => simp only [kwt, List.length_cons]; omega
    simp only [Dt.sz, Dt.wt]
    exact this kvs
theorem Dt.szs_wts : ∀ xs : List Dt, Dt.szs xs ≤ Dt.wts xs
  | [] => by simp only [Dt.szs, Dt.wts]; omega
  | x :: xs => by
    have := x.sz_wt
    have := Dt.szs_wts xs
    simp only [Dt.szs, Dt.wts]
    omega
end
theorem len_szs : ∀ xs : List Dt, xs.length ≤ Dt.szs xs
  | [] => Nat.zero_le _
  | x :: xs => by
    have := len_szs xs
    have : 1 ≤ x.sz := by cases x <;> simp only [Dt.sz] <;> omega
    simp only [Dt.szs, List.length_cons]
    omega
theorem wts_app : ∀ (xs ys : List Dt), Dt.wts (xs ++ ys) = Dt.wts xs + Dt.wts ys
  | [], ys => by simp only [List.nil_append, Dt.wts]; omega
  | x :: xs, ys => by
    simp only [List.cons_append, Dt.wts]
    rw [wts_app xs ys]
    omega
theorem dps_app : ∀ (xs ys : List Dt), Dt.dps (xs ++ ys) = max (Dt.dps xs) (Dt.dps ys)
  | [], ys => by simp only [List.nil_append, Dt.dps]; omega
  | x :: xs, ys => by
    simp only [List.cons_append, Dt.dps]
    rw [dps_app xs ys]
    omega
theorem fines_app {B : Nat} : ∀ (xs ys : List Dt), Dt.fines B (xs ++ ys) ↔ Dt.fines B xs ∧ Dt.fines B ys
  | [], ys => by simp only [List.nil_append, Dt.fines, true_and]
  | x :: xs, ys => by
    simp only [List.cons_append, Dt.fines]
    rw [fines_app xs ys, and_assoc]
end Kv

/-! the end of a law whose defs show things -/
namespace Kf
open PySem PySem.Spec PyProof.Rows L2 LamX
/-- the heap at the law's call: the written part, the tables cs, the script -/
structure Beg (h : Heap) (K : PySem.W.Frag) (mg : Str → Option Value) (cs : List (Addr × Addr)) (a : Addr) (us : Array Value) : Prop where
  kin : K.In h
  gl : h.Ns mainGlobals mg
  bl : ∃ m, h.Ns builtinsNs m ∧ ∀ y : Str, y ≠ "__name__" → m y = bootBuiltins y
  nl : h.NoLimit
  tb : ∀ p ∈ cs, h.get? p.2 = some { cls := .none, data := .fields #[] }
  nk : ∀ p ∈ cs, K.lookup p.2 = none
  cd : ∀ p ∈ cs, PySem.W.CodeHd h p.1 p.2
  bm : ∃ (z : Addr) (q : Obj), mg "__builtins__" = some (.ref z) ∧ z ≠ builtinsNs ∧ h.get? z = some q ∧ q.cls = .type "module" ∧ q.dict = some builtinsNs ∧ q.data = .plain
  sc : h.get? a = some { cls := .type "list", data := .seq us }
/-- tracked are the tables, and perhaps the script -/
structure Fit (H : Hp) (K : PySem.W.Frag) (cs : List (Addr × Addr)) (a : Addr) : Prop where
  tb : ∀ p ∈ cs, H p.2 = some (.tbl #[])
  no : ∀ b u, H b = some u → (∃ p ∈ cs, p.2 = b ∧ u = .tbl #[]) ∨ (b = a ∧ K.lookup a = none ∧ ∃ o xs, u = .frz o (.lst xs))
section
variable {h : Heap} {K : PySem.W.Frag} {mg : Str → Option Value} {cs : List (Addr × Addr)} {a : Addr} {us : Array Value} {H : Hp}
theorem Fit.off (F : Fit H K cs a) (B : Beg h K mg cs a us) {b : Addr} {o : Obj} (e : h.get? b = some o) (n1 : ∀ vs n, o.data ≠ .seq vs n) (n2 : o.data ≠ .fields #[]) : H b = none := by
  match q : H b with
  | none => rfl
  | some u =>
    rcases F.no b u q with ⟨p, hp, rfl, _⟩ | ⟨rfl, _⟩
    · have z := (B.tb p hp).symm.trans e
      exact absurd (congrArg Obj.data (Option.some.inj z)).symm n2
    · have z := B.sc.symm.trans e
      exact absurd (congrArg Obj.data (Option.some.inj z)).symm (n1 _ _)
theorem Fit.dic (F : Fit H K cs a) (B : Beg h K mg cs a us) {b : Addr} {m : Str → Option Value} (N : h.Ns b m) : (hidT h H).Ns b m := by
  obtain ⟨o, es, n, e, d, r⟩ := N
  refine ⟨o, es, n, hidT_get e (F.off B e ?_ ?_), d, r⟩
  · intro vs k z
    rw [d] at z
    cases z
  · intro z
    rw [d] at z
    cases z
theorem Fit.kin (F : Fit H K cs a) (B : Beg h K mg cs a us) : K.In (hidT h H) := fun b o e => hidT_get (B.kin b o e) <| by
  match q : H b with
  | none => rfl
  | some u =>
    rcases F.no b u q with ⟨p, hp, rfl, _⟩ | ⟨rfl, n, _⟩
    · rw [B.nk p hp] at e
      cases e
    · rw [n] at e
      cases e
theorem Fit.mod (F : Fit H K cs a) (B : Beg h K mg cs a us) : L2.Mod K mg (hidT h H) := by
  obtain ⟨m, m1, m2⟩ := B.bl
  obtain ⟨c, c1, c2⟩ := B.nl
  exact ⟨F.kin B, F.dic B B.gl, ⟨m, F.dic B m1, m2⟩, ⟨c, F.dic B c1, c2⟩⟩
theorem Fit.tabs (F : Fit H K cs a) (B : Beg h K mg cs a us) : ∀ p ∈ cs, TabB (hidT h H) mg p.1 p.2 := by
  intro p hp
  have tp := B.tb p hp
  have gP : mainGlobals ≠ p.2 := by
    intro z
    obtain ⟨o, es, n, e, d, _⟩ := B.gl
    rw [z, tp] at e
    cases e
    cases d
  refine ⟨?_, ?_, gP⟩
  · obtain ⟨o, vs, fl, tf, fg, tg, iF, tx, tt, e, r1, r2, r3, r⟩ := B.cd p hp
    refine ⟨o, vs, fl, tf, fg, tg, iF, tx, tt, hidT_get e (F.off B e (fun vs n z => ?_) (fun z => ?_)), r1, r2, r3, r⟩
    · rw [r2] at z
      cases z
    · rw [r2] at z
      cases z
      simp at r3
  · obtain ⟨z, q, b1, b2, b3, b4, b5, b6⟩ := B.bm
    refine ⟨z, q, b1, b2, fun y => ?_, fun y => ?_, hidT_get b3 (F.off B b3 (fun vs n y => ?_) (fun y => ?_)), b4, b5, b6⟩
    · obtain ⟨o, es, n, e, d, _⟩ := B.gl
      rw [← y, b3] at e
      cases e
      rw [b6] at d
      cases d
    · rw [y, tp] at b3
      cases b3
      cases b6
    · rw [b6] at y
      cases y
    · rw [b6] at y
      cases y
/-- what stood stands, behind the call -/
theorem Fit.old (F : Fit H K cs a) (B : Beg h K mg cs a us) {P : Program} {w : World} {G : Hp} {h' : Heap} (U : Un [] [] H G h h') (o1 : HOk P w H h) (o2 : HOk P w G h') : OldK h h' := by
  have tab : ∀ p ∈ cs, ∃ m : Array Value, h'.get? p.2 = some { cls := .none, data := .fields m } := fun p hp => by
    obtain ⟨m, z⟩ := U.tbls p.2 #[] (F.tb p hp)
    exact ⟨_, o2 p.2 _ z⟩
  have rest : ∀ b o, h.get? b = some o → (∃ p ∈ cs, p.2 = b) ∨ h'.get? b = some o := fun b o e => by
    match q : H b with
    | none => exact .inr (U.keep b o e q (by simp) (by simp))
    | some u =>
      rcases F.no b u q with ⟨p, hp, z, _⟩ | ⟨_, _, ob, xs, rfl⟩
      · exact .inl ⟨p, hp, z⟩
      · have e1 := (o1 b _ q).1
        have e2 := (o2 b _ (U.frzs b ob _ q)).1
        rw [e] at e1
        cases e1
        exact .inr e2
  constructor
  · intro b o e
    rcases rest b o e with ⟨p, hp, rfl⟩ | z
    · obtain ⟨m, hm⟩ := tab p hp
      have tp := B.tb p hp
      rw [tp] at e
      cases e
      exact .inr (.inl ⟨((B.cd p hp).tab tp).isCodeTable, rfl, #[], m, rfl, by rw [Array.empty_append]; exact hm⟩)
    · exact .inl z
  · intro b o e
    rcases rest b o e with ⟨p, hp, rfl⟩ | z
    · obtain ⟨m, hm⟩ := tab p hp
      exact ⟨_, hm⟩
    · exact ⟨o, z⟩
end
/-- such a heap there is -/
theorem fit_of {h : Heap} {K : PySem.W.Frag} {mg : Str → Option Value} {cs : List (Addr × Addr)} {a : Addr} {vs : List Value} {ns : List Int} (P : Program) (w : World) (B : Beg h K mg cs a vs.toArray) (hi : IntsAre vs ns) (hl : ns.length ≤ sizeLine) :
    ∃ H : Hp, Fit H K cs a ∧ SqL K H a (ns.map V.int) ∧ HOk P w H h := by
  have lv := hi.length
  have isT : ∀ b, (∃ p ∈ cs, p.2 = b) → h.get? b = some { cls := .none, data := .fields #[] } := by
    rintro b ⟨p, hp, rfl⟩
    exact B.tb p hp
  have na : ¬ ∃ p ∈ cs, p.2 = a := fun z => by
    have y := congrArg Obj.data (Option.some.inj ((isT a z).symm.trans B.sc))
    cases y
  open Classical in
  let T : Hp := fun b => if ∃ p ∈ cs, p.2 = b then some (.tbl #[]) else none
  have Ty : ∀ p ∈ cs, T p.2 = some (.tbl #[]) := fun p hp => if_pos ⟨p, hp, rfl⟩
  have Tn : ∀ b u, T b = some u → (∃ p ∈ cs, p.2 = b) ∧ u = .tbl #[] := fun b u z => by
    by_cases c : ∃ p ∈ cs, p.2 = b
    · exact ⟨c, (Option.some.inj ((if_pos c).symm.trans z)).symm⟩
    · have y := (if_neg c).symm.trans z
      cases y
  match hk : K.lookup a with
  | some o =>
    have e := B.kin a o hk
    rw [B.sc] at e
    cases e
    refine ⟨T, ⟨Ty, fun b u z => ?_⟩, .inr ⟨_, vs.toArray, _, hk, rfl, rfl, rfl, by rw [List.size_toArray, lv]; exact hl, by simpa using vals_ints hi⟩, fun b u z => ?_⟩
    · obtain ⟨⟨p, hp, e⟩, e2⟩ := Tn b u z
      exact .inl ⟨p, hp, e, e2⟩
    · obtain ⟨c, rfl⟩ := Tn b u z
      exact isT b c
  | none =>
    refine ⟨upd T a (.frz { cls := .type "list", data := .seq vs.toArray } (.lst (ns.map V.int))), ⟨fun p hp => ?_, fun b u z => ?_⟩, .inl (.inr ⟨_, upd_same⟩), fun b u z => ?_⟩
    · rw [upd_ne (fun y => na ⟨p, hp, y⟩)]
      exact Ty p hp
    · by_cases c : b = a
      · subst c
        rw [upd_same] at z
        cases z
        exact .inr ⟨rfl, hk, _, _, rfl⟩
      · rw [upd_ne c] at z
        obtain ⟨⟨p, hp, e⟩, e2⟩ := Tn b u z
        exact .inl ⟨p, hp, e, e2⟩
    · by_cases c : b = a
      · subst c
        rw [upd_same] at z
        cases z
        exact ⟨B.sc, by rw [List.length_map]; exact hl, vs, _, vals_ints hi, B.sc⟩
      · rw [upd_ne c] at z
        obtain ⟨c, rfl⟩ := Tn b u z
        exact isT b c
/-- what is known of the law's promise at the head's heap -/
def LawG (l : PySem.W.OpenLaw) (w : World) (K : PySem.W.Frag) (CX : CXT) (k n : Nat) (x : Str) (mg : Str → Option Value) (fa : Addr) (h : Heap) : Prop :=
  ∃ (fd : FuncData) (cs : List (Addr × Addr)) (sp : Sp), (∀ p ∈ cs, h.get? p.2 = some { cls := .none, data := .fields #[] } ∧ K.lookup p.2 = none ∧ PySem.W.CodeHd h p.1 p.2) ∧ (∀ (s : Shared) (u : Value), BindsTo s fd ⟨[u], []⟩ [(x, u)]) ∧
    (∀ (H : Hp) (a : Addr) (ns : List Int), ns.length ≤ n → (∀ z ∈ ns, Builtin.Int.intBits z ≤ 1048576) → (∀ p ∈ cs, H p.2 = some (.tbl #[])) → SqL K H a (ns.map V.int) → sp [.ref a] H (fun v _ => v = .bl true) E0) ∧
    ∀ base : Heap, K.In base → base.Ns mainGlobals mg → (∀ p ∈ cs, TabB base mg p.1 p.2) → FnG l.prog w K mg base CX k fa fd [x] sp
/-- the end; names: the defs with generator expressions -/
theorem walk_ofG {l : PySem.W.OpenLaw} {n k : Nat} {q : Program} {loose : List Str} {XP : (Str → Option Value) → Heap → Prop} {YP : World → Heap → Prop} {d : DefRec} {K : Params → PySem.W.Frag} {CX : World → CXT} {x : Str}
    (hn : l.most = some n) (hz : n ≤ sizeLine) (hdf : d.params.defaults = []) (hr : Room k callerA) (hY : ∀ (w : World) (h : Heap), YP w h → (K w.params).In h)
    (F : ∀ (w : World) (mg : Str → Option Value) (fa : Addr) (h : Heap), YP w h → (K w.params).In h → h.Ns mainGlobals mg → mg d.name = some (.ref fa) →
      (∀ e ∈ recsOf q, ∃ (a : Addr) (o : Obj) (fd : FuncData) (c p : Addr), mg e.name = some (.ref a) ∧ h.get? a = some o ∧ o.data = .func fd ∧ fd.code = .ref c ∧ h.IsCode c p #[] ∧ h.TableAt c p #[]) → LawG l w (K w.params) (CX w) k n x mg fa h)
    (hX : ∀ (w : World) (H : Hp) (s : Shared) (e : Value) (t : Shared), CX w [] H s E0 e t → False) :
    PySem.W.WalkO q loose XP YP l.row.toRowW d [] (fun f vs => PySem.call f vs) := by
  refine Att.attach_callB hn hdf ?_
  intro w s₀ s mg mb fa o pm cd doc a vs ns G Y _ _ _ hmg ha hi hlen bits hg
  have KX := hY w _ Y
  obtain ⟨fd, cs, sp, tabs, bind, start, run⟩ := F w mg fa _ Y KX G.T.g hmg fun e he => G.T.tab e he
  have B : Beg s.heap (K w.params) mg cs a vs.toArray := ⟨KX, G.T.g, ⟨mb, G.T.b, G.T.builtins⟩, G.T.nolimit, fun p hp => (tabs p hp).1, fun p hp => (tabs p hp).2.1, fun p hp => (tabs p hp).2.2, G.T.bmain, ha⟩
  obtain ⟨H, Ft, sq, ok⟩ := fit_of l.prog w B hi (Nat.le_trans hlen hz)
  have e0 : Env0 l.prog w (K w.params) mg (hidT s.heap H) callerA [] s H := ⟨rfl, Ft.mod B, fun b u e => of_hidT e, Nat.le_of_eq (hidT_size _ _), trivial, by simp [frs], ok, .of_eq hg⟩
  refine codeAny_mono ((run _ (Ft.kin B) (Ft.dic B G.T.g) (Ft.tabs B)).go callerA [] s H ⟨[.ref a], []⟩ [.ref a] [.ref a] _ E0 rfl hr e0 (bind s (.ref a)) (.cons rfl .nil) (start H a ns hlen bits Ft.tb sq)) ?_
  intro r t z
  match r, z with
  | .error e, z => exact (hX w H s e t z).elim
  | .ok .next, z => exact z.elim
  | .ok .brk, z => exact z.elim
  | .ok .cont, z => exact z.elim
  | .ok (.ret u), ⟨v, G', os, bare, un, ok', rv, e⟩ =>
    have e : v = .bl true := e
    subst e
    obtain rfl : u = Value.bool true := rv
    exact ⟨rfl, Ft.old B un ok ok', os, bare⟩
end Kf

/-! the signs of a repr: texts of letters, tuples -/
namespace Kf
open PySem PySem.Spec PyProof.Rows L2 PySem.Builtin.Str
/-- of small letters alone -/
def Low (x : Str) : Prop := ∀ c ∈ x.cps.toList, 97 ≤ c ∧ c < 123
theorem ch_low : ∀ i : Fin 26, reprChar 39 (97 + i.val) = [97 + i.val] := by decide +kernel
theorem ch_low' {c : Nat} (h : 97 ≤ c ∧ c < 123) : reprChar 39 c = [c] := by
  have z := ch_low ⟨c - 97, by omega⟩
  have e : 97 + (c - 97) = c := by omega
  simp only [e] at z
  exact z
theorem fold_low : ∀ (l : List Nat) (acc : Array Nat), (∀ c ∈ l, 97 ≤ c ∧ c < 123) → (l.foldl (fun out c => out ++ (reprChar 39 c).toArray) acc).toList = acc.toList ++ l
  | [], acc, _ => by simp
  | c :: l, acc, h => by
    rw [List.foldl_cons, fold_low l _ fun d hd => h d (List.mem_cons_of_mem _ hd), ch_low' (h c List.mem_cons_self)]
    simp
theorem quote_low {x : Str} (h : Low x) : reprQuote x = 39 := by
  unfold reprQuote
  have e : x.cps.contains 39 = false := by
    rw [← Bool.not_eq_true]
    intro z
    have m : (39 : Nat) ∈ x.cps := by simpa using z
    have := h 39 (Array.mem_def.mp m)
    omega
  rw [e]
  rfl
theorem repr_low {x : Str} (h : Low x) : (reprText x).cps.toList = 39 :: (x.cps.toList ++ [39]) := by
  unfold reprText
  rw [quote_low h, ← Array.foldl_toList, Array.toList_push, fold_low _ _ h]
  rfl
theorem cnt_low {x : Str} (h : Low x) : cnt 40 (reprText x).cps.toList = 0 := by
  rw [repr_low h, cnt_cons, cnt_append]
  have z : ∀ l : List Nat, (∀ c ∈ l, 97 ≤ c ∧ c < 123) → cnt 40 l = 0 := by
    intro l
    induction l with
    | nil => intro _; rfl
    | cons c l ih =>
      intro h
      rw [cnt_cons, ih fun d hd => h d (List.mem_cons_of_mem _ hd)]
      have := h c List.mem_cons_self
      rw [if_neg (by omega)]
      rfl
  rw [z _ h]
  decide
theorem len_low {x : Str} (h : Low x) : (reprText x).length = x.cps.toList.length + 2 := by
  show (reprText x).cps.size = _
  rw [← Array.length_toList, repr_low h]
  simp
theorem cps_app (x y : Str) : (x ++ y).cps.toList = x.cps.toList ++ y.cps.toList := by
  show (x.cps ++ y.cps).toList = _
  rw [Array.toList_append]
theorem cnt_tup (ts : List Str) : cnt 40 (tupleText ts).cps.toList = 1 + (ts.map fun t => cnt 40 t.cps.toList).sum := by
  unfold tupleText
  rw [cps_app, cps_app, cnt_append, cnt_append, cnt_join_sum]
  have e1 : cnt 40 (("(" : Str)).cps.toList = 1 := by decide +kernel
  have e2 : cnt 40 ((", " : Str)).cps.toList = 0 := by decide +kernel
  have e3 : cnt 40 (((if ts.length == 1 then ",)" else ")" : String) : Str)).cps.toList = 0 := by split <;> decide +kernel
  rw [e1, e2, e3, Int.mul_zero]
  omega
theorem count_par (x : Str) : Txt.count x "(" = cnt 40 x.cps.toList := by
  have e : (("(" : String) : Str) = ⟨#[40]⟩ := by decide +kernel
  rw [e]
  exact count_cnt x 40
end Kf

namespace Kq
open PySem PySem.Spec PyProof.Rows L2 Kf Kg Kv GxR
/-! what is a data kind, a kind -/
def isLo (c : Nat) : Bool := decide (c ∈ lets.cps.toList)
def nmS (x : Str) : Bool := decide (1 ≤ x.length) && decide (x.length ≤ 8) && x.cps.toList.all isLo
def nmD : Dt → Bool
  | .str x => nmS x
  | _ => false
def ar (w : Str) : Option Nat :=
  if w = "open" then some 1 else if w = "num" then some 0 else if w = "truth" then some 0 else if w = "pair" then some 2 else if w = "either" then some 2 else if w = "list" then some 1 else if w = "fun" then some 2 else none
def nm1 : List Dt → Bool
  | x :: _ => nmD x
  | [] => false
/-- the form alone -/
def frm : Dt → Bool
  | .tup (.str w :: xs) => !decide (w = "fun") && (match ar w with | some k => decide (xs.length = k) | none => false) && (!decide (w = "open") || nm1 xs)
  | _ => false
/-- the parts that are kinds -/
def prt : Dt → List Dt
  | .tup (.str w :: xs) => if w = "open" then [] else xs
  | _ => []
theorem prt_sz : ∀ x : Dt, Dt.szs (prt x) + 1 ≤ x.sz
  | .tup [] => Nat.le_refl _
  | .tup (.str w :: xs) => by
    have e : (Dt.tup (.str w :: xs)).sz = 1 + (1 + Dt.szs xs) := by simp only [Dt.sz, Dt.szs]
    rw [e]
    show Dt.szs (if w = "open" then [] else xs) + 1 ≤ _
    by_cases h : w = "open"
    · rw [if_pos h]
      simp only [Dt.szs]
      omega
    · rw [if_neg h]
      omega
  | .tup (.non :: xs) => by show 0 + 1 ≤ 1 + _; omega
  | .tup (.bl _ :: xs) => by show 0 + 1 ≤ 1 + _; omega
  | .tup (.int _ :: xs) => by show 0 + 1 ≤ 1 + _; omega
  | .tup (.tup _ :: xs) => by show 0 + 1 ≤ 1 + _; omega
  | .tup (.lst _ :: xs) => by show 0 + 1 ≤ 1 + _; omega
  | .tup (.dct _ :: xs) => by show 0 + 1 ≤ 1 + _; omega
  | .lst xs => by show 0 + 1 ≤ 1 + _; omega
  | .non => Nat.le_refl _
  | .bl _ => Nat.le_refl _
  | .int _ => Nat.le_refl _
  | .str _ => Nat.le_refl _
  | .dct _ => by show 0 + 1 ≤ 1 + _; omega
theorem sz_pos : ∀ x : Dt, 1 ≤ x.sz := fun x => by
  have := prt_sz x
  omega
/-- a data kind: the form, and the parts are so -/
def dat (x : Dt) : Bool := frm x && (prt x).attach.all fun y => dat y.1
termination_by x.sz
decreasing_by
  have h1 := prt_sz x
  have h2 := sz_mem y.2
  omega
theorem dat_eq (x : Dt) : dat x = (frm x && (prt x).all dat) := by
  rw [dat]
  congr 1
  rw [List.all_subtype (g := dat)]
  · simp
  · intro x h
    rfl
end Kq

namespace Kq
open PySem PySem.Spec PyProof.Rows L2 Kf Kg Kv GxR
abbrev tName : Stmt := tp 6
theorem take_allL {α : Type} {f : α → Bool} {xs : List α} {i : Nat} {x : α} (hx : xs[i]? = some x) (h : (xs.take i).all f = true) (e : f x = true) : (xs.take (i + 1)).all f = true := by
  rw [List.take_add_one, hx, List.all_append, h]
  simp [e]
theorem not_allL {α : Type} {f : α → Bool} {xs : List α} {i : Nat} {x : α} (hx : xs[i]? = some x) (e : f x = false) : xs.all f = false := by
  rw [← Bool.not_eq_true, List.all_eq_true]
  intro z
  rw [z x (List.mem_of_getElem? hx)] at e
  cases e
section
variable {P : Program} {w : World} {K : PySem.W.Frag} {mg : Str → Option Value} {base : Heap}
/-! is_name -/
theorem scName : FnScope ["thing"] ["thing"] (defScope tName) := ⟨rfl, rfl, rfl, by decide +kernel, rfl, by decide +kernel, by decide +kernel⟩
def spName (T : List Addr) : Sp := fun vs H Q _ => ∃ (v : V) (x : Dt), vs = [v] ∧ Dd Any H x v ∧ x.wt ≤ sizeLine ∧ TbS T H ∧ ∀ G : Hp, Sm T H G → Q (.bl (nmD x)) G
theorem okName {f c p : Addr} {fd : FuncData} {k : Nat} {T : List Addr} {u1 u2 : Value} (F : FunC K "is_name" "is_name" tName f fd c) (TB : TabB base mg c p) (hp : p ∈ T)
    (gL : mg "LETTERS" = some u1) (rL : RelV (.str lets) u1) (gN : mg "LONGEST_NAME" = some u2) (rN : RelV (.int 8) u2)
    (ma : mg "all" = none) (mi : mg "isinstance" = none) (ms : mg "str" = none) (ml : mg "len" = none) : FnOk P w K mg base CX0 (k + 4) f fd ["thing"] (spName T) := by
  refine F.ok scName (fun vs H Q E h => ?_) (fun A outer s H vs Q E hr h => ?_)
  · obtain ⟨v, x, rfl, _⟩ := h
    rfl
  obtain ⟨v, x, rfl, hd, hw, tb, q⟩ := h
  refine ⟨_, pss_cons (ps_if (PW.pt (pw_or (pt_not (pt_val (pe_callB (isiK K rfl) (by rfl) mi PyProof.Rows.boot_isinstance (pa_cons (pv 0) (pa_cons (pe_bltn (v := .ty "str") (by rfl) ms PyProof.Rows.boot_str rfl) pa_nil)))))
      (pw_or1 (pt_not (pt_chain op_le op_le pe_int (pe_callB call_len_str (by rfl) ml PySem.boot_len (pa_cons (pv 0) pa_nil)) (pe_glob (v := .int 8) (by rfl) gN rN))))))
      (pss_one (ps_ret pe_bl)) pss_nil)
    (pss_one (ps_ret (pe_allG (c := c) (P := p) (own := ["letter"]) (caps := []) (vs := [0]) (g := gName 0) hr (by rfl) ma TB rfl
    (gxS_by (N := ["thing"]) (sc := defScope tName) (by decide +kernel)) (pi_str (pv 0))
    (fun _ _ _ _ _ => pg_name (i := 0) (show (["letter"] : List Str).Nodup by decide +kernel) rfl (.inl rfl)) (fun _ _ _ _ _ => pe_cmpR op_in_sign (pv 0) (pe_glob (v := .str lets) (by rfl) gL rL) rfl)))), ?_⟩
  refine ⟨_, rfl, _, _, _, _, x.isStr, rfl, .ty "str", hd.ty, kStr K x, _, rfl, ?_⟩
  refine ite2 (fun e => iteT ?_) (fun e => ?_)
  · have e1 : nmD x = false := by
      cases x <;> first | rfl | cases e
    have z := q _ (Sm.refl tb)
    rw [e1] at z
    exact z
  obtain ⟨y, rfl⟩ : ∃ y, x = .str y := by
    cases x with
    | str y => exact ⟨y, rfl⟩
    | _ => exact absurd rfl e
  cases hd
  have hl : y.length ≤ sizeLine := by
    have : (Dt.str y).wt = 10 * y.length + 2 := by simp only [Dt.wt]
    omega
  have no : (decide (1 ≤ y.length) && decide (y.length ≤ 8)) = false → Q (.bl false) H := fun e => by
    have z := q _ (Sm.refl tb)
    have e2 : nmD (.str y) = false := by
      show (decide (1 ≤ y.length) && decide (y.length ≤ 8) && _) = false
      rw [e, Bool.false_and]
    rw [e2] at z
    exact z
  refine ⟨_, rfl, y, rfl, hl, _, _, rfl, rfl, _, rfl, ite2 (fun e1 => ?_) (fun e1 => ?_)⟩
  rotate_left
  · refine ⟨_, rfl, iteT (no ?_)⟩
    have : ¬ ((1 : Int) ≤ (y.length : Int)) := fun z => e1 (decide_eq_true z)
    rw [decide_eq_false (show ¬ 1 ≤ y.length by omega), Bool.false_and]
  have h1 : 1 ≤ y.length := by
    have : (1 : Int) ≤ (y.length : Int) := of_decide_eq_true e1
    omega
  refine ⟨_, _, rfl, rfl, _, rfl, ite2 (fun e2 => no ?_) (fun e2 => ?_)⟩
  · have : ¬ ((y.length : Int) ≤ 8) := fun z => by
      rw [decide_eq_true z] at e2
      cases e2
    rw [decide_eq_false (show ¬ y.length ≤ 8 by omega), Bool.and_false]
  have h2 : y.length ≤ 8 := by
    have : (y.length : Int) ≤ 8 := by
      by_cases z : (y.length : Int) ≤ 8
      · exact z
      · rw [decide_eq_false z] at e2
        exact absurd rfl e2
    omega
  have et : nmD (.str y) = y.cps.toList.all isLo := by
    show (decide (1 ≤ y.length) && decide (y.length ≤ 8) && _) = _
    rw [decide_eq_true h1, decide_eq_true h2]
    rfl
  refine ⟨_, rfl, y, rfl, tb p hp, fun H2 htab => ?_⟩
  have s2 : Sm T H H2 := Sm.tab hp tb htab
  refine all_it walk_str (fun i F => Sm T H F ∧ (y.cps.toList.take i).all isLo = true) ⟨s2, rfl⟩ (fun i F _ _ => trivial) (fun i x F F' hi z yy => ?_) (fun F z => ?_)
  · obtain ⟨sF, al⟩ := z
    obtain ⟨rfl, c, hc, rfl⟩ := yy
    have hc' : y.cps.toList[i]? = some c := by rw [Array.getElem?_toList]; exact hc
    refine ⟨rfl, _, rfl, c, lets, rfl, rfl, _, rfl, ite2 (fun e => ⟨sF, take_allL hc' al e⟩) (fun e => ?_)⟩
    have z := q _ sF
    rw [et, not_allL hc' (by simpa [isLo] using e)] at z
    exact z
  · obtain ⟨sF, al⟩ := z
    have el : y.cps.toList.take y.cps.size = y.cps.toList := by
      rw [← Array.length_toList, List.take_length]
    rw [el] at al
    have z := q _ sF
    rw [et, al] at z
    exact z
end
end Kq

/-! things of anything: how great each part by itself is -/
namespace Kv
open PySem PySem.Spec PyProof.Rows L2 Kf
/-- signs below 128, no more than so many -/
structure Asc (L : Nat) (x : Str) : Prop where
  lo : ∀ c ∈ x.cps.toList, c < 128
  len : x.length ≤ L
mutual
def Dt.loc (L B : Nat) : Dt → Prop
  | .int i => i.natAbs < B
  | .str x => Asc L x
  | .tup xs => xs.length ≤ L ∧ Dt.locs L B xs
  | .lst xs => xs.length ≤ L ∧ Dt.locs L B xs
  | .dct kvs => kvs.length ≤ 1 ∧ ∀ p ∈ kvs, Asc L p.1 ∧ p.2.natAbs < B
  | _ => True
def Dt.locs (L B : Nat) : List Dt → Prop
  | [] => True
  | x :: xs => x.loc L B ∧ Dt.locs L B xs
end
theorem locs_iff {L B : Nat} : ∀ {xs : List Dt}, Dt.locs L B xs ↔ ∀ x ∈ xs, x.loc L B
  | [] => ⟨fun _ _ h => (nomatch h), fun _ => by simp only [Dt.locs]⟩
  | x :: xs => by
    simp only [Dt.locs]
    rw [locs_iff (xs := xs)]
    exact ⟨fun h y hy => by
      rcases List.mem_cons.mp hy with rfl | hy
      · exact h.1
      · exact h.2 y hy, fun h => ⟨h x List.mem_cons_self, fun y hy => h y (List.mem_cons_of_mem _ hy)⟩⟩
theorem Asc.up {L M : Nat} {x : Str} (h : Asc L x) (l : L ≤ M) : Asc M x := ⟨h.lo, Nat.le_trans h.len l⟩
mutual
theorem Dt.loc_up {L M B C : Nat} (l : L ≤ M) (b : B ≤ C) : ∀ {x : Dt}, x.loc L B → x.loc M C
  | .non, _ => by simp only [Dt.loc]
  | .bl _, _ => by simp only [Dt.loc]
  | .int i, h => by
    simp only [Dt.loc] at h ⊢
    omega
  | .str x, h => by
    simp only [Dt.loc] at h ⊢
    exact h.up l
  | .tup xs, h => by
    simp only [Dt.loc] at h ⊢
    exact ⟨Nat.le_trans h.1 l, Dt.locs_up l b h.2⟩
  | .lst xs, h => by
    simp only [Dt.loc] at h ⊢
    exact ⟨Nat.le_trans h.1 l, Dt.locs_up l b h.2⟩
  | .dct kvs, h => by
    simp only [Dt.loc] at h ⊢
    exact ⟨h.1, fun p hp => ⟨(h.2 p hp).1.up l, Nat.lt_of_lt_of_le (h.2 p hp).2 b⟩⟩
theorem Dt.locs_up {L M B C : Nat} (l : L ≤ M) (b : B ≤ C) : ∀ {xs : List Dt}, Dt.locs L B xs → Dt.locs M C xs
  | [], _ => by simp only [Dt.locs]
  | x :: xs, h => by
    simp only [Dt.locs] at h ⊢
    exact ⟨Dt.loc_up l b h.1, Dt.locs_up l b h.2⟩
end
mutual
theorem Dt.loc_wt {L B : Nat} : ∀ {x : Dt}, x.loc L B → x.wt + 2 ≤ (10 * L + 70) * x.sz
  | .non, _ => by simp only [Dt.wt, Dt.sz]; omega
  | .bl _, _ => by simp only [Dt.wt, Dt.sz]; omega
  | .int i, _ => by simp only [Dt.wt, Dt.sz]; omega
  | .str x, h => by
    simp only [Dt.loc] at h
    have := h.len
    simp only [Dt.wt, Dt.sz]
    omega
  | .tup xs, h => by
    simp only [Dt.loc] at h
    have := Dt.locs_wt h.2
    simp only [Dt.wt, Dt.sz]
    rw [Nat.mul_add]
    omega
  | .lst xs, h => by
    simp only [Dt.loc] at h
    have := Dt.locs_wt h.2
    simp only [Dt.wt, Dt.sz]
    rw [Nat.mul_add]
    omega
  | .dct [], _ => by simp only [Dt.wt, Dt.sz, kwt, List.length_nil]; omega
  | .dct [p], h => by
    simp only [Dt.loc] at h
    have := (h.2 p List.mem_cons_self).1.len
    simp only [Dt.wt, Dt.sz, kwt, List.length_cons, List.length_nil]
    omega
  | .dct (p :: q :: r), h => by
    simp only [Dt.loc, List.length_cons] at h
    omega
theorem Dt.locs_wt {L B : Nat} : ∀ {xs : List Dt}, Dt.locs L B xs → Dt.wts xs ≤ (10 * L + 70) * Dt.szs xs
  | [], _ => by simp only [Dt.wts, Dt.szs]; omega
  | x :: xs, h => by
    simp only [Dt.locs] at h
    have h1 := Dt.loc_wt h.1
    have h2 := Dt.locs_wt h.2
    simp only [Dt.wts, Dt.szs]
    rw [Nat.mul_add]
    omega
end
mutual
theorem Dt.loc_fine {L B : Nat} : ∀ {x : Dt}, x.loc L B → x.fine B
  | .non, _ => by simp only [Dt.fine]
  | .bl _, _ => by simp only [Dt.fine]
  | .int i, h => by
    simp only [Dt.loc] at h
    simp only [Dt.fine]
    exact h
  | .str x, h => by
    simp only [Dt.loc] at h
    simp only [Dt.fine]
    exact fun c hc => Nat.lt_of_lt_of_le (h.lo c hc) (by decide)
  | .tup xs, h => by
    simp only [Dt.loc] at h
    simp only [Dt.fine]
    exact Dt.locs_fine h.2
  | .lst xs, h => by
    simp only [Dt.loc] at h
    simp only [Dt.fine]
    exact Dt.locs_fine h.2
  | .dct kvs, h => by
    simp only [Dt.loc] at h
    simp only [Dt.fine]
    exact fun p hp => ⟨fun c hc => Nat.lt_of_lt_of_le ((h.2 p hp).1.lo c hc) (by decide), (h.2 p hp).2⟩
theorem Dt.locs_fine {L B : Nat} : ∀ {xs : List Dt}, Dt.locs L B xs → Dt.fines B xs
  | [], _ => by simp only [Dt.fines]
  | x :: xs, h => by
    simp only [Dt.locs] at h
    simp only [Dt.fines]
    exact ⟨Dt.loc_fine h.1, Dt.locs_fine h.2⟩
end
theorem dps_mem' : ∀ {xs : List Dt} {x : Dt}, x ∈ xs → x.dp ≤ Dt.dps xs
  | y :: ys, x, h => by
    simp only [Dt.dps]
    rcases List.mem_cons.mp h with rfl | h
    · omega
    · have := dps_mem' h
      omega
theorem dps_le' {n : Nat} : ∀ {xs : List Dt}, (∀ x ∈ xs, x.dp ≤ n) → Dt.dps xs ≤ n
  | [], _ => by simp only [Dt.dps]; omega
  | x :: xs, h => by
    have h1 := h x List.mem_cons_self
    have h2 := dps_le' (xs := xs) fun y hy => h y (List.mem_cons_of_mem _ hy)
    simp only [Dt.dps]
    omega
theorem dp_tup (xs : List Dt) : (Dt.tup xs).dp = Dt.dps xs + 1 := by simp only [Dt.dp]
theorem dp_lst (xs : List Dt) : (Dt.lst xs).dp = Dt.dps xs + 1 := by simp only [Dt.dp]
theorem dp_str (x : Str) : (Dt.str x).dp = 0 := by simp only [Dt.dp]
theorem loc_tup {L B : Nat} {xs : List Dt} : (Dt.tup xs).loc L B ↔ xs.length ≤ L ∧ ∀ x ∈ xs, x.loc L B := by
  simp only [Dt.loc, locs_iff]
theorem loc_lst {L B : Nat} {xs : List Dt} : (Dt.lst xs).loc L B ↔ xs.length ≤ L ∧ ∀ x ∈ xs, x.loc L B := by
  simp only [Dt.loc, locs_iff]
theorem loc_str {L B : Nat} {x : Str} : (Dt.str x).loc L B ↔ Asc L x := by
  simp only [Dt.loc]
theorem loc_int {L B : Nat} {i : Int} : (Dt.int i).loc L B ↔ i.natAbs < B := by
  simp only [Dt.loc]
theorem ascLit {L : Nat} {x : Str} (h : (x.cps.toList.all fun c => decide (c < 128)) = true) (l : x.length ≤ L) : Asc L x := ⟨fun c hc => of_decide_eq_true (List.all_eq_true.mp h c hc), l⟩
theorem asc_app {L M : Nat} {x y : Str} (h : Asc L x) (k : Asc M y) : Asc (L + M) (x ++ y) := by
  refine ⟨fun c hc => ?_, ?_⟩
  · have e : (x ++ y).cps.toList = x.cps.toList ++ y.cps.toList := by
      show (x.cps ++ y.cps).toList = _
      rw [Array.toList_append]
    rw [e] at hc
    rcases List.mem_append.mp hc with z | z
    · exact h.lo c z
    · exact k.lo c z
  · have h1 := h.len
    have h2 := k.len
    have : (x ++ y).length = x.length + y.length := by
      show (x.cps ++ y.cps).size = _
      rw [Array.size_append]
      rfl
    omega
theorem asc_upper {L : Nat} {x : Str} (h : Asc L x) : Asc L (Txt.upper x) := by
  rw [upper_ascii h.lo]
  refine ⟨fun c hc => ?_, ?_⟩
  · have hc : c ∈ (x.cps.map up1).toList := hc
    rw [Array.toList_map, List.mem_map] at hc
    obtain ⟨d, hd, rfl⟩ := hc
    have := h.lo d hd
    unfold up1
    split <;> omega
  · have e : (Str.mk (x.cps.map up1)).length = x.length := by
      show (x.cps.map up1).size = x.cps.size
      exact Array.size_map
    rw [e]
    exact h.len
theorem dch (n : Nat) : (Nat.digitChar n).toNat < 128 := by
  by_cases h : n < 16
  · have z : ∀ i : Fin 16, (Nat.digitChar i.val).toNat < 128 := by decide
    exact z ⟨n, h⟩
  · have e : Nat.digitChar n = '*' := by
      unfold Nat.digitChar
      repeat rw [if_neg (by omega)]
    rw [e]
    decide
theorem core_asc : ∀ (fuel n : Nat) (ds : List Char), (∀ c ∈ ds, c.toNat < 128) → ∀ c ∈ Nat.toDigitsCore 10 fuel n ds, c.toNat < 128
  | 0, n, ds, h, c, hc => h c (by simpa [Nat.toDigitsCore] using hc)
  | fuel + 1, n, ds, h, c, hc => by
    have h2 : ∀ c ∈ (Nat.digitChar (n % 10) :: ds), c.toNat < 128 := fun c hc => by
      rcases List.mem_cons.mp hc with rfl | hc
      · exact dch _
      · exact h c hc
    unfold Nat.toDigitsCore at hc
    dsimp only at hc
    split at hc
    · exact h2 c hc
    · exact core_asc fuel _ _ h2 c hc
theorem int_asc (i : Int) : ∀ c ∈ (Str.ofString (toString i)).cps.toList, c < 128 := by
  intro c hc
  rw [Str.ofString_eq_toList] at hc
  have hc : c ∈ (toString i).toList.map Char.toNat := by simpa using hc
  obtain ⟨ch, hch, rfl⟩ := List.mem_map.mp hc
  have dig : ∀ n : Nat, ∀ ch ∈ (Nat.repr n).toList, ch.toNat < 128 := fun n ch h => by
    have h : ch ∈ Nat.toDigits 10 n := by simpa [Nat.repr] using h
    exact core_asc _ _ [] (fun c z => absurd z List.not_mem_nil) ch h
  cases i with
  | ofNat n => exact dig n ch hch
  | negSucc n =>
    have e : (toString (Int.negSucc n)).toList = '-' :: (Nat.repr (n + 1)).toList := by
      show ("-" ++ Nat.repr (n + 1)).toList = _
      rw [String.toList_append]
      rfl
    rw [e] at hch
    rcases List.mem_cons.mp hch with rfl | h
    · decide
    · exact dig _ ch h
/-- str(number), a truth too: few signs -/
theorem call_strA {X : Cx} : CallR X (.type "str") (fun xs H Q => ∃ x i, xs = [x] ∧ nu x = some i ∧ i.natAbs < 10 ^ 45 ∧ ∀ z : Str, Asc 50 z → Q (.str z) H) := by
  intro pins s σ H xs us Q I r h
  obtain ⟨x, i, rfl, hx, hi, q⟩ := h
  obtain ⟨u, rfl, rx⟩ := vals1 r
  cases x with
  | int a =>
    obtain ⟨t, rfl⟩ := rx
    cases hx
    have hl : i.natAbs.log2 < 1920 := by
      by_cases z : i.natAbs = 0
      · rw [z]
        decide
      · have : i.natAbs.log2 < 150 := (Nat.log2_lt z).mpr (Nat.lt_of_lt_of_le hi (by decide))
        omega
    refine PySem.P.str_of_int hl ⟨.str _, H, I.tok _, ⟨_, rfl⟩, q _ ⟨?_, ?_⟩⟩
    · exact int_asc i
    · have z := int_text_length_le10 (a := i) (k := 45) (by decide) hi
      have e : (Str.ofString (toString i)).length = (toString i).length := PySem.ofString_length _
      show (Str.ofString (toString i)).length ≤ 50
      rw [e]
      omega
  | bl b =>
    cases rx
    refine PySem.P.str_of_bool ⟨.str _, H, I.tok _, ⟨_, rfl⟩, q _ ⟨?_, ?_⟩⟩
    · cases b <;> decide +kernel
    · cases b <;> decide +kernel
  | _ => cases hx
end Kv

/-! items of a text: each with its role, its word, whether it stands by itself, its thing, and the items behind it -/
namespace Kk
open PySem PySem.Spec PyProof.Rows L2 Kf Kv
inductive Wi where
  | mk (rl wd : Str) (sg : Bool) (d : Dt) (ps : List Wi)
namespace Wi
def rl : Wi → Str | mk r _ _ _ _ => r
def wd : Wi → Str | mk _ w _ _ _ => w
def sg : Wi → Bool | mk _ _ s _ _ => s
def d : Wi → Dt | mk _ _ _ d _ => d
def ps : Wi → List Wi | mk _ _ _ _ p => p
mutual
/-- the items as they are written -/
def tk : Wi → List Wi
  | mk r w s d p => mk r w s d p :: tks p
def tks : List Wi → List Wi
  | [] => []
  | i :: is => tk i ++ tks is
end
theorem tk_eq (i : Wi) : i.tk = i :: tks i.ps := by
  cases i
  rw [tk]
  rfl
theorem tks_app : ∀ is js : List Wi, tks (is ++ js) = tks is ++ tks js
  | [], _ => by rw [tks]; rfl
  | i :: is, js => by
    rw [List.cons_append, tks, tks, tks_app is js, List.append_assoc]
theorem tks_cons (i : Wi) (is : List Wi) : tks (i :: is) = i :: tks (i.ps ++ is) := by
  rw [tks, tk_eq, tks_app]
  rfl
theorem tks_nil {is : List Wi} (h : tks is = []) : is = [] := by
  cases is with
  | nil => rfl
  | cons i is =>
    rw [tks_cons] at h
    cases h
theorem tks_len : ∀ is : List Wi, is.length ≤ (tks is).length
  | [] => Nat.zero_le _
  | i :: is => by
    have := tks_len is
    rw [tks, tk_eq]
    simp only [List.length_append, List.length_cons]
    omega
/-- what is left to be read before the word at n -/
def rst : Nat → List Wi → List Wi
  | 0, is => is
  | _ + 1, [] => []
  | n + 1, i :: is => rst n (i.ps ++ is)
theorem rst_tks : ∀ (n : Nat) (is : List Wi), tks (rst n is) = (tks is).drop n
  | 0, is => rfl
  | n + 1, [] => by
    show tks [] = (tks []).drop (n + 1)
    rw [tks]
    rfl
  | n + 1, i :: is => by
    show tks (rst n (i.ps ++ is)) = _
    rw [rst_tks n, tks_cons, List.drop_succ_cons]
theorem rst_next : ∀ (n : Nat) {is : List Wi} {i : Wi} {r : List Wi}, rst n is = i :: r → rst (n + 1) is = i.ps ++ r
  | 0, is, i, r, h => by
    have h : is = i :: r := h
    subst h
    rfl
  | n + 1, [], i, r, h => by cases h
  | n + 1, j :: js, i, r, h => rst_next n (is := j.ps ++ js) h
/-- the word at n and what is left behind it -/
theorem rst_at {is : List Wi} {n : Nat} {i : Wi} (h : (tks is)[n]? = some i) : ∃ r, rst n is = i :: r ∧ rst (n + 1) is = i.ps ++ r := by
  have e := rst_tks n is
  have lt := (List.getElem?_eq_some_iff.mp h).1
  rw [List.drop_eq_getElem_cons lt] at e
  have hi : (tks is)[n] = i := (List.getElem?_eq_some_iff.mp h).2
  cases hr : rst n is with
  | nil =>
    rw [hr, tks] at e
    cases e
  | cons j r =>
    rw [hr, tks_cons] at e
    have := (List.cons.inj e).1
    rw [hi] at this
    subst this
    exact ⟨r, rfl, rst_next n hr⟩
theorem rst_end (is : List Wi) : rst (tks is).length is = [] := tks_nil (by rw [rst_tks, List.drop_length])
end Wi
end Kk

/-! int(text) and str(int) to 4,300 figures, where the program leaves the limit alone -/
namespace Ki
open PySem PySem.Spec PyProof.Rows L2 PySem.Calls PySem.NumText PySem.W
theorem nodig_in {K : PySem.W.Frag} {h : Heap} (X : K.In h) (e : nsOkIn K cStatics = true) (q : nsIn K cStatics "sys.int_max_str_digits" = some none) : h.NoDigits :=
  ⟨_, .of_isNs (isNs_of_in X e), nsMap_none_of_in X e q⟩
theorem maxDig {M : Model} {A : Around} {E : Value → Shared → Prop} {s : Shared} {Q : Nat → Shared → Prop} (hn : s.heap.NoDigits) (h : Q 4300 s) : wpAny M A Builtin.intMaxStrDigits Q E s := by
  obtain ⟨mc, hns, hnone⟩ := hn
  unfold Builtin.intMaxStrDigits
  refine wpAny_bind (wpAny_nsGet hns ?_)
  rw [hnone]
  exact wpAny_pure h
theorem wp_textA {M : Model} {A : Around} {E : Value → Shared → Prop} {s : Shared} {Q : Value → Shared → Prop} {v : Value} {text : List Nat} {n : Int} (hn : s.heap.NoDigits)
    (hs : ¬ (text.takeWhile (· != 0)).length ≤ 640) (hr : (int_private% "readNumeral") 4300 10 (text.takeWhile (· != 0)) = (int_private% "Numeral.value") n)
    (ha : ((text.takeWhile (· != 0)).length == text.length) = true) (h : Q (.int n s.toks) { s with toks := s.toks + 1 }) :
    wpAny M A ((int_private% "intFromText") v text 10) Q E s := by
  wp_step
  rw [if_neg hs]
  refine wpAny_bind (maxDig hn ?_)
  dsimp only
  rw [hr]
  dsimp only
  rw [if_pos ha]
  obtain ⟨hp, g, d, tk, os⟩ := s
  repeat (any_goals (first
    | assumption
    | wp_step))
theorem meets_textA {x : PySem.Str} {u : Tok} {n : Int} (hl : x.length ≤ 4300) (hn : PySem.intText? x = some n) :
    Meets (Builtin.«int.__new__» ⟨[.type "int", .str x u], []⟩) (fun _ R s => s.heap.NoDigits ∧ R (.ok (.ret (.int n s.toks))) { s with toks := s.toks + 1 }) := by
  intro prog w A R s hq
  refine wpAny_mono (Q := fun fin s' => ∃ v, fin = .done (.ret v) ∧ R (.ok (.ret v)) s') ?_ (fun fin s' h' => by obtain ⟨v, rfl, hv⟩ := h'; exact hv) fun _ _ x => x
  have hd := hq.1
  have h := hq.2
  clear hq
  generalize hM : model prog w = M
  generalize A.in1 = A'
  clear hM
  have f1 := F.conv_sub_int
  have f2 := F.madeHere_int
  have f3 := KIN.str_int
  have f4 := KIN.str_idx
  have f5 := KIN.str_trunc
  have f6 : typeOf (.str x u) = pure (.type "str") := rfl
  by_cases h6 : (numSeenOf x).length ≤ 640
  · have hr : (int_private% "readNumeral") 0 10 (numSeenOf x) = (int_private% "Numeral.value") n ∧ ((numSeenOf x).length == (numTextOf x).length) = true := by
      rcases read0 x h6 with ⟨m, h1, h2, h3⟩ | ⟨h1, _⟩
      · rw [hn] at h1
        injection h1 with h1
        subst h1
        exact ⟨h3, h2⟩
      · rw [hn] at h1
        cases h1
    have hk := KIN.Hid.mk (And.intro h6 hr)
    clear h6 hr hl hn hd
    obtain ⟨hp, g, d, tk, os⟩ := s
    repeat (any_goals (first
      | assumption
      | ((with_reducible show wpAny _ _ ((int_private% "intFromText") _ _ _) _ _ _); refine KIN.wp_text hk.out.1 hk.out.2.1 hk.out.2.2 ?_)
      | wp_step))
    all_goals first | exact ⟨_, rfl, h⟩ | skip
  · have hr : (int_private% "readNumeral") 4300 10 (numSeenOf x) = (int_private% "Numeral.value") n ∧ ((numSeenOf x).length == (numTextOf x).length) = true := by
      rcases read4300 x (Nat.le_trans hl (by decide)) with ⟨m, h1, h2, h3⟩ | ⟨h1, _⟩
      · rw [hn] at h1
        injection h1 with h1
        subst h1
        exact ⟨h3, h2⟩
      · rw [hn] at h1
        cases h1
    have hk := KIN.Hid.mk (And.intro (And.intro h6 hd) hr)
    clear h6 hr hl hn hd
    obtain ⟨hp, g, d, tk, os⟩ := s
    repeat (any_goals (first
      | assumption
      | ((with_reducible show wpAny _ _ ((int_private% "intFromText") _ _ _) _ _ _); refine wp_textA hk.out.1.2 hk.out.1.1 hk.out.2.1 hk.out.2.2 ?_)
      | wp_step))
    all_goals first | exact ⟨_, rfl, h⟩ | skip
section
variable {X : Cx}
/-- int(text) -/
theorem call_int_strA (e : nsOkIn X.K cStatics = true) (q : nsIn X.K cStatics "sys.int_max_str_digits" = some none) : CallR X (.type "int") (fun xs H Q => ∃ a n, xs = [.str a] ∧ PySem.intText? a = some n ∧ a.length ≤ 4300 ∧ Q (.int n) H) := by
  intro pins s σ H xs us Q I rs h
  obtain ⟨a, n, rfl, hn, hl, h⟩ := h
  cases rs with
  | cons r1 rs =>
    cases rs
    obtain ⟨t, rfl⟩ := r1
    exact call_int_1 (meets_textA hl hn) ⟨nodig_in I.kIn e q, ⟨rfl, ⟨.int n, H, I.tok _, ⟨_, rfl⟩, h⟩⟩⟩
/-- str(int) -/
theorem call_str_intA (hc : X.A.handled = none) (e : nsOkIn X.K cStatics = true) (q : nsIn X.K cStatics "sys.int_max_str_digits" = some none) : CallR X (.type "str") (fun xs H Q => ∃ a : Int, xs = [.int a] ∧ a.natAbs < 10 ^ 4300 ∧ Q (.str (toString a)) H) := by
  intro pins s σ H xs us Q I rs h
  obtain ⟨a, rfl, hl, h⟩ := h
  cases rs with
  | cons r1 rs =>
    cases rs
    obtain ⟨t, rfl⟩ := r1
    exact str_of_int_or hc (nodig_in I.kIn e q) (fun _ => ⟨.str (toString a), H, I.tok _, ⟨_, rfl⟩, h⟩) fun h2 => absurd hl (Nat.not_lt.mpr h2)
end
end Ki

namespace Kq
open PySem PySem.Spec PyProof.Rows L2 Kf Kg Kv GxR Kk
abbrev Non : Addr → Prop := fun _ => False
theorem _root_.Kv.Kn.tk {H G : Hp} (k : Tk H G) : Kn Non H G := ⟨k, fun _ _ n _ => n.elim, fun _ _ n _ => n.elim⟩
theorem Dd.tupS {N : Addr → Prop} {H : Hp} {xs : List Dt} {v : V} (h : Dd N H (.tup xs) v) : ∃ a vs, v = .ref a ∧ H a = some (.tup vs) ∧ DdL N H xs vs := by
  cases h with
  | tup h t => exact ⟨_, _, rfl, h, t⟩
theorem DdL.see {N : Addr → Prop} {H : Hp} {xs : List Dt} {vs : List V} (h : DdL N H xs vs) : (xs = [] ∧ vs = []) ∨ ∃ y ys w ws, xs = y :: ys ∧ vs = w :: ws ∧ Dd N H y w ∧ DdL N H ys ws := by
  cases h with
  | nil => exact .inl ⟨rfl, rfl⟩
  | cons h t => exact .inr ⟨_, _, _, _, rfl, rfl, h, t⟩
theorem Dd.tup2 {N : Addr → Prop} {H : Hp} {a b : Dt} {v : V} (h : Dd N H (.tup [a, b]) v) : ∃ p y z, v = .ref p ∧ H p = some (.tup [y, z]) ∧ Dd N H a y ∧ Dd N H b z := by
  obtain ⟨p, vs, rfl, hp, hL⟩ := Dd.tupS h
  rcases DdL.see hL with ⟨e, _⟩ | ⟨y, ys, u1, ws, e, rfl, hy, hys⟩
  · cases e
  cases e
  rcases DdL.see hys with ⟨e, _⟩ | ⟨z, zs, u2, ws', e, rfl, hz, hzs⟩
  · cases e
  cases e
  rcases DdL.see hzs with ⟨_, rfl⟩ | ⟨z, zs, u3, ws', e, _⟩
  · exact ⟨p, u1, u2, rfl, hp, hy, hz⟩
  · cases e
theorem nmS_of {x : Str} (h : Nm x) : nmS x = true := by
  have hl : x.cps.toList.length = x.length := Array.length_toList
  have h1 := h.one
  have h2 := h.few
  unfold nmS
  rw [decide_eq_true (by omega), decide_eq_true (by omega), Bool.true_and, Bool.true_and, List.all_eq_true]
  intro c hc
  obtain ⟨c0, c1⟩ := h.low c hc
  unfold isLo
  refine decide_eq_true ?_
  have e : c = 97 + (c - 97) := by omega
  rw [e]
  exact List.mem_of_getElem? (lets_at ⟨c - 97, by omega⟩)
theorem nmS_len {x : Str} (h : nmS x = true) : x.length ≤ 8 := by
  unfold nmS at h
  exact of_decide_eq_true (Bool.and_eq_true_iff.mp (Bool.and_eq_true_iff.mp h).1).2
theorem wt_str (x : Str) : (Dt.str x).wt = 10 * x.length + 2 := by simp only [Dt.wt]
theorem wt_t1 (a : Dt) : (Dt.tup [a]).wt ≤ a.wt + 9 := by simp only [Dt.wt, Dt.wts]; omega
theorem wt_t2 (a b : Dt) : (Dt.tup [a, b]).wt ≤ a.wt + b.wt + 9 := by simp only [Dt.wt, Dt.wts]; omega
theorem wt_t3 (a b c : Dt) : (Dt.tup [a, b, c]).wt ≤ a.wt + b.wt + c.wt + 9 := by simp only [Dt.wt, Dt.wts]; omega
end Kq

/-! items of worths: what is written at a role, and what stands behind it -/
namespace Kq
open PySem PySem.Spec PyProof.Rows L2 Kf Kg Kv GxR Kk
def numS (k : Nat) : Str := Str.ofString (toString ((k : Nat) : Int))
theorem tl_numS (k : Nat) : TL.tl (numS k) = TL.numL k := TL.tl_num k
theorem numS_inj {a b : Nat} (h : numS a = numS b) : a = b := TL.numL_inj (by rw [← tl_numS, ← tl_numS, h])
theorem numS_len {n k : Nat} (hk : 0 < k) (h : n < 10 ^ k) : (numS n).length ≤ k := by
  rw [TL.len_tl, tl_numS]
  exact TL.numL_len hk h
/-- a word of no figures -/
theorem numS_ne {k : Nat} {z : Str} (h : ∃ c ∈ TL.tl z, c < 48 ∨ 57 < c) : numS k ≠ z := fun e => by
  obtain ⟨c, hc, o⟩ := h
  rw [← e, tl_numS] at hc
  exact TL.numL_free o hc
def tblW : List (Str × List Str) := [("thing", ["name", "number"]), ("pair", ["worth", "worth"]), ("left", ["worth"]), ("right", ["worth"]), ("list", ["items"]), ("table", ["rows"]), ("made", ["number", "items"]), ("maker", ["number", "number"])]
/-- the roles behind a word -/
def wr (r : Str) : Prop := r = "worth" ∨ r = "answer"
def fRl (r z : Str) : Option (List Str) := if r = "answer" ∧ z = "fault" then some [] else if r = "worth" ∨ r = "answer" then tblW.lookup z else none
theorem fRl_r {r z : Str} {rs : List Str} (h : fRl r z = some rs) : wr r := by
  unfold fRl at h
  split at h
  · rename_i c
    exact .inr c.1
  · split at h
    · assumption
    · cases h
theorem fRl_z {r z : Str} {rs : List Str} (h : fRl r z = some rs) : (r = "answer" ∧ z = "fault" ∧ rs = []) ∨ (wr r ∧ tblW.lookup z = some rs) := by
  unfold fRl at h
  split at h
  · rename_i c
    exact .inl ⟨c.1, c.2, (Option.some.inj h).symm⟩
  · split at h
    · exact .inr ⟨by assumption, h⟩
    · cases h
theorem fRl_w {r z : Str} (h : wr r) {rs : List Str} (k : tblW.lookup z = some rs) : fRl r z = some rs := by
  unfold fRl
  have nz : z ≠ "fault" := fun e => by
    subst e
    have z : List.lookup ("fault" : Str) tblW = none := by decide +kernel
    rw [z] at k
    cases k
  rw [if_neg fun c => nz c.2, if_pos (show r = "worth" ∨ r = "answer" from h), k]
def pairs : List Dt → List Dt
  | a :: b :: r => .tup [a, b] :: pairs r
  | _ => []
def nk (n : Nat) : List Str := (List.replicate n (["worth", "answer"] : List Str)).flatten
theorem nk_succ (n : Nat) : nk (n + 1) = ("worth" : Str) :: ("answer" : Str) :: nk n := by
  unfold nk
  rw [List.replicate_succ, List.flatten_cons]
  rfl
theorem nk_len : ∀ n, (nk n).length = 2 * n
  | 0 => rfl
  | n + 1 => by
    rw [nk_succ, List.length_cons, List.length_cons, nk_len n]
    omega
def yn (b : Bool) : Str := if b = true then "yes" else "no"
/-- an item by itself -/
inductive Ok1 : Wi → Prop
  | nam (n : Str) : nmS n = true → Ok1 (.mk "name" n true (.str n) [])
  | num (k : Nat) : k < 10 ^ 4300 → Ok1 (.mk "number" (numS k) true (.int k) [])
  | wnm (r : Str) (k : Nat) : wr r → k < 10 ^ 4300 → Ok1 (.mk r (numS k) true (.int k) [])
  | wtr (r : Str) (b : Bool) : wr r → Ok1 (.mk r (yn b) true (.bl b) [])
  | frm (r w : Str) (ps : List Wi) : fRl r w = some (ps.map Wi.rl) → Ok1 (.mk r w false (.tup (.str w :: ps.map Wi.d)) ps)
  | itm (n : Nat) (ps : List Wi) : n ≤ 1000 → ps.map Wi.rl = List.replicate n ("worth" : Str) → Ok1 (.mk "items" (numS n) false (.tup (ps.map Wi.d)) ps)
  | row (n : Nat) (ps : List Wi) : n ≤ 1000 → ps.map Wi.rl = nk n → Ok1 (.mk "rows" (numS n) false (.tup (pairs (ps.map Wi.d))) ps)
def oks (is : List Wi) : Prop := ∀ j ∈ Wi.tks is, Ok1 j
def ok (i : Wi) : Prop := ∀ j ∈ i.tk, Ok1 j
theorem oks_iff : ∀ {is : List Wi}, oks is ↔ ∀ i ∈ is, ok i
  | [] => ⟨fun _ i h => (nomatch h), fun _ j h => by rw [Wi.tks] at h; exact (nomatch h)⟩
  | i :: is => by
    unfold oks
    rw [Wi.tks]
    refine ⟨fun h k hk => ?_, fun h j hj => ?_⟩
    · rcases List.mem_cons.mp hk with rfl | hk
      · exact fun j hj => h j (List.mem_append_left _ hj)
      · exact (oks_iff (is := is)).mp (fun j hj => h j (List.mem_append_right _ hj)) k hk
    · rcases List.mem_append.mp hj with hj | hj
      · exact h i List.mem_cons_self j hj
      · exact (oks_iff (is := is)).mpr (fun k hk => h k (List.mem_cons_of_mem _ hk)) j hj
theorem ok_iff {i : Wi} : ok i ↔ Ok1 i ∧ oks i.ps := by
  unfold ok oks
  rw [Wi.tk_eq]
  refine ⟨fun h => ⟨h i List.mem_cons_self, fun j hj => h j (List.mem_cons_of_mem _ hj)⟩, fun h j hj => ?_⟩
  rcases List.mem_cons.mp hj with rfl | hj
  · exact h.1
  · exact h.2 j hj
theorem ok_of {i : Wi} (h : Ok1 i) (k : ∀ p ∈ i.ps, ok p) : ok i := ok_iff.mpr ⟨h, oks_iff.mpr k⟩
theorem ok.one {i : Wi} (h : ok i) : Ok1 i := (ok_iff.mp h).1
theorem ok.ps {i : Wi} (h : ok i) : ∀ p ∈ i.ps, ok p := oks_iff.mp (ok_iff.mp h).2
theorem yn_inj {a b : Bool} (h : yn a = yn b) : a = b := by
  cases a <;> cases b <;> first | rfl | (exfalso; revert h; decide)
theorem yn_no (b : Bool) : ∃ c ∈ TL.tl (yn b), c < 48 ∨ 57 < c := by
  cases b
  · exact ⟨110, by decide +kernel, by decide⟩
  · exact ⟨121, by decide +kernel, by decide⟩
theorem frm_no {r z : Str} {rs : List Str} (h : fRl r z = some rs) : (∃ c ∈ TL.tl z, c < 48 ∨ 57 < c) ∧ (∀ b, yn b ≠ z) ∧ (32 : Nat) ∉ TL.tl z := by
  rcases fRl_z h with ⟨_, rfl, _⟩ | ⟨_, h⟩
  · exact ⟨⟨102, by decide +kernel, by decide⟩, fun b => by cases b <;> decide, by decide +kernel⟩
  · have q : ∀ p ∈ tblW, (∃ c ∈ TL.tl p.1, c < 48 ∨ 57 < c) ∧ (∀ b, yn b ≠ p.1) ∧ (32 : Nat) ∉ TL.tl p.1 := by decide +kernel
    exact q (z, rs) (PySem.mem_of_lookup h)
theorem Ok1.det {i j : Wi} (h : Ok1 i) (k : Ok1 j) (r : i.rl = j.rl) (w : i.wd = j.wd) : i.ps.map Wi.rl = j.ps.map Wi.rl ∧ (i.ps = j.ps → i = j) := by
  have no : ∀ {a b : Str}, a = b → (a = b → False) → i.ps.map Wi.rl = j.ps.map Wi.rl ∧ (i.ps = j.ps → i = j) := fun e f => (f e).elim
  have wn : ∀ {r : Str}, wr r → r ≠ "name" ∧ r ≠ "number" ∧ r ≠ "items" ∧ r ≠ "rows" := fun h => by
    rcases h with rfl | rfl <;> decide
  cases h with
  | nam n hn =>
    cases k with
    | nam m hm =>
      have w : n = m := w
      subst w
      exact ⟨rfl, fun _ => rfl⟩
    | num m hm => exact no (show ("name" : Str) = "number" from r) (by decide)
    | wnm r2 m h2 hm => exact absurd (show ("name" : Str) = r2 from r).symm (wn h2).1
    | wtr r2 b h2 => exact absurd (show ("name" : Str) = r2 from r).symm (wn h2).1
    | frm r2 w2 ps hr => exact absurd (show ("name" : Str) = r2 from r).symm (wn (fRl_r hr)).1
    | itm m ps hm hr => exact no (show ("name" : Str) = "items" from r) (by decide)
    | row m ps hm hr => exact no (show ("name" : Str) = "rows" from r) (by decide)
  | num n hn =>
    cases k with
    | num m hm =>
      have w : n = m := numS_inj w
      subst w
      exact ⟨rfl, fun _ => rfl⟩
    | nam m hm => exact no (show ("number" : Str) = "name" from r) (by decide)
    | wnm r2 m h2 hm => exact absurd (show ("number" : Str) = r2 from r).symm (wn h2).2.1
    | wtr r2 b h2 => exact absurd (show ("number" : Str) = r2 from r).symm (wn h2).2.1
    | frm r2 w2 ps hr => exact absurd (show ("number" : Str) = r2 from r).symm (wn (fRl_r hr)).2.1
    | itm m ps hm hr => exact no (show ("number" : Str) = "items" from r) (by decide)
    | row m ps hm hr => exact no (show ("number" : Str) = "rows" from r) (by decide)
  | wnm r1 n h1 hn =>
    cases k with
    | wnm r2 m h2 hm =>
      have w : n = m := numS_inj w
      subst w
      cases (show r1 = r2 from r)
      exact ⟨rfl, fun _ => rfl⟩
    | nam m hm => exact absurd (show r1 = "name" from r) (wn h1).1
    | num m hm => exact absurd (show r1 = "number" from r) (wn h1).2.1
    | wtr r2 b h2 => exact absurd (show numS n = yn b from w) (numS_ne (yn_no b))
    | frm r2 w2 ps hr => exact absurd (show numS n = w2 from w) (numS_ne (frm_no hr).1)
    | itm m ps hm hr => exact absurd (show r1 = "items" from r) (wn h1).2.2.1
    | row m ps hm hr => exact absurd (show r1 = "rows" from r) (wn h1).2.2.2
  | wtr r1 b h1 =>
    cases k with
    | wtr r2 c h2 =>
      have w : b = c := yn_inj w
      subst w
      cases (show r1 = r2 from r)
      exact ⟨rfl, fun _ => rfl⟩
    | nam m hm => exact absurd (show r1 = "name" from r) (wn h1).1
    | num m hm => exact absurd (show r1 = "number" from r) (wn h1).2.1
    | wnm r2 m h2 hm => exact absurd (show yn b = numS m from w).symm (numS_ne (yn_no b))
    | frm r2 w2 ps hr => exact absurd (show yn b = w2 from w) ((frm_no hr).2.1 b)
    | itm m ps hm hr => exact absurd (show r1 = "items" from r) (wn h1).2.2.1
    | row m ps hm hr => exact absurd (show r1 = "rows" from r) (wn h1).2.2.2
  | frm r1 w1 ps hr =>
    cases k with
    | frm r2 w2 ps2 hr2 =>
      cases (show r1 = r2 from r)
      cases (show w1 = w2 from w)
      rw [hr] at hr2
      refine ⟨Option.some.inj hr2, fun e => ?_⟩
      have e : ps = ps2 := e
      subst e
      rfl
    | nam m hm => exact absurd (show r1 = "name" from r) (wn (fRl_r hr)).1
    | num m hm => exact absurd (show r1 = "number" from r) (wn (fRl_r hr)).2.1
    | wnm r2 m h2 hm => exact absurd (show w1 = numS m from w).symm (numS_ne (frm_no hr).1)
    | wtr r2 c h2 => exact absurd (show w1 = yn c from w).symm ((frm_no hr).2.1 c)
    | itm m ps hm _ => exact absurd (show r1 = "items" from r) (wn (fRl_r hr)).2.2.1
    | row m ps hm _ => exact absurd (show r1 = "rows" from r) (wn (fRl_r hr)).2.2.2
  | itm n ps hn hr =>
    cases k with
    | itm m ps2 hm hr2 =>
      have w : n = m := numS_inj w
      subst w
      refine ⟨hr.trans hr2.symm, fun e => ?_⟩
      have e : ps = ps2 := e
      subst e
      rfl
    | nam m hm => exact no (show ("items" : Str) = "name" from r) (by decide)
    | num m hm => exact no (show ("items" : Str) = "number" from r) (by decide)
    | wnm r2 m h2 hm => exact absurd (show ("items" : Str) = r2 from r).symm (wn h2).2.2.1
    | wtr r2 b h2 => exact absurd (show ("items" : Str) = r2 from r).symm (wn h2).2.2.1
    | frm r2 w2 ps hr2 => exact absurd (show ("items" : Str) = r2 from r).symm (wn (fRl_r hr2)).2.2.1
    | row m ps hm hr2 => exact no (show ("items" : Str) = "rows" from r) (by decide)
  | row n ps hn hr =>
    cases k with
    | row m ps2 hm hr2 =>
      have w : n = m := numS_inj w
      subst w
      refine ⟨hr.trans hr2.symm, fun e => ?_⟩
      have e : ps = ps2 := e
      subst e
      rfl
    | nam m hm => exact no (show ("rows" : Str) = "name" from r) (by decide)
    | num m hm => exact no (show ("rows" : Str) = "number" from r) (by decide)
    | wnm r2 m h2 hm => exact absurd (show ("rows" : Str) = r2 from r).symm (wn h2).2.2.2
    | wtr r2 b h2 => exact absurd (show ("rows" : Str) = r2 from r).symm (wn h2).2.2.2
    | frm r2 w2 ps hr2 => exact absurd (show ("rows" : Str) = r2 from r).symm (wn (fRl_r hr2)).2.2.2
    | itm m ps hm hr2 => exact no (show ("rows" : Str) = "items" from r) (by decide)
/-- unlike items have unlike words -/
theorem wtks_inj : ∀ (n : Nat) (is js : List Wi), (Wi.tks is).length ≤ n → oks is → oks js → is.map Wi.rl = js.map Wi.rl → (Wi.tks is).map Wi.wd = (Wi.tks js).map Wi.wd → is = js
  | n, [], [], _, _, _, _, _ => rfl
  | n, [], j :: js, _, _, _, r, _ => by simp at r
  | n, i :: is, [], _, _, _, r, _ => by simp at r
  | 0, i :: is, j :: js, hn, _, _, _, _ => by
    rw [Wi.tks_cons] at hn
    simp at hn
  | n + 1, i :: is, j :: js, hn, oi, oj, r, h => by
    unfold oks at oi oj
    rw [Wi.tks_cons] at hn oi oj
    rw [List.length_cons] at hn
    rw [Wi.tks_cons, Wi.tks_cons, List.map_cons, List.map_cons] at h
    rw [List.map_cons, List.map_cons] at r
    obtain ⟨h1, h2⟩ := List.cons.inj h
    obtain ⟨r1, r2⟩ := List.cons.inj r
    obtain ⟨pr, eq⟩ := (oi i List.mem_cons_self).det (oj j List.mem_cons_self) r1 h1
    have e := wtks_inj n (i.ps ++ is) (j.ps ++ js) (by omega) (fun k hk => oi k (List.mem_cons_of_mem _ hk)) (fun k hk => oj k (List.mem_cons_of_mem _ hk)) (by rw [List.map_append, List.map_append, pr, r2]) h2
    have l : i.ps.length = j.ps.length := by
      have := congrArg List.length pr
      rw [List.length_map, List.length_map] at this
      exact this
    obtain ⟨e1, e2⟩ := List.append_inj e l
    rw [eq e1, e2]
theorem tks1 (i : Wi) : Wi.tks [i] = i.tk := by
  rw [Wi.tks, Wi.tks, List.append_nil]
theorem tk_inj {i j : Wi} (oi : ok i) (oj : ok j) (r : i.rl = j.rl) (h : i.tk.map Wi.wd = j.tk.map Wi.wd) : i = j := by
  have z := wtks_inj _ [i] [j] (Nat.le_refl _) (oks_iff.mpr fun k hk => by rw [List.mem_singleton.mp hk]; exact oi) (oks_iff.mpr fun k hk => by rw [List.mem_singleton.mp hk]; exact oj) (by rw [List.map_singleton, List.map_singleton, r]) (by rw [tks1, tks1]; exact h)
  exact (List.cons.inj z).1
/-- the same at another role -/
def asA (i : Wi) : Wi := .mk "answer" i.wd i.sg i.d i.ps
theorem asA_ok {i : Wi} (h : ok i) (r : i.rl = "worth") : ok (asA i) := by
  refine ok_of ?_ h.ps
  have h1 := h.one
  cases h1 with
  | nam n hn => exact absurd (show ("name" : Str) = "worth" from r) (by decide)
  | num k hk => exact absurd (show ("number" : Str) = "worth" from r) (by decide)
  | wnm r2 k h2 hk => exact .wnm "answer" k (.inr rfl) hk
  | wtr r2 b h2 => exact .wtr "answer" b (.inr rfl)
  | frm r2 w ps hr =>
    have r : r2 = "worth" := r
    subst r
    rcases fRl_z hr with ⟨e, _⟩ | ⟨_, e⟩
    · exact absurd e (by decide)
    · exact .frm "answer" w ps (fRl_w (.inr rfl) e)
  | itm n ps hn hr => exact absurd (show ("items" : Str) = "worth" from r) (by decide)
  | row n ps hn hr => exact absurd (show ("rows" : Str) = "worth" from r) (by decide)
end Kq

/-! items: how long their texts are, the texts, and their words again -/
namespace Kq
open PySem PySem.Spec PyProof.Rows L2 Kf Kg Kv GxR Kk
def wl (is : List Wi) : Nat := (is.map fun j => j.wd.length + 1).sum
/-- signs of its text, at most -/
def tkl (i : Wi) : Nat := wl i.tk
theorem wl_cons (i : Wi) (is : List Wi) : wl (i :: is) = i.wd.length + 1 + wl is := by
  unfold wl
  rw [List.map_cons, List.sum_cons]
theorem wl_app (is js : List Wi) : wl (is ++ js) = wl is + wl js := by
  unfold wl
  rw [List.map_append, List.sum_append]
theorem wl_len : ∀ is : List Wi, is.length ≤ wl is
  | [] => Nat.zero_le _
  | i :: is => by
    have := wl_len is
    rw [wl_cons, List.length_cons]
    omega
theorem tkl_ps (i : Wi) : tkl i = i.wd.length + 1 + wl (Wi.tks i.ps) := by
  unfold tkl
  rw [Wi.tk_eq, wl_cons]
theorem wl_tks : ∀ {is : List Wi} {p : Wi}, p ∈ is → tkl p ≤ wl (Wi.tks is)
  | i :: is, p, h => by
    rw [Wi.tks, wl_app]
    rcases List.mem_cons.mp h with rfl | h
    · exact Nat.le_add_right _ _
    · exact Nat.le_trans (wl_tks h) (Nat.le_add_left _ _)
theorem tkl_mem {i p : Wi} (h : p ∈ i.ps) : tkl p + 1 ≤ tkl i := by
  have := wl_tks h
  rw [tkl_ps i]
  omega
theorem pairs_wts : ∀ (n : Nat) (ds : List Dt), ds.length = 2 * n → (ds.map Dt.wt).sum + n ≤ Dt.wts (pairs ds)
  | 0, [], _ => Nat.zero_le _
  | n + 1, [], h => by simp at h
  | 0, a :: r, h => by simp at h
  | n + 1, [a], h => by simp at h; omega
  | n + 1, a :: b :: r, h => by
    have ih := pairs_wts n r (by simp only [List.length_cons] at h; omega)
    show _ ≤ Dt.wts (.tup [a, b] :: pairs r)
    simp only [List.map_cons, List.sum_cons, Dt.wts, Dt.wt]
    omega
theorem pairs_loc {L B : Nat} : ∀ (n : Nat) (ds : List Dt), ds.length = 2 * n → (∀ y ∈ pairs ds, y.loc L B) → ∀ x ∈ ds, x.loc L B
  | 0, [], _, _, x, hx => nomatch hx
  | n + 1, [], h, _, _, _ => by simp at h
  | 0, a :: r, h, _, _, _ => by simp at h
  | n + 1, [a], h, _, _, _ => by simp at h; omega
  | n + 1, a :: b :: r, h, k, x, hx => by
    have k : ∀ y ∈ Dt.tup [a, b] :: pairs r, y.loc L B := k
    have h0 := (loc_tup.mp (k _ List.mem_cons_self)).2
    rcases List.mem_cons.mp hx with rfl | hx
    · exact h0 _ (by simp)
    rcases List.mem_cons.mp hx with rfl | hx
    · exact h0 _ (by simp)
    · exact pairs_loc n r (by simp only [List.length_cons] at h; omega) (fun y hy => k y (List.mem_cons_of_mem _ hy)) x hx
theorem ps_even {n : Nat} {ps : List Wi} (h : ps.map Wi.rl = nk n) : (ps.map Wi.d).length = 2 * n := by
  have e := congrArg List.length h
  rw [List.length_map, nk_len] at e
  rw [List.length_map]
  exact e
theorem wts_sum (ds : List Dt) : (ds.map Dt.wt).sum ≤ Dt.wts ds := by
  induction ds with
  | nil => exact Nat.zero_le _
  | cons x xs ih =>
    simp only [List.map_cons, List.sum_cons, Dt.wts]
    omega
theorem wts_ge (ds : List Dt) : (ds.map Dt.wt).sum + ds.length ≤ Dt.wts ds := by
  induction ds with
  | nil => exact Nat.zero_le _
  | cons x xs ih =>
    simp only [List.map_cons, List.sum_cons, Dt.wts, List.length_cons]
    omega
theorem tks_wt : ∀ (n : Nat) (is : List Wi), (Wi.tks is).length ≤ n → oks is → (∀ i ∈ is, i.d.loc 400 (10 ^ 50)) → wl (Wi.tks is) ≤ (is.map fun i => i.d.wt).sum
  | n, [], _, _, _ => by rw [Wi.tks]; exact Nat.zero_le _
  | 0, i :: is, hn, _, _ => by
    rw [Wi.tks_cons] at hn
    simp at hn
  | n + 1, i :: is, hn, o, lo => by
    have oi := (oks_iff.mp o) i List.mem_cons_self
    have o2 : oks (i.ps ++ is) := oks_iff.mpr fun k hk => by
      rcases List.mem_append.mp hk with hk | hk
      · exact oi.ps k hk
      · exact (oks_iff.mp o) k (List.mem_cons_of_mem _ hk)
    rw [Wi.tks_cons, List.length_cons] at hn
    have key : (∀ p ∈ i.ps, p.d.loc 400 (10 ^ 50)) ∧ i.wd.length + 1 + (i.ps.map fun i => i.d.wt).sum ≤ i.d.wt := by
      have l0 := lo i List.mem_cons_self
      have h1 := oi.one
      cases h1 with
      | nam m hm =>
        refine ⟨fun p hp => (nomatch hp), ?_⟩
        show m.length + 1 + 0 ≤ (Dt.str m).wt
        simp only [Dt.wt]
        omega
      | num k hk =>
        refine ⟨fun p hp => (nomatch hp), ?_⟩
        have l1 := loc_int.mp l0
        have := numS_len (n := k) (k := 50) (by decide) (by omega)
        show (numS k).length + 1 + 0 ≤ (Dt.int k).wt
        simp only [Dt.wt]
        omega
      | wnm r2 k h2 hk =>
        refine ⟨fun p hp => (nomatch hp), ?_⟩
        have l1 := loc_int.mp l0
        have := numS_len (n := k) (k := 50) (by decide) (by omega)
        show (numS k).length + 1 + 0 ≤ (Dt.int k).wt
        simp only [Dt.wt]
        omega
      | wtr r2 b h2 =>
        refine ⟨fun p hp => (nomatch hp), ?_⟩
        show (yn b).length + 1 + 0 ≤ (Dt.bl b).wt
        cases b <;> decide +kernel
      | frm r w ps hr =>
        refine ⟨fun p hp => (loc_tup.mp l0).2 _ (List.mem_cons_of_mem _ (List.mem_map_of_mem hp)), ?_⟩
        have z := wts_sum (ps.map Wi.d)
        rw [List.map_map] at z
        show w.length + 1 + (ps.map (Dt.wt ∘ Wi.d)).sum ≤ (Dt.tup (.str w :: ps.map Wi.d)).wt
        simp only [Dt.wt, Dt.wts]
        omega
      | itm m ps hm hr =>
        refine ⟨fun p hp => (loc_tup.mp l0).2 _ (List.mem_map_of_mem hp), ?_⟩
        have z := wts_ge (ps.map Wi.d)
        have z1 := wts_sum (ps.map Wi.d)
        rw [List.map_map] at z1
        have lp : ps.length = m := by
          have e := congrArg List.length hr
          rw [List.length_map, List.length_replicate] at e
          exact e
        rw [List.length_map, lp, List.map_map] at z
        have dg : (numS m).length ≤ m + 1 := by
          by_cases h : m < 10
          · have := numS_len (n := m) (k := 1) (by decide) (by omega)
            omega
          · have := numS_len (n := m) (k := 4) (by decide) (by omega)
            omega
        show (numS m).length + 1 + (ps.map (Dt.wt ∘ Wi.d)).sum ≤ (Dt.tup (ps.map Wi.d)).wt
        simp only [Dt.wt]
        omega
      | row m ps hm hr =>
        have ev := ps_even hr
        refine ⟨fun p hp => pairs_loc m _ ev (loc_tup.mp l0).2 _ (List.mem_map_of_mem hp), ?_⟩
        have z := pairs_wts m _ ev
        rw [List.map_map] at z
        have dg : (numS m).length ≤ m + 1 := by
          by_cases h : m < 10
          · have := numS_len (n := m) (k := 1) (by decide) (by omega)
            omega
          · have := numS_len (n := m) (k := 4) (by decide) (by omega)
            omega
        show (numS m).length + 1 + (ps.map (Dt.wt ∘ Wi.d)).sum ≤ (Dt.tup (pairs (ps.map Wi.d))).wt
        simp only [Dt.wt]
        omega
    have ih := tks_wt n (i.ps ++ is) (by omega) o2 fun k hk => by
      rcases List.mem_append.mp hk with hk | hk
      · exact key.1 k hk
      · exact lo k (List.mem_cons_of_mem _ hk)
    rw [Wi.tks_cons, wl_cons, List.map_cons, List.sum_cons]
    rw [List.map_append, List.sum_append] at ih
    have := key.2
    omega
theorem tkl_wt {i : Wi} (o : ok i) (lo : i.d.loc 400 (10 ^ 50)) : tkl i ≤ i.d.wt := by
  have z := tks_wt _ [i] (Nat.le_refl _) (oks_iff.mpr fun k hk => by rw [List.mem_singleton.mp hk]; exact o) (fun k hk => by rw [List.mem_singleton.mp hk]; exact lo)
  rw [tks1] at z
  show wl i.tk ≤ _
  simpa using z
/-! texts -/
def tx (i : Wi) : Str := Txt.join (Str.ofString " ") (i.tk.map Wi.wd)
open TL in
theorem joinL_len (S : List Nat) : ∀ ps : List (List Nat), (joinL S ps).length ≤ (ps.map fun p => p.length + S.length).sum
  | [] => Nat.le_refl _
  | [p] => by
    show p.length ≤ p.length + S.length + 0
    omega
  | p :: q :: r => by
    have ih := joinL_len S (q :: r)
    show (p ++ (S ++ joinL S (q :: r))).length ≤ p.length + S.length + ((q :: r).map fun p => p.length + S.length).sum
    rw [List.length_append, List.length_append]
    omega
open TL in
theorem join_wl (l : List Wi) : (Txt.join (Str.ofString " ") (l.map Wi.wd)).length ≤ wl l := by
  have e : (tl (Txt.join (Str.ofString " ") (l.map Wi.wd))).length = (Txt.join (Str.ofString " ") (l.map Wi.wd)).length := Array.length_toList
  rw [← e, join_eq, tl_join]
  refine Nat.le_trans (joinL_len _ _) ?_
  rw [show (tl (Str.ofString " ")).length = 1 from rfl]
  clear e
  induction l with
  | nil => exact Nat.le_refl _
  | cons j l ih =>
    rw [wl_cons, List.map_cons, List.map_cons, List.map_cons, List.sum_cons]
    have e1 : (tl j.wd).length = j.wd.length := Array.length_toList
    rw [e1]
    omega
theorem tx_len (i : Wi) : (tx i).length ≤ tkl i := join_wl i.tk
theorem lets_no : (32 : Nat) ∉ lets.cps.toList := by decide +kernel
theorem nm_no {n : Str} (h : nmS n = true) : (32 : Nat) ∉ TL.tl n := by
  unfold nmS at h
  intro z
  have h2 := List.all_eq_true.mp (Bool.and_eq_true_iff.mp h).2 _ z
  exact lets_no (of_decide_eq_true h2)
theorem num_no (k : Nat) : (32 : Nat) ∉ TL.tl (numS k) := by
  rw [tl_numS]
  exact TL.numL_free (.inl (by decide))
theorem wd_no {i : Wi} (h : Ok1 i) : (32 : Nat) ∉ TL.tl i.wd := by
  cases h with
  | nam n hn => exact nm_no hn
  | num k hk => exact num_no k
  | wnm r k h2 hk => exact num_no k
  | wtr r b h2 => cases b <;> (show (32 : Nat) ∉ TL.tl (yn _); decide +kernel)
  | frm r w ps hr => exact (frm_no hr).2.2
  | itm n ps hn hr => exact num_no n
  | row n ps hn hr => exact num_no n
open TL in
theorem tx_split {i : Wi} (h : ok i) : Txt.split (tx i) (Str.ofString " ") = i.tk.map Wi.wd := by
  unfold tx
  refine split_join (s := 32) (S := []) rfl (by decide +kernel) ?_ (fun p hp => ?_)
  · rw [Wi.tk_eq]
    simp
  · obtain ⟨j, hj, rfl⟩ := List.mem_map.mp hp
    exact wd_no (h j hj)
theorem tx_inj {i j : Wi} (oi : ok i) (oj : ok j) (r : i.rl = j.rl) (h : tx i = tx j) : i = j := by
  refine tk_inj oi oj r ?_
  rw [← tx_split oi, ← tx_split oj, h]
end Kq

/-! list(zip(a, b)) -/
namespace Kz
open PySem PySem.Spec PyProof.Rows L2
section
variable {prog : Program} {w : World} {A : Around} {E : Value → Shared → Prop} {s : Shared} {z TI TO i1 i2 T : Addr} {fp1 fp2 : List Addr} {n1 n2 i : Nat} {P1 P2 : Nat → Value → Prop} {St1 St2 : Nat → Heap → Prop} {f : Bool} {oT : Obj}
/-- a turn of the zip while its tuple T is out -/
theorem outItem {Q : Value → Shared → Prop} (S : ZipSep2 z TI TO i1 i2 fp1 fp2) (D1 : Draws prog w A i1 fp1 n1 P1 St1) (D2 : Draws prog w A i2 fp2 n2 P2 St2)
    (hz : IsZipHeld s.heap z TI TO T f) (hT : s.heap.get? T = some oT) (hTI : IsTupOf2 s.heap TI (.ref i1) (.ref i2)) (st1 : St1 i s.heap) (st2 : St2 i s.heap) (l1 : i < n1) (l2 : i < n2)
    (q : ∀ x1 x2 h' tk, P1 i x1 → P2 i x2 → IsZipHeld h' z TI TO T true → St1 (i + 1) h' → St2 (i + 1) h' → IsTupOf2 h' s.heap.objs.size x1 x2 → h'.objs.size = s.heap.objs.size + 1 →
      (∀ c o, c ≠ z → c ≠ i1 → c ≠ i2 → s.heap.get? c = some o → h'.get? c = some o) → Q (.ref s.heap.objs.size) { s with heap := h', toks := tk }) :
    wpAny (model prog w) A (Builtin.«zip.__next__» ⟨[.ref z], []⟩) (fun fin s' => ∃ v, fin = .done (.ret v) ∧ Q v s') E s := by
  obtain ⟨hp, g, d, tk0, os⟩ := s
  show wpAny _ _ (field (.ref z) 2 >>= _) _ _ _
  refine wpAny_bind (wpAny_field hz rfl (x := .bool false) rfl ?_)
  show wpAny _ _ (field (.ref z) 3 >>= _) _ _ _
  refine wpAny_bind (wpAny_field hz rfl (x := .ref TI) rfl ?_)
  refine wpAny_bind (wpAny_seqItems hTI rfl ?_)
  show wpAny _ _ (Builtin.SmallTypes.ownedTupleIsFree (.ref z) >>= _) _ _ _
  refine wpAny_bind (wpAny_tupleHeld_zip hz hT fun ha za sa => ?_)
  replace sa : Heap.SameBut z hp ha := sa
  simp only [Bool.false_eq_true, if_false]
  refine wpAny_bind ?_
  rw [← Array.forIn_toList]
  simp only [List.forIn_cons, List.forIn_nil]
  refine wpAny_bind (wpAny_bind (wpAny_holding ?_))
  show wpAny _ _ (Builtin.SmallTypes.nextOf (.ref i1) >>= _) _ _ ⟨ha, g, d, tk0, os⟩
  refine wpAny_bind (D1.item i ⟨ha, g, d, tk0, os⟩ _ _ l1 (D1.over st1 sa S.zf1) fun x1 hb tkb px1 tb sb => wpAny_pure ?_)
  replace sb : Heap.SameBut i1 ha hb := sb
  refine wpAny_pure ?_
  refine wpAny_bind (wpAny_bind (wpAny_holding ?_))
  show wpAny _ _ (Builtin.SmallTypes.nextOf (.ref i2) >>= _) _ _ ⟨hb, g, d, tkb, os⟩
  refine wpAny_bind (D2.item i ⟨hb, g, d, tkb, os⟩ _ _ l2 (D2.over (D2.over st2 sa S.zf2) sb S.sep1_2) fun x2 hc tkc px2 tc sc => wpAny_pure ?_)
  replace sc : Heap.SameBut i2 hb hc := sc
  refine wpAny_pure (wpAny_pure ?_)
  show wpAny _ _ (newTuple [x1, x2] >>= _) _ _ ⟨hc, g, d, tkc, os⟩
  refine wpAny_bind (wpAny_newTuple ?_)
  have sz : hc.objs.size = hp.objs.size := by rw [sc.1, sb.1, sa.1]
  have zc : IsZipHeld hc z TI TO T true := sc.extBut _ _ S.zi2 (sb.extBut _ _ S.zi1 za)
  have kc : ∀ c o, c ≠ z → c ≠ i1 → c ≠ i2 → hp.get? c = some o → hc.get? c = some o := fun c o c1 c2 c3 e => sc.extBut _ _ c3 (sb.extBut _ _ c2 (sa.extBut _ _ c1 e))
  have ub : ∀ b o, hc.get? b = some o → (hc.push { cls := .type "tuple", data := .seq #[x1, x2] }).get? b = some o := fun b o e => Heap.get?_push_of_some _ e
  refine wpAny_pure ⟨_, rfl, ?_⟩
  show Q (.ref hc.objs.size) _
  have pp : IsTupOf2 (hc.push { cls := .type "tuple", data := .seq #[x1, x2] }) hc.objs.size x1 x2 := Heap.get?_push_size _ rfl
  have ps : (hc.push { cls := .type "tuple", data := .seq #[x1, x2] }).objs.size = hc.objs.size + 1 := Heap.size_push ..
  rw [sz] at pp ps ⊢
  exact q x1 x2 _ tkc px1 px2 (ub _ _ zc) (D1.frame _ _ _ (D1.over tb sc S.sep2_1) fun b _ o e => ub b o e) (D2.frame _ _ _ tc fun b _ o e => ub b o e) pp ps fun c o c1 c2 c3 e => ub _ _ (kc c o c1 c2 c3 e)
theorem outEnd {Q : Fin → Shared → Prop} (S : ZipSep2 z TI TO i1 i2 fp1 fp2) (D1 : Draws prog w A i1 fp1 n1 P1 St1) (D2 : Draws prog w A i2 fp2 n2 P2 St2)
    (hz : IsZipHeld s.heap z TI TO T f) (hT : s.heap.get? T = some oT) (hTI : IsTupOf2 s.heap TI (.ref i1) (.ref i2)) (st1 : St1 i s.heap) (st2 : St2 i s.heap) (l1 : i ≤ n1) (l2 : i ≤ n2) (last : i = n1 ∨ i = n2)
    (q : ∀ h' tk e, (∀ c o, c ≠ z → c ≠ i1 → c ≠ i2 → s.heap.get? c = some o → h'.get? c = some o) → (∃ o, h'.get? e = some o ∧ o.cls = .type "StopIteration") → E (.ref e) { s with heap := h', toks := tk }) :
    wpAny (model prog w) A (Builtin.«zip.__next__» ⟨[.ref z], []⟩) Q E s := by
  obtain ⟨hp, g, d, tk0, os⟩ := s
  show wpAny _ _ (field (.ref z) 2 >>= _) _ _ _
  refine wpAny_bind (wpAny_field hz rfl (x := .bool false) rfl ?_)
  show wpAny _ _ (field (.ref z) 3 >>= _) _ _ _
  refine wpAny_bind (wpAny_field hz rfl (x := .ref TI) rfl ?_)
  refine wpAny_bind (wpAny_seqItems hTI rfl ?_)
  show wpAny _ _ (Builtin.SmallTypes.ownedTupleIsFree (.ref z) >>= _) _ _ _
  refine wpAny_bind (wpAny_tupleHeld_zip hz hT fun ha za sa => ?_)
  replace sa : Heap.SameBut z hp ha := sa
  simp only [Bool.false_eq_true, if_false]
  refine wpAny_bind ?_
  rw [← Array.forIn_toList]
  simp only [List.forIn_cons, List.forIn_nil]
  refine wpAny_bind (wpAny_bind (wpAny_holding ?_))
  show wpAny _ _ (Builtin.SmallTypes.nextOf (.ref i1) >>= _) _ _ ⟨ha, g, d, tk0, os⟩
  by_cases lt : i < n1
  · refine wpAny_bind (D1.item i ⟨ha, g, d, tk0, os⟩ _ _ lt (D1.over st1 sa S.zf1) fun x1 hb tkb px1 tb sb => wpAny_pure ?_)
    replace sb : Heap.SameBut i1 ha hb := sb
    refine wpAny_pure ?_
    refine wpAny_bind (wpAny_bind (wpAny_holding ?_))
    show wpAny _ _ (Builtin.SmallTypes.nextOf (.ref i2) >>= _) _ _ ⟨hb, g, d, tkb, os⟩
    have e2 : i = n2 := by omega
    refine wpAny_bind (D2.done ⟨hb, g, d, tkb, os⟩ _ _ (by rw [← e2]; exact D2.over (D2.over st2 sa S.zf2) sb S.sep1_2) fun hc e sc he => ?_)
    replace sc : Heap.ExtBut i2 hb hc := sc
    exact q hc tkb e (fun c o c1 c2 c3 u => sc _ _ c3 (sb.extBut _ _ c2 (sa.extBut _ _ c1 u))) he
  · have e1 : i = n1 := by omega
    refine wpAny_bind (D1.done ⟨ha, g, d, tk0, os⟩ _ _ (by rw [← e1]; exact D1.over st1 sa S.zf1) fun hb e sb he => ?_)
    replace sb : Heap.ExtBut i1 ha hb := sb
    exact q hb tk0 e (fun c o c1 c2 c3 u => sb _ _ c2 (sa.extBut _ _ c1 u)) he
/-- the zip before its turn i: nothing is out yet, or a tuple is -/
def Zs (z TI TO : Addr) (h : Heap) : Prop := (∃ o, h.get? TO = some o) ∧ ((IsZip h z TI TO .none ∧ ∃ a b, IsTupOf2 h TO a b) ∨ ∃ T f oT, IsZipHeld h z TI TO T f ∧ h.get? T = some oT ∧ T ≠ z ∧ oT.cls = .type "tuple")
theorem zNext {Q : Option Value → Shared → Prop} (S : ZipSep2 z TI TO i1 i2 fp1 fp2) (D1 : Draws prog w A.in1 i1 fp1 n1 P1 St1) (D2 : Draws prog w A.in1 i2 fp2 n2 P2 St2)
    (hz : Zs z TI TO s.heap) (hTI : IsTupOf2 s.heap TI (.ref i1) (.ref i2)) (hi : ∀ T, s.heap.get? T = none → T ≠ i1 ∧ T ≠ i2) (ho : ∀ T f oT, IsZipHeld s.heap z TI TO T f → s.heap.get? T = some oT → T ≠ i1 ∧ T ≠ i2) (st1 : St1 i s.heap) (st2 : St2 i s.heap) (l1 : i < n1) (l2 : i < n2)
    (q : ∀ x1 x2 h' tk, P1 i x1 → P2 i x2 → Zs z TI TO h' → IsTupOf2 h' TI (.ref i1) (.ref i2) → (∀ T f oT, IsZipHeld h' z TI TO T f → h'.get? T = some oT → T ≠ i1 ∧ T ≠ i2) → St1 (i + 1) h' → St2 (i + 1) h' → IsTupOf2 h' s.heap.objs.size x1 x2 → h'.objs.size = s.heap.objs.size + 1 →
      (∀ c o, c ≠ z → c ≠ TO → c ≠ i1 → c ≠ i2 → s.heap.get? c = some o → h'.get? c = some o) → Q (some (.ref s.heap.objs.size)) { s with heap := h', toks := tk }) :
    wpAny (model prog w) A (pyNext (.ref z)) Q E s := by
  obtain ⟨⟨oO, eO⟩, hz⟩ := hz
  rcases hz with ⟨hz, a, b, hTO⟩ | ⟨T, f, oT, hz, hT, hne, hcl⟩
  · refine wpAny_pyNext_zipD2_item S D1 D2 hz hTI hTO st1 st2 l1 l2 fun x1 x2 h' tk p1 p2 z' TO' t1 t2 nw sz kp => ?_
    have lt : z < s.heap.objs.size := Heap.lt_size hz
    have nf : s.heap.get? s.heap.objs.size = none := by
      cases e : s.heap.get? s.heap.objs.size with
      | none => rfl
      | some o => exact absurd (Heap.lt_size e) (Nat.lt_irrefl _)
    refine q x1 x2 h' tk p1 p2 ⟨⟨_, TO'⟩, .inr ⟨s.heap.objs.size, false, _, z', nw, Nat.ne_of_gt lt, rfl⟩⟩ (kp _ _ S.TIz S.TITO S.TIi1 S.TIi2 hTI) (fun T f oT hz2 hT2 => ?_) t1 t2 nw sz kp
    have e := z'.symm.trans hz2
    have e2 : T = s.heap.objs.size := by
      injection e with e
      injection e with _ _ e _
      injection e with e
      have q0 := congrArg (fun (t : Array Value) => t[0]?) e
      have q1 : some (rawInt (s.heap.objs.size : Int)) = some (rawInt (T : Int)) := q0
      injection q1 with q1
      injection q1 with q1
      exact (Int.ofNat.inj q1).symm
    rw [e2]
    exact hi _ nf
  · have ty : s.TypeIs (.ref z) "zip" := ⟨_, hz, rfl⟩
    unfold pyNext
    refine wpAny_bind (wpAny_attempt (wpAny_callSpecial?_slot (name := Str.ofString "__next__") ty F.slot_zip_next (wpAny_call_entry F.slot_zip_next ty F.entry_zip_next
      (outItem S D1 D2 hz hT hTI st1 st2 l1 l2 fun x1 x2 h' tk p1 p2 z' t1 t2 nw sz kp => wpAny_pure ?_) (F.args_zip_next_1 _))))
    obtain ⟨n1, n2⟩ := ho T f oT hz hT
    have hT' := kp _ _ hne n1 n2 hT
    refine q x1 x2 h' tk p1 p2 ⟨⟨_, kp _ _ S.TOz S.Ti1 S.Ti2 eO⟩, .inr ⟨T, true, oT, z', hT', hne, hcl⟩⟩ (kp _ _ S.TIz S.TIi1 S.TIi2 hTI) (fun T2 f2 o2 hz2 hT2 => ?_) t1 t2 nw sz fun c o c1 _ c3 c4 e => kp c o c1 c3 c4 e
    have e := z'.symm.trans hz2
    have e2 : T2 = T := by
      injection e with e
      injection e with _ _ e _
      injection e with e
      have q0 := congrArg (fun (t : Array Value) => t[0]?) e
      have q1 : some (rawInt (T : Int)) = some (rawInt (T2 : Int)) := q0
      injection q1 with q1
      injection q1 with q1
      exact (Int.ofNat.inj q1).symm
    rw [e2]
    exact ⟨n1, n2⟩
theorem zDone {Q : Option Value → Shared → Prop} (S : ZipSep2 z TI TO i1 i2 fp1 fp2) (D1 : Draws prog w A.in1 i1 fp1 n1 P1 St1) (D2 : Draws prog w A.in1 i2 fp2 n2 P2 St2)
    (hz : Zs z TI TO s.heap) (hTI : IsTupOf2 s.heap TI (.ref i1) (.ref i2)) (st1 : St1 i s.heap) (st2 : St2 i s.heap) (l1 : i ≤ n1) (l2 : i ≤ n2) (last : i = n1 ∨ i = n2)
    (q : ∀ h' tk, (∀ c o, c ≠ z → c ≠ TO → c ≠ i1 → c ≠ i2 → s.heap.get? c = some o → h'.get? c = some o) → Q none { s with heap := h', toks := tk }) :
    wpAny (model prog w) A (pyNext (.ref z)) Q E s := by
  obtain ⟨⟨oO, eO⟩, hz⟩ := hz
  rcases hz with ⟨hz, a, b, hTO⟩ | ⟨T, f, oT, hz, hT, hne, hcl⟩
  · exact wpAny_pyNext_zipD2_end S D1 D2 hz hTI hTO st1 st2 l1 l2 last q
  · have ty : s.TypeIs (.ref z) "zip" := ⟨_, hz, rfl⟩
    unfold pyNext
    refine wpAny_bind (wpAny_attempt (wpAny_callSpecial?_slot (name := Str.ofString "__next__") ty F.slot_zip_next (wpAny_call_entry F.slot_zip_next ty F.entry_zip_next
      (outEnd S D1 D2 hz hT hTI st1 st2 l1 l2 last fun h' tk e kp he => ?_) (F.args_zip_next_1 _))))
    obtain ⟨o, ho, hc⟩ := he
    refine wpAny_bind (wpAny_isInstance (T := "StopIteration") (b := true) ⟨o, ho, hc⟩ isSubtype_stop ?_)
    exact wpAny_pure (q _ _ fun c o c1 _ c3 c4 e => kp c o c1 c3 c4 e)
end
theorem nolen_zip : typeLookup (.type "zip") "__len__" = pure none := by rw [typeLookup_type, builtinLookup_eq_fast]; kernel_rfl
theorem nohint_zip : typeLookup (.type "zip") "__length_hint__" = pure none := by rw [typeLookup_type, builtinLookup_eq_fast]; kernel_rfl
/-- the pairs stand -/
def Prs (G : Hp) (ts : List Addr) (xs ys : List V) : Prop := ∀ (j : Nat) (t : Addr) (x y : V), ts[j]? = some t → xs[j]? = some x → ys[j]? = some y → G t = some (.tup [x, y])
section
variable {A : Around} {X : Cx} {pins : List (Addr × Obj)} {σ : L2.St} {z TI TO i1 i2 D : Addr} {fp1 fp2 : List Addr} {n1 n2 n : Nat} {P1 P2 : Nat → Value → Prop} {St1 St2 : Nat → Heap → Prop} {R : Result → Shared → Prop} {res : Value} {xs ys : List V} {H : Hp}
theorem zLoop (S : ZipSep2 z TI TO i1 i2 fp1 fp2) (D1 : Draws X.prog X.w A.in1.in1 i1 fp1 n1 P1 St1) (D2 : Draws X.prog X.w A.in1.in1 i2 fp2 n2 P2 St2) (hn : n = min n1 n2) (hz : n ≤ sizeLine)
    (r1 : ∀ i v, P1 i v → ∃ x, xs[i]? = some x ∧ RelV x v) (r2 : ∀ i v, P2 i v → ∃ y, ys[i]? = some y ∧ RelV y v) (nD1 : D ∉ fp1) (nD2 : D ∉ fp2) (hD : H D = none)
    (q : ∀ (s' : Shared) (G' : Hp) (ts : List Addr), Inv X pins σ G' s' → Same H G' → G' D = some (.lst (ts.map V.ref)) → ts.length = n → Prs G' ts xs ys → (∀ t ∈ ts, H t = none) → R (.ok (.ret res)) s') :
    ∀ (k i : Nat) (s : Shared) (G : Hp) (ts : List Addr), n - i = k → i ≤ n → Inv X pins σ G s → (∀ b ∈ [z, TI, TO, i1, i2], FpOk X pins G b) → Zs z TI TO s.heap → IsTupOf2 s.heap TI (.ref i1) (.ref i2) →
      (∀ T f oT, IsZipHeld s.heap z TI TO T f → s.heap.get? T = some oT → T ≠ i1 ∧ T ≠ i2) → St1 i s.heap → St2 i s.heap → Same H G → G D = some (.lst (ts.map V.ref)) → ts.length = i → Prs G ts xs ys → (∀ t ∈ ts, H t = none) →
      codeAny (model X.prog X.w) A (.builtin "list.extend.loop" ⟨[.ref D, .ref z, res], []⟩) R s := by
  intro k
  induction k with
  | zero =>
    intro i s G ts hk hi I hf hzs hTI ho t1 t2 sm gD lt pr nw
    have ei : i = n := by omega
    refine codeAny_builtin F.entry_extend_loop ?_
    rw [Around.under_plainId F.plain_extend_loop _]
    show wpAny _ A.in1 (pyNext (.ref z) >>= _) _ _ s
    refine wpAny_bind (zDone S D1 D2 hzs hTI t1 t2 (by omega) (by omega) (by omega) fun h' tk kp => ?_)
    refine wpAny_pure (q _ G ts (I.turnedL (ch := [z, TI, TO, i1, i2]) (fun c o hb e => kp c o (fun u => hb (by simp [u])) (fun u => hb (by simp [u])) (fun u => hb (by simp [u])) (fun u => hb (by simp [u])) e) hf) sm gD (by omega) pr nw)
  | succ k ih =>
    intro i s G ts hk hi I hf hzs hTI ho t1 t2 sm gD lt pr nw
    have hlt : i < n := by omega
    have live : ∀ b ∈ [z, TI, TO, i1, i2], b < s.heap.objs.size := fun b hb => by
      have hzl : z < s.heap.objs.size := by
        rcases hzs.2 with ⟨e, _⟩ | ⟨_, _, _, e, _⟩
        · exact Heap.lt_size e
        · exact Heap.lt_size e
      have hb : b = z ∨ b = TI ∨ b = TO ∨ b = i1 ∨ b = i2 := by simpa using hb
      rcases hb with e | e | e | e | e
      · rw [e]; exact hzl
      · rw [e]; exact Heap.lt_size hTI
      · rw [e]; obtain ⟨_, e⟩ := hzs.1; exact Heap.lt_size e
      · rw [e]; obtain ⟨_, e⟩ := D1.live _ _ t1; exact Heap.lt_size e
      · rw [e]; obtain ⟨_, e⟩ := D2.live _ _ t2; exact Heap.lt_size e
    have nDc : ∀ b ∈ [z, TI, TO, i1, i2], D ≠ b := fun b hb e => by
      have h0 := (hf b hb).1
      rw [← e, gD] at h0
      cases h0
    refine codeAny_builtin F.entry_extend_loop ?_
    rw [Around.under_plainId F.plain_extend_loop _]
    show wpAny _ A.in1 (pyNext (.ref z) >>= _) _ _ s
    refine wpAny_bind (zNext S D1 D2 hzs hTI (fun T e => ?_) ho t1 t2 (by omega) (by omega) fun x1 x2 h' tk p1 p2 zs' ti' ho' u1 u2 nt sz kp => ?_)
    · obtain ⟨_, e1⟩ := D1.live _ _ t1
      obtain ⟨_, e2⟩ := D2.live _ _ t2
      exact ⟨fun w => (by rw [w, e1] at e; cases e), fun w => (by rw [w, e2] at e; cases e)⟩
    obtain ⟨x, hx, rx⟩ := r1 i x1 p1
    obtain ⟨y, hy, ry⟩ := r2 i x2 p2
    have gT : G s.heap.objs.size = none := I.hok.fresh (Nat.le_refl _)
    have new : ObjOk X.prog X.w (upd G s.heap.objs.size (.tup [x, y])) h' s.heap.objs.size (.tup [x, y]) := ⟨by show 2 ≤ sizeLine; decide, [x1, x2], .cons rx (.cons ry .nil), ⟨_, nt, rfl, _, rfl⟩⟩
    have I1 : Inv X pins σ (upd G s.heap.objs.size (.tup [x, y])) { s with heap := h', toks := tk } :=
      I.turnedNew (ch := [z, TI, TO, i1, i2]) (fun c o hb e => kp c o (fun u => hb (by simp [u])) (fun u => hb (by simp [u])) (fun u => hb (by simp [u])) (fun u => hb (by simp [u])) e) hf (Nat.le_refl _) new
    have DT : D ≠ s.heap.objs.size := ne_of_none gD gT
    have gD1 : upd G s.heap.objs.size (.tup [x, y]) D = some (.lst (ts.map V.ref)) := by rw [upd_ne DT]; exact gD
    obtain ⟨_, its, c0, rv, _, raw⟩ := I1.lstM gD1
    have ln := rv.length
    rw [List.length_map] at ln
    show wpAny _ A.in1 (updateSeq D (·.push (.ref s.heap.objs.size)) >>= _) _ _ _
    refine wpAny_bind ?_
    refine wpAny_updateSeq raw rfl ?_ (by rw [List.size_toArray]; omega) (by rw [Array.size_push, List.size_toArray]; omega)
    have I2 := I1.lset (ys := (ts ++ [s.heap.objs.size]).map V.ref) (its' := its ++ [Value.ref s.heap.objs.size]) (t' := tk) gD1 raw (f := (·.push (Value.ref s.heap.objs.size))) (by simp) (by rw [List.map_append]; exact rv.append (.cons rfl .nil)) (by rw [List.length_map, List.length_append]; simp only [List.length_cons, List.length_nil]; omega)
    have oth : ∀ b o, b ≠ D → h'.get? b = some o → (h'.update D (Obj.mapSeq (·.push (Value.ref s.heap.objs.size)))).get? b = some o := fun b o hb e => (Heap.get?_update_other _ _ (Ne.symm hb)).trans e
    have smT : ∀ t o, G t = some o → t ≠ D → upd (upd G s.heap.objs.size (.tup [x, y])) D (.lst ((ts ++ [s.heap.objs.size]).map V.ref)) t = some o := fun t o e hd => by
      rw [upd_ne hd, upd_ne (ne_of_none e gT)]
      exact e
    refine wpAny_pure ⟨plainId_quiet F.plain_extend_loop _, ih (i + 1) _ _ (ts ++ [s.heap.objs.size]) (by omega) hlt I2 (fun b hb => ?_) ?_ (oth _ _ (Ne.symm (nDc TI (by simp))) ti') (fun T f oT e1 e2 => ?_) (D1.frame _ _ _ u1 fun b hb o e => oth b o (fun w => nD1 (w ▸ hb)) e) (D2.frame _ _ _ u2 fun b hb o e => oth b o (fun w => nD2 (w ▸ hb)) e)
      ?sm upd_same (by rw [List.length_append]; simp only [List.length_cons, List.length_nil]; omega) ?pr (fun t ht => ?_)⟩
    · refine ⟨?_, (hf b hb).2⟩
      rw [upd_ne (Ne.symm (nDc b hb)), upd_ne (Nat.ne_of_lt (live b hb))]
      exact (hf b hb).1
    · obtain ⟨⟨oO, eO⟩, zz⟩ := zs'
      refine ⟨⟨oO, oth _ _ (Ne.symm (nDc TO (by simp))) eO⟩, ?_⟩
      rcases zz with ⟨hz, a, b, hTO⟩ | ⟨T, f, oT, hz, hT, hne, hcl⟩
      · exact .inl ⟨oth _ _ (Ne.symm (nDc z (by simp))) hz, a, b, oth _ _ (Ne.symm (nDc TO (by simp))) hTO⟩
      · refine .inr ⟨T, f, oT, oth _ _ (Ne.symm (nDc z (by simp))) hz, oth _ _ (fun w => ?_) hT, hne, hcl⟩
        rw [w] at hT
        have q0 := raw.symm.trans hT
        injection q0 with q0
        rw [← q0] at hcl
        injection hcl with hcl
        exact absurd hcl (by decide)
    · have e1 : IsZipHeld h' z TI TO T f := (Heap.get?_update_other _ _ (nDc z (by simp))).symm.trans e1
      by_cases w : D = T
      · exact ⟨fun u => nDc i1 (by simp) (w.trans u), fun u => nDc i2 (by simp) (w.trans u)⟩
      · exact ho' T f oT e1 ((Heap.get?_update_other _ _ w).symm.trans e2)
    case sm => exact fun t o e => smT t o (sm t o e) (fun w => by rw [w, hD] at e; cases e)
    case pr =>
      intro j t a b e1 e2 e3
      by_cases hj : j < ts.length
      · rw [List.getElem?_append_left hj] at e1
        have g := pr j t a b e1 e2 e3
        exact smT t _ g fun w => by rw [w, gD] at g; cases g
      · have hj2 : j < (ts ++ [s.heap.objs.size]).length := (List.getElem?_eq_some_iff.mp e1).1
        rw [List.length_append] at hj2
        simp only [List.length_cons, List.length_nil] at hj2
        have ej : j = i := by omega
        subst ej
        rw [List.getElem?_append_right (by omega), show j - ts.length = 0 by omega] at e1
        cases e1
        rw [hx] at e2
        rw [hy] at e3
        cases e2
        cases e3
        rw [upd_ne (Ne.symm DT)]
        exact upd_same
    · rcases List.mem_append.mp ht with h | h
      · exact nw t h
      · rw [List.mem_singleton.mp h]
        cases e : H s.heap.objs.size with
        | none => rfl
        | some o => rw [sm _ _ e] at gT; cases gT
/-- listExtendWith of a zip -/
theorem zGrow {s : Shared} (T : s.TypeIs (.ref z) "zip") (hz : IsZip s.heap z TI TO .none) (hne : D ≠ z) (eD : s.heap.get? D = some { cls := .type "list", data := .seq #[] })
    (k : ∀ h', (∀ b o, b ≠ D → s.heap.get? b = some o → h'.get? b = some o) → (∃ c0, h'.get? D = some { cls := .type "list", data := .seq #[] c0 }) → codeAny (model X.prog X.w) A (.builtin "list.extend.loop" ⟨[.ref D, .ref z, res], []⟩) R { s with heap := h' }) :
    wpAny (model X.prog X.w) A.in1 (Builtin.List.listExtendWith (.ref D) (.ref z) res)
      (fun fin s' => match fin with
        | .done f => R (.ok f) s'
        | .again c' => c'.quiet = true ∧ codeAny (model X.prog X.w) A c' R s') (fun e s' => R (.error e) s') s := by
  unfold Builtin.List.listExtendWith
  refine wpAny_bind (wpAny_typeOf T ?_)
  have no : Builtin.List.listSameRef (.ref D) (.ref z) = false := by simp [Builtin.List.listSameRef, hne]
  rw [if_neg (by rw [no]; decide)]
  refine wpAny_bind (wpAny_pyIter_zip hz ?_)
  refine wpAny_bind (wpAny_holding ?_)
  unfold Builtin.List.listLengthHint
  refine wpAny_bind (wpAny_specialOf T nolen_zip ?_)
  show wpAny _ A.in1 (specialOf (.ref z) (Str.ofString "__length_hint__") >>= _) _ _ _
  refine wpAny_bind (wpAny_specialOf T nohint_zip ?_)
  refine wpAny_pure ?_
  show wpAny _ A.in1 (rule "list.extend.makes-room" >>= fun _ => Builtin.List.listTouch (.ref D) >>= fun _ => again (.builtin "list.extend.loop" ⟨[.ref D, .ref z, res], []⟩)) _ _ _
  refine wpAny_bind (wpAny_rule (wpAny_bind ?_))
  show wpAny _ A.in1 (updateSeq D (·.push .none) >>= fun _ => updateSeq D (·.pop)) _ _ _
  refine wpAny_bind (wpAny_updateSeq eD rfl ?_)
  have e2 := Heap.get?_update_self (Obj.mapSeq (·.push Value.none)) eD rfl
  refine wpAny_updateSeq e2 rfl ?_
  have e3 := Heap.get?_update_self (Obj.mapSeq (·.pop)) e2 rfl
  exact wpAny_pure ⟨plainId_quiet F.plain_extend_loop _, k _ (fun b o hb e => (Heap.get?_update_other _ _ (Ne.symm hb)).trans ((Heap.get?_update_other _ _ (Ne.symm hb)).trans e)) ⟨_, e3⟩⟩
theorem neN (a b : Nat) (h : a < b ∨ b < a) : a ≠ b := by omega
theorem nin2 (D B l : Nat) (h1 : D < B ∨ B < D) (h2 : D < l ∨ l < D) : D ∉ [B, l] := by
  simp only [List.mem_cons, List.not_mem_nil, or_false]
  omega
theorem sepN (B l1 l2 : Nat) (h1 : l1 < B) (h2 : l2 < B) : ZipSep2 (B + 4) (B + 2) (B + 3) B (B + 1) [B, l1] [B + 1, l2] :=
  ⟨neN _ _ (by omega), neN _ _ (by omega), neN _ _ (by omega), neN _ _ (by omega), List.mem_cons_self, nin2 _ _ _ (by omega) (by omega), nin2 _ _ _ (by omega) (by omega), neN _ _ (by omega), List.mem_cons_self,
    nin2 _ _ _ (by omega) (by omega), nin2 _ _ _ (by omega) (by omega), nin2 _ _ _ (by omega) (by omega), nin2 _ _ _ (by omega) (by omega)⟩
theorem ninN (D B l : Nat) (h : B < D) (hl : l < D) : D ∉ [B, l] := by
  simp only [List.mem_cons, List.not_mem_nil, or_false]
  omega
theorem inN (B b : Nat) (h : b = B + 4 ∨ b = B + 2 ∨ b = B + 3 ∨ b = B ∨ b = B + 1) : B ≤ b ∧ b < B + 5 := by omega
theorem vback {xs : List V} {its : List Value} {i : Nat} {v : Value} (r : Vals xs its) (e : its[i]? = some v) : ∃ x, xs[i]? = some x ∧ RelV x v := by
  have h := (List.getElem?_eq_some_iff.mp e).1
  rw [← r.length] at h
  obtain ⟨u, hu, ru⟩ := r.get (List.getElem?_eq_getElem h)
  rw [e] at hu
  cases hu
  exact ⟨_, List.getElem?_eq_getElem h, ru⟩
/-- what list(zip(a, b)) asks -/
def tZipL (K : PySem.W.Frag) (ta : TA) : TE := fun σ H Q => ta σ H fun vs G => ∃ (a b : Addr) (xs ys : List V), vs = [.ref a, .ref b] ∧ ((SqL K G a xs ∧ SqL K G b ys) ∨ (SqT K G a xs ∧ SqT K G b ys)) ∧
  ∀ (q : Addr) (ts : List Addr) (F : Hp), Same G F → G q = none → F q = some (.lst (ts.map V.ref)) → ts.length = min xs.length ys.length → Prs F ts xs ys → (∀ t ∈ ts, G t = none) → Q (.ref q) F
theorem zList {Q0 Q : Value → Shared → Prop} {E : Value → Shared → Prop} {s1 : Shared} {o1 o2 : Obj} {v1 v2 : Value} {H1 H2 : Heap → Prop} {l1 l2 : Addr} (hh : A.handled = none) (I : Inv X pins σ H s1) (B1 : Begins v1 o1 H1) (B2 : Begins v2 o2 H2) (h1 : H1 s1.heap) (h2 : H2 s1.heap)
    (L1 : l1 < s1.heap.objs.size) (L2 : l2 < s1.heap.objs.size)
    (D1 : ∀ A' : Around, A'.handled = none → Draws X.prog X.w A' s1.heap.objs.size [s1.heap.objs.size, l1] n1 P1 St1) (D2 : ∀ A' : Around, A'.handled = none → Draws X.prog X.w A' (s1.heap.objs.size + 1) [s1.heap.objs.size + 1, l2] n2 P2 St2)
    (hn : n = min n1 n2) (hz : n ≤ sizeLine) (r1 : ∀ i v, P1 i v → ∃ x, xs[i]? = some x ∧ RelV x v) (r2 : ∀ i v, P2 i v → ∃ y, ys[i]? = some y ∧ RelV y v)
    (b1 : ∀ h', h'.get? s1.heap.objs.size = some o1 → (∀ c o, s1.heap.get? c = some o → h'.get? c = some o) → St1 0 h') (b2 : ∀ h', h'.get? (s1.heap.objs.size + 1) = some o2 → (∀ c o, s1.heap.get? c = some o → h'.get? c = some o) → St2 0 h')
    (q : ∀ (s' : Shared) (G' : Hp) (ts : List Addr) (D : Addr), Inv X pins σ G' s' → Same H G' → H D = none → G' D = some (.lst (ts.map V.ref)) → ts.length = n → Prs G' ts xs ys → (∀ t ∈ ts, H t = none) → Q (.ref D) s')
    (q0 : ∀ v s2, wpAny (model X.prog X.w) A (call (.type "list") [v]) Q E s2 → Q0 v s2) : wpAny (model X.prog X.w) A (call (.type "zip") [v1, v2]) Q0 E s1 := by
  refine zip_begins2 B1 B2 h1 h2 fun h' hz0 hTI hTO e1 e2 sz kp => q0 _ _ ?_
  generalize hB : s1.heap.objs.size = B at *
  have dz : h'.objs.size ≠ B + 4 := by omega
  refine callType_codes (Q₁ := fun obj s₁ => obj = .ref h'.objs.size ∧ s₁ = { s1 with heap := h'.push { cls := .type "list", data := .seq #[] } })
    F.called_list (F.typeCall_list_1 _) F.entry_list_init (code_list_new _ ⟨rfl, rfl⟩) (fun obj s₁ h₁ => ?_)
  obtain ⟨rfl, rfl⟩ := h₁
  have eD : (h'.push { cls := .type "list", data := .seq #[] }).get? h'.objs.size = some { cls := .type "list", data := .seq #[] } := Heap.get?_push_size _ rfl
  refine ⟨⟨_, eD, rfl⟩, F.args_list_init_2 _ _, ?_⟩
  show wpAny _ _ (do
    let old ← Builtin.List.listItems (.ref h'.objs.size)
    Builtin.List.listUpdate (.ref h'.objs.size) (fun _ => #[])
    letGo old.toList.reverse
    Builtin.List.listExtendWith (.ref h'.objs.size) (.ref (B + 4)) .none) _ _ _
  refine wpAny_bind ?_
  unfold Builtin.List.listItems
  refine wpAny_bind (wpAny_seqItems eD rfl (wpAny_pure ?_))
  show wpAny _ _ (do
    updateSeq h'.objs.size (fun _ => #[])
    letGo (#[] : Array Value).toList.reverse
    Builtin.List.listExtendWith (.ref h'.objs.size) (.ref (B + 4)) .none) _ _ _
  refine wpAny_bind (wpAny_updateSeq eD rfl ?_)
  have eD2 := Heap.get?_update_self (Obj.mapSeq fun _ => (#[] : Array Value)) eD rfl
  refine wpAny_bind (wpAny_letGo ?_)
  generalize hh2 : (h'.push { cls := .type "list", data := .seq #[] }).update h'.objs.size (Obj.mapSeq fun _ => (#[] : Array Value)) = g2 at eD2 ⊢
  have k2 : ∀ b o, h'.get? b = some o → g2.get? b = some o := fun b o e => by
    rw [← hh2, Heap.get?_update_other _ _ (Nat.ne_of_gt (Heap.lt_size e))]
    exact Heap.get?_push_of_some _ e
  refine zGrow (X := X) (s := { s1 with heap := g2 }) ⟨_, k2 _ _ hz0, rfl⟩ (k2 _ _ hz0) dz eD2 fun g3 k3 e3 => ?_
  obtain ⟨c0, e3⟩ := e3
  have k23 : ∀ b o, h'.get? b = some o → g3.get? b = some o := fun b o e => k3 b o (Nat.ne_of_lt (Heap.lt_size e)) (k2 b o e)
  have kall : ∀ b o, s1.heap.get? b = some o → g3.get? b = some o := fun b o e => k23 b o (kp b o e)
  have hle : s1.heap.objs.size ≤ h'.objs.size := by omega
  have hD : H h'.objs.size = none := I.hok.fresh hle
  have I3 : Inv X pins σ (upd H h'.objs.size (.lst [])) { s1 with heap := g3 } := I.laid (t' := s1.toks) kall hle (show ObjOk X.prog X.w _ _ _ (.lst []) from ⟨Nat.zero_le _, [], c0, .nil, e3⟩)
  have S := sepN B l1 l2 L1 L2
  refine zLoop (A := A.in1) S (D1 _ hh) (D2 _ hh) hn hz r1 r2 (D := h'.objs.size) (xs := xs) (ys := ys) ?_ ?_ hD (fun s' G' ts I' sm gD lt pr nw => ⟨rfl, q s' G' ts _ I' sm hD gD lt pr nw⟩) n 0 _ (upd H h'.objs.size (.lst [])) [] (by omega) (Nat.zero_le _) I3 (fun b hb => ?_) ⟨⟨_, k23 _ _ hTO⟩, .inl ⟨k23 _ _ hz0, _, _, k23 _ _ hTO⟩⟩ (k23 _ _ hTI) (fun T f oT e1 e2 => ?_) (b1 _ (k23 _ _ e1) kall) (b2 _ (k23 _ _ e2) kall)
    (fun t o e => by rw [upd_ne (ne_of_none e hD)]; exact e) upd_same rfl (fun j t x y e => by simp at e) (fun t h => absurd h List.not_mem_nil)
  · exact ninN _ _ _ (by omega) (Nat.lt_of_lt_of_le L1 (by omega))
  · exact ninN _ _ _ (by omega) (Nat.lt_of_lt_of_le L2 (by omega))
  · have hb : b = B + 4 ∨ b = B + 2 ∨ b = B + 3 ∨ b = B ∨ b = B + 1 := by simpa using hb
    have l0 := inN B b hb
    have lb : s1.heap.objs.size ≤ b ∧ b ≠ h'.objs.size := ⟨by rw [hB]; exact l0.1, Nat.ne_of_lt (by omega)⟩
    refine I.fpOk lb.1 ?_
    rw [upd_ne lb.2]
    exact I.hok.fresh lb.1
  · have e := (k23 _ _ hz0).symm.trans e1
    injection e with e
    injection e with _ _ e _
    injection e with e
    have q0 := congrArg (fun (t : Array Value) => t[0]?) e
    have q1 : some Value.none = some (rawInt (T : Int)) := q0
    injection q1 with q1
    cases q1
end
section
variable {X : Cx}
theorem pe_listZip {e e2 : Expr} {ta : TA} {p p2 pos pos2 : Pos} (hc : X.calm = true) (hg : Gl X "list") (hm : X.mg "list" = none) (hg2 : Gl X "zip") (hm2 : X.mg "zip" = none) (ha : PA X [e, e2] ta)
    (hs : starEach [e, e2] X.env = (false, eval e X.env) :: starEach [e2] X.env := by rfl) (hpl : (backTo pos2 (starEach [e2] X.env)).any (·.1) = false := by rfl)
    (hs2 : starEach [.Call (.Name "zip" p2) [e, e2] [] pos2] X.env = (false, eval (.Call (.Name "zip" p2) [e, e2] [] pos2) X.env) :: starEach [] X.env := by rfl) :
    PE X (.Call (.Name "list" p) [.Call (.Name "zip" p2) [e, e2] [] pos2] [] pos) (tZipL X.K ta) := by
  refine ⟨fun pins s σ H Q I h => ?_⟩
  refine Call_ (ld_blt I hg hm boot_list (PyProof.Rows.callWith_type1 (args_cons (Call_ (ld_blt I hg2 hm2 PyProof.Rows.boot_zip (PyProof.Rows.callWith_type1 (thn (ha.run pos2 pins s σ H _ I h) fun us s1 ⟨vs, G, I1, rr, a, b, xs, ys, ev, sq, q⟩ => ?_) hs hpl))) hs2) hs2 rfl))
  subst ev
  cases rr with
  | cons ra rr =>
    cases rr with
    | cons rb rr =>
      cases rr
      cases ra
      cases rb
      have hd : X.A.handled = none := I1.ok.hd hc
      have fin : ∀ (s' : Shared) (G' : Hp) (ts : List Addr) (D : Addr), Inv X pins σ G' s' → Same G G' → G D = none → G' D = some (.lst (ts.map V.ref)) → ts.length = min xs.length ys.length → Prs G' ts xs ys → (∀ t ∈ ts, G t = none) → EP X pins σ Q (.ref D) s' :=
        fun s' G' ts D I' sm hD gD lt pr nw => ⟨.ref D, G', I', rfl, q D ts G' sm hD gD lt pr nw⟩
      rcases sq with ⟨sx, sy⟩ | ⟨sx, sy⟩
      · obtain ⟨its, rv, p1, z1⟩ := I1.list sx
        obtain ⟨jts, rw, p2, z2⟩ := I1.list sy
        have n1 := rv.length
        have n2 := rw.length
        refine zList (n := min its.toArray.size jts.toArray.size) hd I1 (begins_list a its.toArray) (begins_list b jts.toArray) p1.isList p2.isList p1.lt p2.lt (fun A' h' => .list h' _ a (Nat.ne_of_lt p1.lt) its.toArray) (fun A' h' => .list h' _ b (Nat.ne_of_lt (Nat.lt_succ_of_lt p2.lt)) jts.toArray) rfl ?_
          (fun i v e => ?_) (fun i v e => ?_) (fun h' e k => ⟨⟨_, e, rfl, rfl⟩, ?_⟩) (fun h' e k => ⟨⟨_, e, rfl, rfl⟩, ?_⟩) (fun s' G' ts D I' sm hD gD lt pr nw => fin s' G' ts D I' sm hD gD (by rw [lt, List.size_toArray, List.size_toArray, n1, n2]) pr nw) (fun v s2 hv => args_nil hv)
        · rw [List.size_toArray]
          omega
        · exact vback rv (by simpa using e)
        · exact vback rw (by simpa using e)
        · exact p1.isList.at fun o u => k _ _ u
        · exact p2.isList.at fun o u => k _ _ u
      · obtain ⟨its, rv, p1, z1⟩ := I1.tuple sx
        obtain ⟨jts, rw, p2, z2⟩ := I1.tuple sy
        have l1 : a < s1.heap.objs.size := let ⟨_, e, _⟩ := p1; Heap.lt_size e
        have l2 : b < s1.heap.objs.size := let ⟨_, e, _⟩ := p2; Heap.lt_size e
        have p1 : s1.heap.IsTuple a its.toArray := p1
        have p2 : s1.heap.IsTuple b jts.toArray := p2
        have n1 := rv.length
        have n2 := rw.length
        refine zList (n := min its.toArray.size jts.toArray.size) hd I1 (begins_tuple a its.toArray) (begins_tuple b jts.toArray) p1 p2 l1 l2 (fun A' h' => .tuple h' _ a (Nat.ne_of_lt l1) its.toArray) (fun A' h' => .tuple h' _ b (Nat.ne_of_lt (Nat.lt_succ_of_lt l2)) jts.toArray) rfl ?_
          (fun i v e => ?_) (fun i v e => ?_) (fun h' e k => ⟨⟨_, e, rfl, rfl⟩, ?_⟩) (fun h' e k => ⟨⟨_, e, rfl, rfl⟩, ?_⟩) (fun s' G' ts D I' sm hD gD lt pr nw => fin s' G' ts D I' sm hD gD (by rw [lt, List.size_toArray, List.size_toArray, n1, n2]) pr nw) (fun v s2 hv => args_nil hv)
        · rw [List.size_toArray]
          omega
        · exact vback rv (by simpa using e)
        · exact vback rw (by simpa using e)
        · exact p1.at fun o u => k _ _ u
        · exact p2.at fun o u => k _ _ u
end
end Kz

/-! a turn of a zip whose tuple is no more there; zip over tuples and texts for any target of one name or of several -/
namespace Kz
open PySem PySem.Spec PyProof.Rows L2
section
variable {prog : Program} {w : World} {A : Around} {E : Value → Shared → Prop} {s : Shared} {z TI TO i1 i2 T : Addr} {fp1 fp2 : List Addr} {n1 n2 i : Nat} {P1 P2 : Nat → Value → Prop} {St1 St2 : Nat → Heap → Prop} {f : Bool} {c1 c2 : Value}
theorem gone {a : Addr} {Q : Option Obj → Shared → Prop} (e : s.heap.get? a = none) (q : Q none s) : wpAny (model prog w) A (loadIfAlive a) Q E s := by
  have q' : Q (s.heap.get? a) s := by rw [e]; exact q
  exact fun _ _ _ => q'
theorem free_gone {Q : Bool → Shared → Prop} (hz : IsZipHeld s.heap z TI TO T f) (hT : s.heap.get? T = none) (q : Q true s) : wpAny (model prog w) A (Builtin.SmallTypes.ownedTupleIsFree (.ref z)) Q E s := by
  unfold Builtin.SmallTypes.ownedTupleIsFree
  refine wpAny_bind (wpAny_field hz rfl (x := rawInt T) rfl ?_)
  show wpAny _ _ (loadIfAlive ((T : Int).toNat) >>= _) _ _ _
  rw [Int.toNat_natCast]
  refine wpAny_bind (gone hT ?_)
  simp only [Option.isNone_none, if_true]
  exact wpAny_pure q
theorem goneItem {Q : Value → Shared → Prop} (S : ZipSep2 z TI TO i1 i2 fp1 fp2) (D1 : Draws prog w A i1 fp1 n1 P1 St1) (D2 : Draws prog w A i2 fp2 n2 P2 St2)
    (hz : IsZipHeld s.heap z TI TO T f) (hT : s.heap.get? T = none) (hTI : IsTupOf2 s.heap TI (.ref i1) (.ref i2)) (hTO : IsTupOf2 s.heap TO c1 c2) (st1 : St1 i s.heap) (st2 : St2 i s.heap) (l1 : i < n1) (l2 : i < n2)
    (q : ∀ x1 x2 h' tk, P1 i x1 → P2 i x2 → IsZip h' z TI TO (rawInt s.heap.objs.size) → IsTupOf2 h' TO x1 x2 → St1 (i + 1) h' → St2 (i + 1) h' → IsTupOf2 h' s.heap.objs.size x1 x2 → h'.objs.size = s.heap.objs.size + 1 →
      (∀ c o, c ≠ z → c ≠ TO → c ≠ i1 → c ≠ i2 → s.heap.get? c = some o → h'.get? c = some o) → Q (.ref s.heap.objs.size) { s with heap := h', toks := tk }) :
    wpAny (model prog w) A (Builtin.«zip.__next__» ⟨[.ref z], []⟩) (fun fin s' => ∃ v, fin = .done (.ret v) ∧ Q v s') E s := by
  obtain ⟨hp, ge, dr, tk0, os⟩ := s
  show wpAny _ _ (field (.ref z) 2 >>= _) _ _ _
  refine wpAny_bind (wpAny_field hz rfl (x := .bool false) rfl ?_)
  show wpAny _ _ (field (.ref z) 3 >>= _) _ _ _
  refine wpAny_bind (wpAny_field hz rfl (x := .ref TI) rfl ?_)
  refine wpAny_bind (wpAny_seqItems hTI rfl ?_)
  show wpAny _ _ (Builtin.SmallTypes.ownedTupleIsFree (.ref z) >>= _) _ _ _
  refine wpAny_bind (free_gone hz hT ?_)
  simp only [if_true]
  refine wpAny_bind (wpAny_rule ?_)
  refine wpAny_bind (wpAny_field hz rfl (x := .ref TO) rfl ?_)
  refine wpAny_bind (wpAny_setField_rec hz (by simp) fun k0 zk0 sk0 => ?_)
  replace zk0 : k0.get? z = some { cls := .type "zip", dict := none, data := .fields #[.ellipsis, .bool f, .bool false, .ref TI, .ref TO], slots := #[] } := zk0
  replace sk0 : Heap.SameBut z hp k0 := sk0
  refine wpAny_bind ?_
  simp only [List.zipIdx_cons, List.zipIdx_nil, List.forIn_cons, List.forIn_nil]
  refine wpAny_bind (wpAny_bind (wpAny_onRaise ?_))
  show wpAny _ _ (Builtin.SmallTypes.nextOf (.ref i1) >>= _) _ _ ⟨k0, ge, dr, tk0, os⟩
  refine wpAny_bind (D1.item i _ _ _ l1 (D1.over st1 sk0 S.zf1) fun x1 k1 t1 px1 n1' sk1 => wpAny_pure ?_)
  replace sk1 : Heap.SameBut i1 k0 k1 := sk1
  have u1 : IsTupOf2 k1 TO c1 c2 := sk1.extBut _ _ S.Ti1 (sk0.extBut _ _ S.TOz hTO)
  refine wpAny_bind (wpAny_seqItems (s := ⟨k1, ge, dr, t1, os⟩) u1 rfl ?_)
  refine wpAny_bind (updateSeq_IsTupOf2 (s := ⟨k1, ge, dr, t1, os⟩) u1 fun k2 v2 sk2 => ?_)
  replace v2 : IsTupOf2 k2 TO x1 c2 := v2
  replace sk2 : Heap.SameBut TO k1 k2 := sk2
  refine wpAny_bind (wpAny_letGo (wpAny_pure ?_))
  refine wpAny_bind (wpAny_bind (wpAny_onRaise ?_))
  show wpAny _ _ (Builtin.SmallTypes.nextOf (.ref i2) >>= _) _ _ ⟨k2, ge, dr, t1, os⟩
  refine wpAny_bind (D2.item i _ _ _ l2 (D2.over (D2.over (D2.over st2 sk0 S.zf2) sk1 S.sep1_2) sk2 S.Tf2) fun x2 k3 t2 px2 n2' sk3 => wpAny_pure ?_)
  replace sk3 : Heap.SameBut i2 k2 k3 := sk3
  have u2 : IsTupOf2 k3 TO x1 c2 := sk3.extBut _ _ S.Ti2 v2
  refine wpAny_bind (wpAny_seqItems (s := ⟨k3, ge, dr, t2, os⟩) u2 rfl ?_)
  refine wpAny_bind (updateSeq_IsTupOf2 (s := ⟨k3, ge, dr, t2, os⟩) u2 fun k4 v4 sk4 => ?_)
  replace v4 : IsTupOf2 k4 TO x1 x2 := v4
  replace sk4 : Heap.SameBut TO k3 k4 := sk4
  refine wpAny_bind (wpAny_letGo (wpAny_pure (wpAny_pure ?_)))
  refine wpAny_bind (wpAny_seqItems (s := ⟨k4, ge, dr, t2, os⟩) v4 rfl ?_)
  refine wpAny_bind (wpAny_newTuple ?_)
  have esz : k4.objs.size = hp.objs.size := by rw [sk4.1, sk3.1, sk2.1, sk1.1, sk0.1]
  have zk4 := sk4.extBut _ _ S.TOz.symm (sk3.extBut _ _ S.zi2 (sk2.extBut _ _ S.TOz.symm (sk1.extBut _ _ S.zi1 zk0)))
  have kk : ∀ c o, c ≠ z → c ≠ TO → c ≠ i1 → c ≠ i2 → hp.get? c = some o → k4.get? c = some o := fun c o d1 d2 d3 d4 e =>
    sk4.extBut _ _ d2 (sk3.extBut _ _ d4 (sk2.extBut _ _ d2 (sk1.extBut _ _ d3 (sk0.extBut _ _ d1 e))))
  have j1 : St1 (i + 1) k4 := D1.over (D1.over (D1.over n1' sk2 S.Tf1) sk3 S.sep2_1) sk4 S.Tf1
  have j2 : St2 (i + 1) k4 := D2.over n2' sk4 S.Tf2
  have zlt : z < k4.objs.size := Heap.lt_size zk4
  show wpAny _ _ (Builtin.SmallTypes.ownedTupleHandOut (.ref z) (.ref k4.objs.size) >>= _) _ _ ⟨k4.push { cls := .type "tuple", data := .seq #[x1, x2] }, ge, dr, t2, os⟩
  refine wpAny_bind ?_
  unfold Builtin.SmallTypes.ownedTupleHandOut
  refine wpAny_bind (wpAny_setField_rec (Heap.get?_push_of_some _ zk4) (by simp) fun k5 zk5 sk5 => ?_)
  replace sk5 : Heap.SameBut z (k4.push { cls := .type "tuple", data := .seq #[x1, x2] }) k5 := sk5
  refine wpAny_setField_rec (s := ⟨k5, ge, dr, t2, os⟩) zk5 (by simp) fun k6 zk6 sk6 => ?_
  replace zk6 : IsZip k6 z TI TO (rawInt k4.objs.size) := zk6
  replace sk6 : Heap.SameBut z k5 k6 := sk6
  have up : ∀ c o, c ≠ z → k4.get? c = some o → k6.get? c = some o := fun c o d e => sk6.extBut _ _ d (sk5.extBut _ _ d (Heap.get?_push_of_some _ e))
  have nt : IsTupOf2 k6 k4.objs.size x1 x2 := sk6.extBut _ _ (Nat.ne_of_gt zlt) (sk5.extBut _ _ (Nat.ne_of_gt zlt) (Heap.get?_push_size _ rfl))
  have sz6 : k6.objs.size = k4.objs.size + 1 := by rw [sk6.1, sk5.1, Heap.size_push]
  rw [esz] at zk6 nt sz6
  refine wpAny_pure ⟨_, rfl, ?_⟩
  show Q (.ref k4.objs.size) ⟨k6, ge, dr, t2, os⟩
  rw [esz]
  exact q x1 x2 k6 t2 px1 px2 zk6 (up _ _ S.TOz v4) (D1.frame _ _ _ j1 fun b hb o e => up b o (fun y => S.zf1 (y ▸ hb)) e) (D2.frame _ _ _ j2 fun b hb o e => up b o (fun y => S.zf2 (y ▸ hb)) e) nt sz6 fun c o d1 d2 d3 d4 e => up c o d1 (kk c o d1 d2 d3 d4 e)
theorem goneEnd {Q : Fin → Shared → Prop} (S : ZipSep2 z TI TO i1 i2 fp1 fp2) (D1 : Draws prog w A i1 fp1 n1 P1 St1) (D2 : Draws prog w A i2 fp2 n2 P2 St2)
    (hz : IsZipHeld s.heap z TI TO T f) (hT : s.heap.get? T = none) (hTI : IsTupOf2 s.heap TI (.ref i1) (.ref i2)) (hTO : IsTupOf2 s.heap TO c1 c2) (st1 : St1 i s.heap) (st2 : St2 i s.heap) (l1 : i ≤ n1) (l2 : i ≤ n2) (last : i = n1 ∨ i = n2)
    (q : ∀ h' tk e, (∀ c o, c ≠ z → c ≠ TO → c ≠ i1 → c ≠ i2 → s.heap.get? c = some o → h'.get? c = some o) → (∃ o, h'.get? e = some o ∧ o.cls = .type "StopIteration") → E (.ref e) { s with heap := h', toks := tk }) :
    wpAny (model prog w) A (Builtin.«zip.__next__» ⟨[.ref z], []⟩) Q E s := by
  obtain ⟨hp, ge, dr, tk0, os⟩ := s
  show wpAny _ _ (field (.ref z) 2 >>= _) _ _ _
  refine wpAny_bind (wpAny_field hz rfl (x := .bool false) rfl ?_)
  show wpAny _ _ (field (.ref z) 3 >>= _) _ _ _
  refine wpAny_bind (wpAny_field hz rfl (x := .ref TI) rfl ?_)
  refine wpAny_bind (wpAny_seqItems hTI rfl ?_)
  show wpAny _ _ (Builtin.SmallTypes.ownedTupleIsFree (.ref z) >>= _) _ _ _
  refine wpAny_bind (free_gone hz hT ?_)
  simp only [if_true]
  refine wpAny_bind (wpAny_rule ?_)
  refine wpAny_bind (wpAny_field hz rfl (x := .ref TO) rfl ?_)
  refine wpAny_bind (wpAny_setField_rec hz (by simp) fun k0 zk0 sk0 => ?_)
  replace zk0 : k0.get? z = some { cls := .type "zip", dict := none, data := .fields #[.ellipsis, .bool f, .bool false, .ref TI, .ref TO], slots := #[] } := zk0
  replace sk0 : Heap.SameBut z hp k0 := sk0
  refine wpAny_bind ?_
  simp only [List.zipIdx_cons, List.zipIdx_nil, List.forIn_cons, List.forIn_nil]
  refine wpAny_bind (wpAny_bind (wpAny_onRaise ?_))
  show wpAny _ _ (Builtin.SmallTypes.nextOf (.ref i1) >>= _) _ _ ⟨k0, ge, dr, tk0, os⟩
  have fin : ∀ (k : Heap) (tk : Nat) (e : Addr), k.get? z = some { cls := .type "zip", dict := none, data := .fields #[.ellipsis, .bool f, .bool false, .ref TI, .ref TO], slots := #[] } → (∃ o, k.get? e = some o ∧ o.cls = .type "StopIteration") → (∀ c o, c ≠ z → c ≠ TO → c ≠ i1 → c ≠ i2 → hp.get? c = some o → k.get? c = some o) →
      wpAny (model prog w) A (setField (.ref z) 0 .none) (fun _ s' => E (.ref e) s') E ⟨k, ge, dr, tk, os⟩ := fun k tk e zk ⟨oe, eo, ec⟩ kk => by
    have ne : e ≠ z := fun y => by
      rw [y, zk] at eo
      cases eo
      exact absurd (show Value.type "zip" = Value.type "StopIteration" from ec) (by decide)
    refine wpAny_setField_rec (s := ⟨k, ge, dr, tk, os⟩) zk (by simp) fun k' _ sk' => ?_
    replace sk' : Heap.SameBut z k k' := sk'
    exact q k' tk e (fun c o d1 d2 d3 d4 y => sk'.extBut _ _ d1 (kk c o d1 d2 d3 d4 y)) ⟨oe, sk'.extBut _ _ ne eo, ec⟩
  by_cases lt : i < n1
  · refine wpAny_bind (D1.item i _ _ _ lt (D1.over st1 sk0 S.zf1) fun x1 k1 t1 px1 n1' sk1 => wpAny_pure ?_)
    replace sk1 : Heap.SameBut i1 k0 k1 := sk1
    have u1 : IsTupOf2 k1 TO c1 c2 := sk1.extBut _ _ S.Ti1 (sk0.extBut _ _ S.TOz hTO)
    refine wpAny_bind (wpAny_seqItems (s := ⟨k1, ge, dr, t1, os⟩) u1 rfl ?_)
    refine wpAny_bind (updateSeq_IsTupOf2 (s := ⟨k1, ge, dr, t1, os⟩) u1 fun k2 v2 sk2 => ?_)
    replace sk2 : Heap.SameBut TO k1 k2 := sk2
    refine wpAny_bind (wpAny_letGo (wpAny_pure ?_))
    have e2 : i = n2 := by omega
    refine wpAny_bind (wpAny_bind (wpAny_onRaise ?_))
    show wpAny _ _ (Builtin.SmallTypes.nextOf (.ref i2) >>= _) _ _ ⟨k2, ge, dr, t1, os⟩
    refine wpAny_bind (D2.done ⟨k2, ge, dr, t1, os⟩ _ _ (by rw [← e2]; exact D2.over (D2.over (D2.over st2 sk0 S.zf2) sk1 S.sep1_2) sk2 S.Tf2) fun k3 e sk3 he => ?_)
    replace sk3 : Heap.ExtBut i2 k2 k3 := sk3
    exact fin k3 t1 e (sk3 _ _ S.zi2 (sk2.extBut _ _ S.TOz.symm (sk1.extBut _ _ S.zi1 zk0))) he fun c o d1 d2 d3 d4 y => sk3 _ _ d4 (sk2.extBut _ _ d2 (sk1.extBut _ _ d3 (sk0.extBut _ _ d1 y)))
  · have e1 : i = n1 := by omega
    refine wpAny_bind (D1.done ⟨k0, ge, dr, tk0, os⟩ _ _ (by rw [← e1]; exact D1.over st1 sk0 S.zf1) fun k3 e sk3 he => ?_)
    replace sk3 : Heap.ExtBut i1 k0 k3 := sk3
    exact fin k3 tk0 e (sk3 _ _ S.zi1 zk0) he fun c o d1 d2 d3 d4 y => sk3 _ _ d3 (sk0.extBut _ _ d1 y)
/-- the zip before a turn: nothing is out, or a tuple was given out, there or no more -/
def Zg (z TI TO : Addr) (h : Heap) : Prop := (∃ a b, IsTupOf2 h TO a b) ∧ (IsZip h z TI TO .none ∨ ∃ T f, IsZipHeld h z TI TO T f)
theorem gNext {Q : Option Value → Shared → Prop} (S : ZipSep2 z TI TO i1 i2 fp1 fp2) (D1 : Draws prog w A.in1 i1 fp1 n1 P1 St1) (D2 : Draws prog w A.in1 i2 fp2 n2 P2 St2)
    (hz : Zg z TI TO s.heap) (hTI : IsTupOf2 s.heap TI (.ref i1) (.ref i2)) (st1 : St1 i s.heap) (st2 : St2 i s.heap) (l1 : i < n1) (l2 : i < n2)
    (q : ∀ x1 x2 h' tk, P1 i x1 → P2 i x2 → ((∃ a b, IsTupOf2 h' TO a b) ∧ ∃ T f, IsZipHeld h' z TI TO T f ∧ (IsZip s.heap z TI TO .none → T = s.heap.objs.size ∧ f = false)) → IsTupOf2 h' TI (.ref i1) (.ref i2) → St1 (i + 1) h' → St2 (i + 1) h' → IsTupOf2 h' s.heap.objs.size x1 x2 → h'.objs.size = s.heap.objs.size + 1 →
      (∀ c o, c ≠ z → c ≠ TO → c ≠ i1 → c ≠ i2 → s.heap.get? c = some o → h'.get? c = some o) → Q (some (.ref s.heap.objs.size)) { s with heap := h', toks := tk }) :
    wpAny (model prog w) A (pyNext (.ref z)) Q E s := by
  obtain ⟨⟨a, b, hTO⟩, hz⟩ := hz
  rcases hz with hz | ⟨T, f, hz⟩
  · refine wpAny_pyNext_zipD2_item S D1 D2 hz hTI hTO st1 st2 l1 l2 fun x1 x2 h' tk p1 p2 z' t' u1 u2 nt sz kp => ?_
    exact q x1 x2 h' tk p1 p2 ⟨⟨_, _, t'⟩, s.heap.objs.size, false, z', fun _ => ⟨rfl, rfl⟩⟩ (kp _ _ S.TIz S.TITO S.TIi1 S.TIi2 hTI) u1 u2 nt sz kp
  · have no : ¬ IsZip s.heap z TI TO .none := fun e => by
      have e := e.symm.trans hz
      injection e with e
      injection e with _ _ e _
      injection e with e
      have q0 := congrArg (fun (t : Array Value) => t[0]?) e
      have q1 : some Value.none = some (rawInt (T : Int)) := q0
      injection q1 with q1
      cases q1
    have ty : s.TypeIs (.ref z) "zip" := ⟨_, hz, rfl⟩
    unfold pyNext
    cases hT : s.heap.get? T with
    | none =>
      refine wpAny_bind (wpAny_attempt (wpAny_callSpecial?_slot (name := Str.ofString "__next__") ty F.slot_zip_next (wpAny_call_entry F.slot_zip_next ty F.entry_zip_next
        (goneItem S D1 D2 hz hT hTI hTO st1 st2 l1 l2 fun x1 x2 h' tk p1 p2 z' t' u1 u2 nt sz kp => wpAny_pure ?_) (F.args_zip_next_1 _))))
      exact q x1 x2 h' tk p1 p2 ⟨⟨_, _, t'⟩, s.heap.objs.size, false, z', fun e => absurd e no⟩ (kp _ _ S.TIz S.TITO S.TIi1 S.TIi2 hTI) u1 u2 nt sz kp
    | some oT =>
      refine wpAny_bind (wpAny_attempt (wpAny_callSpecial?_slot (name := Str.ofString "__next__") ty F.slot_zip_next (wpAny_call_entry F.slot_zip_next ty F.entry_zip_next
        (outItem S D1 D2 hz hT hTI st1 st2 l1 l2 fun x1 x2 h' tk p1 p2 z' t1 t2 nw sz kp => wpAny_pure ?_) (F.args_zip_next_1 _))))
      exact q x1 x2 h' tk p1 p2 ⟨⟨a, b, kp _ _ S.TOz S.Ti1 S.Ti2 hTO⟩, T, true, z', fun e => absurd e no⟩ (kp _ _ S.TIz S.TIi1 S.TIi2 hTI) t1 t2 nw sz fun c o d1 _ d3 d4 e => kp c o d1 d3 d4 e
theorem gDone {Q : Option Value → Shared → Prop} (S : ZipSep2 z TI TO i1 i2 fp1 fp2) (D1 : Draws prog w A.in1 i1 fp1 n1 P1 St1) (D2 : Draws prog w A.in1 i2 fp2 n2 P2 St2)
    (hz : Zg z TI TO s.heap) (hTI : IsTupOf2 s.heap TI (.ref i1) (.ref i2)) (st1 : St1 i s.heap) (st2 : St2 i s.heap) (l1 : i ≤ n1) (l2 : i ≤ n2) (last : i = n1 ∨ i = n2)
    (q : ∀ h' tk, (∀ c o, c ≠ z → c ≠ TO → c ≠ i1 → c ≠ i2 → s.heap.get? c = some o → h'.get? c = some o) → Q none { s with heap := h', toks := tk }) :
    wpAny (model prog w) A (pyNext (.ref z)) Q E s := by
  obtain ⟨⟨a, b, hTO⟩, hz⟩ := hz
  rcases hz with hz | ⟨T, f, hz⟩
  · exact wpAny_pyNext_zipD2_end S D1 D2 hz hTI hTO st1 st2 l1 l2 last q
  · have ty : s.TypeIs (.ref z) "zip" := ⟨_, hz, rfl⟩
    unfold pyNext
    have fin : ∀ (h' : Heap) (tk : Nat) (e : Addr), (∀ c o, c ≠ z → c ≠ TO → c ≠ i1 → c ≠ i2 → s.heap.get? c = some o → h'.get? c = some o) → (∃ o, h'.get? e = some o ∧ o.cls = .type "StopIteration") → wpAny (model prog w) A (isInstance (.ref e) (.type "StopIteration")) (fun b s' => wpAny (model prog w) A (if b = true then pure none else throw (.ref e)) Q E s') E { s with heap := h', toks := tk } := fun h' tk e kp ⟨o, ho, hc⟩ =>
      wpAny_isInstance (T := "StopIteration") (b := true) ⟨o, ho, hc⟩ isSubtype_stop (wpAny_pure (q _ _ kp))
    cases hT : s.heap.get? T with
    | none =>
      refine wpAny_bind (wpAny_attempt (wpAny_callSpecial?_slot (name := Str.ofString "__next__") ty F.slot_zip_next (wpAny_call_entry F.slot_zip_next ty F.entry_zip_next
        (goneEnd S D1 D2 hz hT hTI hTO st1 st2 l1 l2 last fun h' tk e kp he => ?_) (F.args_zip_next_1 _))))
      exact wpAny_bind (fin h' tk e kp he)
    | some oT =>
      refine wpAny_bind (wpAny_attempt (wpAny_callSpecial?_slot (name := Str.ofString "__next__") ty F.slot_zip_next (wpAny_call_entry F.slot_zip_next ty F.entry_zip_next
        (outEnd S D1 D2 hz hT hTI st1 st2 l1 l2 last fun h' tk e kp he => ?_) (F.args_zip_next_1 _))))
      exact wpAny_bind (fin h' tk e (fun c o d1 _ d3 d4 y => kp c o d1 d3 d4 y) he)
end
end Kz

/-! zip over tuples and texts, for a target of one name or of several -/
namespace Kz
open PySem PySem.Spec PyProof.Rows L2
/-- what a zip draws from: a tuple that stands, or a text -/
inductive Sr where
  | tup (a : Addr) (xs : List V)
  | txt (x : Str)
def Sr.vs : Sr → List V
  | .tup _ xs => xs
  | .txt x => x.cps.toList.map fun c => V.str ⟨#[c]⟩
def Sr.v : Sr → V
  | .tup a _ => .ref a
  | .txt x => .str x
def Sr.at (K : PySem.W.Frag) (H : Hp) : Sr → Prop
  | .tup a xs => SqT K H a xs
  | .txt _ => True
def Sr.cell (h : Heap) (it : Addr) (i : Nat) : Sr → Prop
  | .tup a _ => h.IsTupleIter it a i
  | .txt x => ∃ t, h.IsStrIter it (strIterType x) x t i
theorem Sr.cell_obj {h : Heap} {it : Addr} {i : Nat} : ∀ {r : Sr}, r.cell h it i → ∃ o, h.get? it = some o ∧ ∀ v, o.data ≠ .cell v
  | .tup _ _, ⟨o, e, _, d⟩ => ⟨o, e, fun v q => by rw [d] at q; cases q⟩
  | .txt _, ⟨_, o, e, _, d⟩ => ⟨o, e, fun v q => by rw [d] at q; cases q⟩
theorem Sr.cell_keep {h h' : Heap} {it : Addr} {i : Nat} (k : ∀ o, h.get? it = some o → h'.get? it = some o) : ∀ {r : Sr}, r.cell h it i → r.cell h' it i
  | .tup _ _, ⟨o, e, c⟩ => ⟨o, k o e, c⟩
  | .txt _, ⟨t, o, e, c⟩ => ⟨t, o, k o e, c⟩
/-- below -/
def Sr.low (B : Nat) : Sr → Prop
  | .tup a _ => @LT.lt Nat _ a B
  | .txt _ => True
theorem Sr.draws {X : Cx} {pins : List (Addr × Obj)} {σ : L2.St} {H : Hp} {s : Shared} {it : Addr} {i B : Nat} (I : Inv X pins σ H s) (hB : @LE.le Nat _ B it) : ∀ {r : Sr}, r.at X.K H → r.cell s.heap it i → r.low B →
    ∃ fp P St, (∀ A' : Around, A'.handled = none → Draws X.prog X.w A' it fp r.vs.length P St) ∧ (∀ j v, P j v → ∃ x, r.vs[j]? = some x ∧ RelV x v) ∧ St i s.heap ∧ (∀ j h, St j h → r.cell h it j) ∧ it ∈ fp ∧ ∀ b ∈ fp, b = it ∨ @LT.lt Nat _ b B
  | .tup a xs, hq, c, lo => by
    obtain ⟨its, rv, p, _⟩ := I.tuple hq
    have lo : @LT.lt Nat _ a B := lo
    have ne : a ≠ it := Nat.ne_of_lt (Nat.lt_of_lt_of_le lo hB)
    have e : its.toArray.size = xs.length := by rw [List.size_toArray]; exact rv.length.symm
    refine ⟨[it, a], fun i v => its.toArray[i]? = some v, fun i h => h.IsTupleIter it a i ∧ h.IsTuple a its.toArray, fun A' hA => ?_, fun j v z => ?_, ⟨c, p⟩, fun j h z => z.1, List.mem_cons_self, fun b hb => ?_⟩
    · have D := Draws.tuple (prog := X.prog) (w := X.w) hA it a ne its.toArray
      rw [e] at D
      exact D
    · exact vback rv (by simpa using z)
    · rcases List.mem_cons.mp hb with rfl | hb
      · exact .inl rfl
      · rw [List.mem_singleton.mp hb]
        exact .inr lo
  | .txt x, _, ⟨t, c⟩, _ => by
    have e : x.cps.size = (Sr.txt x).vs.length := by
      show _ = (x.cps.toList.map _).length
      rw [List.length_map, Array.length_toList]
    refine ⟨[it], fun i v => ∃ c u, x.cps[i]? = some c ∧ v = .str ⟨#[c]⟩ u, fun i h => h.IsStrIter it (strIterType x) x t i, fun A' hA => ?_, fun j v z => ?_, c, fun j h z => ⟨t, z⟩, List.mem_cons_self, fun b hb => .inl (List.mem_singleton.mp hb)⟩
    · have D := Draws.text (prog := X.prog) (w := X.w) hA it x t
      rw [e] at D
      exact D
    · obtain ⟨cc, u, h1, rfl⟩ := z
      refine ⟨.str ⟨#[cc]⟩, ?_, u, rfl⟩
      show (x.cps.toList.map fun c => V.str ⟨#[c]⟩)[j]? = _
      rw [List.getElem?_map, Array.getElem?_toList, h1]
      rfl
theorem sepG (B : Nat) (fp1 fp2 : List Addr) (m1 : B ∈ fp1) (a1 : ∀ b ∈ fp1, b = B ∨ @LT.lt Nat _ b B) (m2 : B + 1 ∈ fp2) (a2 : ∀ b ∈ fp2, b = B + 1 ∨ @LT.lt Nat _ b B) : ZipSep2 (B + 4) (B + 2) (B + 3) B (B + 1) fp1 fp2 := by
  have n1 : ∀ k : Nat, k ≠ 0 → (B + k) ∉ fp1 := fun k hk h => by
    rcases a1 _ h with z | z
    · have z : B + k = B := z
      omega
    · omega
  have n2 : ∀ k : Nat, k ≠ 1 → (B + k) ∉ fp2 := fun k hk h => by
    rcases a2 _ h with z | z
    · have z : B + k = B + 1 := z
      omega
    · omega
  exact ⟨neN _ _ (by omega), neN _ _ (by omega), neN _ _ (by omega), neN _ _ (by omega), m1, n1 4 (by omega), n1 3 (by omega), neN _ _ (by omega), m2, n2 4 (by omega), n2 3 (by omega), n2 0 (by omega), n1 1 (by omega)⟩
/-- the pairs, new ones -/
def Jg (K : PySem.W.Frag) (p q : Sr) : It :=
  ⟨fun i H => p.at K H ∧ q.at K H ∧ i < p.vs.length ∧ i < q.vs.length,
    fun i H v H' => ∃ T x y, v = .ref T ∧ H T = none ∧ H' = upd H T (.tup [x, y]) ∧ p.vs[i]? = some x ∧ q.vs[i]? = some y,
    fun i H => p.at K H ∧ q.at K H ∧ i ≤ p.vs.length ∧ i ≤ q.vs.length ∧ (i = p.vs.length ∨ i = q.vs.length)⟩
theorem turn_zipG {P : Program} {w : World} {K : PySem.W.Frag} {tg : Expr} {p q : Sr} {B : Nat} {Z : Heap → Prop} (lp : p.low B) (lq : q.low B) (hZ : ∀ h, Z h → Zg (B + 4) (B + 2) (B + 3) h) (kZ : ∀ h h', Z h → (∀ o, h.get? (B + 4) = some o → h'.get? (B + 4) = some o) → (∀ o, h.get? (B + 3) = some o → h'.get? (B + 3) = some o) → Z h')
    (go : ∀ (A : Around) (E : Value → Shared → Prop) (s : Shared) (h0 : Heap) (T T' : Addr) (f : Bool) (Q : Unit → Shared → Prop), Z h0 → (IsZip h0 (B + 4) (B + 2) (B + 3) .none → T = T' ∧ f = false) → (∃ a b, IsTupOf2 s.heap (B + 3) a b) → IsZipHeld s.heap (B + 4) (B + 2) (B + 3) T f →
      (∀ h', Z h' → Heap.SameBut (B + 4) s.heap h' → Q () { s with heap := h' }) → wpAny (model P w) A (letOwnedTupleGo tg (.ref (B + 4)) (.ref T')) Q E s) :
    Turn P w K tg (Jg K p q) [B + 4, B + 2, B + 3, B, B + 1] (B + 4) (fun i h => Z h ∧ IsTupOf2 h (B + 2) (.ref B) (.ref (B + 1)) ∧ p.cell h B i ∧ q.cell h (B + 1) i) where
  mem := by simp
  obj := fun i h st c hc => by
    obtain ⟨zz, hTI, h1, h2⟩ := st
    obtain ⟨⟨a, b, hTO⟩, hz⟩ := hZ h zz
    have e' : c = B + 4 ∨ c = B + 2 ∨ c = B + 3 ∨ c = B ∨ c = B + 1 := by simpa using hc
    rcases e' with y | y | y | y | y
    · rw [y]
      rcases hz with hz | ⟨T, f, hz⟩
      · exact ⟨_, hz, fun v q => nomatch q⟩
      · exact ⟨_, hz, fun v q => nomatch q⟩
    · rw [y]; exact ⟨_, hTI, fun v q => nomatch q⟩
    · rw [y]; exact ⟨_, hTO, fun v q => nomatch q⟩
    · rw [y]; exact Sr.cell_obj (r := p) h1
    · rw [y]; exact Sr.cell_obj (r := q) h2
  keep := fun i h h' st k => by
    obtain ⟨zz, hTI, h1, h2⟩ := st
    exact ⟨kZ h h' zz (k _ (by simp)) (k _ (by simp)), k (B + 2) (by simp) _ hTI, Sr.cell_keep (r := p) (k B (by simp)) h1, Sr.cell_keep (r := q) (k (B + 1) (by simp)) h2⟩
  item := by
    intro X hP hw hK hc i pins s σ H E I hf st hg
    subst hP hw hK
    obtain ⟨zz, hTI, h1, h2⟩ := st
    obtain ⟨hp, hq, lt1, lt2⟩ := hg
    obtain ⟨fp1, P1, St1, D1, r1, s1, b1, m1, f1⟩ := Sr.draws I (Nat.le_refl B) hp h1 lp
    obtain ⟨fp2, P2, St2, D2, r2, s2, b2, m2, f2⟩ := Sr.draws I (show B ≤ B + 1 from Nat.le_succ B) hq h2 lq
    have S := sepG B fp1 fp2 m1 f1 m2 f2
    have hh : X.A.handled = none := I.ok.hd hc
    have hzl : ∃ o, s.heap.get? (B + 4) = some o := by
      rcases (hZ _ zz).2 with z | ⟨_, _, z⟩
      · exact ⟨_, z⟩
      · exact ⟨_, z⟩
    obtain ⟨oz, ez⟩ := hzl
    have hzl : B + 4 < s.heap.objs.size := Heap.lt_size ez
    refine gNext S (D1 _ hh) (D2 _ hh) (hZ _ zz) hTI s1 s2 lt1 lt2 fun x1 x2 h' tk p1 p2 ⟨nTO, T, f, nz, cond⟩ nTI u1 u2 nt sz kp => ?_
    obtain ⟨x, hx, rx⟩ := r1 _ _ p1
    obtain ⟨y, hy, ry⟩ := r2 _ _ p2
    refine ⟨_, rfl, go X.A E { s with heap := h', toks := tk } s.heap T s.heap.objs.size f _ zz cond nTO nz fun h'' z'' sb => ?_⟩
    replace sb : Heap.SameBut (B + 4) h' h'' := sb
    have nt2 : h''.get? s.heap.objs.size = some { cls := .type "tuple", data := .seq #[x1, x2] } := (sb.2 _ (Nat.ne_of_gt hzl)).trans nt
    have new : ObjOk X.prog X.w (upd H s.heap.objs.size (.tup [x, y])) h'' s.heap.objs.size (.tup [x, y]) :=
      ⟨by show 2 ≤ sizeLine; decide, [x1, x2], .cons rx (.cons ry .nil), ⟨_, nt2, rfl, _, rfl⟩⟩
    have I1 : Inv X pins σ (upd H s.heap.objs.size (.tup [x, y])) { s with heap := h'', toks := tk } :=
      I.turnedNew (ch := [B + 4, B + 2, B + 3, B, B + 1]) (fun c o hb e => (sb.2 c (fun q' => hb (by simp [q']))).trans (kp c o (fun q' => hb (by simp [q'])) (fun q' => hb (by simp [q'])) (fun q' => hb (by simp [q'])) (fun q' => hb (by simp [q'])) e)) hf (Nat.le_refl _) new
    have kc : ∀ c, c ≠ B + 4 → ∀ o, h'.get? c = some o → h''.get? c = some o := fun c hc o e => (sb.2 c hc).trans e
    refine ⟨.ref s.heap.objs.size, _, I1, rfl, ⟨_, x, y, rfl, I.hok.fresh (Nat.le_refl _), rfl, hx, hy⟩, ⟨z'', kc _ (neN _ _ (by omega)) _ nTI, Sr.cell_keep (r := p) (kc _ (neN _ _ (by omega))) (b1 _ _ u1), Sr.cell_keep (r := q) (kc _ (neN _ _ (by omega))) (b2 _ _ u2)⟩, fun c hcm => ?_⟩
    have hlt : c < s.heap.objs.size := by
      have e' : c = B + 4 ∨ c = B + 2 ∨ c = B + 3 ∨ c = B ∨ c = B + 1 := by simpa using hcm
      rcases e' with y | y | y | y | y
      · rw [y]; exact hzl
      · rw [y]; exact Nat.lt_trans (by omega) hzl
      · rw [y]; exact Nat.lt_trans (by omega) hzl
      · rw [y]; exact Nat.lt_trans (by omega) hzl
      · rw [y]; exact Nat.lt_trans (by omega) hzl
    rw [upd_ne (Nat.ne_of_lt hlt)]
    exact (hf c hcm).1
  done := by
    intro X hP hw hK hc i pins s σ H E I hf st hg
    subst hP hw hK
    obtain ⟨zz, hTI, h1, h2⟩ := st
    obtain ⟨hp, hq, le1, le2, last⟩ := hg
    obtain ⟨fp1, P1, St1, D1, r1, s1, b1, m1, f1⟩ := Sr.draws I (Nat.le_refl B) hp h1 lp
    obtain ⟨fp2, P2, St2, D2, r2, s2, b2, m2, f2⟩ := Sr.draws I (show B ≤ B + 1 from Nat.le_succ B) hq h2 lq
    have S := sepG B fp1 fp2 m1 f1 m2 f2
    have hh : X.A.handled = none := I.ok.hd hc
    exact gDone S (D1 _ hh) (D2 _ hh) (hZ _ zz) hTI s1 s2 le1 le2 last fun h' tk kp => ⟨rfl, I.turnedL (ch := [B + 4, B + 2, B + 3, B, B + 1]) (fun c o hb e =>
      kp c o (fun q' => hb (by simp [q'])) (fun q' => hb (by simp [q'])) (fun q' => hb (by simp [q'])) (fun q' => hb (by simp [q'])) e) hf⟩
  self := fun A i s Q E st h => by
    rcases (hZ _ st.1).2 with z | ⟨_, _, z⟩
    · exact wpAny_pyIter_zip z h
    · exact iter_held z h
where
  iter_held {A : Around} {s : Shared} {z TI TO T : Addr} {f : Bool} {Q : Value → Shared → Prop} {E : Value → Shared → Prop} (hz : IsZipHeld s.heap z TI TO T f) (h : Q (.ref z) s) : wpAny (model P w) A (pyIter (.ref z)) Q E s := by
    have ty : s.TypeIs (.ref z) "zip" := ⟨_, hz, rfl⟩
    refine wpAny_pyIter_slot ty F.slot_zip_iter (wpAny_call_entry F.slot_zip_iter ty F.entry_zip_iter ?_ (F.args_zip_iter_1 _))
    show wpAny _ _ (ret (.ref z)) _ _ s
    exact wpAny_pure ⟨_, rfl, "zip", _, ty, F.slot_zip_next.lookup, h⟩
end Kz

/-! zip(a, b) over tuples and texts, as what a loop or a comprehension goes through -/
namespace Kz
open PySem PySem.Spec PyProof.Rows L2
theorem Sr.begins {X : Cx} {pins : List (Addr × Obj)} {σ : L2.St} {H : Hp} {s : Shared} {u : Value} (I : Inv X pins σ H s) : ∀ {r : Sr}, r.at X.K H → RelV r.v u → ∃ o Hh, Begins u o Hh ∧ Hh s.heap ∧ (∀ (h : Heap) (it : Addr), h.get? it = some o → r.cell h it 0) ∧ r.low s.heap.objs.size
  | .tup a xs, hq, rv => by
    obtain ⟨its, _, p, _⟩ := I.tuple hq
    have e : u = Value.ref a := rv
    subst e
    obtain ⟨o, ho, _⟩ := id p
    exact ⟨_, _, begins_tuple a its.toArray, p, fun h it e => ⟨_, e, rfl, rfl⟩, Heap.lt_size ho⟩
  | .txt x, _, rv => by
    obtain ⟨t, rfl⟩ := (show ∃ t, u = .str x t from rv)
    exact ⟨_, _, begins_text x t, trivial, fun h it e => ⟨t, _, e, rfl, rfl⟩, trivial⟩
def iZipG (K : PySem.W.Frag) (ta : TA) : TI := fun σ H R => ta σ H fun vs H1 => ∃ p q : Sr, vs = [p.v, q.v] ∧ p.at K H1 ∧ q.at K H1 ∧ R (Jg K p q) H1
section
variable {X : Cx} {e e2 : Expr} {ta : TA} {p pos tpos : Pos} {tg : Expr}
theorem pi_zip_of {Z : Nat → Heap → Prop} (hg : Gl X "zip") (hm : X.mg "zip" = none) (ha : PA X [e, e2] ta)
    (hZ : ∀ B h, Z B h → Zg (B + 4) (B + 2) (B + 3) h) (kZ : ∀ B h h', Z B h → (∀ o, h.get? (B + 4) = some o → h'.get? (B + 4) = some o) → (∀ o, h.get? (B + 3) = some o → h'.get? (B + 3) = some o) → Z B h')
    (bZ : ∀ B h, (∃ a b, IsTupOf2 h (B + 3) a b) → IsZip h (B + 4) (B + 2) (B + 3) .none → Z B h)
    (go : ∀ (B : Nat) (A : Around) (E : Value → Shared → Prop) (s : Shared) (h0 : Heap) (T T' : Addr) (f : Bool) (Q : Unit → Shared → Prop), Z B h0 → (IsZip h0 (B + 4) (B + 2) (B + 3) .none → T = T' ∧ f = false) → (∃ a b, IsTupOf2 s.heap (B + 3) a b) → IsZipHeld s.heap (B + 4) (B + 2) (B + 3) T f →
      (∀ h', Z B h' → Heap.SameBut (B + 4) s.heap h' → Q () { s with heap := h' }) → wpAny (model X.prog X.w) A (letOwnedTupleGo tg (.ref (B + 4)) (.ref T')) Q E s)
    (hs : starEach [e, e2] X.env = (false, eval e X.env) :: starEach [e2] X.env := by rfl) (hpl : (backTo pos (starEach [e2] X.env)).any (·.1) = false := by rfl) :
    PI X tg (.Call (.Name "zip" p) [e, e2] [] pos) (iZipG X.K ta) := by
  refine ⟨fun pins s σ H R I h => ?_⟩
  refine Call_ (ld_blt I hg hm PyProof.Rows.boot_zip (PyProof.Rows.callWith_type1 (thn (ha.run pos pins s σ H _ I h) fun us s1 ⟨vs, H1, I1, r1, a, b, ev, qa, qb, q⟩ => ?_) hs hpl))
  subst ev
  cases r1 with
  | cons ra rr =>
    cases rr with
    | cons rb rr =>
      cases rr
      rename_i u1 u2
      obtain ⟨o1, H1', B1, h1, c1, l1⟩ := Sr.begins I1 qa ra
      obtain ⟨o2, H2', B2, h2, c2, l2⟩ := Sr.begins I1 qb rb
      refine zip_begins2 B1 B2 h1 h2 fun h' hz hTI hTO e1 e2 sz kp => wpAny_pyIter_zip hz ?_
      have I2 : Inv X pins σ H1 { s1 with heap := h' } := I1.kept (t' := s1.toks) kp
      refine ⟨s1.heap.objs.size + 4, [s1.heap.objs.size + 4, s1.heap.objs.size + 2, s1.heap.objs.size + 3, s1.heap.objs.size, s1.heap.objs.size + 1], _, _, H1, rfl, I2, turn_zipG (Z := Z s1.heap.objs.size) l1 l2 (hZ _) (kZ _) (go _), ⟨bZ _ _ ⟨_, _, hTO⟩ hz, hTI, c1 _ _ e1, c2 _ _ e2⟩, fun c hc => ?_, q⟩
      have e' : c = s1.heap.objs.size + 4 ∨ c = s1.heap.objs.size + 2 ∨ c = s1.heap.objs.size + 3 ∨ c = s1.heap.objs.size ∨ c = s1.heap.objs.size + 1 := by simpa using hc
      have hle : s1.heap.objs.size ≤ c := (inN _ _ e').1
      exact I1.fpOk hle (I1.hok.fresh hle)
/-- for x in zip(a, b) -/
theorem pi_zipN {nm : Str} (hg : Gl X "zip") (hm : X.mg "zip" = none) (ha : PA X [e, e2] ta)
    (hs : starEach [e, e2] X.env = (false, eval e X.env) :: starEach [e2] X.env := by rfl) (hpl : (backTo pos (starEach [e2] X.env)).any (·.1) = false := by rfl) :
    PI X (.Name nm tpos) (.Call (.Name "zip" p) [e, e2] [] pos) (iZipG X.K ta) := by
  refine pi_zip_of (Z := fun B h => Zg (B + 4) (B + 2) (B + 3) h) hg hm ha (fun _ _ z => z) (fun B h h' z k4 k3 => ?_) (fun B h a z => ⟨a, .inl z⟩) (fun B A E s h0 T T' f Q _ _ nTO nz q => ?_) hs hpl
  · obtain ⟨⟨a, b, hTO⟩, hz⟩ := z
    refine ⟨⟨a, b, k3 _ hTO⟩, ?_⟩
    rcases hz with hz | ⟨T, f, hz⟩
    · exact .inl (k4 _ hz)
    · exact .inr ⟨T, f, k4 _ hz⟩
  · exact wpAny_of_eq (show letOwnedTupleGo (.Name nm tpos) (.ref (B + 4)) (.ref T') = pure () from rfl) (q s.heap ⟨nTO, .inr ⟨T, f, nz⟩⟩ (Heap.SameBut.refl _ _))
/-- for x, y in zip(a, b) -/
theorem pi_zipM {elts : List Expr} {kk : Nat} (hg : Gl X "zip") (hm : X.mg "zip" = none) (ha : PA X [e, e2] ta)
    (hs : starEach [e, e2] X.env = (false, eval e X.env) :: starEach [e2] X.env := by rfl) (hpl : (backTo pos (starEach [e2] X.env)).any (·.1) = false := by rfl) :
    PI X (.Tuple elts kk tpos) (.Call (.Name "zip" p) [e, e2] [] pos) (iZipG X.K ta) := by
  refine pi_zip_of (Z := fun B h => (∃ a b, IsTupOf2 h (B + 3) a b) ∧ IsZip h (B + 4) (B + 2) (B + 3) .none) hg hm ha (fun _ _ z => ⟨z.1, .inl z.2⟩) (fun B h h' z k4 k3 => ?_) (fun B h a z => ⟨a, z⟩) (fun B A E s h0 T T' f Q hz0 cond nTO nz q => ?_) hs hpl
  · obtain ⟨⟨a, b, hTO⟩, hz⟩ := z
    exact ⟨⟨a, b, k3 _ hTO⟩, k4 _ hz⟩
  · obtain ⟨rfl, rfl⟩ := cond hz0.2
    refine wpAny_letOwnedTupleGo_zip (s := s) nz fun h' z' sb => q h' ⟨?_, z'⟩ sb
    obtain ⟨a, b, t⟩ := nTO
    exact ⟨a, b, sb.extBut _ _ (neN _ _ (by omega)) t⟩
/-- the same, the written part named -/
theorem pi_zipNK {nm : Str} (K : PySem.W.Frag) (hK : X.K = K) (hg : Gl X "zip") (hm : X.mg "zip" = none) (ha : PA X [e, e2] ta)
    (hs : starEach [e, e2] X.env = (false, eval e X.env) :: starEach [e2] X.env := by rfl) (hpl : (backTo pos (starEach [e2] X.env)).any (·.1) = false := by rfl) :
    PI X (.Name nm tpos) (.Call (.Name "zip" p) [e, e2] [] pos) (iZipG K ta) := by
  subst hK
  exact pi_zipN hg hm ha hs hpl
theorem pi_zipMK {elts : List Expr} {kk : Nat} (K : PySem.W.Frag) (hK : X.K = K) (hg : Gl X "zip") (hm : X.mg "zip" = none) (ha : PA X [e, e2] ta)
    (hs : starEach [e, e2] X.env = (false, eval e X.env) :: starEach [e2] X.env := by rfl) (hpl : (backTo pos (starEach [e2] X.env)).any (·.1) = false := by rfl) :
    PI X (.Tuple elts kk tpos) (.Call (.Name "zip" p) [e, e2] [] pos) (iZipG K ta) := by
  subst hK
  exact pi_zipM hg hm ha hs hpl
end
/-! loops -/
section
variable {K : PySem.W.Frag} {p q : Sr}
theorem for_zipG {g : TG} {tb : TS} {D : Ends} {σ : L2.St} {H : Hp} (Pv : Nat → L2.St → Hp → Prop) (hl : p.vs.length = q.vs.length) (h0 : Pv 0 σ H) (hq : ∀ i σ H, Pv i σ H → p.at K H ∧ q.at K H)
    (hs : ∀ (i : Nat) (x y : V) (T : Addr) (σ : L2.St) (H : Hp), p.vs[i]? = some x → q.vs[i]? = some y → Pv i σ H → H T = none → g (.ref T) σ (upd H T (.tup [x, y])) fun σ2 H2 => tb { D with nx := Pv (i + 1), ct := Pv (i + 1), bk := D.nx } σ2 H2) (hd : ∀ σ H, Pv p.vs.length σ H → D.nx σ H) :
    ∃ W : Nat → Nat → L2.St → Hp → Prop, (∃ m, W 0 m σ H) ∧ ∀ i m σ H, W i m σ H →
      ((Jg K p q).stop i H ∧ D.nx σ H) ∨ ((Jg K p q).go i H ∧ ∃ N : L2.St → Hp → Prop, (∀ σ' H', N σ' H' → ∃ m', m' < m ∧ W (i + 1) m' σ' H') ∧ ∀ v H', (Jg K p q).yld i H v H' → g v σ H' fun σ2 H2 => tb { D with nx := N, ct := N, bk := D.nx } σ2 H2) := by
  refine ⟨fun i m σ H => m = p.vs.length - i ∧ i ≤ p.vs.length ∧ Pv i σ H, ⟨_, rfl, Nat.zero_le _, h0⟩, fun i m σ H z => ?_⟩
  obtain ⟨rfl, hi, pv⟩ := z
  obtain ⟨q1, q2⟩ := hq i σ H pv
  by_cases lt : i < p.vs.length
  · refine .inr ⟨⟨q1, q2, lt, by omega⟩, Pv (i + 1), fun σ' H' p' => ⟨p.vs.length - (i + 1), by omega, rfl, lt, p'⟩, fun v H' y => ?_⟩
    obtain ⟨T, x, y, rfl, hT, rfl, e1, e2⟩ := y
    exact hs i x y T σ H e1 e2 pv hT
  · have e : i = p.vs.length := by omega
    subst e
    exact .inl ⟨⟨q1, q2, Nat.le_refl _, by omega, .inl rfl⟩, hd σ H pv⟩
end
end Kz

/-! tuple * number, none and one too -/
namespace Kz
open PySem PySem.Spec PyProof.Rows L2
theorem mul_one_same (l : Addr) (items : Array Value) (n : Nat) (dd : Option Addr) (sl : Array (Option Value)) (u : Tok) :
    Meets (Builtin.«tuple.__mul__» ⟨[.ref l, .int 1 u], []⟩) (fun _ R s => s.heap.get? l = some { cls := .type "tuple", dict := dd, data := .seq items n, slots := sl } ∧ R (.ok (.ret (Value.ref l))) s) :=
  .of_wp fun prog w A R s h => by
    obtain ⟨hp, g, d, tk, os⟩ := s
    obtain ⟨hl, h⟩ := h
    have f1 := AutoSeq1.idx_int
    have hT : Shared.TypeIs ⟨hp, g, d, tk, os⟩ (.ref l) "tuple" := ⟨_, hl, rfl⟩
    wp_walk using wpAny_loadPart' hl, wpAny_typeOf hT
    repeat (first
      | (refine wpAny_ite_false (by decide) ?_; wp_walk using wpAny_loadPart' hl, wpAny_typeOf hT)
      | (refine wpAny_ite_true (by simp) ?_; wp_walk using wpAny_loadPart' hl, wpAny_typeOf hT))
    all_goals first | exact ⟨_, rfl, h⟩ | skip
theorem mul_none (l : Addr) (items : Array Value) (n : Nat) (dd : Option Addr) (sl : Array (Option Value)) (u : Tok) (ne : items.isEmpty = false) :
    Meets (Builtin.«tuple.__mul__» ⟨[.ref l, .int 0 u], []⟩) (fun _ R s => s.heap.get? l = some { cls := .type "tuple", dict := dd, data := .seq items n, slots := sl } ∧
      R (.ok (.ret (Value.ref s.heap.objs.size))) { s with heap := s.heap.push { cls := Value.type "tuple", data := Data.seq #[] }, toks := s.toks }) :=
  .of_wp fun prog w A R s h => by
    obtain ⟨hp, g, d, tk, os⟩ := s
    obtain ⟨hl, h⟩ := h
    have f1 := AutoSeq1.idx_int
    have c1 : (items.isEmpty || (0 : Int) == 1) = false := by rw [ne]; rfl
    wp_walk using wpAny_loadPart' hl
    repeat (first
      | (refine wpAny_ite_false (by decide) ?_; wp_walk using wpAny_loadPart' hl)
      | (refine wpAny_ite_false (decide_eq_false (by rw [c1]; exact Bool.false_ne_true)) ?_; wp_walk using wpAny_loadPart' hl)
      | (refine wpAny_ite_true (by simp) ?_; wp_walk using wpAny_loadPart' hl))
    all_goals first | exact ⟨_, rfl, h⟩ | skip
def rRepA (K : PySem.W.Frag) : R2 := fun x y H Q => ∃ l k xs, x = .ref l ∧ y = .int k ∧ SqT K H l xs ∧ xs ≠ [] ∧ 0 ≤ k ∧ k ≤ 1000 ∧ xs.length ≤ 1000 ∧ ∀ t G, Same H G → SqT K G t (List.replicate k.toNat xs).flatten → Q (.ref t) G
theorem newSm {H : Hp} {p : Addr} {o : HO} (h : H p = none) : Same H (upd H p o) := fun b u e => by
  rw [upd_ne (ne_of_none e h)]
  exact e
section
variable {X : Cx}
theorem op_repA : OpR X (binaryOp .Mult) (rRepA X.K) := by
  intro pins s σ H x y v u Q I rx ry h
  obtain ⟨l, k, xs, rfl, rfl, hT, hne, h1, h2, hz, q⟩ := h
  by_cases h3 : 2 ≤ k
  · exact op_repT pins s σ H _ _ v u Q I rx ry ⟨l, k, xs, rfl, rfl, hT, hne, h3, h2, hz, fun p hp => q p _ (newSm hp) (SqT.of upd_same)⟩
  cases rx
  obtain ⟨t, rfl⟩ := ry
  obtain ⟨its, r, ⟨⟨cls, dd, data, sl⟩, ho, hc, n, hd⟩, hs⟩ := I.tuple hT
  simp only at hc hd
  subst hc hd
  have hn : its.toArray.isEmpty = false := by
    cases its with
    | nil =>
      have := r.length
      exact absurd (List.eq_nil_of_length_eq_zero this) hne
    | cons a b => rfl
  have k01 : k = 0 ∨ k = 1 := by omega
  rcases k01 with rfl | rfl
  · refine wpAny_binaryOp_repeat_ref (T := "tuple") (U := "int") (by decide) ⟨_, ho, rfl⟩ (fun s' => typeIs_int s' 0 t) noFill_tuple_mul F.fills_int_mul F.slot_int_rmul repeat_tuple F.slot_int_index.lookup
      (call_meets F.slot_int_rmul (typeIs_int s 0 t) F.entry_int_rmul (F.args_int_rmul_2 _ _) (int_rmul_tuple 0 t l its.toArray n dd sl)
        ⟨ho, rfl, ⟨_, ho, rfl⟩, call_meets F.slot_tuple_mul ⟨_, ho, rfl⟩ F.entry_tuple_mul (F.args_tuple_mul_2 _ _) (mul_none l its.toArray n dd sl t hn) ⟨ho, ?_⟩⟩)
    have hn := I.hok.fresh (Nat.le_refl s.heap.objs.size)
    refine ⟨.ref s.heap.objs.size, _, I.laid (t' := s.toks) (o := .tup []) (fun b ob q => Heap.get?_push_of_some _ q) (Nat.le_refl _) ?_, rfl, q _ _ (newSm hn) (SqT.of upd_same)⟩
    exact ⟨Nat.zero_le _, [], .nil, IsTup.new _ _⟩
  · refine wpAny_binaryOp_repeat_ref (T := "tuple") (U := "int") (by decide) ⟨_, ho, rfl⟩ (fun s' => typeIs_int s' 1 t) noFill_tuple_mul F.fills_int_mul F.slot_int_rmul repeat_tuple F.slot_int_index.lookup
      (call_meets F.slot_int_rmul (typeIs_int s 1 t) F.entry_int_rmul (F.args_int_rmul_2 _ _) (int_rmul_tuple 1 t l its.toArray n dd sl)
        ⟨ho, rfl, ⟨_, ho, rfl⟩, call_meets F.slot_tuple_mul ⟨_, ho, rfl⟩ F.entry_tuple_mul (F.args_tuple_mul_2 _ _) (mul_one_same l its.toArray n dd sl t) ⟨ho, ?_⟩⟩)
    refine ⟨.ref l, H, I, rfl, q l H (fun _ _ e => e) ?_⟩
    have e : (List.replicate (1 : Int).toNat xs).flatten = xs := by simp
    rw [e]
    exact hT
end
end Kz

/-! comprehensions of two loops: a tuple, within it a zip; str of a text or of a number from nought on -/
namespace Kz
open PySem PySem.Spec PyProof.Rows L2
/-- the inner loop of a comprehension of two -/
def inn (J1 : It) (g1 : TG) (tt1 : TT) (te : TE) (vs1 : List Nat) (D : Addr) (Nx : Hp → Prop) (σ2 : L2.St) (H4 : Hp) : Prop :=
  ∃ W1 : Nat → Nat → Hp → Prop, (∃ m, W1 0 m H4) ∧ ∀ j k H, W1 j k H →
      (J1.stop j H ∧ Nx H) ∨ (J1.go j H ∧ ∃ Nx1 : Hp → Prop, (∀ H', Nx1 H' → ∃ k', k' < k ∧ W1 (j + 1) k' H') ∧ ∀ x H', J1.yld j H x H' → g1 x (wipe σ2 vs1) H' fun σ3 H5 => wipe σ3 vs1 = wipe σ2 vs1 ∧ tt1 σ3 H5 fun b H6 =>
        if b = true then te σ3 H6 fun y H7 => ∃ acc, H7 D = some (.lst acc) ∧ acc.length < sizeLine ∧ Nx1 (upd H7 D (.lst (acc ++ [y]))) else Nx1 H6)
theorem lc2_tup {K : PySem.W.Frag} {a : Addr} {xs : List V} {g g1 : TG} {tt tt1 : TT} {te : TE} {wi1 : TI} {vs vs1 : List Nat} {σ : L2.St} {H1 : Hp} {D : Addr} {Qd : Hp → Prop} (Pv : Nat → Hp → Prop) (h0 : Pv 0 (upd H1 D (.lst []))) (hl : ∀ i H, i ≤ xs.length → Pv i H → SqT K H a xs)
    (hs : ∀ i x H, xs[i]? = some x → Pv i H → g x (wipe σ vs) H fun σ2 H2 => wipe σ2 vs = wipe σ vs ∧ tt σ2 H2 fun b H3 => if b = true then wi1 σ2 H3 fun J1 H4 => inn J1 g1 tt1 te vs1 D (Pv (i + 1)) σ2 H4 else Pv (i + 1) H3) (hd : ∀ H, Pv xs.length H → Qd H) :
    ∃ W : Nat → Nat → Hp → Prop, (∃ m, W 0 m (upd H1 D (.lst []))) ∧ ∀ i m H, W i m H →
      ((Itt K a).stop i H ∧ Qd H) ∨ ((Itt K a).go i H ∧ ∃ Nx : Hp → Prop, (∀ H', Nx H' → ∃ m', m' < m ∧ W (i + 1) m' H') ∧ ∀ x H', (Itt K a).yld i H x H' → g x (wipe σ vs) H' fun σ2 H2 => wipe σ2 vs = wipe σ vs ∧ tt σ2 H2 fun b H3 =>
        if b = true then wi1 σ2 H3 fun J1 H4 => inn J1 g1 tt1 te vs1 D Nx σ2 H4 else Nx H3) := by
  refine ⟨fun i m H => m = xs.length - i ∧ i ≤ xs.length ∧ Pv i H, ⟨_, rfl, Nat.zero_le _, h0⟩, fun i m H z => ?_⟩
  obtain ⟨rfl, hi, p⟩ := z
  have q := hl i H hi p
  by_cases lt : i < xs.length
  · refine .inr ⟨⟨xs, xs[i], q, by simp [lt]⟩, Pv (i + 1), fun H' p' => ⟨xs.length - (i + 1), by omega, rfl, lt, p'⟩, fun x H' y => ?_⟩
    obtain ⟨e, y⟩ := y
    subst e
    exact hs i x _ (y xs q) p
  · have e : i = xs.length := by omega
    subst e
    exact .inl ⟨⟨xs, q, by simp⟩, hd H p⟩
theorem inn_zip {K : PySem.W.Frag} {p q : Sr} {g1 : TG} {tt1 : TT} {te : TE} {vs1 : List Nat} {D : Addr} {Nx : Hp → Prop} {σ2 : L2.St} {H4 : Hp} (Pw : Nat → Hp → Prop) (hl : p.vs.length = q.vs.length) (h0 : Pw 0 H4) (hq : ∀ i H, Pw i H → p.at K H ∧ q.at K H)
    (hs : ∀ i x y T H, p.vs[i]? = some x → q.vs[i]? = some y → Pw i H → H T = none → g1 (.ref T) (wipe σ2 vs1) (upd H T (.tup [x, y])) fun σ3 H5 => wipe σ3 vs1 = wipe σ2 vs1 ∧ tt1 σ3 H5 fun b H6 =>
        if b = true then te σ3 H6 fun y H7 => ∃ acc, H7 D = some (.lst acc) ∧ acc.length < sizeLine ∧ Pw (i + 1) (upd H7 D (.lst (acc ++ [y]))) else Pw (i + 1) H6) (hd : ∀ H, Pw p.vs.length H → Nx H) : inn (Jg K p q) g1 tt1 te vs1 D Nx σ2 H4 := by
  refine ⟨fun i m H => m = p.vs.length - i ∧ i ≤ p.vs.length ∧ Pw i H, ⟨_, rfl, Nat.zero_le _, h0⟩, fun i m H z => ?_⟩
  obtain ⟨rfl, hi, pw⟩ := z
  obtain ⟨q1, q2⟩ := hq i H pw
  by_cases lt : i < p.vs.length
  · refine .inr ⟨⟨q1, q2, lt, by omega⟩, Pw (i + 1), fun H' p' => ⟨p.vs.length - (i + 1), by omega, rfl, lt, p'⟩, fun v H' y => ?_⟩
    obtain ⟨T, x, y, rfl, hT, rfl, e1, e2⟩ := y
    exact hs i x y T H e1 e2 pw hT
  · have e : i = p.vs.length := by omega
    subst e
    exact .inl ⟨⟨q1, q2, Nat.le_refl _, by omega, .inl rfl⟩, hd H pw⟩
/-- str of a text, of a number from nought on -/
theorem call_strB {X : Cx} (hc : X.A.handled = none) (e : PySem.W.nsOkIn X.K cStatics = true) (q : PySem.W.nsIn X.K cStatics "sys.int_max_str_digits" = some none) : CallR X (.type "str") (fun xs H Q => (∃ a : Str, xs = [.str a] ∧ Q (.str a) H) ∨ ∃ n : Nat, xs = [.int n] ∧ n < 10 ^ 4300 ∧ Q (.str (Str.ofString (toString ((n : Nat) : Int)))) H) := by
  intro pins s σ H xs us Q I r h
  rcases h with ⟨a, rfl, h⟩ | ⟨n, rfl, hn, h⟩
  · exact SkE.call_str_str pins s σ H _ us Q I r ⟨a, rfl, h⟩
  · exact Ki.call_str_intA hc e q pins s σ H _ us Q I r ⟨(n : Int), rfl, by rw [Int.natAbs_natCast]; exact hn, h⟩
end Kz

/-! d.get(k) of a dict of the module; statements and expressions that are never reached -/
namespace Kk
open PySem PySem.Spec PyProof.Rows L2
theorem ps_no {X : Cx} {st : Stmt} : PS X st (fun _ _ _ => False) := ⟨fun _ _ _ _ _ _ h => h.elim⟩
theorem pss_no {X : Cx} {b : List Stmt} : PSs X b (fun _ _ _ => False) := ⟨fun _ _ _ _ _ _ h => h.elim⟩
theorem pe_no {X : Cx} {e : Expr} : PE X e (fun _ _ _ => False) := ⟨fun _ _ _ _ _ _ h => h.elim⟩
section
variable {X : Cx} {d : Addr} {es : Array DictEntry} {n : Nat}
def tKGet (K : PySem.W.Frag) (d : Addr) (to ty : TE) : TE := fun σ H Q => to σ H fun x H1 => x = .ref d ∧ ty σ H1 fun y H2 => ∃ (z : Str) (r : Option Value) (v : V), y = .str z ∧ PySem.W.nsIn K d z = some r ∧ RelV v (r.getD .none) ∧ Q v H2
theorem pe_kget {o e : Expr} {apos cpos : Pos} {to ty : TE} (D : KDict X.K X.w d es n) (ho : PE X o to) (he : PE X e ty) (m : M1 X o "get" apos e cpos) : PE X (.Call (.Attribute o "get" apos) [e] [] cpos) (tKGet X.K d to ty) := by
  refine ⟨fun pins s σ H Q I h => ?_⟩
  refine wpAny_Call_method m.base m.few m.line PySem.F.plainAttrs_dict PySem.F.slot_dict_get PySem.F.type_dict_get (thn (ho.run pins s σ H _ I h) fun u s1 ⟨x, H1, I1, rx, ex, q1⟩ => ?_)
  subst ex
  obtain rfl : u = Value.ref d := rx
  have M := PySem.W.mapOf_K (prog := X.prog) (w := X.w) I1.kIn D.at_ D.lit
  refine ⟨M.typeIs, M.noDict, ?_⟩
  rw [m.trees]
  refine Calls.callWith_builtin rfl (Calls.evalArgs_plain (Calls.spliced_cons (thn (he.run pins s1 σ H1 _ I1 q1) fun iv s2 ⟨y, H2, I2, ry, z, r, v, ey, e, rv, q2⟩ => Calls.spliced_nil ?_)))
  subst ey
  obtain ⟨t, rfl⟩ := (show ∃ t, iv = Value.str z t from ry)
  have M2 := PySem.W.mapOf_K (prog := X.prog) (w := X.w) I2.kIn D.at_ D.lit
  refine call_meetsIn PySem.F.slot_dict_get M2.typeIs PySem.F.entry_dict_get (PySem.F.args_dict_get_2 _ _) (meets_dict_get _ d (PySem.strKind_is X.prog X.w z t) D.low) ⟨_, M2, ?_⟩
  rw [PySem.W.find_K D.at_ e]
  exact ⟨v, H2, I2.tok _, rv, q2⟩
end
end Kk

/-! list(reversed(t)), t a tuple -/
namespace Kp
open PySem PySem.Spec PyProof.Rows L2 RT
theorem nolen_rt : typeLookup (.type "reversed") "__len__" = pure none := by rw [typeLookup_type, builtinLookup_eq_fast]; kernel_rfl
theorem slot_rt_hint : Slot "reversed" "__length_hint__" "reversed.__length_hint__" :=
  .of (owner := "reversed") (n := "__length_hint__") (by rw [typeLookup_type, builtinLookup_eq_fast]; kernel_rfl) (by decide +kernel) (by decide +kernel) (by decide +kernel) (by first | exact .inl (by decide +kernel) | exact .inr (by decide +kernel)) (by rw [isSubtype_type]; kernel_rfl)
theorem entry_rt_hint : entryFor table "reversed.__length_hint__" = some Builtin.«reversed.__length_hint__» := entryFor_of_tree (by kernel_rfl)
theorem args_rt_hint (a : Value) : argsOk "reversed.__length_hint__" ⟨[a], []⟩ := by
  unfold argsOk
  rw [signature?_of (id := "reversed.__length_hint__") (n := "__length_hint__".toList.reverse) (o := "reversed".toList.reverse) (by kernel_rfl) owner_rt]
  kernel_rfl
section
variable {prog : Program} {w : World} {A : Around} {E : Value → Shared → Prop} {s : Shared}
theorem rtHint {it t : Addr} {n : Nat} {items : Array Value} {Q : Bool → Shared → Prop} (hit : IsRt s.heap it t ((n : Int) - 1)) (ht : IsTup s.heap t items) (e : items.size = n) (hn : n ≤ sizeLine)
    (hlen : ∀ (A : Around) (E : Value → Shared → Prop) (Q : Value → Shared → Prop), Q (.int items.size (s.toks + 1)) { s with toks := s.toks + 1 + 1 } → wpAny (model prog w) A (call (.builtin "len") [.ref t]) Q E s)
    (q : ∀ b tk, Q b { s with toks := tk }) : wpAny (model prog w) A (Builtin.List.listLengthHint (.ref it)) Q E s := by
  have ty := hit.typeIs
  obtain ⟨o, ho, hc, hd⟩ := id hit
  unfold Builtin.List.listLengthHint
  refine wpAny_bind (wpAny_specialOf ty nolen_rt ?_)
  show wpAny _ A (specialOf (.ref it) (Str.ofString "__length_hint__") >>= _) _ _ _
  refine wpAny_bind (wpAny_specialOf ty slot_rt_hint.lookup ?_)
  generalize hid : ("reversed.__length_hint__" : String) = nm
  wp_delta
  have sp : splitId nm = some ("reversed", "__length_hint__") := by
    subst hid
    decide +kernel
  rw [sp]
  subst hid
  refine wpAny_bind (wpAny_isInstance (b := true) ty (by rw [isSubtype_type]; kernel_rfl) ?_)
  rw [if_neg (by decide)]
  dsimp only
  rw [if_neg (by decide +kernel)]
  refine wpAny_bind (wpAny_rule ?_)
  refine wpAny_bind (wpAny_of_eq (slot_rt_hint.bind _) ?_)
  dsimp only
  refine wpAny_bind (wpAny_attempt (wpAny_call_entry slot_rt_hint ty entry_rt_hint ?_ (args_rt_hint _)))
  unfold Builtin.«reversed.__length_hint__»
  refine wpAny_bind (wpAny_of_eq (a := Value.ref it) rfl ?_)
  try dsimp only
  refine wpAny_bind (wpAny_field ho hd (x := .ref t) rfl ?_)
  try dsimp only
  rw [if_neg (show ¬ ((Value.ref t == Value.none) = true) from Bool.false_ne_true)]
  try dsimp only
  refine wpAny_bind (hlen _ _ _ ?_)
  try dsimp only
  refine wpAny_bind (wpAny_of_eq (a := some ((items.size : Nat) : Int)) rfl ?_)
  try dsimp only
  refine wpAny_bind (wpAny_field (s := { s with toks := s.toks + 1 + 1 }) ho hd (x := rawInt ((n : Int) - 1)) rfl ?_)
  show wpAny _ _ (if ((items.size : Nat) : Int) < (n : Int) - 1 + 1 then _ else _) _ _ _
  rw [if_neg (by omega)]
  unfold retInt
  refine wpAny_bind (wpAny_mkInt ?_)
  refine wpAny_pure ⟨_, rfl, ?_⟩
  dsimp only
  refine wpAny_bind (wpAny_of_eq (a := some ((n : Int) - 1 + 1)) rfl ?_)
  dsimp only
  rw [sizeLine_eq] at hn
  have e1 : (n : Int) - 1 + 1 = (n : Int) := by omega
  rw [e1]
  have f1 : Builtin.List.listFitsIndex (n : Int) = true := by
    unfold Builtin.List.listFitsIndex
    simp
    omega
  rw [if_neg (by rw [f1]; decide), if_neg (by omega), if_neg (by rw [Int.toNat_natCast, notLongL (by rw [sizeLine_eq]; exact hn)]; decide)]
  exact wpAny_pure (q _ _)
/-- reversed(t), gone through -/
theorem walkRt (hh : A.handled = none) (it t : Addr) (hne : t ≠ it) (items : Array Value) (hn : items.size ≤ sizeLine) :
    Walks prog w A it [it, t] [it] items.size (fun i v => items[items.size - 1 - i]? = some v) (fun i h => i ≤ items.size ∧ IsRt h it t ((items.size : Int) - 1 - (i : Int)) ∧ IsTup h t items) where
  sub := fun b hb => by simp at hb; simp [hb]
  frame := fun _ _ _ x hk => ⟨x.1, x.2.1.at fun o e => hk it (by simp) o e, (let ⟨o, e, r⟩ := x.2.2; ⟨o, hk t (by simp) o e, r⟩)⟩
  item := fun i s Q E hi x hQ => by
    have e : (items.size : Int) - 1 - (i : Int) = ((items.size - 1 - i : Nat) : Int) := by omega
    have hit := x.2.1
    rw [e] at hit
    have hx : items[items.size - 1 - i]? = some (items[items.size - 1 - i]'(by omega)) := Array.getElem?_eq_getElem (by omega)
    refine next_rt_item hit x.2.2 hx hn fun g hit' hs' => ?_
    have e2 : ((items.size - 1 - i : Nat) : Int) - 1 = (items.size : Int) - 1 - ((i + 1 : Nat) : Int) := by omega
    rw [e2] at hit'
    exact hQ _ g _ hx ⟨hi, hit', (let ⟨o, eo, r⟩ := x.2.2; ⟨o, (hs'.2 t hne).trans eo, r⟩)⟩ fun b o hb eo => hs'.extBut b o (fun u => hb (by simp [u])) eo
  done := fun s Q E x hQ => by
    have e : (items.size : Int) - 1 - (items.size : Int) = -1 := by omega
    have hit := x.2.1
    rw [e] at hit
    exact next_rt_end hh hit fun g eb => hQ g s.toks fun b o hb eo => eb b o (fun u => hb (by simp [u])) eo
  self := fun i s Q E x hQ => iter_rt x.2.1 hQ
theorem call_list_rt {Q : Value → Shared → Prop} {it t : Addr} {its : Array Value} (hh : A.handled = none) (hit : IsRt s.heap it t ((its.size : Int) - 1)) (ht : IsTup s.heap t its) (hne : t ≠ it) (hn : its.size ≤ sizeLine)
    (hQ : ∀ (g : Heap) (tk : Nat) (acc : Array Value) (c : Nat), (∀ b o, b ≠ it → s.heap.get? b = some o → g.get? b = some o) →
      g.get? s.heap.objs.size = some { cls := .type "list", dict := none, data := .seq acc c, slots := #[] } → ItemsOf (fun i v => its[its.size - 1 - i]? = some v) acc its.size → Q (.ref s.heap.objs.size) { s with heap := g, toks := tk }) :
    wpAny (model prog w) A (call (.type "list") [.ref it]) Q E s := by
  obtain ⟨oi, hoi, _⟩ := id hit
  obtain ⟨ol, hol, _⟩ := id ht
  have n1 : s.heap.objs.size ≠ it := Nat.ne_of_gt (Heap.lt_size hoi)
  have n2 : s.heap.objs.size ≠ t := Nat.ne_of_gt (Heap.lt_size hol)
  refine callType_codes (Q₁ := fun obj s₁ => obj = .ref s.heap.objs.size ∧ s₁ = { s with heap := s.heap.push { cls := .type "list", data := .seq #[] } })
    F.called_list (F.typeCall_list_1 _) F.entry_list_init (code_list_new _ ⟨rfl, rfl⟩) (fun obj s₁ h₁ => ?_)
  obtain ⟨rfl, rfl⟩ := h₁
  have eD : (s.heap.push { cls := .type "list", data := .seq #[] }).get? s.heap.objs.size = some { cls := .type "list", data := .seq #[] } := Heap.get?_push_size _ rfl
  refine ⟨⟨_, eD, rfl⟩, F.args_list_init_2 _ _, ?_⟩
  show wpAny _ _ (do
    let old ← Builtin.List.listItems (.ref s.heap.objs.size)
    Builtin.List.listUpdate (.ref s.heap.objs.size) (fun _ => #[])
    letGo old.toList.reverse
    Builtin.List.listExtendWith (.ref s.heap.objs.size) (.ref it) .none) _ _ _
  refine wpAny_bind ?_
  unfold Builtin.List.listItems
  refine wpAny_bind (wpAny_seqItems eD rfl (wpAny_pure ?_))
  show wpAny _ _ (do
    updateSeq s.heap.objs.size (fun _ => #[])
    letGo (#[] : Array Value).toList.reverse
    Builtin.List.listExtendWith (.ref s.heap.objs.size) (.ref it) .none) _ _ _
  refine wpAny_bind (wpAny_updateSeq eD rfl ?_)
  have eD2 := Heap.get?_update_self (Obj.mapSeq fun _ => (#[] : Array Value)) eD rfl
  refine wpAny_bind (wpAny_letGo ?_)
  generalize hh2 : (s.heap.push { cls := .type "list", data := .seq #[] }).update s.heap.objs.size (Obj.mapSeq fun _ => (#[] : Array Value)) = g2 at eD2 ⊢
  generalize hS : s.heap.objs.size = D at *
  have kp : ∀ b o, s.heap.get? b = some o → g2.get? b = some o := fun b o e => by
    rw [← hh2, Heap.get?_update_other _ _ (Nat.ne_of_gt (by rw [← hS]; exact Heap.lt_size e))]
    exact Heap.get?_push_of_some _ e
  have it2 : IsRt g2 it t ((its.size : Int) - 1) := hit.at fun o e => kp _ _ e
  have ht2 : IsTup g2 t its := let ⟨o, e, r⟩ := ht; ⟨o, kp _ _ e, r⟩
  have ty : (⟨g2, s.gens, s.drawn, s.toks, s.os⟩ : Shared).TypeIs (.ref it) "reversed" := it2.typeIs
  have lt : ∀ b o, s.heap.get? b = some o → b ≠ D := fun b o e => by rw [← hS]; exact Nat.ne_of_lt (Heap.lt_size e)
  unfold Builtin.List.listExtendWith
  refine wpAny_bind (wpAny_typeOf ty ?_)
  have no : Builtin.List.listSameRef (.ref D) (.ref it) = false := by simp [Builtin.List.listSameRef, n1]
  rw [if_neg (by rw [no]; decide)]
  refine wpAny_bind (iter_rt it2 ?_)
  refine wpAny_bind (wpAny_holding ?_)
  refine rtHint (n := its.size) it2 ht2 rfl hn (fun A E Q k => len_tuple ht2 (by rw [sizeLine_eq] at hn; omega) k) fun b tk => ?_
  have W := (walkRt (prog := prog) (w := w) (A := A.in1.in1) hh it t hne its hn).toS
  have out : D ∉ [it, t] := by
    intro z
    rcases List.mem_cons.mp z with z | z
    · exact n1 z
    · exact n2 (List.mem_singleton.mp z)
  have z0 : ((its.size : Nat) : Int) - 1 - ((0 : Nat) : Int) = (its.size : Int) - 1 := by omega
  have loop : ∀ (g3 : Heap) (c : Nat), (∀ b o, b ≠ D → g2.get? b = some o → g3.get? b = some o) → g3.get? D = some { cls := .type "list", data := .seq #[] c } →
      codeAny (model prog w) A.in1 (.builtin "list.extend.loop" ⟨[.ref D, .ref it, .none], []⟩) (wants (fun r s₂ => r = .none ∧ Q (.ref D) s₂) E) { s with heap := g3, toks := tk } := fun g3 c k3 e3 => by
    have st0 : IsRt g3 it t ((its.size : Int) - 1 - ((0 : Nat) : Int)) := by rw [z0]; exact it2.at fun o e => k3 _ _ (Ne.symm n1) e
    refine codeAny_extend_loopS W hn D out .none its.size 0 _ _ _ rfl (Nat.zero_le _) ⟨Nat.zero_le _, st0, (let ⟨o, e, r⟩ := ht2; ⟨o, k3 _ _ (Ne.symm n2) e, r⟩)⟩ e3 (ItemsOf.nil _) (fun s' acc' c' mv hS' hacc => ?_)
    rw [Moved.eq_with mv]
    refine ⟨rfl, hQ s'.heap s'.toks acc' c' (fun b o h1 e => mv.heap b o (fun z => ?_) (k3 b o (lt b o e) (kp b o e))) hS' hacc⟩
    rcases List.mem_cons.mp z with z | z
    · exact lt b o e z
    · exact h1 (List.mem_singleton.mp z)
  cases b with
  | false =>
    rw [if_neg (by decide +kernel)]
    exact wpAny_pure ⟨plainId_quiet F.plain_extend_loop _, loop _ _ (fun _ _ _ e => e) eD2⟩
  | true =>
    rw [if_pos (by decide +kernel)]
    refine wpAny_bind (wpAny_rule (wpAny_bind ?_))
    show wpAny _ _ (updateSeq D (·.push .none) >>= fun _ => updateSeq D (·.pop)) _ _ _
    refine wpAny_bind (wpAny_updateSeq eD2 rfl ?_)
    have e2 := Heap.get?_update_self (Obj.mapSeq (·.push Value.none)) eD2 rfl
    refine wpAny_updateSeq e2 rfl ?_
    have e3 := Heap.get?_update_self (Obj.mapSeq (·.pop)) e2 rfl
    exact wpAny_pure ⟨plainId_quiet F.plain_extend_loop _, loop _ _ (fun b o hb e => (Heap.get?_update_other _ _ (Ne.symm hb)).trans ((Heap.get?_update_other _ _ (Ne.symm hb)).trans e)) e3⟩
end
/-- list(reversed(t)), t a tuple -/
def tListRevT (K : PySem.W.Frag) (te : TE) : TE := fun σ H Q => te σ H fun v G => ∃ (a : Addr) (xs : List V), v = .ref a ∧ SqT K G a xs ∧ ∀ q, G q = none → Q (.ref q) (upd G q (.lst xs.reverse))
theorem pe_listRevT {X : Cx} {e : Expr} {te : TE} {p p2 pos pos2 : Pos} (hc : X.calm = true) (hg : Gl X "list") (hm : X.mg "list" = none) (hg2 : Gl X "reversed") (hm2 : X.mg "reversed" = none) (he : PE X e te)
    (hs : starEach [e] X.env = (false, eval e X.env) :: starEach [] X.env := by rfl)
    (hs2 : starEach [.Call (.Name "reversed" p2) [e] [] pos2] X.env = (false, eval (.Call (.Name "reversed" p2) [e] [] pos2) X.env) :: starEach [] X.env := by rfl) :
    PE X (.Call (.Name "list" p) [.Call (.Name "reversed" p2) [e] [] pos2] [] pos) (tListRevT X.K te) := by
  refine ⟨fun pins s σ H Q I h => ?_⟩
  refine Call_ (ld_blt I hg hm boot_list (PyProof.Rows.callWith_type1 (args_cons (Call_ (ld_blt I hg2 hm2 PyProof.Rows.boot_reversed (PyProof.Rows.callWith_type1 (args_cons (thn (he.run pins s σ H _ I h) fun u s1 ⟨v, G, I1, r1, a, xs, ev, hq, q⟩ => args_nil ?_) hs) hs rfl))) hs2) hs2 rfl))
  subst ev
  obtain rfl : u = Value.ref a := r1
  obtain ⟨its, rv, pl, hz⟩ := I1.tuple hq
  have hl := rv.length
  have hn := line63
  have sz : its.toArray.size ≤ sizeLine := by rw [List.size_toArray, ← hl]; exact hz
  refine call_reversed_tup pl (fun A E Q k => len_tuple pl (by rw [sizeLine_eq] at sz; omega) k) (args_nil ?_)
  have k0 : ∀ b o, s1.heap.get? b = some o → (s1.heap.push (rtObj a ((its.toArray.size : Int) - 1))).get? b = some o := fun b o z => Heap.get?_push_of_some _ z
  have la : a ≠ s1.heap.objs.size := by
    obtain ⟨o, e, _⟩ := pl
    exact Nat.ne_of_lt (Heap.lt_size e)
  generalize hh3 : s1.heap.push (rtObj a ((its.toArray.size : Int) - 1)) = h3 at k0 ⊢
  have it3 : IsRt h3 s1.heap.objs.size a ((its.toArray.size : Int) - 1) := by
    rw [← hh3]
    exact ⟨_, Heap.get?_push_size _ rfl, rfl, rfl⟩
  have t3 : IsTup h3 a its.toArray := let ⟨o, e, r⟩ := pl; ⟨o, k0 _ _ e, r⟩
  have lt3 : s1.heap.objs.size < h3.objs.size := by
    obtain ⟨o, e, _⟩ := id it3
    exact Heap.lt_size e
  refine call_list_rt (s := { s1 with heap := h3, toks := s1.toks + 1 + 1 }) (I1.ok.hd hc) it3 t3 la sz fun g tk acc c hk hS hi => ?_
  have hgo : G h3.objs.size = none := I1.hok.fresh (Nat.le_of_lt lt3)
  exact ⟨.ref h3.objs.size, upd G h3.objs.size (.lst xs.reverse), I1.laid (t' := tk) (fun b o z => hk b o (Nat.ne_of_lt (Heap.lt_size z)) (k0 b o z)) (Nat.le_of_lt lt3)
    (show ObjOk X.prog X.w _ _ _ (.lst xs.reverse) from ⟨by rw [List.length_reverse]; exact hz, acc.toList, c, vals_rev rv hi, by rw [Array.toArray_toList]; exact hS⟩), rfl, q _ hgo⟩
end Kp

/-! del xs[a:] -/
namespace Kd
open PySem PySem.Spec PyProof.Rows L2
theorem cut_off {sel : Nat → Bool} {a : Nat} : ∀ (xs : List Value) (i : Nat), (∀ k, i ≤ k → k < i + xs.length → sel k = decide (a ≤ k)) → ((xs.zipIdx i).filterMap fun p => if sel p.2 = true then none else some p.1) = xs.take (a - i)
  | [], i, _ => by simp
  | x :: xs, i, h => by
    have h0 := h i (Nat.le_refl _) (by rw [List.length_cons]; omega)
    have ih := cut_off (sel := sel) (a := a) xs (i + 1) fun k h1 h2 => h k (by omega) (by rw [List.length_cons]; omega)
    rw [List.zipIdx_cons, List.filterMap_cons, ih]
    by_cases c : a ≤ i
    · rw [if_pos (by rw [h0]; exact decide_eq_true c), show a - i = 0 by omega, show a - (i + 1) = 0 by omega]
      simp
    · rw [if_neg (by rw [h0, decide_eq_false c]; exact Bool.false_ne_true), show a - i = (a - (i + 1)) + 1 by omega, List.take_succ_cons]
section
variable {prog : Program} {w : World} {A : Around} {E : Value → Shared → Prop} {s : Shared}
theorem delSlice {l sl : Addr} {its : List Value} {n a : Nat} {vl vu : Value} {Q : Unit → Shared → Prop} (e : s.heap.get? l = some { cls := .type "list", data := .seq its.toArray n }) (hs : s.heap.IsSliceOf sl vl vu .none)
    (pl : IsPart vl (some (a : Int))) (pu : IsPart vu none) (ha : a ≤ its.length) (hz : its.length ≤ sizeLine)
    (h : ∀ f : Array Value → Array Value, f its.toArray = (its.take a).toArray → Q () { s with heap := s.heap.update l (Obj.mapSeq f) }) : wpAny (model prog w) A (delItem (.ref l) (.ref sl)) Q E s := by
  obtain ⟨os, hos, hcs, hds⟩ := id hs
  have hTs : s.TypeIs (.ref sl) "slice" := ⟨os, hos, hcs⟩
  have ty : s.TypeIs (.ref l) "list" := ⟨_, e, rfl⟩
  refine wpAny_delItem_slot ty (by decide) F.slot_list_delitem ?_
  refine wpAny_call_entry F.slot_list_delitem ty F.entry_list_delitem ?_ (F.args_list_delitem_2 _ _)
  show wpAny _ _ (Builtin.List.listSubscript? (.ref sl) >>= _) _ _ s
  refine wpAny_bind ?_
  unfold Builtin.List.listSubscript?
  refine wpAny_bind (wpAny_specialOf hTs slice_no_index ?_)
  simp only [Option.isNone_none, if_true]
  refine wpAny_pure ?_
  show wpAny _ _ (typeOf (.ref sl) >>= _) _ _ s
  refine wpAny_bind (wpAny_typeOf hTs ?_)
  first
    | rw [if_neg (by decide)]
    | refine PySem.W.KFB.if_not (by decide) ?_
  rw [listSliceParts_eq]
  refine wpAny_bind (wpAny_bind (wpAny_field hos hds (x := .none) rfl (wpAny_bind (wpAny_listPart .none ?_))))
  rw [if_neg (by decide)]
  refine wpAny_bind (wpAny_field hos hds (x := vl) rfl (wpAny_bind (wpAny_listPart pl ?_)))
  refine wpAny_bind (wpAny_field hos hds (x := vu) rfl (wpAny_bind (wpAny_listPart pu (wpAny_pure ?_))))
  unfold Builtin.List.listItems
  refine wpAny_bind (wpAny_bind (wpAny_seqItems e rfl (wpAny_pure ?_)))
  have bd : sliceBounds (some (a : Int)) none none its.toArray.size = ((a : Int), (its.length : Int), 1) := by
    unfold sliceBounds
    simp
    omega
  refine wpAny_bind (wpAny_of_eq ((sliceIndices_raw (some (a : Int)) none none its.toArray.size (by simp)).trans (congrArg (pure : Int × Int × Int → Sem (Int × Int × Int)) bd)) ?_)
  refine wpAny_bind (wpAny_rule ?_)
  have cut := cut_off (a := a) (sel := fun k => if (1 : Int) > 0 then decide ((a : Int) ≤ (k : Int)) && decide ((k : Int) < (its.length : Int)) && (((k : Int) - (a : Int)) % 1 == 0) else decide ((its.length : Int) < (k : Int)) && decide ((k : Int) ≤ (a : Int)) && (((a : Int) - (k : Int)) % (-1) == 0)) its 0 fun k _ h2 => by
    rw [if_pos (by decide), Int.emod_one]
    rw [Nat.zero_add] at h2
    have e2 : decide ((k : Int) < (its.length : Int)) = true := decide_eq_true (by omega)
    rw [e2, Bool.and_true]
    have e3 : decide ((a : Int) ≤ (k : Int)) = decide (a ≤ k) := by
      by_cases c : a ≤ k
      · rw [decide_eq_true c, decide_eq_true (by omega)]
      · rw [decide_eq_false c, decide_eq_false (by omega)]
    rw [e3]
    simp
  rw [Nat.sub_zero] at cut
  have cut2 := congrArg List.toArray cut
  have lt : (its.take a).length ≤ its.length := by rw [List.length_take]; omega
  refine wpAny_bind (m := updateSeq l _) (wpAny_updateSeq e rfl ?_ (by rw [List.size_toArray]; omega) (Nat.le_trans (Nat.le_of_eq (congrArg Array.size cut2)) (by rw [List.size_toArray]; omega)))
  refine wpAny_bind (wpAny_letGo ?_)
  exact wpAny_pure ⟨.none, rfl, h _ cut2⟩
end
section
variable {X : Cx}
/-- del xs[a:], a list that may change -/
def tDelFrom (to ta : TE) : TS := fun D σ H => to σ H fun x H1 => tPart ta σ H1 fun o H2 => ∃ (l : Addr) (xs : List V) (a : Nat), x = .ref l ∧ o = some (a : Int) ∧ H2 l = some (.lst xs) ∧ a ≤ xs.length ∧ D.nx σ (upd H2 l (.lst (xs.take a)))
theorem ps_delFrom {o i : Expr} {to ta : TE} {p tpos pos : Pos} (ho : PE X o to) (hi : PE X i ta) : PS X (.Delete [.Subscript o (.Slice (some i) none none p) tpos] pos) (tDelFrom to ta) := by
  refine ⟨fun pins s σ H D I h => ?_⟩
  refine wpAny_Delete (wpAny_deleteEach_cons (wpAny_delete_Subscript (thn (ho.run pins s σ H _ I h) fun u s1 ⟨x, H1, I1, rx, q1⟩ => ?_)))
  refine wpAny_Slice (thn ((po_some hi).run pins s1 σ H1 (fun o H2 => ∃ (l : Addr) (xs : List V) (a : Nat), x = .ref l ∧ o = some (a : Int) ∧ H2 l = some (.lst xs) ∧ a ≤ xs.length ∧ D.nx σ (upd H2 l (.lst (xs.take a)))) I1 q1) fun vl s2 ⟨lo, H2, I2, pl, q2⟩ => ?_)
  obtain ⟨l, xs, a, ex, el, hH, ha, q2⟩ := q2
  subst ex el
  cases (show u = Value.ref l from rx)
  refine thn (po_none.run pins s2 σ H2 (fun o H3 => o = none ∧ H3 = H2) I2 ⟨rfl, rfl⟩) fun vu s3 ⟨w1, H3, I3, pu, eu, e3⟩ => ?_
  subst eu e3
  refine thn (po_none.run pins s3 σ H3 (fun o H4 => o = none ∧ H4 = H3) I3 ⟨rfl, rfl⟩) fun vs s4 ⟨o4, H4, I4, ps, eo, e4⟩ => ?_
  subst eo e4
  cases ps
  have I5 : Inv X pins σ H4 { s4 with heap := s4.heap.push { cls := .type "slice", data := .fields #[vl, vu, .none] } } := I4.kept (t' := s4.toks) fun b ob q => Heap.get?_push_of_some _ q
  obtain ⟨z, its, n, r, hl, e⟩ := I5.lstM hH
  refine delSlice e (Heap.IsSliceOf.new _ vl vu .none) pl pu (by omega) (by omega) fun f hf => wpAny_deleteEach_nil ⟨σ, _, I5.lset (t' := s4.toks) hH e hf (r.take a) (by rw [List.length_take]; omega), q2⟩
end
end Kd

namespace Kq
open PySem PySem.Spec PyProof.Rows L2 Kf Kg Kv GxR Kk
abbrev tWritten : Stmt := tp 13
abbrev tWordOf : Stmt := tp 14
abbrev tBehind : Stmt := tp 15
abbrev tFormOf : Stmt := tp 16
theorem small {n : Nat} (h : n ≤ 16000100) : n ≤ sizeLine := by
  rw [sizeLine_eq]
  omega
theorem sqt_same {K : PySem.W.Frag} {H G : Hp} {a : Addr} {xs : List V} (h : SqT K H a xs) (s : Same H G) : SqT K G a xs := by
  rcases h with (h | ⟨o, h⟩) | h
  · exact .inl (.inl (s _ _ h))
  · exact .inl (.inr ⟨o, s _ _ h⟩)
  · exact .inr h
/-- the table of the roles behind each word of a worth -/
structure WForms (K : PySem.W.Frag) (w : World) (dA : Addr) (es : Array DictEntry) (n : Nat) : Prop where
  dict : KDict K w dA es n
  yes : ∀ (z : Str) (rs : List Str), tblW.lookup z = some rs → ∃ t : Addr, PySem.W.nsIn K dA z = some (some (.ref t)) ∧ ∀ F : Hp, SqT K F t (rs.map V.str)
def plainR : List Str := ["name", "number", "worth", "answer"]
/-- the table of what is written by how many -/
structure CForms (K : PySem.W.Frag) (w : World) (dC : Addr) (es : Array DictEntry) (n : Nat) : Prop where
  dict : KDict K w dC es n
  no : ∀ r ∈ plainR, PySem.W.nsIn K dC r = some none
  itm : ∃ t : Addr, PySem.W.nsIn K dC "items" = some (some (.ref t)) ∧ ∀ F : Hp, SqT K F t [V.str "worth"]
  row : ∃ t : Addr, PySem.W.nsIn K dC "rows" = some (some (.ref t)) ∧ ∀ F : Hp, SqT K F t [V.str "worth", V.str "answer"]
theorem wr_plain {r : Str} (h : wr r) : r ∈ plainR := by
  rcases h with rfl | rfl <;> decide
theorem Ok1.plain {i : Wi} (h : Ok1 i) : i.rl ∈ plainR ∨ (∃ n ps, i = .mk "items" (numS n) false (.tup (ps.map Wi.d)) ps ∧ n ≤ 1000 ∧ ps.map Wi.rl = List.replicate n ("worth" : Str)) ∨ ∃ n ps, i = .mk "rows" (numS n) false (.tup (pairs (ps.map Wi.d))) ps ∧ n ≤ 1000 ∧ ps.map Wi.rl = nk n := by
  cases h with
  | nam n hn => exact .inl (show ("name" : Str) ∈ plainR by decide)
  | num k hk => exact .inl (show ("number" : Str) ∈ plainR by decide)
  | wnm r k h2 hk => exact .inl (wr_plain h2)
  | wtr r b h2 => exact .inl (wr_plain h2)
  | frm r w ps hr => exact .inl (wr_plain (fRl_r hr))
  | itm n ps hn hr => exact .inr (.inl ⟨n, ps, rfl, hn, hr⟩)
  | row n ps hn hr => exact .inr (.inr ⟨n, ps, rfl, hn, hr⟩)
theorem rep_len {n : Nat} {ps : List Wi} (h : ps.map Wi.rl = List.replicate n ("worth" : Str)) : ps.length = n := by
  have e := congrArg List.length h
  rw [List.length_map, List.length_replicate] at e
  exact e
theorem pairs_len : ∀ (n : Nat) (ds : List Dt), ds.length = 2 * n → (pairs ds).length = n
  | 0, [], _ => rfl
  | n + 1, [], h => by simp at h
  | 0, a :: r, h => by simp at h
  | n + 1, [a], h => by simp at h; omega
  | n + 1, a :: b :: r, h => by
    show (Dt.tup [a, b] :: pairs r).length = _
    rw [List.length_cons, pairs_len n r (by simp only [List.length_cons] at h; omega)]
theorem pairs_at : ∀ (n : Nat) (ds : List Dt) (j : Nat), ds.length = 2 * n → j < n → ∃ a b, ds[2 * j]? = some a ∧ ds[2 * j + 1]? = some b ∧ (pairs ds)[j]? = some (.tup [a, b])
  | 0, _, j, _, h => by omega
  | n + 1, [], j, h, _ => by simp at h
  | n + 1, [a], j, h, _ => by simp at h; omega
  | n + 1, a :: b :: r, 0, h, _ => ⟨a, b, rfl, rfl, rfl⟩
  | n + 1, a :: b :: r, j + 1, h, hj => by
    obtain ⟨x, y, h1, h2, h3⟩ := pairs_at n r j (by simp only [List.length_cons] at h; omega) (by omega)
    refine ⟨x, y, ?_, ?_, h3⟩
    · rw [show 2 * (j + 1) = 2 * j + 1 + 1 by omega]
      simpa using h1
    · rw [show 2 * (j + 1) + 1 = 2 * j + 1 + 1 + 1 by omega]
      simpa using h2
section
variable {P : Program} {w : World} {K : PySem.W.Frag} {mg : Str → Option Value} {base : Heap} {dW dC : Addr} {esW esC : Array DictEntry} {nW nC : Nat}
/-! form_of -/
theorem scFormOf : FnScope ["role", "word"] ["role", "word"] (defScope tFormOf) := ⟨rfl, rfl, rfl, by decide +kernel, rfl, by decide +kernel, by decide +kernel⟩
def spFormOf (K : PySem.W.Frag) : Sp := fun vs H Q _ => ∃ (r z : Str) (rs : List Str), vs = [.str r, .str z] ∧ fRl r z = some rs ∧ ∀ (t : Addr) (G : Hp), Same H G → SqT K G t (rs.map V.str) → Q (.ref t) G
theorem okFormOf {f : Addr} {fd : FuncData} {k : Nat} (F : Fun K "form_of" "form_of" tFormOf f fd) (gW : mg "WORTH_FORMS" = some (.ref dW)) (hW : WForms K w dW esW nW) : FnOk P w K mg base CX0 (k + 1) f fd ["role", "word"] (spFormOf K) := by
  refine F.ok scFormOf (fun vs H Q E h => ?_) (fun cdv A outer s H vs Q E hr h => ?_)
  · obtain ⟨r, z, rs, rfl, _⟩ := h
    rfl
  obtain ⟨r, z, rs, rfl, hz, q⟩ := h
  refine ⟨_, pss_cons (ps_if (pt_cmpR op_eq (pv 0) pe_str (nomark _)) pss_no pss_nil)
    (pss_cons (ps_if (pt_cmpR op_in_seq (pv 0) (pe_tup (pa_cons pe_str (pa_cons pe_str (pa_cons pe_str pa_nil)))) rfl) pss_no pss_nil)
    (pss_cons (ps_if (PW.pt (pw_and (pt_cmpR op_eq (pv 0) pe_str (nomark _)) (pw_and1 (pt_cmpR op_eq (pv 1) pe_str (nomark _))))) (pss_one (ps_ret (pe_tup pa_nil))) pss_nil)
    (pss_cons (ps_if (pt_cmpR op_in_seq (pv 0) (pe_tup (pa_cons pe_str (pa_cons pe_str pa_nil))) rfl) (pss_one (ps_ret (pe_kget hW.dict (pe_glob (v := .ref dW) (by rfl) gW rfl) (pv 1) ⟨by rfl, by rfl, by rfl, by rfl⟩))) pss_nil) pss_no))), ?_⟩
  have e0 : decide (V.str r = V.str "term") = false := by rcases fRl_r hz with rfl | rfl <;> decide +kernel
  have e1 : inV (V.str r) [V.str "kind", V.str "data", V.str "argument"] = false := by rcases fRl_r hz with rfl | rfl <;> decide +kernel
  have e2 : inV (V.str r) [V.str "worth", V.str "answer"] = true := by rcases fRl_r hz with rfl | rfl <;> decide +kernel
  refine ⟨_, rfl, rfl, _, rfl, ?_⟩
  rw [e0]
  refine iteF ⟨_, rfl, by show 3 ≤ sizeLine; decide, fun p hp => ⟨p, _, rfl, .inr (SqT.of upd_same), rfl, rfl, _, rfl, ?_⟩⟩
  rw [e1]
  have s1 := newS (o := .tup [V.str "kind", .str "data", .str "argument"]) hp
  rcases fRl_z hz with ⟨rfl, rfl, rfl⟩ | ⟨hr2, hz2⟩
  · refine iteF ⟨_, rfl, rfl, _, rfl, ?_⟩
    rw [decide_eq_true rfl]
    refine iteT ⟨_, rfl, rfl, _, rfl, ?_⟩
    rw [decide_eq_true rfl]
    exact iteT ⟨Nat.zero_le _, fun p2 hp2 => q p2 _ (fun b o z => newS hp2 _ _ (s1 _ _ z)) (SqT.of upd_same)⟩
  · have nz : z ≠ "fault" := fun e => by
      subst e
      have z : List.lookup ("fault" : Str) tblW = none := by decide +kernel
      rw [z] at hz2
      cases hz2
    have last : ∃ v0 : Value, True := ⟨.none, trivial⟩
    obtain ⟨t, ht, hs⟩ := hW.yes z rs hz2
    have e3 : decide (V.str z = V.str "fault") = false := decide_eq_false fun e => nz (V.str.inj e)
    refine iteF ⟨_, rfl, rfl, _, rfl, ite2 (fun _ => ?_) (fun _ => ?_)⟩
    · refine ⟨_, rfl, rfl, _, rfl, ?_⟩
      rw [e3]
      refine iteF ⟨_, rfl, by show 2 ≤ sizeLine; decide, fun p2 hp2 => ⟨p2, _, rfl, .inr (SqT.of upd_same), rfl, rfl, _, rfl, ?_⟩⟩
      rw [e2]
      exact iteT ⟨rfl, _, rfl, z, _, .ref t, rfl, ht, rfl, q t _ (fun b o z => newS hp2 _ _ (s1 _ _ z)) (hs _)⟩
    · refine ⟨_, rfl, by show 2 ≤ sizeLine; decide, fun p2 hp2 => ⟨p2, _, rfl, .inr (SqT.of upd_same), rfl, rfl, _, rfl, ?_⟩⟩
      rw [e2]
      exact iteT ⟨rfl, _, rfl, z, _, .ref t, rfl, ht, rfl, q t _ (fun b o z => newS hp2 _ _ (s1 _ _ z)) (hs _)⟩
/-! word_of -/
theorem scWordOf : FnScope ["part", "role"] ["part", "role"] (defScope tWordOf) := ⟨rfl, rfl, rfl, by decide +kernel, rfl, by decide +kernel, by decide +kernel⟩
def spWordOf : Sp := fun vs H Q _ => ∃ (i : Wi) (v : V), vs = [v, .str i.rl] ∧ Ok1 i ∧ Dd Non H i.d v ∧ Q (.str i.wd) H
theorem okWordOf {f : Addr} {fd : FuncData} {k : Nat} (F : Fun K "word_of" "word_of" tWordOf f fd) (gC : mg "COUNTED" = some (.ref dC)) (hC : CForms K w dC esC nC) (e1 : PySem.W.nsOkIn K cStatics = true) (e2 : PySem.W.nsIn K cStatics "sys.int_max_str_digits" = some none)
    (mi : mg "isinstance" = none) (mb : mg "bool" = none) (mt : mg "tuple" = none) (ms : mg "str" = none) (ml : mg "len" = none) : FnOk P w K mg base CX0 (k + 1) f fd ["part", "role"] spWordOf := by
  refine F.ok scWordOf (fun vs H Q E h => ?_) (fun cdv A outer s H vs Q E hr h => ?_)
  · obtain ⟨i, v, rfl, _⟩ := h
    rfl
  obtain ⟨i, v, rfl, oi, hd, q⟩ := h
  refine ⟨_, pss_cons (ps_if (pt_cmpR (op_in_kd hC.dict) (pv 1) (pe_glob (v := .ref dC) (by rfl) gC rfl) rfl) (pss_one (ps_ret (pe_callTy (Kz.call_strB hr.hd e1 e2) (by rfl) ms PyProof.Rows.boot_str (pa_cons (pe_callB call_len_seq (by rfl) ml PySem.boot_len (pa_cons (pv 0) pa_nil)) pa_nil)))) pss_nil)
    (pss_cons (ps_if (pt_val (pe_callB (isiK K rfl) (by rfl) mi PyProof.Rows.boot_isinstance (pa_cons (pv 0) (pa_cons (pe_bltn (v := .ty "bool") (by rfl) mb PyProof.Rows.boot_bool rfl) pa_nil)))) (pss_one (ps_ret (pe_ifExp (pt_val (pv 0)) pe_str pe_str))) pss_nil)
    (pss_cons (ps_if (pt_val (pe_callB (isiK K rfl) (by rfl) mi PyProof.Rows.boot_isinstance (pa_cons (pv 0) (pa_cons (pe_bltn (v := .ty "tuple") (by rfl) mt PyProof.Rows.boot_tuple rfl) pa_nil)))) (pss_one (ps_ret (pe_ix ix_tup (pv 0) pe_int (fun _ _ => rfl)))) pss_nil)
    (pss_one (ps_ret (pe_callTy (Kz.call_strB hr.hd e1 e2) (by rfl) ms PyProof.Rows.boot_str (pa_cons (pv 0) pa_nil)))))), ?_⟩
  rcases oi.plain with pl | ⟨n, ps, rfl, hn, hr2⟩ | ⟨n, ps, rfl, hn, hr2⟩
  · refine ⟨_, rfl, i.rl, none, rfl, rfl, hC.no _ pl, _, rfl, iteF ?_⟩
    refine ⟨_, rfl, _, _, _, _, i.d.isBl, rfl, .ty "bool", hd.ty, kBl K i.d, _, rfl, ?_⟩
    cases oi with
    | nam n hn =>
      cases hd
      exact iteF ⟨_, rfl, _, _, _, _, false, rfl, .ty "tuple", .base (.str _), kTup K (.str n), _, rfl, iteF ⟨_, rfl, .inl ⟨n, rfl, q⟩⟩⟩
    | num m hm =>
      cases hd
      exact iteF ⟨_, rfl, _, _, _, _, false, rfl, .ty "tuple", .base (.int _), kTup K (.int m), _, rfl, iteF ⟨_, rfl, .inr ⟨m, rfl, hm, q⟩⟩⟩
    | wnm r2 m h2 hm =>
      cases hd
      exact iteF ⟨_, rfl, _, _, _, _, false, rfl, .ty "tuple", .base (.int _), kTup K (.int m), _, rfl, iteF ⟨_, rfl, .inr ⟨m, rfl, hm, q⟩⟩⟩
    | wtr r2 b h2 =>
      cases hd
      refine iteT ⟨_, rfl, _, rfl, ?_⟩
      cases b
      · exact iteF q
      · exact iteT q
    | frm r wd ps hf =>
      have hd : Dd Non H (.tup (.str wd :: ps.map Wi.d)) v := hd
      obtain ⟨a, us, rfl, ha, hL⟩ := Dd.tupS hd
      cases hL with
      | cons h1 t =>
        cases h1
        exact iteF ⟨_, rfl, _, _, _, _, true, rfl, .ty "tuple", hd.ty, kTup K (.tup (.str wd :: ps.map Wi.d)), _, rfl, iteT ⟨_, rfl, a, _, _, _, rfl, rfl, SqT.of ha, atI_nat (j := 0) rfl, q⟩⟩
    | itm n ps hn hr2 => exact absurd (show ("items" : Str) ∈ plainR from pl) (by decide)
    | row n ps hn hr2 => exact absurd (show ("rows" : Str) ∈ plainR from pl) (by decide)
  · obtain ⟨t, ht, hs⟩ := hC.itm
    have hd : Dd Non H (.tup (ps.map Wi.d)) v := hd
    obtain ⟨a, us, rfl, ha, hL⟩ := Dd.tupS hd
    have ll := hL.len
    have lp := rep_len hr2
    rw [List.length_map, lp] at ll
    refine ⟨_, rfl, "items", _, rfl, rfl, ht, _, rfl, iteT ⟨_, rfl, a, us, rfl, .inr (SqT.of ha), .inr ⟨n, by rw [← ll], Nat.lt_of_le_of_lt hn (by decide +kernel), q⟩⟩⟩
  · obtain ⟨t, ht, hs⟩ := hC.row
    have hd : Dd Non H (.tup (pairs (ps.map Wi.d))) v := hd
    obtain ⟨a, us, rfl, ha, hL⟩ := Dd.tupS hd
    have ll := hL.len
    rw [pairs_len n _ (ps_even hr2)] at ll
    refine ⟨_, rfl, "rows", _, rfl, rfl, ht, _, rfl, iteT ⟨_, rfl, a, us, rfl, .inr (SqT.of ha), .inr ⟨n, by rw [← ll], Nat.lt_of_le_of_lt hn (by decide +kernel), q⟩⟩⟩
/-! parts_behind -/
/-- the items stand, each with its role ahead -/
inductive Wl (G : Hp) : List Wi → List V → Prop
  | nil : Wl G [] []
  | cons {i : Wi} {is : List Wi} {t : Addr} {u : V} {vs : List V} : G t = some (.tup [.str i.rl, u]) → Dd Non G i.d u → Wl G is vs → Wl G (i :: is) (.ref t :: vs)
theorem Wl.kn {G F : Hp} (k : Kn Non G F) : ∀ {is : List Wi} {vs : List V}, Wl G is vs → Wl F is vs
  | _, _, .nil => .nil
  | _, _, .cons h d t => .cons (k.tup _ _ h) (d.kn k) (t.kn k)
theorem Wl.len {G : Hp} : ∀ {is : List Wi} {vs : List V}, Wl G is vs → is.length = vs.length
  | _, _, .nil => rfl
  | _, _, .cons _ _ t => congrArg (· + 1) t.len
theorem Wl.app {G : Hp} : ∀ {is js : List Wi} {vs us : List V}, Wl G is vs → Wl G js us → Wl G (is ++ js) (vs ++ us)
  | _, _, _, _, .nil, h => h
  | _, _, _, _, .cons h d t, k => .cons h d (t.app k)
theorem wl_of {G : Hp} : ∀ {is : List Wi} {ts : List Addr} {us : List V}, ts.length = is.length → DdL Non G (is.map Wi.d) us → Kz.Prs G ts (is.map fun i => V.str i.rl) us → Wl G is (ts.map V.ref)
  | [], [], _, _, _, _ => .nil
  | i :: is, [], _, h, _, _ => by cases h
  | [], t :: ts, _, h, _, _ => by cases h
  | i :: is, t :: ts, _, h, .cons (v := u) d dl, p => .cons (p 0 t _ u rfl rfl rfl) d (wl_of (Nat.succ.inj h) dl fun j t' x y e1 e2 e3 => p (j + 1) t' x y e1 e2 e3)
theorem nk_at : ∀ (n j : Nat), j < n → (nk n)[2 * j]? = some ("worth" : Str) ∧ (nk n)[2 * j + 1]? = some ("answer" : Str)
  | 0, j, h => by omega
  | n + 1, 0, _ => by rw [nk_succ]; exact ⟨rfl, rfl⟩
  | n + 1, j + 1, h => by
    obtain ⟨h1, h2⟩ := nk_at n j (by omega)
    rw [nk_succ, show 2 * (j + 1) = 2 * j + 1 + 1 by omega]
    exact ⟨by simpa using h1, by simpa using h2⟩
abbrev nBehind : List Str := ["part", "role", "roles", "item", "row", "both"]
theorem scBehind : FnScope nBehind ["part", "role"] (defScope tBehind) := ⟨rfl, rfl, rfl, by decide +kernel, rfl, by decide +kernel, by decide +kernel⟩
def spBehind : Sp := fun vs H Q _ => ∃ (i : Wi) (v : V), vs = [v, .str i.rl] ∧ Ok1 i ∧ Dd Non H i.d v ∧ ∀ (q : Addr) (us : List V) (G : Hp), Same H G → H q = none → G q = some (.lst us) → Wl G i.ps us → Q (.ref q) G
theorem okBehind {f fF : Addr} {fd fdF : FuncData} {k : Nat} (F : Fun K "parts_behind" "parts_behind" tBehind f fd)
    (GF : FnOk P w K mg base CX0 k fF fdF ["role", "word"] (spFormOf K)) (bF : Binds K fdF ["role", "word"] []) (gF : mg "form_of" = some (.ref fF)) (kF : PySem.W.keepIn K (.ref fF) = true)
    (gC : mg "COUNTED" = some (.ref dC)) (hC : CForms K w dC esC nC) (mi : mg "isinstance" = none) (mt : mg "tuple" = none) (ml : mg "list" = none) (mz : mg "zip" = none) (mn : mg "len" = none) : FnOk P w K mg base CX0 (k + 1) f fd ["part", "role"] spBehind := by
  refine F.ok scBehind (fun vs H Q E h => ?_) (fun cdv A outer s H vs Q E hr h => ?_)
  · obtain ⟨i, v, rfl, _⟩ := h
    rfl
  obtain ⟨i, v, rfl, oi, hd, q⟩ := h
  refine ⟨_, pss_cons (ps_if (pt_cmpR (op_in_kd hC.dict) (pv 1) (pe_glob (v := .ref dC) (by rfl) gC rfl) rfl)
      (pss_cons (ps_set (i := 2) scBehind.nd rfl (.inr rfl) (pe_ix ix_kdict (pe_glob (v := .ref dC) (by rfl) gC rfl) (pv 1) (fun _ _ => rfl)))
      (pss_cons (ps_if (pt_cmpR op_eq (pe_callB call_len_seq (by rfl) mn PySem.boot_len (pa_cons (pv 2) pa_nil)) pe_int (nomark _)) (pss_one (ps_ret (pe_lc (own := [("item", 3)]) (g := gName 3) (by rfl) scBehind.nd (pi_tup (pv 0)) (blkOk_by (own := [("item", 3)]) (N := nBehind) (sc := defScope tBehind) (by decide +kernel))
        (fun _ _ _ _ _ => pg_name (i := 3) scBehind.nd rfl (.inl rfl)) (fun _ _ _ _ _ => pts_nil) (fun _ _ _ _ _ => pe_tup (pa_cons (pe_ix (ixTK K rfl) (pv 2) pe_int (fun _ _ => rfl)) (pa_cons (pv 3) pa_nil)))))) pss_nil)
      (pss_one (ps_ret (pe_lc2 (own := [("row", 4), ("both", 5)]) (vs1 := [5]) (g := gName 4) (g1 := gName 5) (by rfl) scBehind.nd (pi_tup (pv 0)) (blkOk_by (own := [("row", 4), ("both", 5)]) (N := nBehind) (sc := defScope tBehind) (by decide +kernel)) (by decide)
        (fun _ _ _ _ _ => pg_name (i := 4) scBehind.nd rfl (.inl rfl)) (fun _ _ _ _ _ => pts_nil) (fun _ _ _ _ _ => Kz.pi_zipNK K rfl (by rfl) mz (pa_cons (pv 2) (pa_cons (pv 4) pa_nil)))
        (fun _ _ _ _ _ => pg_name (i := 5) scBehind.nd rfl (.inl rfl)) (fun _ _ _ _ _ => pts_nil) (fun _ _ _ _ _ => pv 5)))))) pss_nil)
    (pss_cons (ps_if (pt_val (pe_callB (isiK K rfl) (by rfl) mi PyProof.Rows.boot_isinstance (pa_cons (pv 0) (pa_cons (pe_bltn (v := .ty "tuple") (by rfl) mt PyProof.Rows.boot_tuple rfl) pa_nil))))
      (pss_one (ps_ret (Kz.pe_listZip rfl (by rfl) ml (by rfl) mz (pa_cons (pe_call GF hr (by rfl) gF kF bF .nil pass0 (pa_cons (pv 1) (pa_cons (pe_ix ix_tup (pv 0) pe_int (fun _ _ => rfl)) pa_nil))) (pa_cons (pe_slice sl_tup (pv 0) (po_some pe_int) po_none) pa_nil))))) pss_nil)
    (pss_one (ps_ret (pe_lst pa_nil)))), ?_⟩
  rcases oi.plain with pl | ⟨n, ps, rfl, hn, hr2⟩ | ⟨n, ps, rfl, hn, hr2⟩
  · refine ⟨_, rfl, i.rl, none, rfl, rfl, hC.no _ pl, _, rfl, iteF ?_⟩
    refine ⟨_, rfl, _, _, _, _, i.d.isTup, rfl, .ty "tuple", hd.ty, kTup K i.d, _, rfl, ?_⟩
    have lit : i.ps = [] → (0 ≤ sizeLine ∧ ∀ l, H l = none → Q (.ref l) (upd H l (.lst []))) := fun e2 => ⟨by show 0 ≤ sizeLine; decide, fun l hl => q l [] _ (newS hl) hl upd_same (by rw [e2]; exact .nil)⟩
    cases oi with
    | nam n hn => exact iteF (lit rfl)
    | num m hm => exact iteF (lit rfl)
    | wnm r2 m h2 hm => exact iteF (lit rfl)
    | wtr r2 b h2 => exact iteF (lit rfl)
    | itm n ps hn hr2 => exact absurd (show ("items" : Str) ∈ plainR from pl) (by decide)
    | row n ps hn hr2 => exact absurd (show ("rows" : Str) ∈ plainR from pl) (by decide)
    | frm r wd ps hf =>
      have hd : Dd Non H (.tup (.str wd :: ps.map Wi.d)) v := hd
      obtain ⟨a, us, rfl, ha, hL⟩ := Dd.tupS hd
      obtain ⟨us1, rfl, hM⟩ : ∃ us1, us = V.str wd :: us1 ∧ DdL Non H (ps.map Wi.d) us1 := by
        cases hL with
        | cons h1 t =>
          cases h1
          exact ⟨_, rfl, t⟩
      refine iteT ⟨_, rfl, _, rfl, a, _, _, _, rfl, rfl, SqT.of ha, atI_nat (j := 0) rfl, r, wd, _, rfl, hf, fun t G s1 hs => ?_⟩
      refine ⟨_, rfl, 1, rfl, a, _, rfl, SqT.of (s1 _ _ ha), notWhole _ _, fun p hp => ?_⟩
      rw [cutFrom1]
      have s2 := newS (o := .tup us1) hp
      have ll := hM.len
      rw [List.length_map] at ll
      refine ⟨t, p, _, us1, rfl, .inr ⟨sqt_same hs s2, SqT.of upd_same⟩, fun q0 ts F s3 nq gq lt pr _ => ?_⟩
      rw [List.length_map, List.length_map, ← ll, Nat.min_self] at lt
      rw [List.map_map] at pr
      exact q q0 _ F (fun b o z => s3 _ _ (s2 _ _ (s1 _ _ z))) (by
        cases z : H q0 with
        | none => rfl
        | some o => rw [s2 _ _ (s1 _ _ z)] at nq; cases nq) gq (wl_of lt (hM.same (fun b o z => s3 _ _ (s2 _ _ (s1 _ _ z)))) pr)
  · obtain ⟨t, ht, hs⟩ := hC.itm
    have hd : Dd Non H (.tup (ps.map Wi.d)) v := hd
    obtain ⟨a, us, rfl, ha, hL⟩ := Dd.tupS hd
    have ll := hL.len
    have lp := rep_len hr2
    rw [List.length_map, lp] at ll
    refine ⟨_, rfl, "items", _, rfl, rfl, ht, _, rfl, iteT ⟨_, rfl, dC, "items", .ref t, rfl, rfl, ⟨esC, nC, _, hC.dict.at_, hC.dict.lit, ht, rfl⟩, ?_⟩⟩
    refine ⟨_, rfl, t, _, rfl, .inr (hs _), rfl, _, rfl, iteT ⟨_, rfl, a, rfl, ⟨_, SqT.of ha⟩, fun D nD => ?_⟩⟩
    have s1 := newS (o := .lst []) nD
    refine lc_tup (xs := us) (fun i F => Same H F ∧ ∃ ws, F D = some (.lst ws) ∧ Wl F (ps.take i) ws) ⟨s1, [], upd_same, .nil⟩ (fun i F _ z => SqT.of (z.1 _ _ ha)) (fun i u F hu z => ?_) (fun F z => ?_)
    · obtain ⟨sF, ws, gD, wl⟩ := z
      obtain ⟨x, hx, dx⟩ := hL.get hu
      rw [List.getElem?_map] at hx
      obtain ⟨i1, hi1, rfl⟩ := Option.map_eq_some_iff.mp hx
      have r1 : i1.rl = "worth" := by
        have z : i1.rl ∈ ps.map Wi.rl := List.mem_map_of_mem (List.mem_of_getElem? hi1)
        rw [hr2] at z
        exact (List.mem_replicate.mp z).2
      have lw := wl.len
      rw [List.length_take] at lw
      refine ⟨rfl, _, rfl, t, _, _, _, rfl, rfl, hs _, atI_nat (j := 0) rfl, _, rfl, by show 2 ≤ sizeLine; decide, fun T nT => ?_⟩
      have sT := newS (o := .tup [V.str "worth", u]) nT
      have TD : T ≠ D := fun z => by rw [z, gD] at nT; cases nT
      have nt : ∀ xs, (upd F T (.tup [V.str "worth", u])) D ≠ some (.tup xs) := fun _ z => by rw [sT _ _ gD] at z; cases z
      have kD : Kn Non (upd F T (.tup [V.str "worth", u])) (upd (upd F T (.tup [V.str "worth", u])) D (.lst (ws ++ [.ref T]))) := Kn.rfl.put (fun z => z) nt
      have sH : Same H (upd (upd F T (.tup [V.str "worth", u])) D (.lst (ws ++ [.ref T]))) := fun b o e => by
        rw [upd_ne (ne_of_none e nD)]
        exact sT _ _ (sF _ _ e)
      refine ⟨ws, sT _ _ gD, small1000 (by omega), sH, ws ++ [.ref T], upd_same, ?_⟩
      rw [List.take_add_one, hi1]
      exact ((wl.kn (.of sT)).kn kD).app (.cons (by rw [r1, upd_ne TD]; exact upd_same) (dx.same sH) .nil)
    · obtain ⟨sF, ws, gD, wl⟩ := z
      rw [← ll, ← lp, List.take_length] at wl
      exact q D ws F sF nD gD wl
  · obtain ⟨t, ht, hs⟩ := hC.row
    have hd : Dd Non H (.tup (pairs (ps.map Wi.d))) v := hd
    obtain ⟨a, us, rfl, ha, hL⟩ := Dd.tupS hd
    have ll := hL.len
    have ev := ps_even hr2
    rw [pairs_len n _ ev] at ll
    have lp : ps.length = 2 * n := by rw [List.length_map] at ev; exact ev
    refine ⟨_, rfl, "rows", _, rfl, rfl, ht, _, rfl, iteT ⟨_, rfl, dC, "rows", .ref t, rfl, rfl, ⟨esC, nC, _, hC.dict.at_, hC.dict.lit, ht, rfl⟩, ?_⟩⟩
    refine ⟨_, rfl, t, _, rfl, .inr (hs _), rfl, _, rfl, iteF ⟨_, rfl, a, rfl, ⟨_, SqT.of ha⟩, fun D nD => ?_⟩⟩
    have s1 := newS (o := .lst []) nD
    refine Kz.lc2_tup (xs := us) (fun i F => Same H F ∧ ∃ ws, F D = some (.lst ws) ∧ Wl F (ps.take (2 * i)) ws) ⟨s1, [], upd_same, .nil⟩ (fun i F _ z => SqT.of (z.1 _ _ ha)) (fun i u F hu z => ?_) (fun F z => ?_)
    · obtain ⟨sF, ws, gD, wl⟩ := z
      have hi : i < n := by rw [ll]; exact (List.getElem?_eq_some_iff.mp hu).1
      obtain ⟨x, y, hx, hy, hxy⟩ := pairs_at n _ i ev hi
      obtain ⟨d, hd', rd⟩ := hL.get hu
      rw [hxy] at hd'
      obtain rfl := Option.some.inj hd'
      rw [List.getElem?_map] at hx hy
      obtain ⟨i1, hi1, rfl⟩ := Option.map_eq_some_iff.mp hx
      obtain ⟨i2, hi2, rfl⟩ := Option.map_eq_some_iff.mp hy
      obtain ⟨p, v1, v2, rfl, hp, d1, d2⟩ := Dd.tup2 rd
      have r1 : i1.rl = "worth" := by
        have e := (nk_at n i hi).1
        rw [← hr2, List.getElem?_map, hi1] at e
        exact Option.some.inj e
      have r2 : i2.rl = "answer" := by
        have e := (nk_at n i hi).2
        rw [← hr2, List.getElem?_map, hi2] at e
        exact Option.some.inj e
      have pD : p ≠ D := ne_of_none hp nD
      have lw := wl.len
      rw [List.length_take] at lw
      have nDH : ∀ b o, H b = some o → b ≠ D := fun b o e => ne_of_none e nD
      have t1 : ps.take (2 * i + 1) = ps.take (2 * i) ++ [i1] := by rw [List.take_add_one, hi1]; rfl
      have t2 : ps.take (2 * (i + 1)) = ps.take (2 * i + 1) ++ [i2] := by rw [show 2 * (i + 1) = 2 * i + 1 + 1 by omega, List.take_add_one, hi2]; rfl
      refine ⟨rfl, _, rfl, _, rfl, .tup t [V.str "worth", V.str "answer"], .tup p [v1, v2], rfl, hs _, SqT.of (sF _ _ hp), ?_⟩
      refine Kz.inn_zip (fun j G => Same H G ∧ j ≤ 2 ∧ ∃ ws, G D = some (.lst ws) ∧ Wl G (ps.take (2 * i + j)) ws) rfl ⟨sF, by omega, ws, gD, wl⟩ (fun j G z => ⟨hs _, SqT.of (z.1 _ _ hp)⟩) (fun j x1 y1 T G hx1 hy1 z nT => ?_) (fun G z => ?_)
      · obtain ⟨sG, _, wsG, gDG, wlG⟩ := z
        have sT := newS (o := .tup [x1, y1]) nT
        have lwG := wlG.len
        rw [List.length_take] at lwG
        have TD : T ≠ D := fun z => by rw [z, gDG] at nT; cases nT
        refine ⟨rfl, _, rfl, wsG, sT _ _ gDG, by have : sizeLine = 16777216 := rfl; omega, ?_⟩
        have nt : ∀ xs, (upd G T (.tup [x1, y1])) D ≠ some (.tup xs) := fun _ z => by rw [sT _ _ gDG] at z; cases z
        have kD : Kn Non (upd G T (.tup [x1, y1])) (upd (upd G T (.tup [x1, y1])) D (.lst (wsG ++ [.ref T]))) := Kn.rfl.put (fun z => z) nt
        have sH : Same H (upd (upd G T (.tup [x1, y1])) D (.lst (wsG ++ [.ref T]))) := fun b o e => by
          rw [upd_ne (nDH b o e)]
          exact sT _ _ (sG _ _ e)
        have wl2 := (wlG.kn (.of sT)).kn kD
        have gT : (upd (upd G T (.tup [x1, y1])) D (.lst (wsG ++ [.ref T]))) T = some (.tup [x1, y1]) := by
          rw [upd_ne TD]
          exact upd_same
        match j, hx1, hy1 with
        | 0, hx1, hy1 =>
          obtain rfl := Option.some.inj (show some (V.str "worth") = some x1 from hx1)
          obtain rfl := Option.some.inj (show some v1 = some y1 from hy1)
          refine ⟨sH, by omega, wsG ++ [.ref T], upd_same, ?_⟩
          rw [show 2 * i + (0 + 1) = 2 * i + 1 by omega, t1]
          exact wl2.app (.cons (by rw [r1]; exact gT) (d1.same sH) .nil)
        | 1, hx1, hy1 =>
          obtain rfl := Option.some.inj (show some (V.str "answer") = some x1 from hx1)
          obtain rfl := Option.some.inj (show some v2 = some y1 from hy1)
          refine ⟨sH, by omega, wsG ++ [.ref T], upd_same, ?_⟩
          rw [show 2 * i + (1 + 1) = 2 * (i + 1) by omega, t2]
          exact wl2.app (.cons (by rw [r2]; exact gT) (d2.same sH) .nil)
        | j + 2, hx1, _ => exact absurd hx1 (by simp [Kz.Sr.vs])
      · obtain ⟨sG, _, wsG, gDG, wlG⟩ := z
        exact ⟨sG, wsG, gDG, by rw [show 2 * (i + 1) = 2 * i + 2 by omega]; exact wlG⟩
    · obtain ⟨sF, ws, gD, wl⟩ := z
      rw [← ll, ← lp, List.take_length] at wl
      exact q D ws F sF nD gD wl
end
end Kq

namespace Kq
open PySem PySem.Spec PyProof.Rows L2 Kf Kg Kv GxR Kk
abbrev tShow : Stmt := tp 26
section
variable {P : Program} {w : World} {K : PySem.W.Frag} {mg : Str → Option Value} {base : Heap}
abbrev nWritten : List Str := ["thing", "role", "words", "waiting", "asked", "part"]
theorem scWritten : FnScope nWritten ["thing", "role"] (defScope tWritten) := ⟨rfl, rfl, rfl, by decide +kernel, rfl, by decide +kernel, by decide +kernel⟩
def spWritten : Sp := fun vs H Q _ => ∃ (i : Wi) (v : V), vs = [v, .str i.rl] ∧ Dd Non H i.d v ∧ ok i ∧ tkl i ≤ 16000000 ∧ ∀ G : Hp, Same H G → Q (.str (tx i)) G
theorem okWritten {f fW fB : Addr} {fd fdW fdB : FuncData} {k : Nat} (F : Fun K "written" "written" tWritten f fd)
    (GW : FnOk P w K mg base CX0 k fW fdW ["part", "role"] spWordOf) (bW : Binds K fdW ["part", "role"] []) (gW : mg "word_of" = some (.ref fW)) (kW : PySem.W.keepIn K (.ref fW) = true)
    (GB : FnOk P w K mg base CX0 k fB fdB ["part", "role"] spBehind) (bB : Binds K fdB ["part", "role"] []) (gB : mg "parts_behind" = some (.ref fB)) (kB : PySem.W.keepIn K (.ref fB) = true)
    (ml : mg "list" = none) (mr : mg "reversed" = none) : FnOk P w K mg base CX0 (k + 1) f fd ["thing", "role"] spWritten := by
  refine F.ok scWritten (fun vs H Q E h => ?_) (fun cdv A outer s H vs Q E hr h => ?_)
  · obtain ⟨k, v, rfl, _⟩ := h
    rfl
  obtain ⟨kt, v, rfl, hd, ho, hw, q⟩ := h
  refine ⟨_, pss_cons (ps_set (i := 2) scWritten.nd rfl (.inl rfl) (pe_lst pa_nil))
    (pss_cons (ps_set (i := 3) scWritten.nd rfl (.inl rfl) (pe_lst (pa_cons (pe_tup (pa_cons (pv 1) (pa_cons (pv 0) pa_nil))) pa_nil)))
    (pss_cons (ps_while PassesOwn.never (pt_truth (pv 3) (by intro _; rfl))
      (pss_cons (ps_asg (pe_bm0 PySem.F.plainAttrs_list PySem.F.slot_list_pop PySem.F.type_list_pop mt_pop (pv 3)) (pg_tup rfl (pgs_cons (pg_name (i := 4) scWritten.nd rfl (.inl rfl)) (pgs_cons (pg_name (i := 5) scWritten.nd rfl (.inl rfl)) pgs_nil))))
      (pss_cons (ps_expr (pe_bm PySem.F.plainAttrs_list PySem.F.slot_list_append PySem.F.type_list_append mt_append (pv 2) (pa_cons (pe_call GW hr (by rfl) gW kW bW .nil pass0 (pa_cons (pv 5) (pa_cons (pv 4) pa_nil))) pa_nil)))
      (pss_one (ps_expr (pe_bm PySem.F.plainAttrs_list PySem.F.slot_list_extend PySem.F.type_list_extend mt_extend (pv 3) (pa_cons (Kr.pe_listRev rfl (by rfl) ml (by rfl) mr (pe_call GB hr (by rfl) gB kB bB .nil pass0 (pa_cons (pv 5) (pa_cons (pv 4) pa_nil)))) pa_nil)))))))
    (pss_one (ps_ret (pe_join pe_str (pv 2)))))), ?_⟩
  refine ⟨by show 0 ≤ sizeLine; decide, fun wo nwo => ?_⟩
  have s1 := newS (o := .lst []) nwo
  have g1 : (upd H wo (.lst [])) wo = some (.lst []) := upd_same
  generalize upd H wo (.lst []) = H1 at s1 g1
  refine ⟨_, rfl, _, rfl, (by show 2 ≤ sizeLine; decide), fun t0 nt0 => ⟨(by show 1 ≤ sizeLine; decide), fun wa nwa => ?_⟩⟩
  have s2 := newS (o := .tup [.str kt.rl, v]) nt0
  have gt : (upd H1 t0 (.tup [.str kt.rl, v])) t0 = some (.tup [.str kt.rl, v]) := upd_same
  generalize upd H1 t0 (.tup [.str kt.rl, v]) = H2 at s2 gt nwa
  have s3 := newS (o := .lst [.ref t0]) nwa
  have gw0 : (upd H2 wa (.lst [.ref t0])) wa = some (.lst [.ref t0]) := upd_same
  generalize upd H2 wa (.lst [.ref t0]) = H3 at s3 gw0
  have go0 := s3 _ _ (s2 _ _ g1)
  have hwa : H wa = none := by
    cases z : H wa with
    | none => rfl
    | some o => rw [s2 _ _ (s1 _ _ z)] at nwa; cases nwa
  have hne : wo ≠ wa := fun z => by
    rw [← z, s2 _ _ g1] at nwa
    cases nwa
  have tl : kt.tk.length ≤ 16000000 := Nat.le_trans (wl_len kt.tk) hw
  have e0 : Wi.tks [kt] = kt.tk := tks1 kt
  have hd3 := hd.same (G := H3) fun b o z => s3 _ _ (s2 _ _ (s1 _ _ z))
  let Iv : Nat → L2.St → Hp → Prop := fun m σ G => ∃ (rest dn : List Wi) (ws : List V) (y4 y5 : Option V), m = (Wi.tks rest).length ∧ σ = [some v, some (.str kt.rl), some (.ref wo), some (.ref wa), y4, y5] ∧ Same H G ∧ G wo = some (.lst ((dn.map Wi.wd).map V.str)) ∧ G wa = some (.lst ws.reverse) ∧ Wl G rest ws ∧ dn ++ Wi.tks rest = kt.tk
  refine ⟨Iv, ⟨_, [kt], [], [.ref t0], none, none, rfl, rfl, fun b o z => s3 _ _ (s2 _ _ (s1 _ _ z)), go0, gw0, .cons (s3 _ _ gt) hd3 .nil, e0⟩, fun m σ G z => ?_⟩
  obtain ⟨rest, dn, ws, y4, y5, rfl, rfl, sG, go, gw, wl, et⟩ := z
  refine ⟨_, rfl, _, .inl ⟨_, SqL.of gw, rfl⟩, ?_⟩
  cases wl with
  | nil =>
    refine iteF ?_
    have ed : dn = kt.tk := by simpa [Wi.tks] using et
    subst ed
    refine ⟨⟨_, rfl⟩, _, rfl, _, wo, _, rfl, rfl, .inl (SqL.of go), ?_, q _ sG⟩
    have e1 : ((List.map Wi.wd kt.tk).map (·.length)).sum + (List.map Wi.wd kt.tk).length * 1 = wl kt.tk := by
      unfold wl
      generalize kt.tk = l
      induction l with
      | nil => rfl
      | cons j l ih =>
        simp only [List.map_cons, List.sum_cons, List.length_cons] at ih ⊢
        omega
    show _ + _ * 1 ≤ _
    rw [e1]
    have : sizeLine = 16777216 := rfl
    have hw' : wl kt.tk ≤ 16000000 := hw
    omega
  | cons gt1 dt1 wl1 =>
    rename_i i is t u us
    refine ite2 (fun e => ?_) (fun e => absurd (by simp) e)
    refine ⟨fun σ' G' => ∃ m', m' < _ ∧ Iv m' σ' G', fun σ' G' z => z, ?_⟩
    rw [List.reverse_cons] at gw
    refine ⟨_, rfl, .inl ⟨rfl, _, SqL.of gw⟩, wa, _, .ref t, rfl, rfl, gw, ?_, ?_⟩
    · rw [List.length_append, List.length_singleton, Nat.add_sub_cancel, List.getElem?_concat_length]
    rw [List.dropLast_concat]
    have ntw : ∀ xs, G wa ≠ some (.tup xs) := fun _ z => by rw [gw] at z; cases z
    have k1 : Kn Non G (upd G wa (.lst us.reverse)) := Kn.rfl.put (fun z => z) ntw
    have sH : Same H (upd G wa (.lst us.reverse)) := fun b o z => by
      rw [upd_ne (ne_of_none z hwa)]
      exact sG b o z
    have go1 : (upd G wa (.lst us.reverse)) wo = some (.lst ((dn.map Wi.wd).map V.str)) := by
      rw [upd_ne hne]
      exact go
    have gw1 : (upd G wa (.lst us.reverse)) wa = some (.lst us.reverse) := upd_same
    have gt2 := k1.tup _ _ gt1
    have dt2 := dt1.kn k1
    have wl2 := wl1.kn k1
    generalize upd G wa (.lst us.reverse) = G1 at k1 sH go1 gw1 gt2 dt2 wl2
    refine ⟨t, _, rfl, SqT.of gt2, rfl, _, _, rfl, _, _, rfl, rfl, ?_⟩
    rw [Wi.tks_cons] at et
    have oi : Ok1 i := ho i (by rw [← et]; simp)
    have ll := congrArg List.length et
    rw [List.length_append, List.length_cons] at ll
    refine ⟨_, rfl, .inl ⟨rfl, _, SqL.of go1⟩, _, rfl, _, rfl, i, u, rfl, oi, dt2, wo, _, _, rfl, rfl, go1, small (by rw [List.length_map, List.length_map]; omega), ?_⟩
    have s4 : Same H (upd G1 wo (.lst (((dn ++ [i]).map Wi.wd).map V.str))) := fun b o z => by
      rw [upd_ne (ne_of_none z nwo)]
      exact sH b o z
    have nto : ∀ xs, G1 wo ≠ some (.tup xs) := fun _ z => by rw [go1] at z; cases z
    have k2 : Kn Non G1 (upd G1 wo (.lst (((dn ++ [i]).map Wi.wd).map V.str))) := Kn.rfl.put (fun z => z) nto
    have go2 : (upd G1 wo (.lst (((dn ++ [i]).map Wi.wd).map V.str))) wo = some (.lst (((dn ++ [i]).map Wi.wd).map V.str)) := upd_same
    have gw2 : (upd G1 wo (.lst (((dn ++ [i]).map Wi.wd).map V.str))) wa = some (.lst us.reverse) := by
      rw [upd_ne (Ne.symm hne)]
      exact gw1
    have eq1 : (dn.map Wi.wd).map V.str ++ [V.str i.wd] = ((dn ++ [i]).map Wi.wd).map V.str := by simp
    rw [eq1]
    have dt3 := dt2.kn k2
    have wl3 := wl2.kn k2
    generalize upd G1 wo (.lst (((dn ++ [i]).map Wi.wd).map V.str)) = G2 at s4 k2 go2 gw2 dt3 wl3
    refine ⟨_, rfl, .inl ⟨rfl, _, SqL.of gw2⟩, _, rfl, _, rfl, i, u, rfl, oi, dt3, fun pq vs2 G3 s5 nq gq wq => ?_⟩
    have gw3 := s5 _ _ gw2
    have go3 := s5 _ _ go2
    have wl4 := wl3.kn (.of s5)
    refine ⟨pq, vs2, rfl, SqL.of gq, fun pr npr => ?_⟩
    have s6 := newS (o := .lst vs2.reverse) npr
    have gr : (upd G3 pr (.lst vs2.reverse)) pr = some (.lst vs2.reverse) := upd_same
    have sH6 : Same H (upd G3 pr (.lst vs2.reverse)) := fun b o z => s6 _ _ (s5 _ _ (s4 _ _ z))
    have gw4 := s6 _ _ gw3
    have go4 := s6 _ _ go3
    have wl5 := (wq.kn (.of s6)).app (wl4.kn (.of s6))
    generalize upd G3 pr (.lst vs2.reverse) = G4 at s6 gr sH6 gw4 go4 wl5
    have lw := wl5.len
    have lt : (i.ps ++ is).length ≤ (Wi.tks (i.ps ++ is)).length := Wi.tks_len _
    have lv : (vs2 ++ us).length ≤ (Wi.tks (i.ps ++ is)).length := by rw [← lw]; exact lt
    rw [List.length_append] at lv
    refine ⟨wa, pr, _, _, rfl, rfl, gw4, gr, small (by rw [List.length_reverse, List.length_reverse]; omega), ?_⟩
    have ntw4 : ∀ xs, G4 wa ≠ some (.tup xs) := fun _ z => by rw [gw4] at z; cases z
    have k7 : Kn Non G4 (upd G4 wa (.lst (us.reverse ++ vs2.reverse))) := Kn.rfl.put (fun z => z) ntw4
    refine ⟨(Wi.tks (i.ps ++ is)).length, ?_, i.ps ++ is, dn ++ [i], vs2 ++ us, _, _, rfl, rfl, fun b o z => ?_, ?_, ?_, wl5.kn k7, ?_⟩
    · rw [Wi.tks_cons, List.length_cons]
      exact Nat.lt_succ_self _
    · rw [upd_ne (ne_of_none z hwa)]
      exact sH6 b o z
    · rw [upd_ne hne]
      exact go4
    · rw [List.reverse_append]
      exact upd_same
    · rw [List.append_assoc]
      exact et
theorem scShow : FnScope ["worth"] ["worth"] (defScope tShow) := ⟨rfl, rfl, rfl, by decide +kernel, rfl, by decide +kernel, by decide +kernel⟩
def spShow : Sp := fun vs H Q _ => ∃ (i : Wi) (v : V), vs = [v] ∧ i.rl = "worth" ∧ Dd Non H i.d v ∧ ok i ∧ tkl i ≤ 16000000 ∧ ∀ G : Hp, Same H G → Q (.str (tx i)) G
theorem okShow {f fW : Addr} {fd fdW : FuncData} {k : Nat} (F : Fun K "show_worth" "show_worth" tShow f fd)
    (GW : FnOk P w K mg base CX0 k fW fdW ["thing", "role"] spWritten) (bW : Binds K fdW ["thing", "role"] []) (gW : mg "written" = some (.ref fW)) (kW : PySem.W.keepIn K (.ref fW) = true) : FnOk P w K mg base CX0 (k + 1) f fd ["worth"] spShow := by
  refine F.ok scShow (fun vs H Q E h => ?_) (fun cdv A outer s H vs Q E hr h => ?_)
  · obtain ⟨k, v, rfl, _⟩ := h
    rfl
  obtain ⟨i, v, rfl, hrl, hd, ho, hw, q⟩ := h
  exact ⟨_, pss_one (ps_ret (pe_call GW hr (by rfl) gW kW bW .nil pass0 (pa_cons (pv 0) (pa_cons pe_str pa_nil)))), _, rfl, i, v, by rw [hrl]; rfl, hd, ho, hw, q⟩
end
end Kq

/-! a generator expression whose element may call defs, as the argument of tuple(..) or list(..) -/
namespace Kg
open PySem PySem.Spec PyProof.Rows L2 GenW GxR
open Sem (wp)
/-- a turn's wish; ys: what is out -/
def TurnsY (J : It) (σ0 : L2.St) (vs : List Nat) (g : TG) (te : TE) (Q : List V → Hp → Prop) (W : Nat → Nat → List V → Hp → Prop) : Prop :=
  ∀ i m ys H, W i m ys H → (J.stop i H ∧ Q ys H) ∨ (J.go i H ∧ ys.length < sizeLine ∧ ∃ Nx : V → Hp → Prop, (∀ y H', Nx y H' → ∃ m', m' < m ∧ W (i + 1) m' (ys ++ [y]) H') ∧ ∀ x H', J.yld i H x H' → g x σ0 H' fun σ2 H2 => wipe σ2 vs = σ0 ∧ te σ2 H2 fun y H4 => Nx y H4)
section
variable {X : Cx} {A : Around} {N : List Str} {s4 : Shared} {H0 : Hp} {cenv : Env} {fp : List Addr} {tg elt iter : Expr} {scope : Scope} {pos : Pos} {it a S : Addr} {gi : Nat} {go : Obj} {J : It} {tn : Nat → Heap → Prop} {σ0 : L2.St} {vs : List Nat} {g : TG} {te : TE} {Q : List V → Hp → Prop} {EX : XK} {W : Nat → Nat → List V → Hp → Prop}
theorem gy_loop (hh : A.handled = none) (hco : cenv.scope.isCoroutine = false) (T : Turn X.prog X.w X.K tg J fp it tn) (haf : a ∉ fp) (hSf : S ∉ fp) (haS : a ≠ S) (hA : Apart (gcx X A N s4 H0 cenv fp) S) (hgen : ∀ h : Heap, h.get? a = some go → h.IsGen a gi)
    (pg : PG (gcx X A N s4 H0 cenv fp) tg g) (pe : PE (gcx X A N s4 H0 cenv fp) elt te) (turn : TurnsY J σ0 vs g te Q W) :
    ∀ (m n i : Nat) (ys : List V) (H : Hp) (s₀ s : Shared), n + ys.length = sizeLine → W i m ys H → GI (gcx X A N s4 H0 cenv fp) S [(a, go)] ys σ0 H s → tn i s.heap → (∀ b ∈ fp, H b = none) →
      Seg (model X.prog X.w) A (REnd X.prog X.w X.stack H0 s4 fp S a gi Q EX) (YItem s4 S a gi) n s₀ (.compLoop (.GeneratorExp elt [⟨tg, iter, [], 0⟩] scope pos) 0 (.ref it) .none cenv)
        ((model X.prog X.w).den (.compLoop (.GeneratorExp elt [⟨tg, iter, [], 0⟩] scope pos) 0 (.ref it) .none cenv)) [] s := by
  have stat : ∀ {acc : Array Value} {cc : Nat} {σ' : L2.St} {H' : Hp} {s' : Shared}, Inv (gcx X A N s4 H0 cenv fp) [(S, lstObj acc cc), (a, go)] σ' H' s' → (∀ b ∈ fp, H' b = none) → ∀ b ∈ fp, FpOk (gcx X A N s4 H0 cenv fp) [(S, lstObj acc cc), (a, go)] H' b := fun {acc cc σ' H' s'} I' hn b hb =>
    ⟨hn b hb, (I'.ok.exf b hb).1, I'.ok.exfs b hb, .inl hb, fun x c e => (I'.ok.exf b hb).2 x c e, fun p hp z => by
      have hp : p ∈ [(S, lstObj acc cc), (a, go)] := hp
      rcases List.mem_cons.mp hp with hp | hp
      · rw [hp] at z
        have z : S = b := z
        exact hSf (by rw [z]; exact hb)
      · rw [List.mem_singleton.mp hp] at z
        have z : a = b := z
        exact haf (by rw [z]; exact hb)⟩
  have hy : ∀ v, yieldOut cenv v = yieldValue v := fun v => by simp only [yieldOut, hco, Bool.false_eq_true, if_false]
  intro m
  induction m using Nat.strongRecOn with
  | ind m ih =>
    intro n i ys H s₀ s hmn hW hI hst hn
    obtain ⟨acc, cc, rys, I⟩ := hI
    show Seg _ A _ _ _ s₀ _ ((compTurn (.GeneratorExp elt [⟨tg, iter, [], 0⟩] scope pos) 0 (.ref it) .none cenv).onRaise (leaving cenv)) [] s
    rw [compTurn_gen, Sem.onRaise_eq_wrap]
    refine seg_bind_wrap (wpAny_standAt ?_)
    rcases turn i m ys H hW with ⟨stop, qq⟩ | ⟨hgo, hlt, Nx, hNx, step⟩
    · refine seg_bind_wrap ?_
      rw [over_loopC]
      refine thn (T.done (gcx X A N s4 H0 cenv fp) rfl rfl rfl rfl i [(S, lstObj acc cc), (a, go)] s _ H _ I (stat I hn) hst stop) fun r s6 ⟨hr, I6⟩ => ?_
      subst hr
      have p6 := I6.pin (S, lstObj acc cc) (List.mem_append_right _ List.mem_cons_self)
      exact seg_end (.ok .next) (.inl ⟨.inr rfl, H, ys, acc, cc, I6.os, I6.bare, I6.base, I6.hok, p6.2.1, p6.1, rys, by omega, qq⟩)
    · obtain ⟨n, rfl⟩ : ∃ k, n = k + 1 := ⟨n - 1, by omega⟩
      refine seg_bind_wrap ?_
      rw [over_loopC]
      refine thn (T.item (gcx X A N s4 H0 cenv fp) rfl rfl rfl rfl i [(S, lstObj acc cc), (a, go)] s _ H _ I (stat I hn) hst hgo) fun r s6 ⟨u, hr, h6⟩ => ?_
      subst hr
      refine seg_bind_wrap ?_
      rw [over_loopC]
      refine thn h6 fun _ s7 ⟨x, H7, I7, r7, y7, st7, n7⟩ => ?_
      have I7' := I7.pinned (stat I7 n7) (T.obj _ _ st7)
      refine seg_bind_wrap ?_
      rw [over_loopC]
      refine wpAny_mono (pg.run _ s7 _ H7 x u _ I7' r7 (step x H7 y7)) (fun _ s8 ⟨σ8, H8, I8, hw8, q8⟩ => ?_) fun _ _ e => e.elim
      have fin : ∀ {s' : Shared} {H' : Hp}, Inv (gcx X A N s4 H0 cenv fp) ([(S, lstObj acc cc), (a, go)] ++ pinsAt fp s7.heap) σ8 H' s' → Inv (gcx X A N s4 H0 cenv fp) [(S, lstObj acc cc), (a, go)] σ0 H' s' ∧ tn (i + 1) s'.heap ∧ ∀ b ∈ fp, H' b = none := fun {s' H'} I' => by
        have pin' : ∀ b ∈ fp, ∀ o, s7.heap.get? b = some o → s'.heap.get? b = some o ∧ H' b = none := fun b hb o e =>
          let z := I'.pin (b, o) (List.mem_append_right _ (List.mem_append_right _ (mem_pinsAt hb e)))
          ⟨z.1, z.2.1⟩
        have hl : σ0.length = σ8.length := by rw [← hw8, wipe_length]
        refine ⟨(I'.unpinned (pins := [(S, lstObj acc cc), (a, go)])).weak hl (fun j v e => ?_), T.keep _ _ _ st7 fun b hb o e => (pin' b hb o e).1, fun b hb => ?_⟩
        · rw [← hw8] at e
          exact (wipe_some e).1
        · obtain ⟨o, e, _⟩ := T.obj _ _ st7 b hb
          exact (pin' b hb o e).2
      simp only [List.forIn_nil]
      refine seg_bind_wrap (wpAny_pure ?_)
      simp only [if_true]
      simp only [hy]
      rw [Sem.bind_eq_wrap', Sem.bind_eq_wrap', Sem.wrap_wrap, Sem.wrap_wrap]
      refine seg_wrap ?_
      rw [over_loopC]
      refine wpAny_mono (pe.run _ s8 σ8 H8 _ I8 q8) (fun v s10 ⟨y, H10, I10, r10, nx⟩ => ?_) fun _ _ e => e.elim
      obtain ⟨m', hm', w'⟩ := hNx y H10 nx
      obtain ⟨J1, J2, J3⟩ := fin I10
      have hga : s10.heap.IsGen a gi := hgen _ (J1.pin (a, go) (List.mem_append_right _ (List.mem_cons_of_mem _ (List.mem_singleton.mpr rfl)))).1
      have hS10 := (J1.pin (S, lstObj acc cc) (List.mem_append_right _ List.mem_cons_self)).1
      have hsz : acc.size = ys.length := by
        have e1 := rys.length
        have e2 : acc.toList.length = acc.size := by simp
        omega
      refine seg_at (seg_yield rfl rfl rfl ⟨J1.os, J1.bare, J1.nolimit, hga, ⟨acc, cc, hS10, by rw [hsz]; exact hmn⟩, fun s'' z => ?_⟩)
      have G1 : GI (gcx X A N s4 H0 cenv fp) S [(a, go)] ys σ0 H10 s10 := ⟨acc, cc, rys, J1⟩
      have G2 := G1.woken (fun p hp => absurd (show p ∈ ([] : List (Addr × Obj)) from hp) (by simp)) (fun p hp => by rw [List.mem_singleton.mp hp]; exact haS) hA r10 z
      refine seg_again rfl (ih m' hm' n (i + 1) (ys ++ [y]) H10 s'' s'' (by rw [List.length_append, List.length_singleton]; omega) w' G2 (T.keep _ _ _ J2 fun b hb o e => z.keep b o (fun q => hSf (by rw [← q]; exact hb)) e) J3)
theorem gy_begin (hh : A.handled = none) (hco : cenv.scope.isCoroutine = false) (T : Turn X.prog X.w X.K tg J fp it tn) (haf : a ∉ fp) (hSf : S ∉ fp) (haS : a ≠ S) (hA : Apart (gcx X A N s4 H0 cenv fp) S) (hgen : ∀ h : Heap, h.get? a = some go → h.IsGen a gi)
    (pg : PG (gcx X A N s4 H0 cenv fp) tg g) (pe : PE (gcx X A N s4 H0 cenv fp) elt te) (turn : TurnsY J σ0 vs g te Q W) {m : Nat} {H : Hp} {s : Shared} (w0 : W 0 m [] H) (hI : GI (gcx X A N s4 H0 cenv fp) S [(a, go)] [] σ0 H s) (hst : tn 0 s.heap) (hn : ∀ b ∈ fp, H b = none) :
    Seg (model X.prog X.w) A (REnd X.prog X.w X.stack H0 s4 fp S a gi Q EX) (YItem s4 S a gi) sizeLine s (.compStart (.GeneratorExp elt [⟨tg, iter, [], 0⟩] scope pos) 0 (.ref it) .none cenv)
      ((model X.prog X.w).den (.compStart (.GeneratorExp elt [⟨tg, iter, [], 0⟩] scope pos) 0 (.ref it) .none cenv)) [] s := by
  have loop := gy_loop (iter := iter) (scope := scope) (pos := pos) (EX := EX) hh hco T haf hSf haS hA hgen pg pe turn m sizeLine 0 [] H s s rfl w0 hI hst hn
  show Seg _ A _ _ _ s _ ((compStart (.GeneratorExp elt [⟨tg, iter, [], 0⟩] scope pos) 0 (.ref it) .none cenv).onRaise (leaving cenv)) [] s
  unfold compStart
  rw [Sem.onRaise_eq_wrap]
  show Seg _ A _ _ _ s _ ((ask >>= _).wrap _ _ _ _) [] s
  refine seg_bind_wrap (wpAny_askSetting ?_)
  split
  · exact seg_again rfl loop
  · first
      | exact seg_bind_wrap (wpAny_rule (seg_bind_wrap (wpAny_standAt (seg_bind_wrap (T.self _ 0 s _ _ hst (seg_again rfl loop))))))
      | (refine seg_bind_wrap (wpAny_rule ?_); show Seg _ A _ _ _ s _ ((standAt iter.pos >>= _).wrap _ _ _ _) [] s; exact seg_bind_wrap (wpAny_standAt (seg_bind_wrap (T.self _ 0 s _ _ hst (seg_again rfl loop)))))
end
section
variable {X : Cx}
def tGx (P : Addr) (wi : TI) (own : List Str) (caps : List (Str × Nat)) (vs : List Nat) (g : TG) (te : TE) : TGen := fun σ H cont => wi σ H fun J H1 => TabG H1 P ∧ ∀ H2, Tabbed P H1 H2 → ∃ W : Nat → Nat → List V → Hp → Prop, (∃ m, W 0 m [] H2) ∧ TurnsY J (gxSt own caps σ) vs g te cont W
/-- a generator expression -/
theorem pgen_gx {c P : Addr} {elt tg iter : Expr} {gpos : Pos} {scope : Scope} {own : List Str} {caps : List (Str × Nat)} {vs : List Nat} {wi : TI} {g : TG} {te : TE} {k : Nat} {E : XK}
    (hr : Room k X.A) (TB : TabB X.base X.mg c P) (hcode : X.env.code = .ref c) (S : GxS X.N X.env.scope scope own caps) (hi : PI X tg iter wi)
    (pg : ∀ (A : Around) (s : Shared) (H : Hp) (C : Addr) (cd : Value) (fp : List Addr), Room k A → PG (gcx X A (gxN own caps) s H (gxEnv X scope C cd) fp) tg g)
    (pe : ∀ (A : Around) (s : Shared) (H : Hp) (C : Addr) (cd : Value) (fp : List Addr), Room k A → PE (gcx X A (gxN own caps) s H (gxEnv X scope C cd) fp) elt te)
    (hs : ∀ v, genFold iter X.env v = pure v := by intro _; rfl) :
    PGen X k (.GeneratorExp elt [⟨tg, iter, [], 0⟩] scope gpos) (tGx P wi own caps vs g te) E := by
  refine ⟨fun pins s σ H Q I h => ?_⟩
  have hfree : ∀ y ∈ scope.names, y.2 = .free → ∃ c, X.env.cells.lookup y.1 = some c := fun y hy e => by
    rcases S.free y hy e with k | k
    · exact I.ok.has _ (.inl k)
    · exact I.ok.has _ (.inr k)
  refine wpAny_GeneratorExp_make S.co (closure_ok hfree) S.cell S.dot S.kind (by have := hr.dp; omega) ?_ hs
  refine thn (hi.run pins s σ H _ I h) fun xv s1 hx => thn hx fun itv s2 h2 => ?_
  obtain ⟨it, fp, tn, J, H1, rfl, I2, T, st2, f2, ⟨ps, hP, ht⟩, q⟩ := h2
  refine ⟨I2.nolimit, ?_⟩
  have hPs : s2.heap.get? P = some { cls := .none, data := .fields ps } := I2.hok P _ hP
  have cd : PySem.W.CodeHd s2.heap c P := TB.code.keeps I2.bk
  have sz2 : ∀ b ∈ fp, b < s2.heap.objs.size := fun b hb => by
    obtain ⟨o, e, _⟩ := T.obj _ _ st2 b hb
    exact Heap.lt_size e
  have cont : ∀ (code : Value) (h3 : Heap) (tk : Nat) (ps' more : Array Value), Heap.ExtBut P s2.heap h3 → s2.heap.objs.size ≤ h3.objs.size → h3.get? P = some { cls := .none, data := .fields ps' } → ps' = ps ++ more → TriplesOk ps'.toList →
      wpAny (model X.prog X.w) X.A (builtinsFor X.env.globals X.env.builtins) (fun bi s₄ =>
        ∀ h', h'.Ns s₄.heap.objs.size (fun y => if y = ".0" then some (.ref it) else none) → Heap.SameBut s₄.heap.objs.size (s₄.heap.push { cls := .type "frame", data := .dict #[] }) h' →
          ∃ H1 sc ex, Inv X pins σ H1 sc ∧ ExOk X pins ex ∧ GMade X.prog X.w k X.stack H1 sc ex Q E (.ref h'.objs.size) { s₄ with
            gens := s₄.gens.push (.fresh (.compStart (.GeneratorExp elt [⟨tg, iter, [], 0⟩] scope gpos) 0 (.ref it) .none (genEnv scope (cloFrom X.env.cells scope.names []) s₄.heap.objs.size code bi X.env))),
            toks := s₄.toks + 1 + 1 + 1,
            heap := h'.push { cls := .type "generator", data := .fields #[.int s₄.gens.size 0, .str "<genexpr>" (s₄.toks + 1), .str (X.env.qual ++ "<genexpr>") (s₄.toks + 1 + 1)] } }) X.xe { s2 with heap := h3, toks := tk } := by
    intro code h3 tk ps' more hx hsz hP3 hmore ht3
    obtain ⟨bm, ob, e1, e2, e3, e4, e5, e6, e7, e8⟩ := TB.bm
    have keep3 : ∀ b u, b ≠ P → s2.heap.get? b = some u → h3.get? b = some u := fun b u hb e => hx b u hb e
    refine wpAny_builtinsFor (m := X.mg) (by rw [I2.ok.glob]; exact (I2.mod.glob.keeps I2.bk).extBut hx TB.gP) e1 e2 (keep3 _ _ e4 (I2.bk _ _ e5)) e6 e7 e8 ?_
    intro h' hns hsb
    have I3 : Inv X pins σ (upd H1 P (.tbl (ps ++ more))) { s2 with heap := h3, toks := tk } := inv_tab (more := more) (g' := s2.gens) (d' := s2.drawn) (t' := tk) I2 hP keep3 (by rw [← hmore]; exact hP3) I2.bare
    have hT : Tabbed P H1 (upd H1 P (.tbl (ps ++ more))) := ⟨⟨ps ++ more, upd_same, by rw [← hmore]; exact ht3⟩, fun b hb => upd_ne hb⟩
    obtain ⟨W, ⟨m, w0⟩, turn⟩ := q _ hT
    have nP : ∀ b ∈ fp, b ≠ P := fun b hb z => by
      have := (f2 b hb).1
      rw [z, hP] at this
      cases this
    have f3 : ∀ b ∈ fp, FpOk X pins (upd H1 P (.tbl (ps ++ more))) b ∧ b < h3.objs.size := fun b hb => ⟨⟨by rw [upd_ne (nP b hb)]; exact (f2 b hb).1, (f2 b hb).2⟩, Nat.lt_of_lt_of_le (sz2 b hb) hsz⟩
    generalize upd H1 P (.tbl (ps ++ more)) = H3 at I3 w0 f3
    have hsz' : h'.objs.size = h3.objs.size + 1 := by rw [hsb.1, Heap.size_push]
    have keep' : ∀ b o, h3.get? b = some o → h'.get? b = some o := fun b o e => hsb.extBut b o (Nat.ne_of_lt (Heap.lt_size e)) (Heap.get?_push_of_some _ e)
    generalize hgo : ({ cls := .type "generator", data := .fields #[.int s2.gens.size 0, .str "<genexpr>" (tk + 1), .str (X.env.qual ++ "<genexpr>") (tk + 1 + 1)] } : Obj) = go
    have hgen : ∀ hp : Heap, hp.get? h'.objs.size = some go → hp.IsGen h'.objs.size s2.gens.size := fun hp e => ⟨go, _, _, e, by rw [← hgo], by rw [← hgo], by rw [← hgo]⟩
    have hput : (h'.push go).get? h'.objs.size = some go := Heap.get?_push_size _ (by rw [← hgo]; rfl)
    have hgd : ∀ v, go.data ≠ .cell v := fun v z => by rw [← hgo] at z; cases z
    have keep5 : ∀ b o, h3.get? b = some o → (h'.push go).get? b = some o := fun b o e => Heap.get?_push_of_some _ (keep' b o e)
    have hb5 : AllBare (s2.gens.push (.fresh (.compStart (.GeneratorExp elt [⟨tg, iter, [], 0⟩] scope gpos) 0 (.ref it) .none (gxEnv X scope h3.objs.size code)))) := I2.bare.push rfl
    refine ⟨H3, { s2 with heap := h3, toks := tk }, fp, I3, fun b hb => ⟨(f3 b hb).1.2.2.2.1, (f3 b hb).1.2.1, (f3 b hb).1.2.2.2.2.1, (f3 b hb).1.2.2.2.2.2⟩, h'.objs.size, s2.gens.size, _, rfl, ?_, ?_, hgen _ hput, Array.getElem?_push_size .., rfl, hb5, I3.nolimit.keeps keep5, keep5, ?_⟩
    · show h3.objs.size ≤ h'.objs.size
      omega
    · show h'.objs.size < (h'.push go).objs.size
      rw [Heap.size_push]
      exact Nat.lt_succ_self _
    intro Aw Sx s6 hrw hfr hSx hk6 hSo hos6 hba6
    have hSx : (h'.push go).objs.size ≤ Sx := hSx
    rw [Heap.size_push] at hSx
    have hk6 : ∀ b o, (h'.push go).get? b = some o → s6.heap.get? b = some o := hk6
    have G0 : Inv (gcx X Aw (gxN own caps) { s2 with heap := h3, toks := tk } H3 (gxEnv X scope h3.objs.size code) fp) [] (gxSt own caps σ) H3 s6 :=
      gx_start (s := { s2 with heap := h3, toks := tk }) I3 S hrw.hd hfr f3 ((hns.push go).at' fun o e => hk6 _ o e) (fun b o e => hk6 b o (keep5 b o e)) hos6 hba6
    have young : ∀ b, h3.objs.size < b → H3 b = none ∧ b ≠ h3.objs.size ∧ b ∉ frs X.stack := fun b hb => by
      refine ⟨I3.hok.fresh (by show h3.objs.size ≤ b; omega), by omega, fun z => ?_⟩
      rcases List.mem_cons.mp (I3.stkSub _ z) with z | z
      · have h1 := I3.lt
        rw [← z] at h1
        have h1 : b < h3.objs.size := h1
        omega
      · exact I3.nofs (show h3.objs.size ≤ b by omega) z
    obtain ⟨cS, heS⟩ := hSo
    have hG : GI (gcx X Aw (gxN own caps) { s2 with heap := h3, toks := tk } H3 (gxEnv X scope h3.objs.size code) fp) Sx [(h'.objs.size, go)] [] (gxSt own caps σ) H3 s6 := by
      refine ⟨#[], cS, .nil, G0.pins_of fun p hp => ?_⟩
      rcases List.mem_cons.mp hp with hp | hp
      · rw [hp]
        obtain ⟨y1, y2, y3⟩ := young Sx (by omega)
        exact ⟨heS, y1, y2, y3, fun v q => by cases q⟩
      · rw [List.mem_singleton.mp hp]
        obtain ⟨y1, y2, y3⟩ := young h'.objs.size (by omega)
        exact ⟨hk6 _ _ hput, y1, y2, y3, hgd⟩
    have st5 : tn 0 s6.heap := T.keep _ _ _ st2 fun b hb o e => hk6 b o (keep5 b o (keep3 b o (nP b hb) e))
    have cm : ∀ {y c}, (y, c) ∈ cloFrom X.env.cells scope.names [] → c < h3.objs.size := fun {y c} hm => by
      rcases cloFrom_mem hm with hm | ⟨h1, rfl⟩
      · cases hm
      · obtain ⟨c, hc⟩ := hfree _ h1 rfl
        rw [hc]
        obtain ⟨w, z⟩ := I3.cell _ _ hc
        exact z.lt
    refine gy_begin (A := Aw) (N := gxN own caps) (σ0 := gxSt own caps σ) (vs := vs) (g := g) (te := te) (Q := Q) (EX := E) (W := W) hrw.hd S.co T (fun z => ?_) (fun z => ?_) (Nat.ne_of_lt (by omega)) ⟨?_, ?_, fun x c e z => ?_⟩ hgen (pg _ _ _ _ _ _ hrw) (pe _ _ _ _ _ _ hrw) turn w0 hG st5 (fun b hb => (f3 b hb).1.1)
    · have z2 : h'.objs.size < h3.objs.size := (f3 _ z).2
      omega
    · have z2 : @LT.lt Nat _ Sx h3.objs.size := (f3 _ z).2
      omega
    · show h3.objs.size ≤ Sx
      omega
    · exact Nat.ne_of_gt (show h3.objs.size < Sx by omega)
    · have z2 : @LT.lt Nat _ c h3.objs.size := cm (PySem.mem_of_lookup (show (cloFrom X.env.cells scope.names []).lookup x = some c from e))
      have z3 : @Eq Nat c Sx := z
      omega
  cases hf : codeAmong gpos ps.toList with
  | none =>
    refine wpAny_genexprCodeX hcode (cd.code hPs ht) (cd.tab hPs) hf fun c' h' tk hx hge hlt hco' _ htab' _ => ?_
    obtain ⟨o1, vs, f1, tf, fl, tg, inF, tx, tt, op, _, _, _, _, _, _, _, _, _, htr, _⟩ := hco'
    exact cont _ h' tk _ _ hx (Nat.le_trans hge (Nat.le_of_lt hlt)) htab'.2 rfl htr
  | some cv =>
    refine wpAny_genexprCode_hit hcode (cd.code hPs ht) hf ?_
    exact cont cv s2.heap s2.toks ps #[] (Heap.ExtBut.refl _ _) (Nat.le_refl _) hPs (by simp) ht
end
/-! tuple(g) -/
theorem collect_made {P : Program} {w : World} {outer : List Env} {H : Hp} {sc s : Shared} {ex : List Addr} {Q : List V → Hp → Prop} {A : Around} {k : Nat} {u : Value} {Q' : List Value → Shared → Prop} {E : Value → Shared → Prop}
    (hr : Room (k + 1) A) (hfr : A.frames = some outer) (h : GMade P w k outer H sc ex Q E0 u s)
    (hQ : ∀ (s' : Shared) (acc : Array Value) (H' : Hp) (ys : List V), s.heap.objs.size ≤ s'.heap.objs.size → Vals ys acc.toList → ys.length ≤ sizeLine → s'.os = sc.os → AllBare s'.gens → Un (frs outer) ex H H' sc.heap s'.heap → HOk P w H' s'.heap → Q ys H' → Q' acc.toList s') :
    wpAny (model P w) A (collect u) Q' E s := by
  obtain ⟨a, g, c, rfl, ha1, ha2, hg, hgs, hos, hb, hl, hkp, wake⟩ := h
  have hSa : s.heap.objs.size ≠ a := Nat.ne_of_gt ha2
  have hcl : cStatics < s.heap.objs.size := let ⟨_, hn, _⟩ := hl; hn.lt
  have hSc : s.heap.objs.size ≠ cStatics := Nat.ne_of_gt hcl
  unfold collect
  refine wpAny_bind (wpAny_runValue (codeAny_builtin F.entry_proto_collect ?_))
  rw [Around.under_plainId F.plain_proto_collect _]
  show wpAny _ A.in1 (newList [] >>= fun l => again (.builtin "list.__iadd__" ⟨[l, .ref a], []⟩)) _ _ s
  refine wpAny_bind (wpAny_newObj_type ?_)
  refine wpAny_pure ⟨plainId_quiet F.plain_list_iadd _, codeAny_builtin F.entry_list_iadd ?_⟩
  rw [Around.under_plainId F.plain_list_iadd _]
  show wpAny _ A.in1 (Builtin.List.listExtendWith (.ref s.heap.objs.size) (.ref a) (.ref s.heap.objs.size)) _ _ _
  unfold Builtin.List.listExtendWith
  have k1 : ∀ b o, s.heap.get? b = some o → (s.heap.push { cls := .type "list", data := .seq ([] : List Value).toArray }).get? b = some o := fun b o e => Heap.get?_push_of_some _ e
  have gty : ∀ {h : Heap}, (∀ b o, s.heap.get? b = some o → h.get? b = some o) → h.IsGen a g := fun {h} q => hg.keeps q
  refine wpAny_bind (wpAny_typeOf (Heap.IsGen.typeIs (s := { s with heap := _ }) (gty k1)) ?_)
  have h1 : Builtin.List.listSameRef (.ref s.heap.objs.size) (.ref a) = false := by simp [Builtin.List.listSameRef, hSa]
  have h2 : (Value.type "generator" == Value.type "list") = false := by decide
  have h3 : (Value.type "generator" == Value.type "tuple") = false := by decide
  simp only [h1, h2, h3, Bool.or_false, Bool.false_eq_true, if_false]
  refine wpAny_bind (wpAny_pyIter_gen (s := { s with heap := _ }) (gty k1) ?_)
  refine wpAny_bind (wpAny_holding ?_)
  unfold Builtin.List.listLengthHint
  refine wpAny_bind (wpAny_specialOf (Heap.IsGen.typeIs (s := { s with heap := _ }) (gty k1)) F.gen_no_len ?_)
  show wpAny _ A.in1 (specialOf (Value.ref a) (Str.ofString "__length_hint__") >>= _) _ _ _
  refine wpAny_bind (wpAny_specialOf (Heap.IsGen.typeIs (s := { s with heap := _ }) (gty k1)) F.gen_no_hint ?_)
  refine wpAny_pure ?_
  show wpAny _ A.in1 (rule "list.extend.makes-room" >>= fun _ => Builtin.List.listTouch (.ref s.heap.objs.size) >>= fun _ =>
    again (.builtin "list.extend.loop" ⟨[.ref s.heap.objs.size, .ref a, .ref s.heap.objs.size], []⟩)) _ _ _
  refine wpAny_bind (wpAny_rule ?_)
  have hS₁ : (s.heap.push { cls := .type "list", data := .seq ([] : List Value).toArray }).get? s.heap.objs.size = some { cls := .type "list", data := .seq ([] : List Value).toArray } := Heap.get?_push_size _ rfl
  refine wpAny_bind ?_
  show wpAny _ A.in1 (updateSeq s.heap.objs.size (·.push .none) >>= fun _ => updateSeq s.heap.objs.size (·.pop)) _ _ _
  refine wpAny_bind (wpAny_updateSeq hS₁ rfl ?_)
  have hS₂ := Heap.get?_update_self (Obj.mapSeq (·.push Value.none)) hS₁ rfl
  refine wpAny_updateSeq hS₂ rfl ?_
  have hS₃ := Heap.get?_update_self (Obj.mapSeq (·.pop)) hS₂ rfl
  have oth : ∀ b o, s.heap.get? b = some o →
      (((s.heap.push { cls := .type "list", data := .seq ([] : List Value).toArray }).update s.heap.objs.size (Obj.mapSeq (·.push Value.none))).update s.heap.objs.size (Obj.mapSeq (·.pop))).get? b = some o :=
    fun b o e => (Heap.get?_update_other _ _ (Ne.symm (Nat.ne_of_lt (Heap.lt_size e)))).trans ((Heap.get?_update_other _ _ (Ne.symm (Nat.ne_of_lt (Heap.lt_size e)))).trans (k1 b o e))
  refine wpAny_pure ⟨plainId_quiet F.plain_extend_loop _, ?_⟩
  refine drain (P := P) (w := w) (outer := outer) (H := H) (sc := sc) (ex := ex) (Q := Q) (EX := E0) (A := A) (g := g) hr.hd (by have := hr.dp; omega) hSa hSc
    (fun s' acc c' H' ys q1 q2 q3 q4 q5 q6 q7 q8 q9 => ?_) (fun e s' hc => ?_)
    sizeLine _ (gty oth) (hl.keeps oth) ⟨_, hgs, rfl, ?_⟩
  · refine wpAny_bind (wpAny_load q1 ?_)
    exact wpAny_pure (hQ s' acc H' ys (Nat.le_of_lt (Heap.lt_size q1)) q2 q3 q4 q5 q6 q7 q9)
  · obtain ⟨_, _, _, _, _, _, _, _, _, _, _, _, q⟩ := hc
    exact q.elim
  refine wake _ _ _ ⟨hr.hd, ?_, ?_⟩ hfr (Nat.le_refl _) oth ⟨_, hS₃⟩ hos (allBare_setGen (s := { s with heap := _ }) hb rfl)
  · have := hr.dp
    show A.depth + 3 * k + 5 < _
    omega
  · have := hr.un
    show A.units + 1 + 1 + 16 * k + 200 < _
    omega
end Kg

/-! tuple(generator expression) -/
namespace Kg
open PySem PySem.Spec PyProof.Rows L2 GenW GxR
open Sem (wp)
open AutoSeq1 (wpAny_loadPart')
section
variable {P : Program} {w : World} {outer : List Env} {H : Hp} {sc s : Shared} {ex : List Addr} {Q : List V → Hp → Prop} {A : Around} {k : Nat} {a : Addr}
theorem tuple_made {Q' : Value → Shared → Prop} {E : Value → Shared → Prop}
    (hr : Room (k + 2) A) (hfr : A.frames = some outer) (h : GMade P w k outer H sc ex Q E0 (.ref a) s)
    (hQ : ∀ (s' : Shared) (acc : Array Value) (H' : Hp) (ys : List V), s.heap.objs.size ≤ s'.heap.objs.size → Vals ys acc.toList → ys.length ≤ sizeLine → s'.os = sc.os → AllBare s'.gens → Un (frs outer) ex H H' sc.heap s'.heap → HOk P w H' s'.heap → Q ys H' →
      Q' (.ref s'.heap.objs.size) { s' with heap := s'.heap.push { cls := .type "tuple", data := .seq acc } }) :
    codeAny (model P w) A (.call (.builtin "tuple.__new__") ⟨[.type "tuple", .ref a], []⟩) (wants Q' E) s := by
  refine codeAny_of_tree ?_
  show wpAny _ A.in1 (do checkBuiltinCall "tuple.__new__" ⟨[.type "tuple", .ref a], []⟩; again (.builtin "tuple.__new__" ⟨[.type "tuple", .ref a], []⟩)) _ _ s
  refine wpAny_bind (wpAny_of_eq (F.newCall_tuple_1 _) (wpAny_pure ⟨plainId_quiet F.plain_tuple_new _, codeAny_builtin F.entry_tuple_new ?_⟩))
  rw [Around.under_plainId F.plain_tuple_new _]
  have hsub := sub_tuple_self
  have hinit := init_tuple_lookup
  have hmh := madeHere_tuple
  have hg : ∃ g, s.heap.IsGen a g := by
    obtain ⟨b, g, c, e, _, _, hg, _⟩ := h
    cases e
    exact ⟨g, hg⟩
  obtain ⟨g, hg⟩ := hg
  have hty : s.TypeIs (.ref a) "generator" := Heap.IsGen.typeIs hg
  have hr2 : Room (k + 1) A.in1 := ⟨hr.hd, by have := hr.dp; show A.depth + 3 * (k + 1) + 5 < _; omega, by have := hr.un; show A.units + 1 + 16 * (k + 1) + 200 < _; omega⟩
  wp_walk using wpAny_typeOf hty, collect_made hr2 hfr h
  intro s' acc H' ys q1 q2 q3 q4 q5 q6 q7 q8
  show wpAny _ _ (Builtin.Tuple.tupleExact acc.toList.toArray >>= fun v => ret v) _ _ _
  have e : acc.toList.toArray = acc := by simp
  rw [e]
  have sz : acc.size ≤ sizeLine := by
    have h1 := q2.length
    have h2 : acc.toList.length = acc.size := Array.length_toList
    omega
  exact wpAny_bind (m := Builtin.Tuple.tupleExact acc) (wpAny_newObj_type (wpAny_pure (hQ s' acc H' ys q1 q2 q3 q4 q5 q6 q7 q8)) sz)
theorem call_tuple_made {Q' : Value → Shared → Prop} {E : Value → Shared → Prop}
    (hr : Room (k + 3) A) (hfr : A.frames = some outer) (h : GMade P w k outer H sc ex Q E0 (.ref a) s)
    (hQ : ∀ (s' : Shared) (acc : Array Value) (H' : Hp) (ys : List V), s.heap.objs.size ≤ s'.heap.objs.size → Vals ys acc.toList → ys.length ≤ sizeLine → s'.os = sc.os → AllBare s'.gens → Un (frs outer) ex H H' sc.heap s'.heap → HOk P w H' s'.heap → Q ys H' →
      Q' (.ref s'.heap.objs.size) { s' with heap := s'.heap.push { cls := .type "tuple", data := .seq acc } }) :
    wpAny (model P w) A (call (.type "tuple") [.ref a]) Q' E s := by
  have hr2 : Room (k + 2) A.in1 := ⟨hr.hd, by have := hr.dp; show A.depth + 3 * (k + 2) + 5 < _; omega, by have := hr.un; show A.units + 1 + 16 * (k + 2) + 200 < _; omega⟩
  refine callType_codes (Q₁ := fun o s1 => s1.TypeIs o "tuple" ∧ Q' o s1) F.called_tuple (F.typeCall_tuple_1 _) F.entry_object_init
    (tuple_made hr2 hfr h fun s' acc H' ys q1 q2 q3 q4 q5 q6 q7 q8 => ⟨⟨_, Heap.get?_push_size _ rfl, rfl⟩, hQ s' acc H' ys q1 q2 q3 q4 q5 q6 q7 q8⟩) fun o s1 h1 => ?_
  exact ⟨h1.1, F.args_object_init_2 o _, object_init_meets F.called_tuple.init.lookup F.called_tuple.made (by decide) P w A.in1 _ s1 ⟨h1.1, rfl, h1.2⟩⟩
end
section
variable {X : Cx} {k : Nat} {p pos : Pos}
def tTupG (tg : TGen) : TE := fun σ H Q => tg σ H fun out H2 => ∀ p, H2 p = none → Q (.ref p) (upd H2 p (.tup out))
/-- tuple(g) -/
theorem pe_tupG {e : Expr} {tg : TGen} {nm : Str} (h : PGen X k e tg E0) (hr : Room (k + 3) X.A) (hg : Gl X nm) (hmg : X.mg nm = none) (hv : bootBuiltins nm = some (.type "tuple")) (hnm : nm ≠ "__name__" := by decide) (hdb : (nm == ("__debug__" : Str)) = false := by decide)
    (he : starEach [e] X.env = (false, eval e X.env) :: starEach [] X.env := by rfl) : PE X (.Call (.Name nm p) [e] [] pos) (tTupG tg) := by
  refine ⟨fun pins s σ H Q I hq => ?_⟩
  refine wpAny_Call_Name_kw (ld_blt I hg hmg hv ?_ hnm hdb)
  refine PyProof.Rows.callWith_type1 ?_ he rfl
  rw [he]
  show wpAny _ _ (spliced ((false, eval e X.env) :: backTo pos (starEach [] X.env))) _ _ s
  refine Calls.spliced_cons (thn (h.run pins s σ H _ I hq) fun u s1 ⟨H1, sc, ex, I1, hex, hG⟩ => ?_)
  refine Calls.spliced_nil ?_
  obtain ⟨b, eb⟩ : ∃ b, u = .ref b := let ⟨a, _, _, e, _⟩ := hG; ⟨a, e⟩
  subst eb
  refine call_tuple_made hr I1.ok.frames hG fun s' acc H' ys q1 q2 q3 q4 q5 q6 q7 q8 => ?_
  have I2 : Inv X pins σ H' s' := I1.call' (ch := ex) q4 q6 q7 q5 hex
  have I3 : Inv X pins σ (upd H' s'.heap.objs.size (.tup ys)) { s' with heap := s'.heap.push { cls := .type "tuple", data := .seq acc } } :=
    I2.laid (t' := s'.toks) (fun b o e => Heap.get?_push_of_some _ e) (Nat.le_refl _) (show ObjOk X.prog X.w _ _ _ (.tup ys) from ⟨q3, acc.toList, q2, by
      have z : acc.toList.toArray = acc := by simp
      rw [z]
      exact IsTup.new _ _⟩)
  exact ⟨.ref s'.heap.objs.size, _, I3, rfl, q8 _ (I2.hok.fresh (Nat.le_refl _))⟩
end
end Kg

/-! range(0, 2 * n, 2); generators over a range of any step; tuple(l) with the written part named -/
namespace Kz
open PySem PySem.Spec PyProof.Rows L2 Kg
theorem RgC.two {n : Nat} (h : n ≤ 1000000) : RgC 0 ((2 * n : Nat) : Int) 2 n := by
  have e : Builtin.Range.rangeSize 0 ((2 * n : Nat) : Int) 2 = n := by
    unfold Builtin.Range.rangeSize
    rw [if_pos (by decide)]
    split <;> omega
  refine ⟨by decide, by decide, ?_, e⟩
  have f : ∀ k : Int, -9223372036854775808 ≤ k → k < 9223372036854775808 → Builtin.Range.rangeFitsLong k = true := fun k h1 h2 => by
    unfold Builtin.Range.rangeFitsLong
    rw [decide_eq_true (show -(2 ^ 63) ≤ k from h1), decide_eq_true (show k < 2 ^ 63 from h2)]
    rfl
  unfold Builtin.Range.small
  rw [e]
  rw [f 0 (by decide) (by decide), f ((2 * n : Nat) : Int) (by omega) (by omega), f 2 (by decide) (by decide), f (n : Int) (by omega) (by omega), if_pos (by decide), f (((2 * n : Nat) : Int) + (2 - 1)) (by omega) (by omega), Bool.or_true]
  rfl
theorem turnsY_c {lo c : Int} {n : Nat} {g : TG} {te : TE} {vs : List Nat} {σ0 : L2.St} {H2 : Hp} {Q : List V → Hp → Prop} (Pv : Nat → List V → Hp → Prop) (hn : n ≤ sizeLine) (h0 : Pv 0 [] H2) (hl : ∀ i ys H, Pv i ys H → ys.length = i)
    (hs : ∀ i ys H, i < n → Pv i ys H → g (.int (lo + (i : Nat) * c)) σ0 H fun σ2 H2 => wipe σ2 vs = σ0 ∧ te σ2 H2 fun y H4 => Pv (i + 1) (ys ++ [y]) H4) (hd : ∀ ys H, Pv n ys H → Q ys H) :
    ∃ W : Nat → Nat → List V → Hp → Prop, (∃ m, W 0 m [] H2) ∧ TurnsY (Itc lo c n) σ0 vs g te Q W := by
  refine ⟨fun i m ys H => m = n - i ∧ i ≤ n ∧ Pv i ys H, ⟨_, rfl, Nat.zero_le _, h0⟩, fun i m ys H z => ?_⟩
  obtain ⟨rfl, hi, p⟩ := z
  by_cases lt : i < n
  · have ll := hl i ys H p
    refine .inr ⟨lt, by omega, fun y H' => Pv (i + 1) (ys ++ [y]) H', fun y H' p' => ⟨n - (i + 1), by omega, rfl, lt, p'⟩, fun x H' y => ?_⟩
    obtain ⟨rfl, rfl⟩ := y
    exact hs i ys _ lt p
  · have e : i = n := by omega
    subst e
    exact .inl ⟨Nat.le_refl _, hd ys H p⟩
theorem tupK {X : Cx} (K : PySem.W.Frag) (h : X.K = K) : CallR X (.type "tuple") (fun xs H Q => ∃ p ys, xs = [.ref p] ∧ ((SqL K H p ys ∧ ∀ l, H l = none → Q (.ref l) (upd H l (.tup ys))) ∨ (SqT K H p ys ∧ Q (.ref p) H))) := by
  subst h
  exact call_tuple_of
theorem slLK {X : Cx} (K : PySem.W.Frag) (h : X.K = K) : SlR X (rSlL K) := by
  subst h
  exact sl_list
end Kz

namespace Kq
open PySem PySem.Spec PyProof.Rows L2 Kf Kg Kv GxR Kk
abbrev tBehindR : Stmt := tp 19
abbrev tIsSingle : Stmt := tp 20
abbrev tFig : Stmt := tp 21
abbrev tSingle : Stmt := tp 23
abbrev tJoined : Stmt := tp 24
def figs : Str := "0123456789"
theorem numL_head : ∀ (n : Nat), n ≠ 0 → ∃ c r, TL.numL n = c :: r ∧ c ≠ 48 := by
  intro n
  induction n using Nat.strongRecOn with
  | _ n ih =>
    intro h0
    by_cases h : n < 10
    · exact ⟨48 + n, [], TL.numL_lt h, by omega⟩
    · obtain ⟨c, r, e, hc⟩ := ih (n / 10) (by omega) (by omega)
      rw [TL.numL_step (by omega), e]
      exact ⟨c, r ++ [48 + n % 10], rfl, hc⟩
theorem numS_zero : numS 0 = "0" := by decide +kernel
theorem numS_dig (n : Nat) : ∀ c ∈ (numS n).cps.toList, 48 ≤ c ∧ c ≤ 57 := fun c hc => by
  have e : (numS n).cps.toList = TL.numL n := tl_numS n
  rw [e] at hc
  exact TL.numL_digits n c hc
theorem figs_in : ∀ c, 48 ≤ c ∧ c ≤ 57 → c ∈ figs.cps.toList := by
  have z : ∀ i : Fin 10, (48 + i.val) ∈ figs.cps.toList := by decide +kernel
  intro c h
  have := z ⟨c - 48, by omega⟩
  rw [show 48 + (c - 48) = c by omega] at this
  exact this
theorem numS_pos (n : Nat) : 1 ≤ (numS n).length := by
  rw [TL.len_tl, tl_numS]
  exact List.length_pos_iff.mpr (TL.numL_ne n)
theorem numS_int {n : Nat} (h : n < 10 ^ 4300) : PySem.intText? (numS n) = some (n : Int) := TL.int_num (TL.numL_len (by decide) h)
theorem numS_yn (n : Nat) : inV (V.str (numS n)) [V.str "yes", V.str "no"] = false := by
  have no : ∀ z : Str, (∃ c ∈ z.cps.toList, 57 < c) → (z == numS n) = false := fun z ⟨c, hc, h⟩ => by
    refine beq_eq_false_iff_ne.mpr fun e => ?_
    subst e
    have := (numS_dig n c hc).2
    omega
  show ((("yes" : Str) == numS n) || ((("no" : Str) == numS n) || false)) = false
  rw [no "yes" ⟨121, by decide +kernel, by decide⟩, no "no" ⟨110, by decide +kernel, by decide⟩]
  rfl
theorem no_head {r z : Str} {rs : List Str} (h : fRl r z = some rs) : ∃ c l, z.cps.toList = c :: l ∧ 57 < c ∧ z.length ≤ 10 := by
  rcases fRl_z h with ⟨_, rfl, _⟩ | ⟨_, h⟩
  · exact ⟨102, _, rfl, by decide, by decide +kernel⟩
  · have q : ∀ p ∈ tblW, (match p.1.cps.toList with | c :: _ => decide (57 < c) | [] => false) = true ∧ p.1.length ≤ 10 := by decide +kernel
    have k := q (z, rs) (PySem.mem_of_lookup h)
    cases e : z.cps.toList with
    | nil =>
      have k1 := k.1
      rw [show ((z, rs) : Str × List Str).1 = z from rfl, e] at k1
      cases k1
    | cons c l =>
      have k1 := k.1
      rw [show ((z, rs) : Str × List Str).1 = z from rfl, e] at k1
      exact ⟨c, l, rfl, of_decide_eq_true k1, k.2⟩
theorem yn_head (b : Bool) : ∃ c l, (yn b).cps.toList = c :: l ∧ 57 < c ∧ (yn b).length ≤ 10 := by
  cases b
  · exact ⟨110, _, rfl, by decide, by decide +kernel⟩
  · exact ⟨121, _, rfl, by decide, by decide +kernel⟩
theorem frm_yn {r z : Str} {rs : List Str} (h : fRl r z = some rs) : inV (V.str z) [V.str "yes", V.str "no"] = false := by
  have k := (frm_no h).2.1
  show ((("yes" : Str) == z) || ((("no" : Str) == z) || false)) = false
  rw [beq_eq_false_iff_ne.mpr (show ("yes" : Str) ≠ z from k true), beq_eq_false_iff_ne.mpr (show ("no" : Str) ≠ z from k false)]
  rfl
theorem yn_yn (b : Bool) : inV (V.str (yn b)) [V.str "yes", V.str "no"] = true := by
  cases b <;> decide +kernel
section
variable {P : Program} {w : World} {K : PySem.W.Frag} {mg : Str → Option Value} {base : Heap} {dW dC : Addr} {esW esC : Array DictEntry} {nW nC : Nat} {T : List Addr}
/-! is_figures -/
theorem scFig : FnScope ["word"] ["word"] (defScope tFig) := ⟨rfl, rfl, rfl, by decide +kernel, rfl, by decide +kernel, by decide +kernel⟩
def spFig (T : List Addr) : Sp := fun vs H Q _ => TbS T H ∧ ((∃ n : Nat, vs = [.str (numS n)] ∧ n < 10 ^ 4300 ∧ ∀ G : Hp, Sm T H G → Q (.bl true) G) ∨ ∃ (z : Str) (c : Nat) (l : List Nat), vs = [.str z] ∧ z.cps.toList = c :: l ∧ 57 < c ∧ z.length ≤ 10 ∧ ∀ G : Hp, Sm T H G → Q (.bl false) G)
theorem okFig {f c p : Addr} {fd : FuncData} {k : Nat} {u1 : Value} (F : FunC K "is_figures" "is_figures" tFig f fd c) (TB : TabB base mg c p) (hp : p ∈ T)
    (gF : mg "FIGURES" = some u1) (rF : RelV (.str figs) u1) (ma : mg "all" = none) : FnOk P w K mg base CX0 (k + 4) f fd ["word"] (spFig T) := by
  refine F.ok scFig (fun vs H Q E h => ?_) (fun A outer s H vs Q E hr h => ?_)
  · rcases h with ⟨_, ⟨n, rfl, _⟩ | ⟨z, c, l, rfl, _⟩⟩ <;> rfl
  obtain ⟨tb, h⟩ := h
  refine ⟨_, pss_cons (ps_if (PW.pt (pw_or (pt_not (pt_truth (pv 0) (by intro _; rfl)))
      (pw_or1 (pt_not (pt_val (pe_allG (c := c) (P := p) (own := ["sign"]) (caps := []) (vs := [0]) (g := gName 0) hr (by rfl) ma TB rfl
    (gxS_by (N := ["word"]) (sc := defScope tFig) (by decide +kernel)) (pi_str (pv 0))
    (fun _ _ _ _ _ => pg_name (i := 0) (show (["sign"] : List Str).Nodup by decide +kernel) rfl (.inl rfl)) (fun _ _ _ _ _ => pe_cmpR op_in_sign (pv 0) (pe_glob (v := .str figs) (by rfl) gF rF) rfl)))))))
      (pss_one (ps_ret pe_bl)) pss_nil)
    (pss_one (ps_ret (pe_or (pe_cmpR op_eq (pv 0) pe_str (nomark _)) (pe_one (pe_cmpR op_ne (pe_ix ix_str (pv 0) pe_int (fun _ _ => rfl)) pe_str (nomark _)))))), ?_⟩
  rcases h with ⟨n, rfl, hn, q⟩ | ⟨z, c0, l0, rfl, hz, hc0, hl10, q⟩
  rotate_left
  · have l1 : 1 ≤ z.length := by
      rw [TL.len_tl, show TL.tl z = c0 :: l0 from hz, List.length_cons]
      omega
    have hl : z.length ≤ sizeLine := small (by omega)
    have tr : ((z.length : Int) != 0) = true := bne_iff_ne.mpr (by omega)
    refine ⟨_, rfl, _, ⟨hl, rfl⟩, ?_⟩
    rw [tr]
    refine iteF ⟨_, rfl, z, rfl, tb p hp, fun H2 htab => ?_⟩
    have s2 : Sm T H H2 := Sm.tab hp tb htab
    refine all_it walk_str (fun i F => i = 0 ∧ Sm T H F) ⟨rfl, s2⟩ (fun i F _ _ => trivial) (fun i x F F' hi zz yy => ?_) (fun F zz => ?_)
    · obtain ⟨rfl, sF⟩ := zz
      obtain ⟨rfl, c, hc, rfl⟩ := yy
      have hc' : z.cps.toList[0]? = some c := by rw [Array.getElem?_toList]; exact hc
      rw [hz] at hc'
      obtain rfl : c0 = c := Option.some.inj hc'
      refine ⟨rfl, _, rfl, c0, figs, rfl, rfl, _, rfl, ?_⟩
      have m : ¬ c0 ∈ figs.cps.toList := fun m => by
        have z : ∀ c ∈ figs.cps.toList, c ≤ 57 := by decide +kernel
        have := z c0 m
        omega
      rw [decide_eq_false m]
      exact iteF ⟨_, rfl, iteT (q _ sF)⟩
    · exfalso
      have := zz.1
      have l2 : z.length = z.cps.size := rfl
      omega
  have ln := numS_len (n := n) (k := 4300) (by decide) hn
  have l1 := numS_pos n
  have hl : (numS n).length ≤ sizeLine := small (by omega)
  have tr : (((numS n).length : Int) != 0) = true := bne_iff_ne.mpr (by omega)
  refine ⟨_, rfl, _, ⟨hl, rfl⟩, ?_⟩
  rw [tr]
  refine iteF ⟨_, rfl, numS n, rfl, tb p hp, fun H2 htab => ?_⟩
  have s2 : Sm T H H2 := Sm.tab hp tb htab
  refine all_it walk_str (fun i F => Sm T H F) s2 (fun i F _ _ => trivial) (fun i x F F' hi sF yy => ?_) (fun F sF => ?_)
  · obtain ⟨rfl, c, hc, rfl⟩ := yy
    have hc' : (numS n).cps.toList[i]? = some c := by rw [Array.getElem?_toList]; exact hc
    refine ⟨rfl, _, rfl, c, figs, rfl, rfl, _, rfl, ?_⟩
    have m := figs_in c (numS_dig n c (List.mem_of_getElem? hc'))
    rw [decide_eq_true m]
    exact iteT sF
  · refine ⟨_, rfl, iteF ⟨_, rfl, rfl, ?_⟩⟩
    have qT := q F sF
    by_cases h0 : n = 0
    · subst h0
      rw [numS_zero]
      exact ⟨_, rfl, iteT qT⟩
    · obtain ⟨c, r, e, hc⟩ := numL_head n h0
      have e : (numS n).cps.toList = c :: r := (tl_numS n).trans e
      have ne : decide (V.str (numS n) = V.str "0") = false := decide_eq_false fun z => by
        have z := V.str.inj z
        rw [z] at e
        have e : ([48] : List Nat) = c :: r := e
        exact hc (List.cons.inj e).1.symm
      refine ⟨_, rfl, ?_⟩
      rw [ne]
      refine iteF ⟨_, rfl, numS n, 0, c, rfl, rfl, hl, by rw [e]; exact atI_nat (j := 0) rfl, rfl, ?_⟩
      have ne2 : decide (V.str ⟨#[c]⟩ = V.str "0") = false := decide_eq_false fun z => by
        have z := congrArg (fun s : Str => s.cps.toList) (V.str.inj z)
        have z : ([c] : List Nat) = [48] := z
        exact hc (List.cons.inj z).1
      show Q (.bl (!decide (V.str ⟨#[c]⟩ = V.str "0"))) F
      rw [ne2]
      exact qT
/-! is_single -/
theorem scIsSingle : FnScope ["word", "role"] ["word", "role"] (defScope tIsSingle) := ⟨rfl, rfl, rfl, by decide +kernel, rfl, by decide +kernel, by decide +kernel⟩
def spIsSingle (T : List Addr) : Sp := fun vs H Q _ => ∃ (i : Wi), vs = [.str i.wd, .str i.rl] ∧ Ok1 i ∧ TbS T H ∧ ∀ G : Hp, Sm T H G → Q (.bl i.sg) G
theorem okIsSingle {f fN fG : Addr} {fd fdN fdG : FuncData} {k : Nat} (F : Fun K "is_single" "is_single" tIsSingle f fd)
    (GN : FnOk P w K mg base CX0 k fN fdN ["thing"] (spName T)) (bN : Binds K fdN ["thing"] []) (gN : mg "is_name" = some (.ref fN)) (kN : PySem.W.keepIn K (.ref fN) = true)
    (GG : FnOk P w K mg base CX0 k fG fdG ["word"] (spFig T)) (bG : Binds K fdG ["word"] []) (gG : mg "is_figures" = some (.ref fG)) (kG : PySem.W.keepIn K (.ref fG) = true) : FnOk P w K mg base CX0 (k + 1) f fd ["word", "role"] (spIsSingle T) := by
  refine F.ok scIsSingle (fun vs H Q E h => ?_) (fun cdv A outer s H vs Q E hr h => ?_)
  · obtain ⟨i, rfl, _⟩ := h
    rfl
  obtain ⟨i, rfl, hi, tb, q⟩ := h
  refine ⟨_, pss_cons (ps_if (pt_cmpR op_eq (pv 1) pe_str (nomark _)) (pss_one (ps_ret (pe_call GN hr (by rfl) gN kN bN .nil pass0 (pa_cons (pv 0) pa_nil)))) pss_nil)
    (pss_cons (ps_if (pt_cmpR op_eq (pv 1) pe_str (nomark _)) pss_no pss_nil)
    (pss_cons (ps_if (pt_cmpR op_in_seq (pv 1) (pe_tup (pa_cons pe_str (pa_cons pe_str pa_nil))) rfl) (pss_one (ps_ret (pe_call GG hr (by rfl) gG kG bG .nil pass0 (pa_cons (pv 0) pa_nil)))) pss_nil)
    (pss_cons (ps_if (pt_cmpR op_eq (pv 1) pe_str (nomark _)) (pss_one (ps_ret (pe_cmpR op_in_seq (pv 0) (pe_tup (pa_cons pe_str (pa_cons pe_str pa_nil))) rfl))) pss_nil)
    (pss_one (ps_ret (pe_and (pe_cmpR op_in_seq (pv 1) (pe_tup (pa_cons pe_str (pa_cons pe_str pa_nil))) rfl) (pe_one (pe_or (pe_call GG hr (by rfl) gG kG bG .nil pass0 (pa_cons (pv 0) pa_nil)) (pe_one (pe_cmpR op_in_seq (pv 0) (pe_tup (pa_cons pe_str (pa_cons pe_str pa_nil))) rfl)))))))))), ?_⟩
  have late : ∀ {r : Str}, wr r → (decide (V.str r = V.str "name") = false ∧ decide (V.str r = V.str "word") = false ∧ inV (V.str r) [V.str "number", V.str "turns"] = false ∧ decide (V.str r = V.str "truth") = false ∧ inV (V.str r) [V.str "worth", V.str "answer"] = true) := fun {r} h => by
    rcases h with rfl | rfl <;> decide +kernel
  have cnt : ∀ {r : Str}, (r = "items" ∨ r = "rows") → (decide (V.str r = V.str "name") = false ∧ decide (V.str r = V.str "word") = false ∧ inV (V.str r) [V.str "number", V.str "turns"] = false ∧ decide (V.str r = V.str "truth") = false ∧ inV (V.str r) [V.str "worth", V.str "answer"] = false) := fun {r} h => by
    rcases h with rfl | rfl <;> decide +kernel
  cases hi with
  | nam n hn =>
    have hl : n.length ≤ 8 := by
      unfold nmS at hn
      obtain ⟨h1, _⟩ := Bool.and_eq_true_iff.mp hn
      obtain ⟨_, h2⟩ := Bool.and_eq_true_iff.mp h1
      exact of_decide_eq_true h2
    refine ⟨_, rfl, rfl, _, rfl, iteT ⟨_, rfl, _, .str n, rfl, .str n, ?_, tb, fun G sG => ?_⟩⟩
    · rw [wt_str]
      exact small (by omega)
    · have z := q _ sG
      have e : nmD (.str n) = true := hn
      rw [e]
      exact z
  | num m hm =>
    refine ⟨_, rfl, rfl, _, rfl, iteF ⟨_, rfl, rfl, _, rfl, iteF ⟨_, rfl, by show 2 ≤ sizeLine; decide, fun p hp => ⟨p, _, rfl, .inr (SqT.of upd_same), rfl, rfl, _, rfl, iteT ?_⟩⟩⟩⟩
    exact ⟨_, rfl, tb.same (newS hp), .inl ⟨m, rfl, hm, fun G sG => q G ((Sm.of (newS hp) tb).trans sG)⟩⟩
  | wnm r m h2 hm =>
    obtain ⟨e1, e2, e3, e4, e5⟩ := late h2
    refine ⟨_, rfl, rfl, _, rfl, ?_⟩
    show if decide (V.str r = V.str "name") = true then _ else _
    rw [e1]
    refine iteF ⟨_, rfl, rfl, _, rfl, ?_⟩
    show if decide (V.str r = V.str "word") = true then _ else _
    rw [e2]
    refine iteF ⟨_, rfl, by show 2 ≤ sizeLine; decide, fun p hp => ⟨p, _, rfl, .inr (SqT.of upd_same), rfl, rfl, _, rfl, ?_⟩⟩
    show if inV (V.str r) [V.str "number", V.str "turns"] = true then _ else _
    rw [e3]
    refine iteF ⟨_, rfl, rfl, _, rfl, ?_⟩
    show if decide (V.str r = V.str "truth") = true then _ else _
    rw [e4]
    refine iteF ⟨_, rfl, by show 2 ≤ sizeLine; decide, fun p2 hp2 => ⟨p2, _, rfl, .inr (SqT.of upd_same), rfl, rfl, _, rfl, ?_⟩⟩
    show if inV (V.str r) [V.str "worth", V.str "answer"] = true then _ else _
    rw [e5]
    have s12 : Same H (upd (upd H p (.tup [V.str "number", .str "turns"])) p2 (.tup [V.str "worth", .str "answer"])) := fun b o z => newS hp2 _ _ (newS hp _ _ z)
    exact iteT ⟨_, rfl, tb.same s12, .inl ⟨m, rfl, hm, fun G sG => ⟨_, rfl, iteT (q G ((Sm.of s12 tb).trans sG))⟩⟩⟩
  | wtr r b h2 =>
    obtain ⟨e1, e2, e3, e4, e5⟩ := late h2
    refine ⟨_, rfl, rfl, _, rfl, ?_⟩
    show if decide (V.str r = V.str "name") = true then _ else _
    rw [e1]
    refine iteF ⟨_, rfl, rfl, _, rfl, ?_⟩
    show if decide (V.str r = V.str "word") = true then _ else _
    rw [e2]
    refine iteF ⟨_, rfl, by show 2 ≤ sizeLine; decide, fun p hp => ⟨p, _, rfl, .inr (SqT.of upd_same), rfl, rfl, _, rfl, ?_⟩⟩
    show if inV (V.str r) [V.str "number", V.str "turns"] = true then _ else _
    rw [e3]
    refine iteF ⟨_, rfl, rfl, _, rfl, ?_⟩
    show if decide (V.str r = V.str "truth") = true then _ else _
    rw [e4]
    refine iteF ⟨_, rfl, by show 2 ≤ sizeLine; decide, fun p2 hp2 => ⟨p2, _, rfl, .inr (SqT.of upd_same), rfl, rfl, _, rfl, ?_⟩⟩
    show if inV (V.str r) [V.str "worth", V.str "answer"] = true then _ else _
    rw [e5]
    have s12 : Same H (upd (upd H p (.tup [V.str "number", .str "turns"])) p2 (.tup [V.str "worth", .str "answer"])) := fun b o z => newS hp2 _ _ (newS hp _ _ z)
    obtain ⟨c, l, hz, hc, hl⟩ := yn_head b
    refine iteT ⟨_, rfl, tb.same s12, .inr ⟨yn b, c, l, rfl, hz, hc, hl, fun G sG => ⟨_, rfl, iteF ⟨_, rfl, by show 2 ≤ sizeLine; decide, fun p3 hp3 => ⟨p3, _, rfl, .inr (SqT.of upd_same), rfl, rfl, ?_⟩⟩⟩⟩⟩
    have z := q _ (((Sm.of s12 tb).trans sG).trans (Sm.of (newS (o := .tup [V.str "yes", .str "no"]) hp3) sG.2))
    show Q (.bl (inV (V.str (yn b)) [V.str "yes", V.str "no"])) _
    rw [yn_yn]
    exact z
  | frm r wd ps hf =>
    obtain ⟨e1, e2, e3, e4, e5⟩ := late (fRl_r hf)
    refine ⟨_, rfl, rfl, _, rfl, ?_⟩
    show if decide (V.str r = V.str "name") = true then _ else _
    rw [e1]
    refine iteF ⟨_, rfl, rfl, _, rfl, ?_⟩
    show if decide (V.str r = V.str "word") = true then _ else _
    rw [e2]
    refine iteF ⟨_, rfl, by show 2 ≤ sizeLine; decide, fun p hp => ⟨p, _, rfl, .inr (SqT.of upd_same), rfl, rfl, _, rfl, ?_⟩⟩
    show if inV (V.str r) [V.str "number", V.str "turns"] = true then _ else _
    rw [e3]
    refine iteF ⟨_, rfl, rfl, _, rfl, ?_⟩
    show if decide (V.str r = V.str "truth") = true then _ else _
    rw [e4]
    refine iteF ⟨_, rfl, by show 2 ≤ sizeLine; decide, fun p2 hp2 => ⟨p2, _, rfl, .inr (SqT.of upd_same), rfl, rfl, _, rfl, ?_⟩⟩
    show if inV (V.str r) [V.str "worth", V.str "answer"] = true then _ else _
    rw [e5]
    have s12 : Same H (upd (upd H p (.tup [V.str "number", .str "turns"])) p2 (.tup [V.str "worth", .str "answer"])) := fun b o z => newS hp2 _ _ (newS hp _ _ z)
    obtain ⟨c, l, hz, hc, hl⟩ := no_head hf
    refine iteT ⟨_, rfl, tb.same s12, .inr ⟨wd, c, l, rfl, hz, hc, hl, fun G sG => ⟨_, rfl, iteF ⟨_, rfl, by show 2 ≤ sizeLine; decide, fun p3 hp3 => ⟨p3, _, rfl, .inr (SqT.of upd_same), rfl, rfl, ?_⟩⟩⟩⟩⟩
    have z := q _ (((Sm.of s12 tb).trans sG).trans (Sm.of (newS (o := .tup [V.str "yes", .str "no"]) hp3) sG.2))
    show Q (.bl (inV (V.str wd) [V.str "yes", V.str "no"])) _
    rw [frm_yn hf]
    exact z
  | itm n ps hn hr =>
    refine ⟨_, rfl, rfl, _, rfl, iteF ⟨_, rfl, rfl, _, rfl, iteF ⟨_, rfl, by show 2 ≤ sizeLine; decide, fun p hp => ⟨p, _, rfl, .inr (SqT.of upd_same), rfl, rfl, _, rfl, iteF ⟨_, rfl, rfl, _, rfl, iteF ?_⟩⟩⟩⟩⟩
    refine ⟨_, rfl, by show 2 ≤ sizeLine; decide, fun p2 hp2 => ⟨p2, _, rfl, .inr (SqT.of upd_same), rfl, rfl, _, rfl, iteF (q _ (Sm.of (fun b o z => newS hp2 _ _ (newS hp _ _ z)) tb))⟩⟩
  | row n ps hn hr =>
    refine ⟨_, rfl, rfl, _, rfl, iteF ⟨_, rfl, rfl, _, rfl, iteF ⟨_, rfl, by show 2 ≤ sizeLine; decide, fun p hp => ⟨p, _, rfl, .inr (SqT.of upd_same), rfl, rfl, _, rfl, iteF ⟨_, rfl, rfl, _, rfl, iteF ?_⟩⟩⟩⟩⟩
    refine ⟨_, rfl, by show 2 ≤ sizeLine; decide, fun p2 hp2 => ⟨p2, _, rfl, .inr (SqT.of upd_same), rfl, rfl, _, rfl, iteF (q _ (Sm.of (fun b o z => newS hp2 _ _ (newS hp _ _ z)) tb))⟩⟩
/-! roles_behind -/
theorem scBehindR : FnScope ["word", "role", "left", "form"] ["word", "role", "left"] (defScope tBehindR) := ⟨rfl, rfl, rfl, by decide +kernel, rfl, by decide +kernel, by decide +kernel⟩
def spBehindR (K : PySem.W.Frag) (T : List Addr) : Sp := fun vs H Q _ => ∃ (i : Wi) (l : Int), vs = [.str i.wd, .str i.rl, .int l] ∧ Ok1 i ∧ (i.ps.length : Int) ≤ l ∧ TbS T H ∧ ∀ (t : Addr) (G : Hp), Sm T H G → SqT K G t ((i.ps.map Wi.rl).map V.str) → Q (.ref t) G
theorem nk_vs (n : Nat) : (nk n).map V.str = (List.replicate n [V.str "worth", V.str "answer"]).flatten := by
  induction n with
  | zero => rfl
  | succ n ih =>
    rw [nk_succ, List.replicate_succ, List.flatten_cons, List.map_cons, List.map_cons, ih]
    rfl
theorem rep_vs (n : Nat) : (List.replicate n ("worth" : Str)).map V.str = (List.replicate n [V.str "worth"]).flatten := by
  induction n with
  | zero => rfl
  | succ n ih =>
    rw [List.replicate_succ, List.replicate_succ, List.flatten_cons, List.map_cons, ih]
    rfl
theorem okBehindR {f fS fF fG : Addr} {fd fdS fdF fdG : FuncData} {k : Nat} (F : Fun K "roles_behind" "roles_behind" tBehindR f fd)
    (GS : FnOk P w K mg base CX0 k fS fdS ["word", "role"] (spIsSingle T)) (bS : Binds K fdS ["word", "role"] []) (gS : mg "is_single" = some (.ref fS)) (kS : PySem.W.keepIn K (.ref fS) = true)
    (GF : FnOk P w K mg base CX0 k fF fdF ["role", "word"] (spFormOf K)) (bF : Binds K fdF ["role", "word"] []) (gF : mg "form_of" = some (.ref fF)) (kF : PySem.W.keepIn K (.ref fF) = true)
    (GG : FnOk P w K mg base CX0 k fG fdG ["word"] (spFig T)) (bG : Binds K fdG ["word"] []) (gG : mg "is_figures" = some (.ref fG)) (kG : PySem.W.keepIn K (.ref fG) = true)
    (gC : mg "COUNTED" = some (.ref dC)) (hC : CForms K w dC esC nC) (e1 : PySem.W.nsOkIn K cStatics = true) (e2 : PySem.W.nsIn K cStatics "sys.int_max_str_digits" = some none) (mi : mg "int" = none) : FnOk P w K mg base CX0 (k + 1) f fd ["word", "role", "left"] (spBehindR K T) := by
  refine F.ok scBehindR (fun vs H Q E h => ?_) (fun cdv A outer s H vs Q E hr h => ?_)
  · obtain ⟨i, l, rfl, _⟩ := h
    rfl
  obtain ⟨i, l, rfl, hi, hl, tb, q⟩ := h
  refine ⟨_, pss_cons (ps_if (pt_cmpR op_isN (pv 1) pe_non (nomark _)) pss_no pss_nil)
    (pss_cons (ps_if (pt_cmpR (op_in_kd hC.dict) (pv 1) (pe_glob (v := .ref dC) (by rfl) gC rfl) rfl)
      (pss_cons (ps_if (PW.pt (pw_or (pt_not (pt_val (pe_call GG hr (by rfl) gG kG bG .nil pass0 (pa_cons (pv 0) pa_nil)))) (pw_or1 (pt_cmpR op_gt (pe_callTy (Ki.call_int_strA e1 e2) (by rfl) mi PyProof.Rows.boot_int (pa_cons (pv 0) pa_nil)) (pv 2) (nomark _))))) pss_no pss_nil)
      (pss_one (ps_ret (pe_op Kz.op_repA (pe_ix ix_kdict (pe_glob (v := .ref dC) (by rfl) gC rfl) (pv 1) (fun _ _ => rfl)) (pe_callTy (Ki.call_int_strA e1 e2) (by rfl) mi PyProof.Rows.boot_int (pa_cons (pv 0) pa_nil)))))) pss_nil)
    (pss_cons (ps_if (pt_val (pe_call GS hr (by rfl) gS kS bS .nil pass0 (pa_cons (pv 0) (pa_cons (pv 1) pa_nil)))) (pss_one (ps_ret (pe_tup pa_nil))) pss_nil)
    (pss_cons (ps_set (i := 3) scBehindR.nd rfl (.inl rfl) (pe_call GF hr (by rfl) gF kF bF .nil pass0 (pa_cons (pv 1) (pa_cons (pv 0) pa_nil))))
    (pss_cons (ps_if (pt_cmpR op_isN (pv 3) pe_non (nomark _)) pss_no pss_nil) (pss_one (ps_ret (pv 3))))))), ?_⟩
  refine ⟨_, rfl, rfl, _, rfl, iteF ?_⟩
  rcases hi.plain with pl | ⟨n, ps, rfl, hn, hr2⟩ | ⟨n, ps, rfl, hn, hr2⟩
  · refine ⟨_, rfl, i.rl, none, rfl, rfl, hC.no _ pl, _, rfl, iteF ?_⟩
    refine ⟨_, rfl, _, rfl, i, rfl, hi, tb, fun G sG => ⟨_, rfl, ?_⟩⟩
    have one : i.sg = true → i.ps = [] → (0 ≤ sizeLine ∧ ∀ p, G p = none → Q (.ref p) (upd G p (.tup []))) := fun _ e => ⟨Nat.zero_le _, fun p np => q p _ (sG.trans (Sm.of (newS np) sG.2)) (by rw [e]; exact SqT.of upd_same)⟩
    cases hi with
    | nam n hn => exact iteT (one rfl rfl)
    | num m hm => exact iteT (one rfl rfl)
    | wnm r2 m h2 hm => exact iteT (one rfl rfl)
    | wtr r2 b h2 => exact iteT (one rfl rfl)
    | itm n ps hn hr2 => exact absurd (show ("items" : Str) ∈ plainR from pl) (by decide)
    | row n ps hn hr2 => exact absurd (show ("rows" : Str) ∈ plainR from pl) (by decide)
    | frm r wd ps hf =>
      refine iteF ⟨_, rfl, _, rfl, r, wd, _, rfl, hf, fun t G2 s2 hs => ?_⟩
      exact ⟨_, rfl, rfl, _, rfl, iteF ⟨_, rfl, q t _ (sG.trans (Sm.of s2 sG.2)) hs⟩⟩
  · obtain ⟨t, ht, hs⟩ := hC.itm
    have hn2 : n < 10 ^ 4300 := Nat.lt_of_le_of_lt hn (by decide +kernel)
    have lp := rep_len hr2
    have hl : (ps.length : Int) ≤ l := hl
    have ln := numS_len (n := n) (k := 4300) (by decide) hn2
    refine ⟨_, rfl, "items", _, rfl, rfl, ht, _, rfl, iteT ⟨_, rfl, tb, .inl ⟨n, rfl, hn2, fun G sG => ⟨_, rfl, iteF ⟨_, rfl, numS n, n, rfl, numS_int hn2, ln, _, rfl, _, _, rfl, rfl, _, rfl, ite2 (fun e => ?_) (fun _ => ?_)⟩⟩⟩⟩⟩
    · have e : (n : Int) > l := of_decide_eq_true e
      omega
    · refine ⟨_, rfl, dC, "items", .ref t, rfl, rfl, ⟨esC, nC, _, hC.dict.at_, hC.dict.lit, ht, rfl⟩, _, rfl, numS n, n, rfl, numS_int hn2, ln, t, (n : Int), _, rfl, rfl, hs _, by simp, by omega, by omega, by show 1 ≤ 1000; decide, fun t2 G2 s2 h2 => ?_⟩
      refine q t2 G2 (sG.trans (Sm.of s2 sG.2)) ?_
      show SqT K G2 t2 ((ps.map Wi.rl).map V.str)
      rw [hr2, rep_vs]
      rw [Int.toNat_natCast] at h2
      exact h2
  · obtain ⟨t, ht, hs⟩ := hC.row
    have hn2 : n < 10 ^ 4300 := Nat.lt_of_le_of_lt hn (by decide +kernel)
    have lp : ps.length = 2 * n := by
      have e := ps_even hr2
      rw [List.length_map] at e
      exact e
    have hl : (ps.length : Int) ≤ l := hl
    have ln := numS_len (n := n) (k := 4300) (by decide) hn2
    refine ⟨_, rfl, "rows", _, rfl, rfl, ht, _, rfl, iteT ⟨_, rfl, tb, .inl ⟨n, rfl, hn2, fun G sG => ⟨_, rfl, iteF ⟨_, rfl, numS n, n, rfl, numS_int hn2, ln, _, rfl, _, _, rfl, rfl, _, rfl, ite2 (fun e => ?_) (fun _ => ?_)⟩⟩⟩⟩⟩
    · have e : (n : Int) > l := of_decide_eq_true e
      omega
    · refine ⟨_, rfl, dC, "rows", .ref t, rfl, rfl, ⟨esC, nC, _, hC.dict.at_, hC.dict.lit, ht, rfl⟩, _, rfl, numS n, n, rfl, numS_int hn2, ln, t, (n : Int), _, rfl, rfl, hs _, by simp, by omega, by omega, by show 2 ≤ 1000; decide, fun t2 G2 s2 h2 => ?_⟩
      refine q t2 G2 (sG.trans (Sm.of s2 sG.2)) ?_
      show SqT K G2 t2 ((ps.map Wi.rl).map V.str)
      rw [hr2, nk_vs]
      rw [Int.toNat_natCast] at h2
      exact h2
/-! single -/
theorem scSingle : FnScope ["word", "role"] ["word", "role"] (defScope tSingle) := ⟨rfl, rfl, rfl, by decide +kernel, rfl, by decide +kernel, by decide +kernel⟩
def spSingle : Sp := fun vs H Q _ => ∃ (i : Wi), vs = [.str i.wd, .str i.rl] ∧ Ok1 i ∧ i.sg = true ∧ ∀ (v : V) (G : Hp), Same H G → Dd Non G i.d v → Q v G
theorem okSingle {f : Addr} {fd : FuncData} {k : Nat} (F : Fun K "single" "single" tSingle f fd) (e1 : PySem.W.nsOkIn K cStatics = true) (e2 : PySem.W.nsIn K cStatics "sys.int_max_str_digits" = some none) (mi : mg "int" = none) : FnOk P w K mg base CX0 (k + 1) f fd ["word", "role"] spSingle := by
  refine F.ok scSingle (fun vs H Q E h => ?_) (fun cdv A outer s H vs Q E hr h => ?_)
  · obtain ⟨i, rfl, _⟩ := h
    rfl
  obtain ⟨i, rfl, hi, hs, q⟩ := h
  refine ⟨_, pss_cons (ps_if (pt_cmpR op_in_seq (pv 1) (pe_tup (pa_cons pe_str (pa_cons pe_str pa_nil))) rfl) (pss_one (ps_ret (pv 0))) pss_nil)
    (pss_cons (ps_if (pt_cmpR op_in_seq (pv 0) (pe_tup (pa_cons pe_str (pa_cons pe_str pa_nil))) rfl) (pss_one (ps_ret (pe_cmpR op_eq (pv 0) pe_str (nomark _)))) pss_nil)
    (pss_one (ps_ret (pe_callTy (Ki.call_int_strA e1 e2) (by rfl) mi PyProof.Rows.boot_int (pa_cons (pv 0) pa_nil))))), ?_⟩
  have numb : ∀ (m : Nat), m < 10 ^ 4300 → ∀ G, Same H G → Dd Non G (.int m) (.int m) := fun m _ G _ => .int _
  cases hi with
  | nam n hn => exact ⟨_, rfl, by show 2 ≤ sizeLine; decide, fun p hp => ⟨p, _, rfl, .inr (SqT.of upd_same), rfl, rfl, _, rfl, iteT ⟨_, rfl, q _ _ (newS hp) (.str n)⟩⟩⟩
  | num m hm =>
    refine ⟨_, rfl, by show 2 ≤ sizeLine; decide, fun p hp => ⟨p, _, rfl, .inr (SqT.of upd_same), rfl, rfl, _, rfl, iteF ⟨_, rfl, by show 2 ≤ sizeLine; decide, fun p2 hp2 => ⟨p2, _, rfl, .inr (SqT.of upd_same), rfl, rfl, _, rfl, ?_⟩⟩⟩⟩
    show if inV (V.str (numS m)) [V.str "yes", V.str "no"] = true then _ else _
    rw [numS_yn]
    exact iteF ⟨_, rfl, numS m, m, rfl, numS_int hm, numS_len (by decide) hm, q _ _ (fun b o z => newS hp2 _ _ (newS hp _ _ z)) (.int _)⟩
  | wnm r m h2 hm =>
    refine ⟨_, rfl, by show 2 ≤ sizeLine; decide, fun p hp => ⟨p, _, rfl, .inr (SqT.of upd_same), rfl, rfl, _, rfl, ?_⟩⟩
    have e0 : inV (V.str r) [V.str "name", V.str "word"] = false := by rcases h2 with rfl | rfl <;> decide +kernel
    show if inV (V.str r) [V.str "name", V.str "word"] = true then _ else _
    rw [e0]
    refine iteF ⟨_, rfl, by show 2 ≤ sizeLine; decide, fun p2 hp2 => ⟨p2, _, rfl, .inr (SqT.of upd_same), rfl, rfl, _, rfl, ?_⟩⟩
    show if inV (V.str (numS m)) [V.str "yes", V.str "no"] = true then _ else _
    rw [numS_yn]
    exact iteF ⟨_, rfl, numS m, m, rfl, numS_int hm, numS_len (by decide) hm, q _ _ (fun b o z => newS hp2 _ _ (newS hp _ _ z)) (.int _)⟩
  | wtr r b h2 =>
    refine ⟨_, rfl, by show 2 ≤ sizeLine; decide, fun p hp => ⟨p, _, rfl, .inr (SqT.of upd_same), rfl, rfl, _, rfl, ?_⟩⟩
    have e0 : inV (V.str r) [V.str "name", V.str "word"] = false := by rcases h2 with rfl | rfl <;> decide +kernel
    show if inV (V.str r) [V.str "name", V.str "word"] = true then _ else _
    rw [e0]
    refine iteF ⟨_, rfl, by show 2 ≤ sizeLine; decide, fun p2 hp2 => ⟨p2, _, rfl, .inr (SqT.of upd_same), ?_, ?_⟩⟩
    · cases b <;> rfl
    · cases b
      · exact ⟨rfl, _, rfl, iteT ⟨_, rfl, rfl, q (.bl false) _ (fun b o z => newS hp2 _ _ (newS hp _ _ z)) (.bl false)⟩⟩
      · exact ⟨rfl, _, rfl, iteT ⟨_, rfl, rfl, q (.bl true) _ (fun b o z => newS hp2 _ _ (newS hp _ _ z)) (.bl true)⟩⟩
  | frm r wd ps hf => cases hs
  | itm n ps hn hr => cases hs
  | row n ps hn hr => cases hs
end
end Kq

namespace Kq
open PySem PySem.Spec PyProof.Rows L2 Kf Kg Kv GxR Kk
theorem cut2 {xs : List V} {j : Nat} {a b : V} (h1 : xs[2 * j]? = some a) (h2 : xs[2 * j + 1]? = some b) : cutV xs (some ((2 * j : Nat) : Int)) (some ((2 * j : Nat) + 2 : Int)) = [a, b] := by
  have l2 := (List.getElem?_eq_some_iff.mp h2).1
  have l1 := (List.getElem?_eq_some_iff.mp h1).1
  unfold cutV HT.sIx
  simp only
  rw [if_neg (by omega), if_neg (by omega), Int.toNat_natCast, Nat.min_eq_left (by omega), show ((2 * j : Nat) + 2 : Int).toNat = 2 * j + 2 by omega, Nat.min_eq_left (by omega), show 2 * j + 2 - 2 * j = 2 by omega, List.drop_eq_getElem_cons l1, List.drop_eq_getElem_cons (i := 2 * j + 1) l2]
  show [xs[2 * j], xs[2 * j + 1]] = _
  rw [Option.some.inj ((List.getElem?_eq_getElem l1).symm.trans h1), Option.some.inj ((List.getElem?_eq_getElem l2).symm.trans h2)]
theorem pairs_take : ∀ (n : Nat) (ds : List Dt), ds.length = 2 * n → (pairs ds).take n = pairs ds := fun n ds h => by
  have e := pairs_len n ds h
  conv => lhs; rw [← e]
  exact List.take_length
section
variable {P : Program} {w : World} {K : PySem.W.Frag} {mg : Str → Option Value} {base : Heap} {dW dC : Addr} {esW esC : Array DictEntry} {nW nC : Nat} {T : List Addr}
abbrev nJoined : List Str := ["word", "role", "parts", "many"]
theorem scJoined : FnScope nJoined ["word", "role", "parts"] (defScope tJoined) := ⟨rfl, rfl, rfl, by decide +kernel, rfl, by decide +kernel, by decide +kernel⟩
def spJoined (K : PySem.W.Frag) (T : List Addr) : Sp := fun vs H Q _ => ∃ (i : Wi) (p : Addr) (us : List V), vs = [.str i.wd, .str i.rl, .ref p] ∧ Ok1 i ∧ i.sg = false ∧ H p = some (.lst us) ∧ DdL Non H (i.ps.map Wi.d) us ∧ TbS T H ∧ ∀ (v : V) (G : Hp), Sm T H G → Dd Non G i.d v → Q v G
theorem okJoined {f c tbl : Addr} {fd : FuncData} {k : Nat} (F : FunC K "joined" "joined" tJoined f fd c) (TB : TabB base mg c tbl) (hp : tbl ∈ T) (gC : mg "COUNTED" = some (.ref dC)) (hC : CForms K w dC esC nC)
    (mn : mg "len" = none) (mt : mg "tuple" = none) (mr : mg "range" = none) : FnOk P w K mg base CX0 (k + 4) f fd ["word", "role", "parts"] (spJoined K T) := by
  refine F.ok scJoined (fun vs H Q E h => ?_) (fun A outer s H vs Q E hr h => ?_)
  · obtain ⟨i, p, us, rfl, _⟩ := h
    rfl
  obtain ⟨i, p, us, rfl, hi, hs, gp, hd, tb, q⟩ := h
  refine ⟨_, pss_cons (ps_if (pt_cmpR (op_notIn_kd hC.dict) (pv 1) (pe_glob (v := .ref dC) (by rfl) gC rfl) rfl) (pss_one (ps_ret (pe_tup (pa_cons (pv 0) (StX.pa_star (pv 2) pa_nil))))) pss_nil)
    (pss_cons (ps_set (i := 3) scJoined.nd rfl (.inr rfl) (pe_callB call_len_seq (by rfl) mn PySem.boot_len (pa_cons (pe_ix ix_kdict (pe_glob (v := .ref dC) (by rfl) gC rfl) (pv 1) (fun _ _ => rfl)) pa_nil)))
    (pss_cons (ps_if (pt_cmpR op_eq (pv 3) pe_int (nomark _)) (pss_one (ps_ret (pe_callTy call_tuple_of (by rfl) mt PyProof.Rows.boot_tuple (pa_cons (pv 2) pa_nil)))) pss_nil)
    (pss_one (ps_ret (pe_tupG (k := k) (pgen_gx (c := c) (P := tbl) (own := ["at"]) (caps := [("parts", 2), ("many", 3)]) (vs := [0]) (g := gName 0) (hr.mono (by omega)) TB rfl
      (gxS_by (N := nJoined) (sc := defScope tJoined) (by decide +kernel)) (pi_range3 (by rfl) mr (pa_cons pe_int (pa_cons (pe_callB call_len_seq (by rfl) mn PySem.boot_len (pa_cons (pv 2) pa_nil)) (pa_cons (pv 3) pa_nil))))
      (fun _ _ _ _ _ _ _ => pg_name (i := 0) (show (["at", "parts", "many"] : List Str).Nodup by decide +kernel) rfl (.inl rfl))
      (fun _ _ _ _ _ _ _ => pe_callTy (Kz.tupK K rfl) (by rfl) mt PyProof.Rows.boot_tuple (pa_cons (pe_slice (slK K rfl) (pv 1) (po_some (pv 0)) (po_some (pe_op op_add (pv 0) (pv 2)))) pa_nil))) hr (by rfl) mt PyProof.Rows.boot_tuple))))), ?_⟩
  rcases hi.plain with pl | ⟨n, ps, rfl, hn, hr2⟩ | ⟨n, ps, rfl, hn, hr2⟩
  · refine ⟨_, rfl, i.rl, none, rfl, rfl, hC.no _ pl, _, rfl, iteT ?_⟩
    cases hi with
    | nam n hn => cases hs
    | num m hm => cases hs
    | wnm r2 m h2 hm => cases hs
    | wtr r2 b h2 => cases hs
    | itm n ps hn hr2 => exact absurd (show ("items" : Str) ∈ plainR from pl) (by decide)
    | row n ps hn hr2 => exact absurd (show ("rows" : Str) ∈ plainR from pl) (by decide)
    | frm r wd ps hf =>
      have hl : us.length ≤ 5 := by
        have hd : DdL Non H (ps.map Wi.d) us := hd
        have e := hd.len
        rw [List.length_map] at e
        rw [← e]
        have z : ∀ p ∈ tblW, p.2.length ≤ 5 := by decide +kernel
        have hf : fRl r wd = some (ps.map Wi.rl) := hf
        rw [← List.length_map (as := ps) (f := Wi.rl)]
        rcases fRl_z hf with ⟨_, _, e⟩ | ⟨_, e⟩
        · rw [e]
          exact Nat.zero_le _
        · exact z (wd, _) (PySem.mem_of_lookup e)
      refine ⟨_, rfl, _, rfl, p, us, rfl, .inr (SqL.of gp), small (by rw [List.append_nil, List.length_cons]; omega), fun t nt => ?_⟩
      rw [List.append_nil]
      have sn := newS (o := .tup (.str wd :: us)) nt
      exact q (.ref t) _ (Sm.of sn tb) (.tup upd_same (.cons (.str _) (hd.same sn)))
  · obtain ⟨t, ht, hts⟩ := hC.itm
    have hd : DdL Non H (ps.map Wi.d) us := hd
    refine ⟨_, rfl, "items", _, rfl, rfl, ht, _, rfl, iteF ⟨_, rfl, dC, "items", .ref t, rfl, rfl, ⟨esC, nC, _, hC.dict.at_, hC.dict.lit, ht, rfl⟩, t, _, rfl, .inr (hts _), ?_⟩⟩
    refine ⟨_, rfl, rfl, _, rfl, iteT ⟨_, rfl, p, us, rfl, .inl ⟨SqL.of gp, fun l nl => ?_⟩⟩⟩
    have sn := newS (o := .tup us) nl
    exact q (.ref l) _ (Sm.of sn tb) (.tup upd_same (hd.same sn))
  · obtain ⟨t, ht, hts⟩ := hC.row
    have hd : DdL Non H (ps.map Wi.d) us := hd
    have ev := ps_even hr2
    have lu : us.length = 2 * n := by
      rw [← hd.len]
      exact ev
    refine ⟨_, rfl, "rows", _, rfl, rfl, ht, _, rfl, iteF ⟨_, rfl, dC, "rows", .ref t, rfl, rfl, ⟨esC, nC, _, hC.dict.at_, hC.dict.lit, ht, rfl⟩, t, _, rfl, .inr (hts _), ?_⟩⟩
    refine ⟨_, rfl, rfl, _, rfl, iteF ⟨_, rfl, p, _, rfl, .inl (SqL.of gp), _, rfl, 0, ((2 * n : Nat) : Int), 2, n, by rw [lu]; rfl, Kz.RgC.two (by omega), tb tbl hp, fun H2 htab => ?_⟩⟩
    have s2 : Sm T H H2 := Sm.tab hp tb htab
    have gp2 : H2 p = some (.lst us) := s2.at tb gp fun _ z => by cases z
    have hd2 := hd.kn (s2.kn tb)
    have p0 : p ∉ T := tb.off gp fun _ z => by cases z
    refine Kz.turnsY_c (fun i ys G => Sm T H2 G ∧ i ≤ n ∧ ys.length = i ∧ DdL Non G ((pairs (ps.map Wi.d)).take i) ys) (small (by omega)) ⟨Sm.refl s2.2, Nat.zero_le _, rfl, .nil⟩ (fun i ys G z => z.2.2.1) (fun i ys G hi z => ?_) (fun ys G z r hr => ?_)
    · obtain ⟨sG, _, ly, dl⟩ := z
      obtain ⟨x, y, hx, hy, hxy⟩ := pairs_at n _ i ev hi
      obtain ⟨a, ha, da⟩ := (hd2.kn (sG.kn s2.2)).get' hx
      obtain ⟨b, hb, db⟩ := (hd2.kn (sG.kn s2.2)).get' hy
      have gpG : G p = some (.lst us) := sG.at s2.2 gp2 fun _ z => by cases z
      have e1 : (0 : Int) + (i : Nat) * 2 = ((2 * i : Nat) : Int) := by omega
      refine ⟨rfl, _, rfl, _, rfl, _, rfl, _, rfl, _, rfl, _, _, rfl, rfl, _, rfl, p, us, rfl, SqL.of gpG, fun l nl => ?_⟩
      have ec : cutV us (some ((0 : Int) + (i : Nat) * 2)) (some ((0 : Int) + (i : Nat) * 2 + (([V.str "worth", V.str "answer"].length : Nat) : Int))) = [a, b] := by
        have z := cut2 ha hb
        rw [e1]
        exact z
      have sl := newS (o := .lst [a, b]) nl
      refine ⟨l, [a, b], rfl, .inl ⟨?_, fun t2 nt2 => ?_⟩⟩
      · rw [ec]
        exact SqL.of upd_same
      · rw [ec] at nt2 ⊢
        have st := newS (o := .tup [a, b]) nt2
        have sA : Same G (upd (upd G l (.lst [a, b])) t2 (.tup [a, b])) := fun b o z => st _ _ (sl _ _ z)
        refine ⟨sG.trans (Sm.of sA sG.2), by omega, by rw [List.length_append, ly]; rfl, ?_⟩
        rw [List.take_add_one, hxy]
        exact (dl.same sA).app (.cons (.tup upd_same (.cons (da.same sA) (.cons (db.same sA) .nil))) .nil)
    · obtain ⟨sG, _, ly, dl⟩ := z
      rw [pairs_take n _ ev] at dl
      have sn := newS (o := .tup ys) hr
      exact q (.ref r) _ ((s2.trans sG).trans (Sm.of sn sG.2)) (.tup upd_same (dl.same sn))
end
end Kq

namespace Kq
open PySem PySem.Spec PyProof.Rows L2 Kf Kg Kv GxR Kk
abbrev tPut : Stmt := tp 22
theorem cutFrom {xs : List V} {j : Nat} (h : j ≤ xs.length) : cutV xs (some (j : Int)) none = xs.drop j := by
  unfold cutV HT.sIx
  simp only
  rw [if_neg (by omega), Int.toNat_natCast, Nat.min_eq_left h, ← List.length_drop, List.take_length]
/-- all but the tables and the list at a stands -/
def Sx (T : List Addr) (a : Addr) (H G : Hp) : Prop := (∀ b u, b ∉ T → b ≠ a → H b = some u → G b = some u) ∧ TbS T G
theorem Sx.sm {T : List Addr} {a : Addr} {F H G : Hp} (x : Sx T a F H) (s : Sm T H G) : Sx T a F G := ⟨fun b u h n e => s.1 b u h (x.1 b u h n e), s.2⟩
theorem Sx.put {T : List Addr} {a : Addr} {F H : Hp} {o : HO} (x : Sx T a F H) (h : a ∉ T) : Sx T a F (upd H a o) :=
  ⟨fun b u h1 n e => by rw [upd_ne n]; exact x.1 b u h1 n e, fun p hp => by
    obtain ⟨ps, h1, h2⟩ := x.2 p hp
    exact ⟨ps, by rw [upd_ne (fun z => h (by rw [← z]; exact hp))]; exact h1, h2⟩⟩
theorem len_rev_sub {ws : List V} {m : Nat} (h : m ≤ ws.length) : (ws.reverse.drop (ws.length - m)) = (ws.take m).reverse := by
  rw [List.drop_reverse, show ws.length - (ws.length - m) = m by omega]
theorem take_rev_sub {ws : List V} {m : Nat} (h : m ≤ ws.length) : (ws.reverse.take (ws.length - m)) = (ws.drop m).reverse := by
  rw [List.take_reverse, show ws.length - (ws.length - m) = m by omega]
section
variable {P : Program} {w : World} {K : PySem.W.Frag} {mg : Str → Option Value} {base : Heap} {T : List Addr}
abbrev nPut : List Str := ["words", "roles", "done", "word", "role", "many", "parts"]
theorem scPut : FnScope nPut ["words", "roles"] (defScope tPut) := ⟨rfl, rfl, rfl, by decide +kernel, rfl, by decide +kernel, by decide +kernel⟩
def spPut (T : List Addr) : Sp := fun vs H Q _ => ∃ (k : Wi) (wa ra : Addr), vs = [.ref wa, .ref ra] ∧ ok k ∧ TbS T H ∧ H wa = some (.lst ((k.tk.map Wi.wd).map V.str)) ∧ H ra = some (.lst ((k.tk.map Wi.rl).map V.str)) ∧ k.tk.length ≤ 16000000 ∧
  ∀ (q : Addr) (v : V) (G : Hp), Sm T H G → H q = none → G q = some (.lst [v]) → Dd Non G k.d v → Q (.ref q) G
theorem okPut {f fS fR fG fJ : Addr} {fd fdS fdR fdG fdJ : FuncData} {k : Nat} (F : Fun K "put_together" "put_together" tPut f fd)
    (GS : FnOk P w K mg base CX0 k fS fdS ["word", "role"] (spIsSingle T)) (bS : Binds K fdS ["word", "role"] []) (gS : mg "is_single" = some (.ref fS)) (kS : PySem.W.keepIn K (.ref fS) = true)
    (GR : FnOk P w K mg base CX0 k fR fdR ["word", "role", "left"] (spBehindR K T)) (bR : Binds K fdR ["word", "role", "left"] []) (gR : mg "roles_behind" = some (.ref fR)) (kR : PySem.W.keepIn K (.ref fR) = true)
    (GG : FnOk P w K mg base CX0 k fG fdG ["word", "role"] spSingle) (bG : Binds K fdG ["word", "role"] []) (gG : mg "single" = some (.ref fG)) (kG : PySem.W.keepIn K (.ref fG) = true)
    (GJ : FnOk P w K mg base CX0 k fJ fdJ ["word", "role", "parts"] (spJoined K T)) (bJ : Binds K fdJ ["word", "role", "parts"] []) (gJ : mg "joined" = some (.ref fJ)) (kJ : PySem.W.keepIn K (.ref fJ) = true)
    (ml : mg "list" = none) (mr : mg "reversed" = none) (mz : mg "zip" = none) (mn : mg "len" = none) : FnOk P w K mg base CX0 (k + 1) f fd ["words", "roles"] (spPut T) := by
  refine F.ok scPut (fun vs H Q E h => ?_) (fun cdv A outer s H vs Q E hr h => ?_)
  · obtain ⟨k, wa, ra, rfl, _⟩ := h
    rfl
  obtain ⟨kt, wa, ra, rfl, hk, tb, gw, gr, hw, q⟩ := h
  refine ⟨_, pss_cons (ps_set (i := 2) scPut.nd rfl (.inl rfl) (pe_lst pa_nil))
    (pss_cons (ps_for PassesOwn.never rfl (RT.pi_revA (by rfl) mr (Kz.pe_listZip rfl (by rfl) ml (by rfl) mz (pa_cons (pv 0) (pa_cons (pv 1) pa_nil)))) (pg_tup rfl (pgs_cons (pg_name (i := 3) scPut.nd rfl (.inl rfl)) (pgs_cons (pg_name (i := 4) scPut.nd rfl (.inl rfl)) pgs_nil)))
      (pss_one (ps_if (pt_val (pe_call GS hr (by rfl) gS kS bS .nil pass0 (pa_cons (pv 3) (pa_cons (pv 4) pa_nil))))
        (pss_one (ps_expr (pe_bm PySem.F.plainAttrs_list PySem.F.slot_list_append PySem.F.type_list_append mt_append (pv 2) (pa_cons (pe_call GG hr (by rfl) gG kG bG .nil pass0 (pa_cons (pv 3) (pa_cons (pv 4) pa_nil))) pa_nil))))
        (pss_cons (ps_set (i := 5) scPut.nd rfl (.inl rfl) (pe_callB call_len_seq (by rfl) mn PySem.boot_len (pa_cons (pe_call GR hr (by rfl) gR kR bR .nil pass0 (pa_cons (pv 3) (pa_cons (pv 4) (pa_cons (pe_callB call_len_seq (by rfl) mn PySem.boot_len (pa_cons (pv 0) pa_nil)) pa_nil)))) pa_nil)))
        (pss_cons (ps_set (i := 6) scPut.nd rfl (.inl rfl) (pe_revL (pe_slice sl_list (pv 2) (po_some (pe_op op_sub (pe_callB call_len_seq (by rfl) mn PySem.boot_len (pa_cons (pv 2) pa_nil)) (pv 5))) po_none)))
        (pss_cons (Kd.ps_delFrom (pv 2) (pe_op op_sub (pe_callB call_len_seq (by rfl) mn PySem.boot_len (pa_cons (pv 2) pa_nil)) (pv 5)))
        (pss_one (ps_expr (pe_bm PySem.F.plainAttrs_list PySem.F.slot_list_append PySem.F.type_list_append mt_append (pv 2) (pa_cons (pe_call GJ hr (by rfl) gJ kJ bJ .nil pass0 (pa_cons (pv 3) (pa_cons (pv 4) (pa_cons (pv 6) pa_nil)))) pa_nil))))))))))
    (pss_one (ps_ret (pe_revL (pv 2))))), ?_⟩
  refine ⟨by show 0 ≤ sizeLine; decide, fun da nda => ?_⟩
  have s1 := newS (o := .lst []) nda
  have g1 : (upd H da (.lst [])) da = some (.lst []) := upd_same
  generalize upd H da (.lst []) = H1 at s1 g1
  have gw1 := s1 _ _ gw
  have gr1 := s1 _ _ gr
  have e0 : Wi.tks [kt] = kt.tk := tks1 kt
  have hok : ∀ j ∈ kt.tk, Ok1 j := hk
  have lR : ∀ n, (Wi.rst n [kt]).length ≤ kt.tk.length := fun n => by
    have h1 := Wi.tks_len (Wi.rst n [kt])
    rw [Wi.rst_tks, e0, List.length_drop] at h1
    omega
  have rAt : ∀ {n : Nat} {i : Wi}, kt.tk[n]? = some i → ∃ r, Wi.rst n [kt] = i :: r ∧ Wi.rst (n + 1) [kt] = i.ps ++ r := fun {n i} h => Wi.rst_at (by rw [e0]; exact h)
  have rEnd : Wi.rst kt.tk.length [kt] = [] := by
    have z := Wi.rst_end [kt]
    rw [e0] at z
    exact z
  generalize htk : kt.tk = tk at gw1 gr1 hok hw lR rAt rEnd
  refine ⟨_, rfl, _, rfl, wa, ra, _, _, rfl, .inl ⟨SqL.of gw1, SqL.of gr1⟩, fun zq ts F0 s2 nzq gz lt pr nts => ?_⟩
  rw [List.length_map, List.length_map, List.length_map, List.length_map, Nat.min_self] at lt
  have tb0 : TbS T F0 := (tb.same s1).same s2
  have gd0 := s2 _ _ g1
  have gw0 := s2 _ _ gw1
  have dT : da ∉ T := tb0.off gd0 fun _ z => by cases z
  have zT : zq ∉ T := tb0.off gz fun _ z => by cases z
  have zd : zq ≠ da := fun z => by rw [z, g1] at nzq; cases nzq
  have wd : wa ≠ da := fun z => by rw [← z, gw] at nda; cases nda
  have wT : wa ∉ T := tb.off gw fun _ z => by cases z
  have s12 : Same H F0 := fun b o z => s2 _ _ (s1 _ _ z)
  refine ⟨zq, _, rfl, .inl ⟨SqL.of gz, ?_⟩⟩
  refine RT.for_Itv (fun i σ G => ∃ (ws : List V) (y3 y4 y5 y6 : Option V), σ = [some (.ref wa), some (.ref ra), some (.ref da), y3, y4, y5, y6] ∧ Sx T da F0 G ∧ G da = some (.lst ws.reverse) ∧ DdL Non G ((Wi.rst (tk.length - i) [kt]).map Wi.d) ws)
    ⟨[], _, _, _, _, rfl, ⟨fun b u _ _ e => e, tb0⟩, gd0, by rw [Nat.sub_zero, rEnd]; exact .nil⟩ (fun i σ G ⟨ws, y3, y4, y5, y6, _, sx, _⟩ => SqL.of (sx.1 zq _ zT zd gz)) (fun i x σ G hi hx z => ?_) (fun σ G z => ?_)
  · obtain ⟨ws, y3, y4, y5, y6, rfl, sx, gd, dl⟩ := z
    rw [List.length_map, lt] at hi
    rw [List.length_map, lt, List.getElem?_map] at hx
    obtain ⟨t, ht, rfl⟩ := Option.map_eq_some_iff.mp hx
    have hj : tk.length - 1 - i < tk.length := by omega
    obtain ⟨it, hit⟩ : ∃ it, tk[tk.length - 1 - i]? = some it := ⟨_, List.getElem?_eq_getElem hj⟩
    have gt0 := pr _ t (.str it.wd) (.str it.rl) ht (by simp [hit]) (by simp [hit])
    have tT : t ∉ T := tb0.off gt0 fun _ z => by cases z
    have td : t ≠ da := fun z => by rw [z, gd0] at gt0; cases gt0
    have gt := sx.1 t _ tT td gt0
    obtain ⟨r, er1, er2⟩ := rAt hit
    rw [show tk.length - i = tk.length - 1 - i + 1 by omega, er2, List.map_append] at dl
    have er3 : Wi.rst (tk.length - (i + 1)) [kt] = it :: r := by
      rw [show tk.length - (i + 1) = tk.length - 1 - i by omega]
      exact er1
    have l2 := lR (tk.length - 1 - i + 1)
    rw [er2, List.length_append] at l2
    have l1 := lR (tk.length - 1 - i)
    rw [er1, List.length_cons] at l1
    have iok : Ok1 it := hok it (List.mem_of_getElem? hit)
    have ll := dl.len
    rw [List.length_append, List.length_map, List.length_map] at ll
    refine ⟨t, _, rfl, SqT.of gt, rfl, _, _, rfl, _, _, rfl, rfl, ?_⟩
    refine ⟨_, rfl, _, rfl, it, rfl, iok, sx.2, fun G1 s3 => ⟨_, rfl, ?_⟩⟩
    have sx1 := sx.sm s3
    have gd1 := s3.at sx.2 gd fun _ z => by cases z
    have dl1 := dl.kn (s3.kn sx.2)
    refine ite2 (fun es => ?_) (fun es => ?_)
    · have eps : it.ps = [] := by
        cases iok <;> first | rfl | cases es
      rw [eps] at dl1
      refine ⟨_, rfl, .inl ⟨rfl, _, SqL.of gd1⟩, _, rfl, _, rfl, it, rfl, iok, es, fun v G2 s4 dv => ?_⟩
      have gd2 := s4 _ _ gd1
      refine ⟨da, _, _, rfl, rfl, gd2, small (by rw [List.length_reverse]; omega), ?_⟩
      have nt : ∀ xs, G2 da ≠ some (.tup xs) := fun _ z => by rw [gd2] at z; cases z
      have kD : Kn Non G2 (upd G2 da (.lst (ws.reverse ++ [v]))) := Kn.rfl.put (fun z => z) nt
      refine ⟨v :: ws, _, _, _, _, rfl, (sx1.sm (Sm.of s4 sx1.2)).put dT, ?_, ?_⟩
      · rw [List.reverse_cons]
        exact upd_same
      · rw [er3]
        exact .cons (dv.kn kD) ((dl1.same s4).kn kD)
    · have es : it.sg = false := Bool.eq_false_iff.mpr es
      have gwa : G1 wa = some (.lst ((tk.map Wi.wd).map V.str)) := sx1.1 wa _ wT wd gw0
      refine ⟨_, rfl, _, rfl, _, rfl, wa, _, rfl, .inl (SqL.of gwa), it, _, rfl, iok, by rw [List.length_map, List.length_map]; omega, sx1.2, fun t2 G2 s4 ht2 => ⟨t2, _, rfl, .inr ht2, ?_⟩⟩
      have sx2 := sx1.sm s4
      have gd2 := s4.at sx1.2 gd1 fun _ z => by cases z
      have dl2 := dl1.kn (s4.kn sx1.2)
      have em : ((it.ps.map Wi.rl).map V.str).length = it.ps.length := by rw [List.length_map, List.length_map]
      rw [em]
      generalize hm : it.ps.length = m at ll l2
      have fit2 : m ≤ ws.length := by omega
      have ei : ((ws.reverse.length : Nat) : Int) - (m : Int) = ((ws.length - m : Nat) : Int) := by
        rw [List.length_reverse]
        omega
      refine ⟨_, rfl, _, rfl, da, _, rfl, .inl (SqL.of gd2), _, rfl, _, _, rfl, rfl, _, rfl, da, _, rfl, SqL.of gd2, fun p1 np1 => ?_⟩
      rw [ei, cutFrom (by rw [List.length_reverse]; omega), len_rev_sub fit2]
      have s5 := newS (o := .lst (ws.take m).reverse) np1
      have gp1 : (upd G2 p1 (.lst (ws.take m).reverse)) p1 = some (.lst (ws.take m).reverse) := upd_same
      generalize upd G2 p1 (.lst (ws.take m).reverse) = G3 at s5 gp1
      refine ⟨p1, _, rfl, SqL.of gp1, fun p2 np2 => ?_⟩
      rw [List.reverse_reverse]
      have s6 := newS (o := .lst (ws.take m)) np2
      have gp2 : (upd G3 p2 (.lst (ws.take m))) p2 = some (.lst (ws.take m)) := upd_same
      generalize upd G3 p2 (.lst (ws.take m)) = G4 at s6 gp2
      have s56 : Same G2 G4 := fun b o z => s6 _ _ (s5 _ _ z)
      have sx4 := sx2.sm (Sm.of s56 sx2.2)
      have gd4 := s56 _ _ gd2
      have dl4 := dl2.same s56
      have pd : p2 ≠ da := fun z => by
        rw [z, s5 _ _ gd2] at np2
        cases np2
      refine ⟨_, rfl, _, rfl, da, _, rfl, .inl (SqL.of gd4), _, rfl, _, _, rfl, rfl, _, rfl, da, _, ws.length - m, rfl, congrArg some ei, gd4, by rw [List.length_reverse]; omega, ?_⟩
      rw [take_rev_sub fit2]
      have nt4 : ∀ xs, G4 da ≠ some (.tup xs) := fun _ z => by rw [gd4] at z; cases z
      have k5 : Kn Non G4 (upd G4 da (.lst (ws.drop m).reverse)) := Kn.rfl.put (fun z => z) nt4
      have sx5 : Sx T da F0 (upd G4 da (.lst (ws.drop m).reverse)) := sx4.put dT
      have gd5 : (upd G4 da (.lst (ws.drop m).reverse)) da = some (.lst (ws.drop m).reverse) := upd_same
      have gp5 : (upd G4 da (.lst (ws.drop m).reverse)) p2 = some (.lst (ws.take m)) := by rw [upd_ne pd]; exact gp2
      have dl5 := dl4.kn k5
      generalize upd G4 da (.lst (ws.drop m).reverse) = G5 at sx5 gd5 gp5 dl5
      have em2 : (it.ps.map Wi.d).length = m := by rw [List.length_map]; exact hm
      have dlt := dl5.take m
      have dld := dl5.drop m
      rw [← em2, List.take_left, em2] at dlt
      rw [← em2, List.drop_left, em2] at dld
      refine ⟨_, rfl, .inl ⟨rfl, _, SqL.of gd5⟩, _, rfl, _, rfl, _, rfl, it, p2, _, rfl, iok, es, gp5, dlt, sx5.2, fun v G6 s7 dv => ?_⟩
      have gd6 := s7.at sx5.2 gd5 fun _ z => by cases z
      have dl6 := dld.kn (s7.kn sx5.2)
      refine ⟨da, _, _, rfl, rfl, gd6, small (by rw [List.length_reverse, List.length_drop]; omega), ?_⟩
      have nt6 : ∀ xs, G6 da ≠ some (.tup xs) := fun _ z => by rw [gd6] at z; cases z
      have k7 : Kn Non G6 (upd G6 da (.lst ((ws.drop m).reverse ++ [v]))) := Kn.rfl.put (fun z => z) nt6
      refine ⟨v :: ws.drop m, _, _, _, _, rfl, (sx5.sm s7).put dT, ?_, ?_⟩
      · rw [List.reverse_cons]
        exact upd_same
      · rw [er3]
        exact .cons (dv.kn k7) (dl6.kn k7)
  · obtain ⟨ws, y3, y4, y5, y6, rfl, sx, gd, dl⟩ := z
    rw [List.length_map, lt, Nat.sub_self] at dl
    have dl : DdL Non G [kt.d] ws := dl
    cases dl with
    | cons dv dn =>
      rename_i v us
      cases dn
      refine ⟨_, rfl, da, _, rfl, SqL.of gd, fun p np => ?_⟩
      have pT : p ∉ T := fun hp => by
        obtain ⟨ps, e, _⟩ := sx.2 p hp
        rw [e] at np
        cases np
      have up : ∀ b u, b ∉ T → H b = some u → G b = some u := fun b u hb e => sx.1 b u hb (fun z => by rw [z, nda] at e; cases e) (s12 _ _ e)
      have hp : H p = none := by
        cases e : H p with
        | none => rfl
        | some o => rw [up _ _ pT e] at np; cases np
      have sn := newS (o := .lst [v]) np
      refine q p v _ ⟨fun b u hb e => sn _ _ (up b u hb e), sx.2.same sn⟩ hp upd_same (dv.same sn)
end
end Kq

namespace Kq
open PySem PySem.Spec PyProof.Rows L2 Kf Kg Kv GxR Kk
abbrev tRead : Stmt := tp 17
abbrev tReadW : Stmt := tp 18
abbrev tReadT : Stmt := tp 27
/-- all but the tables and the lists at a, b stands -/
def Sx2 (T : List Addr) (a c : Addr) (H G : Hp) : Prop := (∀ b u, b ∉ T → b ≠ a → b ≠ c → H b = some u → G b = some u) ∧ TbS T G
theorem Sx2.sm {T : List Addr} {a c : Addr} {F H G : Hp} (x : Sx2 T a c F H) (s : Sm T H G) : Sx2 T a c F G := ⟨fun b u h n m e => s.1 b u h (x.1 b u h n m e), s.2⟩
theorem Sx2.put1 {T : List Addr} {a c : Addr} {F H : Hp} {o : HO} (x : Sx2 T a c F H) (h : a ∉ T) : Sx2 T a c F (upd H a o) :=
  ⟨fun b u h1 n m e => by rw [upd_ne n]; exact x.1 b u h1 n m e, fun p hp => by
    obtain ⟨ps, h1, h2⟩ := x.2 p hp
    exact ⟨ps, by rw [upd_ne (fun z => h (by rw [← z]; exact hp))]; exact h1, h2⟩⟩
theorem Sx2.put2 {T : List Addr} {a c : Addr} {F H : Hp} {o : HO} (x : Sx2 T a c F H) (h : c ∉ T) : Sx2 T a c F (upd H c o) :=
  ⟨fun b u h1 n m e => by rw [upd_ne m]; exact x.1 b u h1 n m e, fun p hp => by
    obtain ⟨ps, h1, h2⟩ := x.2 p hp
    exact ⟨ps, by rw [upd_ne (fun z => h (by rw [← z]; exact hp))]; exact h1, h2⟩⟩
theorem for_enumL {K : PySem.W.Frag} {a : Addr} {xs : List V} {g : TG} {tb : TS} {D : Ends} {σ : L2.St} {H : Hp} (Pv : Nat → L2.St → Hp → Prop) (h0 : Pv 0 σ H) (hq : ∀ i σ H, Pv i σ H → SqL K H a xs)
    (hs : ∀ (i : Nat) (x : V) (t : Addr) (σ : L2.St) (H : Hp), xs[i]? = some x → Pv i σ H → H t = none → g (.ref t) σ (upd H t (.tup [.int (i : Nat), x])) fun σ2 H2 => tb { D with nx := Pv (i + 1), ct := Pv (i + 1), bk := D.nx } σ2 H2) (hd : ∀ σ H, Pv xs.length σ H → D.nx σ H) :
    ∃ W : Nat → Nat → L2.St → Hp → Prop, (∃ m, W 0 m σ H) ∧ ∀ i m σ H, W i m σ H →
      ((Ite K a).stop i H ∧ D.nx σ H) ∨ ((Ite K a).go i H ∧ ∃ N : L2.St → Hp → Prop, (∀ σ' H', N σ' H' → ∃ m', m' < m ∧ W (i + 1) m' σ' H') ∧ ∀ v H', (Ite K a).yld i H v H' → g v σ H' fun σ2 H2 => tb { D with nx := N, ct := N, bk := D.nx } σ2 H2) := by
  refine ⟨fun i m σ H => m = xs.length - i ∧ i ≤ xs.length ∧ Pv i σ H, ⟨xs.length, rfl, Nat.zero_le _, h0⟩, ?_⟩
  rintro i m σ H ⟨rfl, hi, p⟩
  by_cases lt : i < xs.length
  · refine .inr ⟨⟨xs, _, hq i σ H p, List.getElem?_eq_getElem lt⟩, Pv (i + 1), fun σ' H' p' => ⟨xs.length - (i + 1), by omega, rfl, lt, p'⟩, fun v H' y => ?_⟩
    obtain ⟨t, x, rfl, nt, rfl, hy⟩ := y
    exact hs i x t σ H (hy xs (hq i σ H p)) p nt
  · have e : i = xs.length := by omega
    subst e
    exact .inl ⟨⟨xs, hq _ σ H p, Nat.le_refl _⟩, hd σ H p⟩
section
variable {P : Program} {w : World} {K : PySem.W.Frag} {mg : Str → Option Value} {base : Heap} {T : List Addr}
abbrev nReadW : List Str := ["words", "first", "again", "waiting", "roles", "at", "word", "asked", "left"]
theorem scReadW : FnScope nReadW ["words", "first", "again"] (defScope tReadW) := ⟨rfl, rfl, rfl, by decide +kernel, rfl, by decide +kernel, by decide +kernel⟩
def spReadW (T : List Addr) : Sp := fun vs H Q _ => ∃ (k : Wi) (wa fa : Addr), vs = [.ref wa, .ref fa, .non] ∧ ok k ∧ TbS T H ∧ H wa = some (.lst ((k.tk.map Wi.wd).map V.str)) ∧ H fa = some (.tup [.str k.rl]) ∧ k.tk.length ≤ 16000000 ∧
  ∀ (q : Addr) (v : V) (G : Hp), Sm T H G → H q = none → G q = some (.lst [v]) → Dd Non G k.d v → Q (.ref q) G
theorem okReadW {f fR fP : Addr} {fd fdR fdP : FuncData} {k : Nat} (F : Fun K "read_words" "read_words" tReadW f fd)
    (GR : FnOk P w K mg base CX0 k fR fdR ["word", "role", "left"] (spBehindR K T)) (bR : Binds K fdR ["word", "role", "left"] []) (gR : mg "roles_behind" = some (.ref fR)) (kR : PySem.W.keepIn K (.ref fR) = true)
    (GP : FnOk P w K mg base CX0 k fP fdP ["words", "roles"] (spPut T)) (bP : Binds K fdP ["words", "roles"] []) (gP : mg "put_together" = some (.ref fP)) (kP : PySem.W.keepIn K (.ref fP) = true)
    (ml : mg "list" = none) (mr : mg "reversed" = none) (me : mg "enumerate" = none) (mn : mg "len" = none) : FnOk P w K mg base CX0 (k + 1) f fd ["words", "first", "again"] (spReadW T) := by
  refine F.ok scReadW (fun vs H Q E h => ?_) (fun cdv A outer s H vs Q E hr h => ?_)
  · obtain ⟨k, wa, fa, rfl, _⟩ := h
    rfl
  obtain ⟨kt, wa, fa, rfl, hk, tb, gw, gf, hw, q⟩ := h
  refine ⟨_, pss_cons (ps_if (pt_cmpR op_gt (pe_callB call_len_seq (by rfl) mn PySem.boot_len (pa_cons (pv 1) pa_nil)) (pe_callB call_len_seq (by rfl) mn PySem.boot_len (pa_cons (pv 0) pa_nil)) (nomark _)) pss_no pss_nil)
    (pss_cons (ps_set (i := 3) scReadW.nd rfl (.inl rfl) (pe_callTy call_list_of (by rfl) ml boot_list (pa_cons (Kv.pe_revT (pv 1)) pa_nil)))
    (pss_cons (ps_set (i := 4) scReadW.nd rfl (.inl rfl) (pe_lst pa_nil))
    (pss_cons (ps_for PassesOwn.never rfl (pi_enum (by rfl) me (pa_cons (pv 0) pa_nil)) (pg_tup rfl (pgs_cons (pg_name (i := 5) scReadW.nd rfl (.inl rfl)) (pgs_cons (pg_name (i := 6) scReadW.nd rfl (.inl rfl)) pgs_nil)))
      (pss_cons (ps_if (pt_not (pt_truth (pv 3) (by intro _; rfl))) pss_no pss_nil)
      (pss_cons (ps_set (i := 7) scReadW.nd rfl (.inl rfl) (pe_bm0 PySem.F.plainAttrs_list PySem.F.slot_list_pop PySem.F.type_list_pop mt_pop (pv 3)))
      (pss_cons (ps_expr (pe_bm PySem.F.plainAttrs_list PySem.F.slot_list_append PySem.F.type_list_append mt_append (pv 4) (pa_cons (pv 7) pa_nil)))
      (pss_cons (ps_set (i := 8) scReadW.nd rfl (.inl rfl) (pe_op op_sub (pe_op op_sub (pe_callB call_len_seq (by rfl) mn PySem.boot_len (pa_cons (pv 0) pa_nil)) (pv 5)) pe_int))
      (pss_cons (ps_expr (pe_bm PySem.F.plainAttrs_list PySem.F.slot_list_extend PySem.F.type_list_extend mt_extend (pv 3) (pa_cons (Kp.pe_listRevT rfl (by rfl) ml (by rfl) mr (pe_call GR hr (by rfl) gR kR bR .nil pass0 (pa_cons (pv 6) (pa_cons (pv 7) (pa_cons (pv 8) pa_nil))))) pa_nil)))
      (pss_one (ps_if (pt_cmpR op_gt (pe_callB call_len_seq (by rfl) mn PySem.boot_len (pa_cons (pv 3) pa_nil)) (pv 8) (nomark _)) pss_no pss_nil))))))))
    (pss_one (ps_ret (pe_call GP hr (by rfl) gP kP bP .nil pass0 (pa_cons (pv 0) (pa_cons (pv 4) pa_nil)))))))), ?_⟩
  have hok : ∀ j ∈ kt.tk, Ok1 j := hk
  have tl := hw
  have e0 : Wi.tks [kt] = kt.tk := tks1 kt
  have e1 := Wi.tk_eq kt
  generalize htk : kt.tk = tk at gw hok tl e0 e1
  have lp : 1 ≤ tk.length := by rw [e1, List.length_cons]; omega
  refine ⟨_, rfl, fa, _, rfl, .inr (SqT.of gf), _, rfl, wa, _, rfl, .inl (SqL.of gw), _, _, rfl, rfl, _, rfl, ite2 (fun e => ?_) (fun _ => ?_)⟩
  · have z : (1 : Int) > ((((tk.map Wi.wd).map V.str).length : Nat) : Int) := of_decide_eq_true e
    rw [List.length_map, List.length_map] at z
    omega
  refine ⟨_, rfl, fa, _, rfl, SqT.of gf, fun p1 np1 => ⟨p1, _, rfl, .inr (SqT.of upd_same), fun la nla => ?_⟩⟩
  have s1 := newS (o := .tup [V.str kt.rl].reverse) np1
  generalize upd H p1 (.tup [V.str kt.rl].reverse) = H1 at s1 nla
  have s2 := newS (o := .lst [V.str kt.rl].reverse) nla
  have gl2 : (upd H1 la (.lst [V.str kt.rl].reverse)) la = some (.lst [V.str kt.rl]) := upd_same
  generalize upd H1 la (.lst [V.str kt.rl].reverse) = H2 at s2 gl2
  refine ⟨by show 0 ≤ sizeLine; decide, fun ra nra => ?_⟩
  have s3 := newS (o := .lst []) nra
  have gr3 : (upd H2 ra (.lst [])) ra = some (.lst []) := upd_same
  have gl3 := s3 _ _ gl2
  have lr : la ≠ ra := ne_of_none gl2 nra
  generalize upd H2 ra (.lst []) = H3 at s3 gr3 gl3
  have s123 : Same H H3 := fun b o z => s3 _ _ (s2 _ _ (s1 _ _ z))
  have tb3 := tb.same s123
  have gw3 := s123 _ _ gw
  have lT : la ∉ T := tb3.off gl3 fun _ z => by cases z
  have rT : ra ∉ T := tb3.off gr3 fun _ z => by cases z
  have wT : wa ∉ T := tb3.off gw3 fun _ z => by cases z
  have nlH : H la = none := by
    cases z : H la with
    | none => rfl
    | some o => rw [s1 _ _ z] at nla; cases nla
  have nrH : H ra = none := by
    cases z : H ra with
    | none => rfl
    | some o => rw [s2 _ _ (s1 _ _ z)] at nra; cases nra
  have wl : wa ≠ la := ne_of_none gw nlH
  have wr : wa ≠ ra := ne_of_none gw nrH
  have lm : ((tk.map Wi.wd).map V.str).length = tk.length := by rw [List.length_map, List.length_map]
  refine ⟨_, rfl, wa, _, rfl, SqL.of gw3, ?_⟩
  refine for_enumL (fun i σ G => ∃ (rest : List Wi) (y5 y6 y7 y8 : Option V), σ = [some (.ref wa), some (.ref fa), some .non, some (.ref la), some (.ref ra), y5, y6, y7, y8] ∧ Sx2 T la ra H3 G ∧ G la = some (.lst (rest.map fun j => V.str j.rl).reverse) ∧ G ra = some (.lst (((tk.take i).map Wi.rl).map V.str)) ∧ Wi.tks rest = tk.drop i)
    ⟨[kt], _, _, _, _, rfl, ⟨fun b u _ _ _ e => e, tb3⟩, gl3, gr3, e0⟩ (fun i σ G ⟨_, _, _, _, _, _, sx, _⟩ => SqL.of (sx.1 wa _ wT wl wr gw3)) (fun i x t σ G hx z nt => ?_) (fun σ G z => ?_)
  · obtain ⟨rest, y5, y6, y7, y8, rfl, sx, gl, gr, er⟩ := z
    have hi : i < tk.length := by
      have := (List.getElem?_eq_some_iff.mp hx).1
      rw [lm] at this
      exact this
    obtain ⟨it, hit⟩ : ∃ it, tk[i]? = some it := ⟨_, List.getElem?_eq_getElem hi⟩
    have ed : tk.drop i = it :: tk.drop (i + 1) := by
      rw [List.drop_eq_getElem_cons hi]
      congr 1
      exact Option.some.inj ((List.getElem?_eq_getElem hi).symm.trans hit)
    obtain ⟨r2, rfl, er2⟩ : ∃ r2, rest = it :: r2 ∧ Wi.tks (it.ps ++ r2) = tk.drop (i + 1) := by
      cases rest with
      | nil =>
        rw [ed] at er
        cases er
      | cons j r2 =>
        rw [Wi.tks_cons, ed] at er
        obtain ⟨e3, e4⟩ := List.cons.inj er
        subst e3
        exact ⟨r2, rfl, e4⟩
    have ex : x = V.str it.wd := by
      rw [List.getElem?_map, List.getElem?_map, hit] at hx
      exact (Option.some.inj hx).symm
    subst ex
    have iok : Ok1 it := hok it (List.mem_of_getElem? hit)
    have tk1 : tk.take (i + 1) = tk.take i ++ [it] := by rw [List.take_add_one, hit]; rfl
    rw [List.map_cons, List.reverse_cons] at gl
    have lw : (it.ps ++ r2).length ≤ tk.length - i - 1 := by
      have h1 : (Wi.tks (it.ps ++ r2)).length = tk.length - (i + 1) := by rw [er2, List.length_drop]
      have h2 := Wi.tks_len (it.ps ++ r2)
      omega
    have gwG := sx.1 wa _ wT wl wr gw3
    have s4 := newS (o := .tup [.int (i : Nat), .str it.wd]) nt
    have gt1 : (upd G t (.tup [.int (i : Nat), .str it.wd])) t = some (.tup [.int (i : Nat), .str it.wd]) := upd_same
    have sx1 := sx.sm (Sm.of s4 sx.2)
    have gl1 := s4 _ _ gl
    have gr1 := s4 _ _ gr
    have gw1 := s4 _ _ gwG
    generalize upd G t (.tup [.int (i : Nat), .str it.wd]) = G1 at gt1 sx1 gl1 gr1 gw1
    refine ⟨t, _, rfl, SqT.of gt1, rfl, _, _, rfl, _, _, rfl, rfl, ?_⟩
    refine ⟨_, rfl, _, .inl ⟨_, SqL.of gl1, rfl⟩, ite2 (fun e => ?_) (fun _ => ?_)⟩
    · exfalso
      simp at e
    refine ⟨_, rfl, .inl ⟨rfl, _, SqL.of gl1⟩, la, _, .str it.rl, rfl, rfl, gl1, ?_, ?_⟩
    · rw [List.length_append, List.length_singleton, Nat.add_sub_cancel, List.getElem?_concat_length]
    rw [List.dropLast_concat]
    have sx2 : Sx2 T la ra H3 (upd G1 la (.lst (r2.map fun j => V.str j.rl).reverse)) := sx1.put1 lT
    have gl2 : (upd G1 la (.lst (r2.map fun j => V.str j.rl).reverse)) la = some (.lst (r2.map fun j => V.str j.rl).reverse) := upd_same
    have gr2 : (upd G1 la (.lst (r2.map fun j => V.str j.rl).reverse)) ra = some (.lst (((tk.take i).map Wi.rl).map V.str)) := by rw [upd_ne (Ne.symm lr)]; exact gr1
    have gw2 : (upd G1 la (.lst (r2.map fun j => V.str j.rl).reverse)) wa = some (.lst ((tk.map Wi.wd).map V.str)) := by rw [upd_ne wl]; exact gw1
    generalize upd G1 la (.lst (r2.map fun j => V.str j.rl).reverse) = G2 at sx2 gl2 gr2 gw2
    refine ⟨_, rfl, .inl ⟨rfl, _, SqL.of gr2⟩, _, rfl, ra, _, _, rfl, rfl, gr2, small (by rw [List.length_map, List.length_map, List.length_take]; omega), ?_⟩
    have er3 : ((tk.take i).map Wi.rl).map V.str ++ [V.str it.rl] = ((tk.take (i + 1)).map Wi.rl).map V.str := by rw [tk1]; simp
    rw [er3]
    have sx3 : Sx2 T la ra H3 (upd G2 ra (.lst (((tk.take (i + 1)).map Wi.rl).map V.str))) := sx2.put2 rT
    have gr3' : (upd G2 ra (.lst (((tk.take (i + 1)).map Wi.rl).map V.str))) ra = some (.lst (((tk.take (i + 1)).map Wi.rl).map V.str)) := upd_same
    have gl3' : (upd G2 ra (.lst (((tk.take (i + 1)).map Wi.rl).map V.str))) la = some (.lst (r2.map fun j => V.str j.rl).reverse) := by rw [upd_ne lr]; exact gl2
    have gw3' : (upd G2 ra (.lst (((tk.take (i + 1)).map Wi.rl).map V.str))) wa = some (.lst ((tk.map Wi.wd).map V.str)) := by rw [upd_ne wr]; exact gw2
    generalize upd G2 ra (.lst (((tk.take (i + 1)).map Wi.rl).map V.str)) = G3 at sx3 gr3' gl3' gw3'
    refine ⟨_, rfl, wa, _, rfl, .inl (SqL.of gw3'), _, rfl, _, _, rfl, rfl, _, _, rfl, rfl, ?_⟩
    refine ⟨_, rfl, .inl ⟨rfl, _, SqL.of gl3'⟩, _, rfl, _, rfl, _, rfl, it, _, rfl, iok, by rw [lm]; rw [List.length_append] at lw; omega, sx3.2, fun t2 G4 s5 ht2 => ⟨t2, _, rfl, ht2, fun q1 nq1 => ?_⟩⟩
    have sx4 := sx3.sm s5
    have gl4 := s5.at sx3.2 gl3' fun _ z => by cases z
    have gr4 := s5.at sx3.2 gr3' fun _ z => by cases z
    have s6 := newS (o := .lst ((it.ps.map Wi.rl).map V.str).reverse) nq1
    have gq5 : (upd G4 q1 (.lst ((it.ps.map Wi.rl).map V.str).reverse)) q1 = some (.lst ((it.ps.map Wi.rl).map V.str).reverse) := upd_same
    have sx5 := sx4.sm (Sm.of s6 sx4.2)
    have gl5 := s6 _ _ gl4
    have gr5 := s6 _ _ gr4
    generalize upd G4 q1 (.lst ((it.ps.map Wi.rl).map V.str).reverse) = G5 at gq5 sx5 gl5 gr5
    rw [List.length_append] at lw
    refine ⟨la, q1, _, _, rfl, rfl, gl5, gq5, small (by simp only [List.length_reverse, List.length_map]; omega), ?_⟩
    have ec : (r2.map fun j => V.str j.rl).reverse ++ ((it.ps.map Wi.rl).map V.str).reverse = ((it.ps ++ r2).map fun j => V.str j.rl).reverse := by
      rw [List.map_append, List.reverse_append, List.map_map]
      rfl
    rw [ec]
    refine ⟨_, rfl, la, _, rfl, .inl (SqL.of upd_same), _, rfl, _, _, rfl, rfl, _, rfl, ite2 (fun e => ?_) (fun _ => ?_)⟩
    · exfalso
      have z := of_decide_eq_true e
      rw [lm] at z
      simp only [List.length_reverse, List.length_map, List.length_append] at z
      omega
    · refine ⟨it.ps ++ r2, _, _, _, _, rfl, sx5.put1 lT, upd_same, ?_, er2⟩
      rw [upd_ne (Ne.symm lr)]
      exact gr5
  · obtain ⟨rest, y5, y6, y7, y8, rfl, sx, gl, gr, er⟩ := z
    rw [lm, List.take_length] at gr
    have gwG := sx.1 wa _ wT wl wr gw3
    have up : ∀ b u, b ∉ T → H b = some u → G b = some u := fun b u hb e => sx.1 b u hb (ne_of_none e nlH) (ne_of_none e nrH) (s123 _ _ e)
    refine ⟨_, rfl, _, rfl, kt, wa, ra, rfl, hk, sx.2, by rw [htk]; exact gwG, by rw [htk]; exact gr, hw, fun qa v G2 s2 nq gq dv => ?_⟩
    have hq : H qa = none := by
      cases z : H qa with
      | none => rfl
      | some o =>
        by_cases hT : qa ∈ T
        · obtain ⟨ps, e, _⟩ := sx.2 qa hT
          rw [e] at nq
          cases nq
        · rw [up _ _ hT z] at nq
          cases nq
    exact q qa v G2 ⟨fun b u hb e => s2.1 b u hb (up b u hb e), s2.2⟩ hq gq dv
theorem scRead : FnScope ["text", "role"] ["text", "role"] (defScope tRead) := ⟨rfl, rfl, rfl, by decide +kernel, rfl, by decide +kernel, by decide +kernel⟩
def spRead (T : List Addr) : Sp := fun vs H Q _ => ∃ (k : Wi), vs = [.str (tx k), .str k.rl] ∧ ok k ∧ TbS T H ∧ tkl k ≤ 16000000 ∧ ∀ (v : V) (G : Hp), Sm T H G → Dd Non G k.d v → Q v G
theorem okRead {f fW : Addr} {fd fdW : FuncData} {k : Nat} (F : Fun K "read" "read" tRead f fd)
    (GW : FnOk P w K mg base CX0 k fW fdW ["words", "first", "again"] (spReadW T)) (bW : Binds K fdW ["words", "first", "again"] []) (gW : mg "read_words" = some (.ref fW)) (kW : PySem.W.keepIn K (.ref fW) = true)
    (mi : mg "isinstance" = none) (ms : mg "str" = none) : FnOk P w K mg base CX0 (k + 1) f fd ["text", "role"] (spRead T) := by
  refine F.ok scRead (fun vs H Q E h => ?_) (fun cdv A outer s H vs Q E hr h => ?_)
  · obtain ⟨k, rfl, _⟩ := h
    rfl
  obtain ⟨kt, rfl, hk, tb, hw, q⟩ := h
  refine ⟨_, pss_cons (ps_if (pt_not (pt_val (pe_callB (isiK K rfl) (by rfl) mi PyProof.Rows.boot_isinstance (pa_cons (pv 0) (pa_cons (pe_bltn (v := .ty "str") (by rfl) ms PyProof.Rows.boot_str rfl) pa_nil))))) pss_no pss_nil)
    (pss_one (ps_ret (pe_ix ix_list (pe_call GW hr (by rfl) gW kW bW .nil pass0 (pa_cons (pe_split (pv 0) pe_str) (pa_cons (pe_tup (pa_cons (pv 1) pa_nil)) (pa_cons pe_non pa_nil)))) pe_int (fun _ _ => rfl)))), ?_⟩
  have hd : Dd Any H (.str (tx kt)) (.str (tx kt)) := .str _
  refine ⟨_, rfl, _, _, _, _, true, rfl, .ty "str", hd.ty, kStr K (.str (tx kt)), _, rfl, iteF ?_⟩
  have lx := tx_len kt
  refine ⟨_, rfl, ⟨_, rfl⟩, tx kt, _, rfl, rfl, rfl, by rw [sizeLine_eq]; omega, fun wa nwa => ?_⟩
  rw [tx_split hk]
  have s1 := newS (o := .lst ((kt.tk.map Wi.wd).map V.str)) nwa
  have gw : (upd H wa (.lst ((kt.tk.map Wi.wd).map V.str))) wa = some (.lst ((kt.tk.map Wi.wd).map V.str)) := upd_same
  generalize upd H wa (.lst ((kt.tk.map Wi.wd).map V.str)) = H1 at s1 gw
  refine ⟨_, rfl, by show 1 ≤ sizeLine; decide, fun fa nfa => ?_⟩
  have s2 := newS (o := .tup [.str kt.rl]) nfa
  refine ⟨kt, wa, fa, rfl, hk, (tb.same s1).same s2, s2 _ _ gw, upd_same, Nat.le_trans (wl_len kt.tk) hw, fun qa v G sG nq gq dv => ?_⟩
  exact ⟨qa, _, _, _, rfl, rfl, SqL.of gq, atI_nat (j := 0) rfl, q v G ((Sm.of (fun b o z => s2 _ _ (s1 _ _ z)) tb).trans sG) dv⟩
theorem scReadT : FnScope ["text"] ["text"] (defScope tReadT) := ⟨rfl, rfl, rfl, by decide +kernel, rfl, by decide +kernel, by decide +kernel⟩
def spReadT (T : List Addr) : Sp := fun vs H Q _ => ∃ (k : Wi), vs = [.str (tx k)] ∧ k.rl = "worth" ∧ ok k ∧ TbS T H ∧ tkl k ≤ 16000000 ∧ ∀ (v : V) (G : Hp), Sm T H G → Dd Non G k.d v → Q v G
theorem okReadT {f fR : Addr} {fd fdR : FuncData} {k : Nat} (F : Fun K "read_worth" "read_worth" tReadT f fd)
    (GR : FnOk P w K mg base CX0 k fR fdR ["text", "role"] (spRead T)) (bR : Binds K fdR ["text", "role"] []) (gR : mg "read" = some (.ref fR)) (kR : PySem.W.keepIn K (.ref fR) = true) : FnOk P w K mg base CX0 (k + 1) f fd ["text"] (spReadT T) := by
  refine F.ok scReadT (fun vs H Q E h => ?_) (fun cdv A outer s H vs Q E hr h => ?_)
  · obtain ⟨k, rfl, _⟩ := h
    rfl
  obtain ⟨kt, rfl, hrl, hk, tb, hw, q⟩ := h
  refine ⟨_, pss_one (ps_ret (pe_call GR hr (by rfl) gR kR bR .nil pass0 (pa_cons (pv 0) (pa_cons pe_str pa_nil)))), ?_⟩
  exact ⟨_, rfl, kt, by rw [hrl]; rfl, hk, tb, hw, fun v G sG dv => q v G sG dv⟩
end
end Kq

/-! tuple(enumerate(list)) -/
namespace Kz
open PySem PySem.Spec PyProof.Rows L2
open AutoSeq1 (wpAny_loadPart')
theorem nolen_enum : typeLookup (.type "enumerate") "__len__" = pure none := by rw [typeLookup_type, builtinLookup_eq_fast]; kernel_rfl
theorem nohint_enum : typeLookup (.type "enumerate") "__length_hint__" = pure none := by rw [typeLookup_type, builtinLookup_eq_fast]; kernel_rfl
/-- the counted ones stand -/
def EnP (G : Hp) (ts : List Addr) (xs : List V) : Prop := ∀ (j : Nat) (t : Addr) (x : V), ts[j]? = some t → xs[j]? = some x → G t = some (.tup [.int (j : Int), x])
/-- the enumerate before a turn -/
def Es (h : Heap) (e it D : Addr) (i : Int) : Prop := (∃ old, IsEnum h e it i old) ∨ ∃ old T f oT, IsEnumHeld h e it i old T f ∧ h.get? T = some oT ∧ T ≠ e ∧ T ≠ it ∧ T ≠ D
section
variable {A : Around} {X : Cx} {pins : List (Addr × Obj)} {σ : L2.St} {e it l D : Addr} {R : Result → Shared → Prop} {res : Value} {xs : List V} {H : Hp} {items : Array Value}
theorem eLoop (hei : e ≠ it) (hle : l ≠ e) (hli : l ≠ it) (lD : l ≠ D) (hh : A.handled = none) (hz : items.size ≤ sizeLine) (rv : Vals xs items.toList) (hD : H D = none)
    (q : ∀ (s' : Shared) (G' : Hp) (ts : List Addr), Inv X pins σ G' s' → Same H G' → G' D = some (.lst (ts.map V.ref)) → ts.length = items.size → EnP G' ts xs → (∀ t ∈ ts, H t = none) → R (.ok (.ret res)) s') :
    ∀ (k i : Nat) (s : Shared) (G : Hp) (ts : List Addr), items.size - i = k → i ≤ items.size → Inv X pins σ G s → (∀ b ∈ [e, it], FpOk X pins G b) → Es s.heap e it D (i : Int) → s.heap.IsListIter it l i → s.heap.IsList l items →
      Same H G → G D = some (.lst (ts.map V.ref)) → ts.length = i → EnP G ts xs → (∀ t ∈ ts, H t = none) →
      codeAny (model X.prog X.w) A (.builtin "list.extend.loop" ⟨[.ref D, .ref e, res], []⟩) R s := by
  intro k
  induction k with
  | zero =>
    intro i s G ts hk hi I hf hes hit hl sm gD lt pr nw
    have ei : i = items.size := by omega
    refine codeAny_builtin F.entry_extend_loop ?_
    rw [Around.under_plainId F.plain_extend_loop _]
    show wpAny _ A.in1 (pyNext (.ref e) >>= _) _ _ s
    have hx : items[i]? = none := Array.getElem?_eq_none (by omega)
    have fin : ∀ h', Heap.ExtBut it s.heap h' → R (.ok (.ret res)) { s with heap := h' } := fun h' kp =>
      q _ G ts (I.turnedL (ch := [e, it]) (t' := s.toks) (fun c o hb u => kp c o (fun w => hb (by simp [w])) u) hf) sm gD (by omega) pr nw
    rcases hes with ⟨old, he⟩ | ⟨old, T, f, oT, he, hT, r1, r2, r3⟩
    · exact wpAny_bind (wpAny_pyNext_enum_end hh he hit hl hx fun h' kp => wpAny_pure (fin h' kp))
    · exact wpAny_bind (wpAny_pyNext_enum_end_held hh he hit hl hx fun h' kp => wpAny_pure (fin h' kp))
  | succ k ih =>
    intro i s G ts hk hi I hf hes hit hl sm gD lt pr nw
    have hlt : i < items.size := by omega
    have el : e < s.heap.objs.size := by
      rcases hes with ⟨_, u⟩ | ⟨_, _, _, _, u, _⟩
      · exact Heap.lt_size u
      · exact Heap.lt_size u
    have itl : it < s.heap.objs.size := let ⟨_, u, _⟩ := hit; Heap.lt_size u
    have live : ∀ b ∈ [e, it], b < s.heap.objs.size := fun b hb => by
      have hb : b = e ∨ b = it := by simpa using hb
      rcases hb with w | w
      · rw [w]; exact el
      · rw [w]; exact itl
    have nDc : ∀ b ∈ [e, it], D ≠ b := fun b hb w => by
      have h0 := (hf b hb).1
      rw [← w, gD] at h0
      cases h0
    have gT : G s.heap.objs.size = none := I.hok.fresh (Nat.le_refl _)
    have DT : D ≠ s.heap.objs.size := ne_of_none gD gT
    have ex : items[i]? = some items[i] := Array.getElem?_eq_getElem hlt
    have ec : ((i + 1 : Nat) : Int) = (i : Int) + 1 := by omega
    obtain ⟨x, hx, rx⟩ := vback rv (i := i) (v := items[i]) (by simpa using ex)
    have next : ∀ (h' : Heap), Es h' e it D ((i : Int) + 1) → h'.IsListIter it l (i + 1) → h'.get? s.heap.objs.size = some { cls := .type "tuple", data := .seq #[.int i s.toks, items[i]] } → h'.objs.size = s.heap.objs.size + 1 →
        (∀ b o, b ≠ e → b ≠ it → s.heap.get? b = some o → h'.get? b = some o) →
        wpAny (model X.prog X.w) A.in1 (updateSeq D (·.push (.ref s.heap.objs.size)) >>= fun _ => again (.builtin "list.extend.loop" ⟨[.ref D, .ref e, res], []⟩)) (fun fin s' => match fin with
          | .done f => R (.ok f) s'
          | .again c' => c'.quiet = true ∧ codeAny (model X.prog X.w) A c' R s') (fun e s' => R (.error e) s') { s with heap := h', toks := s.toks + 1 } := by
      intro h' es' hit' nt sz kp
      have new : ObjOk X.prog X.w (upd G s.heap.objs.size (.tup [.int (i : Int), x])) h' s.heap.objs.size (.tup [.int (i : Int), x]) := ⟨by show 2 ≤ sizeLine; decide, [.int i s.toks, items[i]], .cons ⟨_, rfl⟩ (.cons rx .nil), ⟨_, nt, rfl, _, rfl⟩⟩
      have I1 : Inv X pins σ (upd G s.heap.objs.size (.tup [.int (i : Int), x])) { s with heap := h', toks := s.toks + 1 } :=
        I.turnedNew (ch := [e, it]) (fun c o hb u => kp c o (fun w => hb (by simp [w])) (fun w => hb (by simp [w])) u) hf (Nat.le_refl _) new
      have gD1 : upd G s.heap.objs.size (.tup [.int (i : Int), x]) D = some (.lst (ts.map V.ref)) := by rw [upd_ne DT]; exact gD
      obtain ⟨_, its, c0, rw', _, raw⟩ := I1.lstM gD1
      have ln := rw'.length
      rw [List.length_map] at ln
      refine wpAny_bind ?_
      refine wpAny_updateSeq raw rfl ?_ (by rw [List.size_toArray]; omega) (by rw [Array.size_push, List.size_toArray]; omega)
      have I2 := I1.lset (ys := (ts ++ [s.heap.objs.size]).map V.ref) (its' := its ++ [Value.ref s.heap.objs.size]) (t' := s.toks + 1) gD1 raw (f := (·.push (Value.ref s.heap.objs.size))) (by simp) (by rw [List.map_append]; exact rw'.append (.cons rfl .nil)) (by rw [List.length_map, List.length_append]; simp only [List.length_cons, List.length_nil]; omega)
      have oth : ∀ b o, b ≠ D → h'.get? b = some o → (h'.update D (Obj.mapSeq (·.push (Value.ref s.heap.objs.size)))).get? b = some o := fun b o hb u => (Heap.get?_update_other _ _ (Ne.symm hb)).trans u
      have smT : ∀ t o, G t = some o → t ≠ D → upd (upd G s.heap.objs.size (.tup [.int (i : Int), x])) D (.lst ((ts ++ [s.heap.objs.size]).map V.ref)) t = some o := fun t o u hd => by
        rw [upd_ne hd, upd_ne (ne_of_none u gT)]
        exact u
      refine wpAny_pure ⟨plainId_quiet F.plain_extend_loop _, ih (i + 1) _ _ (ts ++ [s.heap.objs.size]) (by omega) hlt I2 (fun b hb => ?_) ?_ (hit'.at fun o u => oth _ _ (Ne.symm (nDc it (by simp))) u) (hl.at fun o u => oth _ _ lD (kp l o hle hli u))
        ?sm upd_same (by rw [List.length_append]; simp only [List.length_cons, List.length_nil]; omega) ?pr (fun t ht => ?_)⟩
      · refine ⟨?_, (hf b hb).2⟩
        rw [upd_ne (Ne.symm (nDc b hb)), upd_ne (Nat.ne_of_lt (live b hb))]
        exact (hf b hb).1
      · rw [ec]
        rcases es' with ⟨old, u⟩ | ⟨old, T, f, oT, u, hT, r1, r2, r3⟩
        · exact .inl ⟨old, oth _ _ (Ne.symm (nDc e (by simp))) u⟩
        · exact .inr ⟨old, T, f, oT, oth _ _ (Ne.symm (nDc e (by simp))) u, oth _ _ r3 hT, r1, r2, r3⟩
      case sm => exact fun t o u => smT t o (sm t o u) (fun w => by rw [w, hD] at u; cases u)
      case pr =>
        intro j t a e1 e2
        by_cases hj : j < ts.length
        · rw [List.getElem?_append_left hj] at e1
          have g := pr j t a e1 e2
          exact smT t _ g fun w => by rw [w, gD] at g; cases g
        · have hj2 : j < (ts ++ [s.heap.objs.size]).length := (List.getElem?_eq_some_iff.mp e1).1
          rw [List.length_append] at hj2
          simp only [List.length_cons, List.length_nil] at hj2
          have ej : j = i := by omega
          subst ej
          rw [List.getElem?_append_right (by omega), show j - ts.length = 0 by omega] at e1
          cases e1
          rw [hx] at e2
          cases e2
          rw [upd_ne (Ne.symm DT)]
          exact upd_same
      · rcases List.mem_append.mp ht with h | h
        · exact nw t h
        · rw [List.mem_singleton.mp h]
          cases u : H s.heap.objs.size with
          | none => rfl
          | some o => rw [sm _ _ u] at gT; cases gT
    refine codeAny_builtin F.entry_extend_loop ?_
    rw [Around.under_plainId F.plain_extend_loop _]
    show wpAny _ A.in1 (pyNext (.ref e) >>= _) _ _ s
    rcases hes with ⟨old, he⟩ | ⟨old, T, f, oT, he, hT, r1, r2, r3⟩
    · exact wpAny_bind (wpAny_pyNext_enum_item he hit hl ex hei fun h' ho hit' nt sz kp => next h' (.inr ⟨_, s.heap.objs.size, false, _, ho, nt, Nat.ne_of_gt el, Nat.ne_of_gt itl, Ne.symm DT⟩) hit' nt sz kp)
    · exact wpAny_bind (wpAny_pyNext_enum_item_held he hT r1 r2 hit hl ex hei fun h' ho hit' nt sz kp => next h' (.inr ⟨old, T, true, oT, ho, kp _ _ r1 r2 hT, r1, r2, r3⟩) hit' nt sz kp)
/-- listExtendWith of an enumerate -/
theorem eGrow {s : Shared} (he : IsEnum s.heap e it 0 .none) (hne : D ≠ e) (eD : s.heap.get? D = some { cls := .type "list", data := .seq #[] })
    (k : ∀ h', (∀ b o, b ≠ D → s.heap.get? b = some o → h'.get? b = some o) → (∃ c0, h'.get? D = some { cls := .type "list", data := .seq #[] c0 }) → codeAny (model X.prog X.w) A (.builtin "list.extend.loop" ⟨[.ref D, .ref e, res], []⟩) R { s with heap := h' }) :
    wpAny (model X.prog X.w) A.in1 (Builtin.List.listExtendWith (.ref D) (.ref e) res)
      (fun fin s' => match fin with
        | .done f => R (.ok f) s'
        | .again c' => c'.quiet = true ∧ codeAny (model X.prog X.w) A c' R s') (fun e s' => R (.error e) s') s := by
  have T : s.TypeIs (.ref e) "enumerate" := ⟨_, he, rfl⟩
  unfold Builtin.List.listExtendWith
  refine wpAny_bind (wpAny_typeOf T ?_)
  have no : Builtin.List.listSameRef (.ref D) (.ref e) = false := by simp [Builtin.List.listSameRef, hne]
  rw [if_neg (by rw [no]; decide)]
  refine wpAny_bind (wpAny_pyIter_enum he ?_)
  refine wpAny_bind (wpAny_holding ?_)
  unfold Builtin.List.listLengthHint
  refine wpAny_bind (wpAny_specialOf T nolen_enum ?_)
  show wpAny _ A.in1 (specialOf (.ref e) (Str.ofString "__length_hint__") >>= _) _ _ _
  refine wpAny_bind (wpAny_specialOf T nohint_enum ?_)
  refine wpAny_pure ?_
  show wpAny _ A.in1 (rule "list.extend.makes-room" >>= fun _ => Builtin.List.listTouch (.ref D) >>= fun _ => again (.builtin "list.extend.loop" ⟨[.ref D, .ref e, res], []⟩)) _ _ _
  refine wpAny_bind (wpAny_rule (wpAny_bind ?_))
  show wpAny _ A.in1 (updateSeq D (·.push .none) >>= fun _ => updateSeq D (·.pop)) _ _ _
  refine wpAny_bind (wpAny_updateSeq eD rfl ?_)
  have e2 := Heap.get?_update_self (Obj.mapSeq (·.push Value.none)) eD rfl
  refine wpAny_updateSeq e2 rfl ?_
  have e3 := Heap.get?_update_self (Obj.mapSeq (·.pop)) e2 rfl
  exact wpAny_pure ⟨plainId_quiet F.plain_extend_loop _, k _ (fun b o hb e => (Heap.get?_update_other _ _ (Ne.symm hb)).trans ((Heap.get?_update_other _ _ (Ne.symm hb)).trans e)) ⟨_, e3⟩⟩
theorem eIadd {s : Shared} (he : IsEnum s.heap e it 0 .none) (hne : D ≠ e) (eD : s.heap.get? D = some { cls := .type "list", data := .seq #[] })
    (k : ∀ h', (∀ b o, b ≠ D → s.heap.get? b = some o → h'.get? b = some o) → (∃ c0, h'.get? D = some { cls := .type "list", data := .seq #[] c0 }) → codeAny (model X.prog X.w) A (.builtin "list.extend.loop" ⟨[.ref D, .ref e, .ref D], []⟩) R { s with heap := h' }) :
    codeAny (model X.prog X.w) A (.builtin "list.__iadd__" ⟨[.ref D, .ref e], []⟩) R s := by
  refine codeAny_builtin F.entry_list_iadd ?_
  rw [Around.under_plainId F.plain_list_iadd _]
  show wpAny _ A.in1 (Builtin.List.listExtendWith (.ref D) (.ref e) (.ref D)) _ _ _
  exact eGrow he hne eD k
theorem eCollect {s : Shared} {Q : List Value → Shared → Prop} {E : Value → Shared → Prop} (I : Inv X pins σ H s) (hf : ∀ b ∈ [e, it], FpOk X pins H b) (he : IsEnum s.heap e it 0 .none) (hit : s.heap.IsListIter it l 0) (hl : s.heap.IsList l items)
    (hei : e ≠ it) (hle : l ≠ e) (hli : l ≠ it) (hh : A.handled = none) (hz : items.size ≤ sizeLine) (rv : Vals xs items.toList)
    (q : ∀ (s' : Shared) (G' : Hp) (ts : List Addr) (acc : List Value), Inv X pins σ G' s' → Same H G' → ts.length = items.size → EnP G' ts xs → (∀ t ∈ ts, H t = none) → Vals (ts.map V.ref) acc → Q acc s') : wpAny (model X.prog X.w) A (collect (.ref e)) Q E s := by
  have el : e < s.heap.objs.size := Heap.lt_size he
  have itl : it < s.heap.objs.size := let ⟨_, u, _⟩ := hit; Heap.lt_size u
  have ll : l < s.heap.objs.size := let ⟨_, u, _⟩ := hl; Heap.lt_size u
  unfold collect
  refine wpAny_bind (wpAny_runValue (codeAny_builtin F.entry_proto_collect ?_))
  rw [Around.under_plainId F.plain_proto_collect _]
  show wpAny _ A.in1 (newList [] >>= fun l => again (.builtin "list.__iadd__" ⟨[l, .ref e], []⟩)) _ _ s
  refine wpAny_bind (wpAny_newObj_type ?_)
  have k1 : ∀ b o, s.heap.get? b = some o → (s.heap.push { cls := .type "list", data := .seq ([] : List Value).toArray }).get? b = some o := fun b o u => Heap.get?_push_of_some _ u
  have eD : (s.heap.push { cls := .type "list", data := .seq ([] : List Value).toArray }).get? s.heap.objs.size = some { cls := .type "list", data := .seq ([] : List Value).toArray } := Heap.get?_push_size _ rfl
  refine wpAny_pure ⟨plainId_quiet F.plain_list_iadd _, eIadd (X := X) (s := { s with heap := s.heap.push { cls := .type "list", data := .seq ([] : List Value).toArray } }) (k1 _ _ he) (Nat.ne_of_gt el) eD fun g3 k3 e3 => ?_⟩
  obtain ⟨c0, e3⟩ := e3
  have kall : ∀ b o, s.heap.get? b = some o → g3.get? b = some o := fun b o u => k3 b o (Nat.ne_of_lt (Heap.lt_size u)) (k1 b o u)
  have hD : H s.heap.objs.size = none := I.hok.fresh (Nat.le_refl _)
  have I3 : Inv X pins σ (upd H s.heap.objs.size (.lst [])) { s with heap := g3 } := I.laid (t' := s.toks) kall (Nat.le_refl _) (show ObjOk X.prog X.w _ _ _ (.lst []) from ⟨Nat.zero_le _, [], c0, .nil, e3⟩)
  refine eLoop hei hle hli (Nat.ne_of_lt ll) hh hz rv hD (fun s' G' ts I' sm gD lt pr nw => ?_) items.size 0 _ (upd H s.heap.objs.size (.lst [])) [] (by omega) (Nat.zero_le _) I3 (fun b hb => ?_) (.inl ⟨_, kall _ _ he⟩) (hit.at fun o u => kall _ _ u) (hl.at fun o u => kall _ _ u)
    (fun t o u => by rw [upd_ne (ne_of_none u hD)]; exact u) upd_same rfl (fun j t x u => by simp at u) (fun t h => absurd h List.not_mem_nil)
  · obtain ⟨_, its, c1, rw', _, raw⟩ := I'.lstM gD
    show wpAny _ A (load s.heap.objs.size >>= _) _ _ s'
    refine wpAny_bind (wpAny_load raw ?_)
    exact wpAny_pure (q s' G' ts _ I' sm lt pr nw (by simpa using rw'))
  · have hb' : b = e ∨ b = it := by simpa using hb
    refine ⟨?_, (hf b hb).2⟩
    rcases hb' with w | w
    · rw [upd_ne (by rw [w]; exact Nat.ne_of_lt el)]
      exact (hf b hb).1
    · rw [upd_ne (by rw [w]; exact Nat.ne_of_lt itl)]
      exact (hf b hb).1
theorem eTuple {s : Shared} {Q' : Value → Shared → Prop} {E : Value → Shared → Prop} (I : Inv X pins σ H s) (hf : ∀ b ∈ [e, it], FpOk X pins H b) (he : IsEnum s.heap e it 0 .none) (hit : s.heap.IsListIter it l 0) (hl : s.heap.IsList l items)
    (hei : e ≠ it) (hle : l ≠ e) (hli : l ≠ it) (hh : A.handled = none) (hz : items.size ≤ sizeLine) (rv : Vals xs items.toList)
    (q : ∀ (s' : Shared) (G' : Hp) (ts : List Addr) (acc : List Value), Inv X pins σ G' s' → Same H G' → ts.length = items.size → EnP G' ts xs → (∀ t ∈ ts, H t = none) → Vals (ts.map V.ref) acc →
      Q' (.ref s'.heap.objs.size) { s' with heap := s'.heap.push { cls := .type "tuple", data := .seq acc.toArray } }) :
    codeAny (model X.prog X.w) A (.call (.builtin "tuple.__new__") ⟨[.type "tuple", .ref e], []⟩) (wants Q' E) s := by
  refine codeAny_of_tree ?_
  show wpAny _ A.in1 (do checkBuiltinCall "tuple.__new__" ⟨[.type "tuple", .ref e], []⟩; again (.builtin "tuple.__new__" ⟨[.type "tuple", .ref e], []⟩)) _ _ s
  refine wpAny_bind (wpAny_of_eq (F.newCall_tuple_1 _) (wpAny_pure ⟨plainId_quiet F.plain_tuple_new _, codeAny_builtin F.entry_tuple_new ?_⟩))
  rw [Around.under_plainId F.plain_tuple_new _]
  have hsub := sub_tuple_self
  have hinit := init_tuple_lookup
  have hmh := madeHere_tuple
  have hty : s.TypeIs (.ref e) "enumerate" := ⟨_, he, rfl⟩
  have hh1 : A.in1.handled = none := hh
  wp_walk using wpAny_typeOf hty, eCollect I hf he hit hl hei hle hli hh1 hz rv
  intro s' G' ts acc q1 q2 q3 q4 q5 q6
  show wpAny _ _ (Builtin.Tuple.tupleExact acc.toArray >>= fun v => ret v) _ _ _
  have sz : acc.toArray.size ≤ sizeLine := by
    have h1 := q6.length
    rw [List.length_map] at h1
    rw [List.size_toArray]
    omega
  exact wpAny_bind (m := Builtin.Tuple.tupleExact acc.toArray) (wpAny_newObj_type (wpAny_pure (q s' G' ts acc q1 q2 q3 q4 q5 q6)) sz)
theorem eCall {s : Shared} {Q' : Value → Shared → Prop} {E : Value → Shared → Prop} (I : Inv X pins σ H s) (hf : ∀ b ∈ [e, it], FpOk X pins H b) (he : IsEnum s.heap e it 0 .none) (hit : s.heap.IsListIter it l 0) (hl : s.heap.IsList l items)
    (hei : e ≠ it) (hle : l ≠ e) (hli : l ≠ it) (hh : A.handled = none) (hz : items.size ≤ sizeLine) (rv : Vals xs items.toList)
    (q : ∀ (s' : Shared) (G' : Hp) (ts : List Addr) (acc : List Value), Inv X pins σ G' s' → Same H G' → ts.length = items.size → EnP G' ts xs → (∀ t ∈ ts, H t = none) → Vals (ts.map V.ref) acc →
      Q' (.ref s'.heap.objs.size) { s' with heap := s'.heap.push { cls := .type "tuple", data := .seq acc.toArray } }) :
    wpAny (model X.prog X.w) A (call (.type "tuple") [.ref e]) Q' E s := by
  refine callType_codes (Q₁ := fun o s1 => s1.TypeIs o "tuple" ∧ Q' o s1) F.called_tuple (F.typeCall_tuple_1 _) F.entry_object_init
    (eTuple I hf he hit hl hei hle hli hh hz rv fun s' G' ts acc q1 q2 q3 q4 q5 q6 => ⟨⟨_, Heap.get?_push_size _ rfl, rfl⟩, q s' G' ts acc q1 q2 q3 q4 q5 q6⟩) fun o s1 h1 => ?_
  exact ⟨h1.1, F.args_object_init_2 o _, object_init_meets F.called_tuple.init.lookup F.called_tuple.made (by decide) X.prog X.w A.in1 _ s1 ⟨h1.1, rfl, h1.2⟩⟩
end
section
variable {X : Cx}
/-- what tuple(enumerate(l)) asks -/
def tEnumT (K : PySem.W.Frag) (ta : TA) : TE := fun σ H Q => ta σ H fun vs G => ∃ (a : Addr) (xs : List V), vs = [.ref a] ∧ SqL K G a xs ∧
  ∀ (q : Addr) (ts : List Addr) (F : Hp), Same G F → F q = none → ts.length = xs.length → EnP F ts xs → (∀ t ∈ ts, G t = none) → Q (.ref q) (upd F q (.tup (ts.map V.ref)))
theorem pe_tupEnum {e : Expr} {ta : TA} {p p2 pos pos2 : Pos} (hc : X.calm = true) (hg : Gl X "tuple") (hm : X.mg "tuple" = none) (hg2 : Gl X "enumerate") (hm2 : X.mg "enumerate" = none) (ha : PA X [e] ta)
    (hs : starEach [e] X.env = (false, eval e X.env) :: starEach [] X.env := by rfl)
    (hs2 : starEach [.Call (.Name "enumerate" p2) [e] [] pos2] X.env = (false, eval (.Call (.Name "enumerate" p2) [e] [] pos2) X.env) :: starEach [] X.env := by rfl) :
    PE X (.Call (.Name "tuple" p) [.Call (.Name "enumerate" p2) [e] [] pos2] [] pos) (tEnumT X.K ta) := by
  refine ⟨fun pins s σ H Q I h => ?_⟩
  refine Call_ (ld_blt I hg hm PyProof.Rows.boot_tuple (PyProof.Rows.callWith_type1 (args_cons (Call_ (ld_blt I hg2 hm2 PyProof.Rows.boot_enumerate (PyProof.Rows.callWith_type1 (thn (ha.run pos2 pins s σ H _ I h) fun us s1 ⟨vs, G, I1, rr, a, xs, ev, sq, q⟩ => ?_) hs rfl))) hs2) hs2 rfl))
  subst ev
  cases rr with
  | cons ra rr =>
    cases rr
    cases ra
    have hd : X.A.handled = none := I1.ok.hd hc
    obtain ⟨its, rv, p1, z1⟩ := I1.list sq
    have n1 := rv.length
    refine call_enumerate_list p1.isList fun h' he hit hsz kp => ?_
    refine args_nil ?_
    have I2 : Inv X pins σ G { s1 with heap := h' } := I1.kept kp
    have la := p1.lt
    have fp : ∀ b ∈ [s1.heap.objs.size + 1, s1.heap.objs.size], FpOk X pins G b := fun b hb => by
      have hb : b = s1.heap.objs.size + 1 ∨ b = s1.heap.objs.size := by simpa using hb
      have le : s1.heap.objs.size ≤ b := by
        rcases hb with w | w
        · rw [w]; exact Nat.le_succ _
        · rw [w]; exact Nat.le_refl _
      exact I1.fpOk le (I1.hok.fresh le)
    refine eCall I2 fp he hit (p1.isList.at fun o u => kp _ _ u) (Nat.succ_ne_self _) (Nat.ne_of_lt (Nat.lt_succ_of_lt la)) (Nat.ne_of_lt la) hd (by rw [List.size_toArray]; omega) (by simpa using rv) fun s' G' ts acc q1 q2 q3 q4 q5 q6 => ?_
    have fr : G' s'.heap.objs.size = none := q1.hok.fresh (Nat.le_refl _)
    have lt : ts.length = xs.length := by rw [q3, List.size_toArray, n1]
    have new : ObjOk X.prog X.w (upd G' s'.heap.objs.size (.tup (ts.map V.ref))) (s'.heap.push { cls := .type "tuple", data := .seq acc.toArray }) s'.heap.objs.size (.tup (ts.map V.ref)) := ⟨by rw [List.length_map]; omega, acc, q6, ⟨_, Heap.get?_push_size _ rfl, rfl, _, rfl⟩⟩
    exact ⟨.ref _, _, q1.laid (t' := s'.toks) (fun b u e => Heap.get?_push_of_some _ e) (Nat.le_refl _) new, rfl, q _ ts G' q2 fr lt q4 q5⟩
end
end Kz

/-! sum(list of lists, []) -/
namespace Ks
open PySem PySem.Spec PyProof.Rows L2
section
variable {prog : Program} {w : World} {A : Around} {R : Result → Shared → Prop} {I : Addr} {fp wr : List Addr} {n : Nat} {P : Nat → Value → Prop} {St : Nat → Heap → Prop}
def fl (rows : Nat → List Value) : Nat → Nat → List Value
  | 0, _ => []
  | k + 1, i => rows i ++ fl rows k (i + 1)
theorem code_sumL (W : Walks prog w A.in1 I fp wr n P St) (ref : Nat → Addr) (rows : Nat → List Value) (hval : ∀ i v, P i v → v = .ref (ref i)) (S : Addr) (hSf : S ∉ fp)
    (h0 : Heap) (hw0 : ∀ b ∈ wr, h0.get? b = none) (hS0 : h0.get? S = none) (hwl : ∀ i h b, St i h → b ∈ wr → b < h.objs.size) (hrow : ∀ i, i < n → ∃ m, IsL h0 (ref i) (rows i).toArray m) :
    ∀ (k i : Nat) (s : Shared) (t : Addr) (l : List Value) (c : Nat), n - i = k → i ≤ n → St i s.heap → (∀ b o, h0.get? b = some o → s.heap.get? b = some o) →
    s.heap.get? S = some { cls := .type "list", dict := none, data := .seq #[.ref t] c, slots := #[] } → (∃ m, IsL s.heap t l.toArray m) → t ≠ S → t ∉ wr → l.length + (fl rows k i).length ≤ sizeLine →
    (∀ h' tk t', (∀ b o, h0.get? b = some o → h'.get? b = some o) → (∃ m, IsL h' t' (l ++ fl rows k i).toArray m) → (k = 0 → t' = t) → (0 < k → h0.get? t' = none) → R (.ok (.ret (.ref t'))) { s with heap := h', toks := tk }) →
    codeAny (model prog w) A (.builtin "sum.loop" ⟨[.ref I, .ref S, rawInt 2, rawInt 0], []⟩) R s := by
  have hSw : S ∉ wr := fun h => hSf (W.sub _ h)
  intro k
  induction k with
  | zero =>
    intro i s t l c hk hi hst kp hS hl tS tw hz hR
    have hin : i = n := by omega
    subst hin
    refine codeAny_builtin F.entry_sum_loop ?_
    rw [Around.under_plainId F.plain_sum_loop _]
    show wpAny _ A.in1 (seqItems? (.ref S) >>= _) _ _ s
    refine wpAny_bind (wpAny_seqItems hS rfl ?_)
    show wpAny _ A.in1 (tryCatch (pyNext (.ref I)) _ >>= _) _ _ s
    refine wpAny_bind (wpAny_tryCatch (W.done s _ _ hst fun h' tk hm => ?_))
    obtain ⟨m, hl⟩ := hl
    refine wpAny_pure (hR h' tk t (fun b o e => hm b o (fun hb => by rw [hw0 b hb] at e; cases e) (kp _ _ e)) ⟨m, ?_⟩ (fun _ => rfl) fun h => absurd h (Nat.lt_irrefl 0))
    show IsL h' t (l ++ []).toArray m
    rw [List.append_nil]
    exact hm t _ tw hl
  | succ k ih =>
    intro i s t l c hk hi hst kp hS hl tS tw hz hR
    have hlt : i < n := by omega
    refine codeAny_builtin F.entry_sum_loop ?_
    rw [Around.under_plainId F.plain_sum_loop _]
    show wpAny _ A.in1 (seqItems? (.ref S) >>= _) _ _ s
    refine wpAny_bind (wpAny_seqItems hS rfl ?_)
    show wpAny _ A.in1 (tryCatch (pyNext (.ref I)) _ >>= _) _ _ s
    refine wpAny_bind (wpAny_tryCatch (W.item i s _ _ hlt hst fun v h' tk hP hst' hk' => ?_))
    obtain rfl := hval i v hP
    have hS' := hk' S _ hSw hS
    obtain ⟨m, hl⟩ := hl
    have hl' := hk' t _ tw hl
    obtain ⟨m2, hr0⟩ := hrow i hlt
    have kp' : ∀ b o, h0.get? b = some o → h'.get? b = some o := fun b o e => hk' b o (fun hb => by rw [hw0 b hb] at e; cases e) (kp _ _ e)
    have hr' := kp' _ _ hr0
    have hfl : (fl rows (k + 1) i).length = (rows i).length + (fl rows k (i + 1)).length := by
      show (rows i ++ fl rows k (i + 1)).length = _
      rw [List.length_append]
    show wpAny _ A.in1 ((holding [Value.ref (ref i)] (binaryOp .Add (.ref t) (.ref (ref i)))).attempt >>= _) _ _ _
    refine wpAny_bind (wpAny_attempt (wpAny_holding (PySem.P.add_list hl' hr' ?_ (by rw [List.size_toArray, List.size_toArray]; omega))))
    have ea : l.toArray ++ (rows i).toArray = (l ++ rows i).toArray := by simp
    rw [ea]
    have kP : ∀ b o, h'.get? b = some o → (h'.push { cls := .type "list", data := .seq (l ++ rows i).toArray }).get? b = some o := fun b o e => Heap.get?_push_of_some _ e
    have hT : IsL (h'.push { cls := .type "list", data := .seq (l ++ rows i).toArray }) h'.objs.size (l ++ rows i).toArray 0 := Heap.get?_push_size _ rfl
    have hSP := kP _ _ hS'
    have nT0 : h0.get? h'.objs.size = none := by
      cases z : h0.get? h'.objs.size with
      | none => rfl
      | some o => exact absurd (Heap.lt_size (kp' _ _ z)) (Nat.lt_irrefl _)
    have TS : h'.objs.size ≠ S := (Nat.ne_of_lt (Heap.lt_size hS')).symm
    have hstP := W.frame _ _ (h'.push { cls := .type "list", data := .seq (l ++ rows i).toArray }) hst' fun b _ o e => kP b o e
    have twn : h'.objs.size ∉ wr := fun hb => Nat.lt_irrefl _ (hwl _ _ _ hst' hb)
    show wpAny _ A.in1 (updateSeq S (fun _ => #[.ref h'.objs.size]) >>= _) _ _ _
    generalize hhP : h'.push { cls := .type "list", data := .seq (l ++ rows i).toArray } = hP' at kP hT hSP hstP ⊢
    generalize h'.objs.size = tn at hT nT0 TS twn ⊢
    refine wpAny_bind ?_
    refine wpAny_updateSeq hSP rfl ?_
    have hS2 := Heap.get?_update_self (Obj.mapSeq fun _ => #[Value.ref tn]) hSP rfl
    refine wpAny_bind (wpAny_letGo ?_)
    refine wpAny_bind ?_
    have u2 : ∀ {b o}, b ≠ S → hP'.get? b = some o → ((hP'.update S (Obj.mapSeq fun _ => #[Value.ref tn])).update S (Obj.mapSeq fun _ => #[Value.ref tn])).get? b = some o := fun {b o} hb e =>
      (Heap.get?_update_other _ _ (Ne.symm hb)).trans ((Heap.get?_update_other _ _ (Ne.symm hb)).trans e)
    refine wpAny_updateSeq hS2 rfl (wpAny_pure ⟨plainId_quiet F.plain_sum_loop _, ih (i + 1) _ tn (l ++ rows i) _ (by omega) hlt (W.frame _ _ _ hstP fun b hb o e => u2 (fun h => hSf (by rw [← h]; exact hb)) e)
      (fun b o e => u2 (fun h => by rw [h, hS0] at e; cases e) (kP _ _ (kp' _ _ e))) (Heap.get?_update_self _ hS2 rfl) ⟨0, u2 TS hT⟩ TS twn (by rw [List.length_append]; omega) fun h'' tk'' t'' k'' l'' e1 e2 => ?_⟩)
    refine hR h'' tk'' t'' k'' ?_ (fun h => absurd h (Nat.succ_ne_zero k)) fun _ => ?_
    · show ∃ m, IsL h'' t'' (l ++ (rows i ++ fl rows k (i + 1))).toArray m
      rw [← List.append_assoc]
      exact l''
    · rcases Nat.eq_zero_or_pos k with z | z
      · rw [e1 z]
        exact nT0
      · exact e2 z
end
theorem args_sum2 (a b : Value) : argsOk "sum" ⟨[a, b], []⟩ := by unfold argsOk; kernel_rfl
section
variable {prog : Program} {w : World} {A : Around} {E : Value → Shared → Prop} {s : Shared}
theorem call_sumL {a b : Addr} {items : List Value} {Q : Value → Shared → Prop} (hh : A.handled = none) (hl : s.heap.IsList a items.toArray) (ref : Nat → Addr) (rows : Nat → List Value) (hval : ∀ (i : Nat) (v : Value), items[i]? = some v → v = Value.ref (ref i))
    (hrow : ∀ i, i < items.length → ∃ m, IsL s.heap (ref i) (rows i).toArray m) (hb : ∃ m, IsL s.heap b #[] m) (hz : (fl rows items.length 0).length ≤ sizeLine)
    (h : ∀ h' tk t', (∀ b o, s.heap.get? b = some o → h'.get? b = some o) → (∃ m, IsL h' t' (fl rows items.length 0).toArray m) → (items.length = 0 → t' = b) → (0 < items.length → s.heap.get? t' = none) → Q (.ref t') { s with heap := h', toks := tk }) :
    wpAny (model prog w) A (call (.builtin "sum") [.ref a, .ref b]) Q E s := by
  have hlt : a < s.heap.objs.size := by obtain ⟨_, e, _⟩ := hl; exact Heap.lt_size e
  refine call_function_tree F.kind_sum F.plain_sum F.entry_sum (args_sum2 _ _) ?_
  unfold Builtin.«sum»
  simp only [List.length_cons, List.length_nil]
  rw [if_neg (by decide)]
  refine wpAny_bind (wpAny_of_eq (show Builtin.Builtins.bindParams "sum" ["start"] 0 ⟨[Value.ref b], []⟩ = pure [some (Value.ref b)] from rfl) ?_)
  refine wpAny_bind (wpAny_pyIter_list hl ?_)
  have kI : ∀ c o, s.heap.get? c = some o → (s.heap.push { cls := .type "list_iterator", data := .fields #[.ref a, .int 0 0] }).get? c = some o := fun c o e => Heap.get?_push_of_some _ e
  have stI : (s.heap.push { cls := .type "list_iterator", data := .fields #[.ref a, .int 0 0] }).IsListIter s.heap.objs.size a 0 ∧ (s.heap.push { cls := .type "list_iterator", data := .fields #[.ref a, .int 0 0] }).IsList a items.toArray := ⟨⟨_, Heap.get?_push_size _ rfl, rfl, rfl⟩, hl.push _⟩
  have szI : (s.heap.push { cls := .type "list_iterator", data := .fields #[.ref a, .int 0 0] }).objs.size = s.heap.objs.size + 1 := Heap.size_push _ _
  obtain ⟨mb, hb⟩ := hb
  dsimp only
  refine wpAny_bind (wpAny_pure ?_)
  simp only [List.forIn_cons, List.forIn_nil]
  refine wpAny_bind (wpAny_bind (wpAny_bind (wpAny_isInstance (T := "list") (b := false) ⟨_, kI _ _ hb, rfl⟩ F.sub_list_str ?_)))
  simp only [Bool.false_eq_true, if_false]
  refine wpAny_pure (wpAny_bind (wpAny_bind (wpAny_isInstance (T := "list") (b := false) ⟨_, kI _ _ hb, rfl⟩ F.sub_list_bytes ?_)))
  simp only [Bool.false_eq_true, if_false]
  refine wpAny_pure (wpAny_bind (wpAny_bind (wpAny_isInstance (T := "list") (b := false) ⟨_, kI _ _ hb, rfl⟩ F.sub_list_bytearray ?_)))
  simp only [Bool.false_eq_true, if_false]
  refine wpAny_pure (wpAny_pure ?_)
  refine wpAny_bind (wpAny_newObj_type ?_)
  generalize hhI : s.heap.push { cls := .type "list_iterator", data := .fields #[.ref a, .int 0 0] } = hI at kI stI szI ⊢
  have W := Walks.list (prog := prog) (w := w) (A := A.in1) hh s.heap.objs.size a (Nat.ne_of_lt hlt) items.toArray
  have nI : ∀ b o, s.heap.get? b = some o → b < s.heap.objs.size := fun b o e => Heap.lt_size e
  refine wpAny_pure ⟨plainId_quiet F.plain_sum_loop _, code_sumL W ref rows (fun i v hv => hval i v (by simpa using hv)) hI.objs.size ?_ s.heap (fun c hc => ?_) ?_ (fun i h c st hc => ?_) (fun i hi => hrow i (by simpa using hi)) items.length 0 _ b [] 0 ?_ (Nat.zero_le _)
    (W.frame _ _ _ stI fun c _ o e => Heap.get?_push_of_some _ e) (fun c o e => Heap.get?_push_of_some _ (kI c o e)) (Heap.get?_push_size _ rfl) ⟨mb, Heap.get?_push_of_some _ (kI _ _ hb)⟩ ?_ ?_ (by simpa using hz) fun h' tk t' k l e1 e2 => ?_⟩
  · intro hm
    rw [szI] at hm
    rcases List.mem_cons.mp hm with e | hm
    · exact absurd e (Nat.succ_ne_self _)
    · have e := List.mem_singleton.mp hm
      exact Nat.lt_irrefl _ (Nat.lt_of_succ_lt (by rw [← e] at hlt; exact hlt))
  · rw [List.mem_singleton.mp hc]
    cases z : s.heap.get? s.heap.objs.size with
    | none => rfl
    | some o => exact absurd (Heap.lt_size z) (Nat.lt_irrefl _)
  · cases z : s.heap.get? hI.objs.size with
    | none => rfl
    | some o =>
      have := nI _ _ z
      rw [szI] at this
      exact absurd (Nat.lt_of_succ_lt this) (Nat.lt_irrefl _)
  · rw [List.mem_singleton.mp hc]
    obtain ⟨⟨o, e, _⟩, _⟩ := st
    exact Heap.lt_size e
  · simp
  · intro e
    have := nI _ _ hb
    rw [e, szI] at this
    exact absurd (Nat.lt_of_succ_lt this) (Nat.lt_irrefl _)
  · intro e
    have := nI _ _ hb
    rw [List.mem_singleton.mp e] at this
    exact Nat.lt_irrefl _ this
  · exact h h' tk t' k (by simpa using l) e1 e2
end
theorem vals_fl (rows : Nat → List Value) : ∀ (rs : List (List V)) (i : Nat), (∀ (j : Nat) (r : List V), rs[j]? = some r → Vals r (rows (i + j))) → Vals rs.flatten (fl rows rs.length i)
  | [], _, _ => by
    rw [List.flatten_nil]
    exact Paired.nil
  | r :: rs, i, h => by
    rw [List.flatten_cons]
    show Vals (r ++ rs.flatten) (rows i ++ fl rows rs.length (i + 1))
    exact (h 0 r rfl).append (vals_fl rows rs (i + 1) fun j r' e => by
      have z := h (j + 1) r' e
      rw [show i + 1 + j = i + (j + 1) by omega]
      exact z)
section
variable {X : Cx}
/-- sum(list of lists, []) -/
def rSumL (K : PySem.W.Frag) : List V → Hp → VK → Prop := fun vs H Q => ∃ (a b : Addr) (ps : List Addr) (rs : List (List V)), vs = [.ref a, .ref b] ∧ SqL K H a (ps.map V.ref) ∧ H b = some (.lst []) ∧ ps.length = rs.length ∧ (∀ (i : Nat) (p : Addr) (r : List V), ps[i]? = some p → rs[i]? = some r → H p = some (.lst r)) ∧
  rs.flatten.length ≤ sizeLine ∧ (rs = [] → Q (.ref b) H) ∧ (rs ≠ [] → ∀ l, H l = none → Q (.ref l) (upd H l (.lst rs.flatten)))
theorem cr_sumL (hc : X.A.handled = none) : CallR X (.builtin "sum") (rSumL X.K) := by
  intro pins s σ H vs us Q I r h
  obtain ⟨a, b, ps, rs, rfl, hs, hbe, hl, hrow, hz, q0, q1⟩ := h
  cases r with
  | cons r1 r2 =>
    cases r2 with
    | cons r2 r3 =>
      cases r3
      cases r1
      cases r2
      obtain ⟨its, rv, hL, _⟩ := I.list hs
      obtain ⟨_, itsb, nb, rb, _, eb⟩ := I.lstM hbe
      cases rb
      have il : its.length = ps.length := by rw [← rv.length, List.length_map]
      have hval : ∀ (i : Nat) (v : Value), its[i]? = some v → v = Value.ref (ps.getD i 0) := fun i v e => by
        have li : i < ps.length := by rw [← il]; exact (List.getElem?_eq_some_iff.mp e).1
        have hp := List.getElem?_eq_getElem li
        obtain ⟨u, hu, r⟩ := Vals.get rv (i := i) (x := .ref ps[i]) (by rw [List.getElem?_map, hp]; rfl)
        rw [e] at hu
        cases hu
        cases r
        rw [List.getD_eq_getElem?_getD, hp]
        rfl
      have ex : ∀ i : Nat, ∃ l : List Value, ∀ (p : Addr) (r : List V), ps[i]? = some p → rs[i]? = some r → Vals r l ∧ ∃ m, IsL s.heap p l.toArray m := fun i => by
        cases e1 : ps[i]? with
        | none => exact ⟨[], fun p r h => nomatch h⟩
        | some p =>
          cases e2 : rs[i]? with
          | none => exact ⟨[], fun p r _ h => nomatch h⟩
          | some r =>
            obtain ⟨_, l, m, rl, _, el⟩ := I.lstM (hrow i p r e1 e2)
            refine ⟨l, fun p' r' h1 h2 => ?_⟩
            cases h1
            cases h2
            exact ⟨rl, m, el⟩
      obtain ⟨rows, hrows⟩ := Classical.axiomOfChoice ex
      have hv := vals_fl rows rs 0 fun j r e => by
        rw [Nat.zero_add]
        have lj : j < ps.length := by rw [hl]; exact (List.getElem?_eq_some_iff.mp e).1
        exact (hrows j _ r (List.getElem?_eq_getElem lj) e).1
      have el : its.length = rs.length := il.trans hl
      refine call_sumL hc hL.isList (fun i => ps.getD i 0) rows hval (fun i hi => ?_) ⟨nb, eb⟩ (by rw [el, ← hv.length]; exact hz) fun h' tk t' k l e1 e2 => ?_
      · have lj : i < ps.length := by rw [← il]; exact hi
        have lr : i < rs.length := by rw [← hl]; exact lj
        have z := (hrows i _ _ (List.getElem?_eq_getElem lj) (List.getElem?_eq_getElem lr)).2
        show ∃ m, IsL s.heap (ps.getD i 0) (rows i).toArray m
        rw [List.getD_eq_getElem?_getD, List.getElem?_eq_getElem lj]
        exact z
      · by_cases c : rs = []
        · have z := e1 (by rw [el, c]; rfl)
          subst z
          exact ⟨.ref t', H, I.kept k, rfl, q0 c⟩
        · have lp : 0 < its.length := by rw [el]; exact List.length_pos_iff.mpr c
          have nt := e2 lp
          have nH := I.hok.gone nt
          obtain ⟨m, l⟩ := l
          rw [el] at l
          exact ⟨.ref t', _, I.laidN (o := .lst rs.flatten) k nt nH ⟨hz, fl rows rs.length 0, m, hv, l⟩, rfl, q1 c t' nH⟩
end
end Ks

/-! {False: a, True: b}[e] -/
namespace Kz
open PySem PySem.Spec PyProof.Rows L2
theorem pe_yn {X : Cx} {e : Expr} {te : TE} {a b : Str} {j1 j2 j3 j4 : Nat} {p1 p2 p3 p4 p5 p6 : Pos} (he : PE X e te) (hs : PlainIx e) :
    PE X (.Subscript (.Dict [some (.Constant (.bool false) j1 p1), some (.Constant (.bool true) j2 p2)] [.Constant (.str a) j3 p3, .Constant (.str b) j4 p4] p5) e p6) (fun σ H Q => te σ H fun x H1 => ∃ k : Bool, x = .bl k ∧ Q (.str (if k = true then b else a)) H1) := by
  refine ⟨fun pins s σ H Q I h => ?_⟩
  refine Subscript_ ?_
  refine wpAny_Dict_walk (knd := PpSet.boolK X.prog X.w) rfl rfl (by simp) (show 2 ≤ 15 by decide) ?_
  refine pairTrees_cons_walk (Constant_bool (Calls.Constant_str (pairTrees_cons_walk (Constant_bool (Calls.Constant_str (pairTrees_nil_walk ?_))))))
  refine ⟨[(false, .str a s.toks), (true, .str b (s.toks + 1))], ⟨PpSet.boolK_is _ _ false, rfl, PpSet.boolK_is _ _ true, rfl, trivial⟩, Heap.DictOf.new _, fun h' dd sb => ?_⟩
  have keep : ∀ c o, s.heap.get? c = some o → h'.get? c = some o := fun c o e => sb.extBut c o (Nat.ne_of_lt (Heap.lt_size e)) (Heap.get?_push_of_some _ e)
  have lt : s.heap.objs.size < h'.objs.size := by
    have z := sb.1
    rw [z]
    show s.heap.objs.size < (s.heap.push _).objs.size
    rw [Heap.size_push]
    exact Nat.lt_succ_self _
  have I1 := I.kept (h' := h') (t' := s.toks + 1 + 1 + 2) keep
  obtain ⟨o, es, ep, ho, hc, hdt, hre⟩ := id dd
  have I3 : Inv X ((s.heap.objs.size, o) :: pins) σ H { s with heap := h', toks := s.toks + 1 + 1 + 2 } := I1.pins_of fun p hp => by
    rcases List.mem_cons.mp hp with hp | hp
    · rw [hp]
      exact ⟨ho, I.hok.fresh (Nat.le_refl _), Nat.ne_of_gt I.lt, I.nofs (Nat.le_refl _), fun v q => by rw [hdt] at q; cases q⟩
    · exact I1.pin p (List.mem_append_right _ hp)
  refine thn (he.run _ _ σ H _ I3 h) fun u s2 ⟨x, H2, I2, rx, k, ex, q⟩ => ?_
  subst ex
  obtain rfl : u = Value.bool k := rx
  have I4 : Inv X pins σ H2 s2 := I2.pins_of fun p hp => I2.pin p (List.mem_append_right _ (List.mem_cons_of_mem _ hp))
  have ho2 := (I2.pin (s.heap.objs.size, o) (List.mem_append_right _ List.mem_cons_self)).1
  have dd2 : s2.heap.DictOf (PpSet.boolK X.prog X.w) s.heap.objs.size (merged [] [(false, .str a s.toks), (true, .str b (s.toks + 1))]) := dd.at fun o' e => by
    rw [ho] at e
    cases e
    exact ho2
  refine tail_any dd2.typeIs slot_dict_getitem.lookup (wpAny_getItem_of (PpSet.boolK_is _ _ k) dd2.mapOf (v := .str (if k = true then b else a) (if k = true then s.toks + 1 else s.toks)) ?_ ⟨.str (if k = true then b else a), H2, I4.tok _, ⟨_, rfl⟩, q⟩) (hs _ _)
  cases k <;> rfl
end Kz

namespace Kq
open PySem PySem.Spec PyProof.Rows L2 Kf Kg Kv GxR Kk
abbrev tCalled : Stmt := tp 33
def ws8 : List Str := ["num", "open", "fun", "name", "yes", "list", "told", "fault"]
theorem ws8_ok : ∀ i : Fin 8, ((ws8.drop i.val ++ ws8.take i.val).take 3).length = 3 ∧ (∀ x ∈ (ws8.drop i.val ++ ws8.take i.val).take 3, nmS x = true) ∧ ((ws8.drop i.val ++ ws8.take i.val).take 3).Nodup := by decide +kernel
theorem cutHi (xs : List V) (n : Nat) : cutV xs none (some (n : Int)) = xs.take n := by
  unfold cutV
  rw [HT.sIx_nat, HT.sIx_none]
  show xs.take (min n xs.length) = _
  by_cases h : n ≤ xs.length
  · rw [Nat.min_eq_left h]
  · rw [Nat.min_eq_right (by omega), List.take_length, List.take_of_length_le (by omega)]
theorem cutLo (xs : List V) (n : Nat) : cutV xs (some (n : Int)) none = xs.drop n := by
  unfold cutV
  rw [HT.sIx_nat, HT.sIx_none]
  by_cases h : n ≤ xs.length
  · rw [Nat.min_eq_left h, List.take_of_length_le]
    rw [List.length_drop]
    exact Nat.le_refl _
  · rw [Nat.min_eq_right (by omega), List.drop_length, List.drop_of_length_le (by omega), List.take_nil]
/-- three unlike names -/
structure N3 (xs : List Str) : Prop where
  len : xs.length = 3
  nm : ∀ x ∈ xs, nmS x = true
  nd : xs.Nodup
section
variable {P : Program} {w : World} {K : PySem.W.Frag} {mg : Str → Option Value} {base : Heap}
abbrev psCalled : List Str := ["_law_deck_here", "_law_many"]
abbrev nCalled : List Str := ["_law_deck_here", "_law_many", "_law_words", "_law_at"]
theorem scCalled : FnScope nCalled psCalled (defScope tCalled) := ⟨rfl, rfl, rfl, by decide +kernel, rfl, by decide +kernel, by decide +kernel⟩
def spCalled : Sp := fun vs H Q _ => ∃ (d c : Addr), vs = [.ref d, .int 3] ∧ Dk H d c ∧ ∀ (l : Addr) (xs : List Str) (G : Hp), Kp d c H G → Dk G d c → H l = none → G l = some (.lst (xs.map V.str)) → N3 xs → Q (.ref l) G
theorem okCalled {f fD fN : Addr} {fd fdD fdN : FuncData} {k : Nat} (F : Fun K "_law_called" "_law_called" tCalled f fd)
    (GD : FnOk P w K mg base CX0 k fD fdD ["_law_deck_here", "_law_most"] spDraw) (bD : Binds K fdD ["_law_deck_here", "_law_most"] []) (gD : mg "_law_draw" = some (.ref fD)) (kD : PySem.W.keepIn K (.ref fD) = true)
    (GN : FnOk P w K mg base CX0 k fN fdN ["_law_deck_here", "_law_many"] spNames) (bN : Binds K fdN ["_law_deck_here", "_law_many"] []) (gN : mg "_law_names" = some (.ref fN)) (kN : PySem.W.keepIn K (.ref fN) = true) : FnOk P w K mg base CX0 (k + 1) f fd psCalled spCalled := by
  refine F.ok scCalled (fun vs H Q E h => ?_) (fun cdv A outer s H vs Q E hr h => ?_)
  · obtain ⟨d, c, rfl, _⟩ := h
    rfl
  obtain ⟨d, c, rfl, dk, q⟩ := h
  refine ⟨_, pss_cons (ps_set (i := 2) scCalled.nd rfl (.inl rfl) (pe_lst (pa_cons pe_str (pa_cons pe_str (pa_cons pe_str (pa_cons pe_str (pa_cons pe_str (pa_cons pe_str (pa_cons pe_str (pa_cons pe_str pa_nil))))))))))
    (pss_cons (ps_if (pt_cmpR op_eq (pe_call GD hr (by rfl) gD kD bD .nil pass0 (pa_cons (pv 0) (pa_cons pe_int pa_nil))) pe_int (nomark _))
      (pss_cons (ps_set (i := 3) scCalled.nd rfl (.inl rfl) (pe_call GD hr (by rfl) gD kD bD .nil pass0 (pa_cons (pv 0) (pa_cons pe_int pa_nil))))
      (pss_one (ps_ret (pe_slice sl_list (pe_op op_cat (pe_slice sl_list (pv 2) (po_some (pv 3)) po_none) (pe_slice sl_list (pv 2) po_none (po_some (pv 3)))) po_none (po_some (pv 1)))))) pss_nil)
    (pss_one (ps_ret (pe_call GN hr (by rfl) gN kN bN .nil pass0 (pa_cons (pv 0) (pa_cons (pv 1) pa_nil)))))), ?_⟩
  refine ⟨(by show 8 ≤ sizeLine; decide), fun W nW => ?_⟩
  have sW := newS (o := .lst (ws8.map V.str)) nW
  have gW : (upd H W (.lst (ws8.map V.str))) W = some (.lst (ws8.map V.str)) := upd_same
  have offW := dk.off nW
  have dk1 := dk.same sW
  refine ⟨_, rfl, d, c, 4, rfl, dk1, by decide, by decide, fun r G1 r0 r1 kp1 dk1' => ⟨rfl, _, rfl, ite2 (fun _ => ?_) (fun _ => ?_)⟩⟩
  · refine ⟨_, rfl, d, c, 8, rfl, dk1', by decide, by decide, fun at' G2 a0 a1 kp2 dk2 => ?_⟩
    have gW2 := kp2 W _ offW.1 offW.2 (kp1 W _ offW.1 offW.2 gW)
    obtain ⟨i, rfl⟩ : ∃ i : Nat, at' = (i : Int) := ⟨at'.toNat, by omega⟩
    refine ⟨_, rfl, _, rfl, (i : Int), rfl, W, _, rfl, SqL.of gW2, fun p1 n1 => ?_⟩
    have s1 := newS (o := .lst (cutV (ws8.map V.str) (some (i : Int)) none)) n1
    refine ⟨_, rfl, _, rfl, (i : Int), rfl, W, _, rfl, SqL.of (s1 _ _ gW2), fun p2 n2 => ?_⟩
    have s2 := newS (o := .lst (cutV (ws8.map V.str) none (some (i : Int)))) n2
    rw [cutLo] at s1 n2 s2
    rw [cutHi] at s2
    rw [cutLo, cutHi]
    refine ⟨p1, p2, _, _, rfl, rfl, s2 p1 _ upd_same, upd_same, ?_, fun p3 n3 => ?_⟩
    · rw [List.length_drop, List.length_take]
      exact sz (by
        have : (ws8.map V.str).length = 8 := rfl
        omega)
    have s3 := newS (o := .lst ((ws8.map V.str).drop i ++ (ws8.map V.str).take i)) n3
    refine ⟨_, rfl, ((3 : Nat) : Int), rfl, p3, _, rfl, SqL.of upd_same, fun p4 n4 => ?_⟩
    rw [cutHi]
    obtain ⟨h1, h2, h3⟩ := ws8_ok ⟨i, by omega⟩
    have s4 := newS (o := .lst (((ws8.map V.str).drop i ++ (ws8.map V.str).take i).take 3)) n4
    have sA := (s1.trans s2).trans (s3.trans s4)
    have kA : Kp d c H (upd (upd (upd (upd G2 p1 (.lst ((ws8.map V.str).drop i))) p2 (.lst ((ws8.map V.str).take i))) p3 (.lst ((ws8.map V.str).drop i ++ (ws8.map V.str).take i))) p4 (.lst (((ws8.map V.str).drop i ++ (ws8.map V.str).take i).take 3))) := (((Kp.of sW).trans kp1).trans kp2).trans (Kp.of sA)
    have nH : H p4 = none := by
      have k3 : Kp d c H (upd (upd (upd G2 p1 (.lst ((ws8.map V.str).drop i))) p2 (.lst ((ws8.map V.str).take i))) p3 (.lst ((ws8.map V.str).drop i ++ (ws8.map V.str).take i))) := (((Kp.of sW).trans kp1).trans kp2).trans (Kp.of ((s1.trans s2).trans s3))
      exact k3.free (dk2.same ((s1.trans s2).trans s3)) n4
    refine q p4 ((ws8.drop i ++ ws8.take i).take 3) _ kA (dk2.same sA) nH ?_ ⟨h1, h2, h3⟩
    rw [upd_same, List.map_take, List.map_append, List.map_drop, List.map_take]
  · refine ⟨_, rfl, _, rfl, d, c, 3, rfl, dk1', by decide, by decide, fun l xs G2 kp2 dk2 nl gl lx hx nd => ?_⟩
    have k1 : Kp d c H G1 := (Kp.of sW).trans kp1
    exact q l xs G2 (k1.trans kp2) dk2 (k1.free dk1' nl) gl ⟨lx, fun x h => nmS_of (hx x h), nd⟩
end
/-! worths as items, how deep, how great -/
structure Wg (W D : Nat) (i : Wi) : Prop where
  rl : i.rl = "worth"
  ok : ok i
  lo : i.d.loc 20 (10 ^ 44)
  wt : i.d.wt ≤ W
  dp : i.d.dp ≤ D
theorem Wg.up {W D W' D' : Nat} {i : Wi} (h : Wg W D i) (a : W ≤ W') (b : D ≤ D') : Wg W' D' i := ⟨h.rl, h.ok, h.lo, Nat.le_trans h.wt a, Nat.le_trans h.dp b⟩
theorem b44 {k : Nat} (h : k ≤ 1000000000) : k < 10 ^ 44 := Nat.lt_of_le_of_lt h (by decide +kernel)
theorem b43 {k : Nat} (h : k ≤ 1000000000) : k < 10 ^ 4300 := Nat.lt_of_lt_of_le (Nat.lt_of_le_of_lt h (show 1000000000 < 10 ^ 10 by decide)) (Nat.pow_le_pow_right (by decide) (by decide))
theorem loN {L B : Nat} {xs : List Dt} (hl : xs.length ≤ L) (h : ∀ x ∈ xs, x.loc L B) : (Dt.tup xs).loc L B := loc_tup.mpr ⟨hl, h⟩
theorem lo_str {x : Str} (h : (x.cps.toList.all fun c => decide (c < 128)) = true) (l : x.length ≤ 20) : (Dt.str x).loc 20 (10 ^ 44) := loc_str.mpr (ascLit h l)
theorem lo_num {k : Nat} (h : k ≤ 1000000000) : (Dt.int (k : Int)).loc 20 (10 ^ 44) := by
  rw [loc_int, Int.natAbs_natCast]
  exact b44 h
theorem lo_nm {a : Str} (h : nmS a = true) : (Dt.str a).loc 20 (10 ^ 44) := by
  refine loc_str.mpr ⟨fun c hc => ?_, by have := nmS_len h; omega⟩
  unfold nmS at h
  have z := List.all_eq_true.mp (Bool.and_eq_true_iff.mp h).2 c hc
  have m : c ∈ lets.cps.toList := of_decide_eq_true z
  have q : ∀ c ∈ lets.cps.toList, c < 128 := by decide +kernel
  exact q c m
theorem wts_le {W : Nat} : ∀ {l : List Dt}, (∀ y ∈ l, y.wt ≤ W) → Dt.wts l ≤ (W + 2) * l.length
  | [], _ => by simp only [Dt.wts]; omega
  | a :: l, h => by
    have h1 := h a List.mem_cons_self
    have h2 := wts_le (l := l) fun y hy => h y (List.mem_cons_of_mem _ hy)
    rw [List.length_cons, Nat.mul_succ]
    simp only [Dt.wts]
    omega
def numW (k : Nat) : Wi := .mk "worth" (numS k) true (.int k) []
def numN (k : Nat) : Wi := .mk "number" (numS k) true (.int k) []
def namN (a : Str) : Wi := .mk "name" a true (.str a) []
def truW (b : Bool) : Wi := .mk "worth" (yn b) true (.bl b) []
def itmN (is : List Wi) : Wi := .mk "items" (numS is.length) false (.tup (is.map Wi.d)) is
def frmW (w : Str) (ps : List Wi) : Wi := .mk "worth" w false (.tup (.str w :: ps.map Wi.d)) ps
theorem numN_ok {k : Nat} (h : k ≤ 1000000000) : ok (numN k) := ok_of (.num k (b43 h)) (fun p hp => nomatch hp)
theorem namN_ok {a : Str} (h : nmS a = true) : ok (namN a) := ok_of (.nam a h) (fun p hp => nomatch hp)
theorem itmN_ok {is : List Wi} (hl : is.length ≤ 1000) (h : ∀ i ∈ is, i.rl = "worth" ∧ ok i) : ok (itmN is) := by
  refine ok_of (.itm is.length is hl ?_) (fun p hp => (h p hp).2)
  refine List.eq_replicate_iff.mpr ⟨by rw [List.length_map], fun b hb => ?_⟩
  obtain ⟨i, hi, rfl⟩ := List.mem_map.mp hb
  exact (h i hi).1
theorem frmW_ok {w : Str} {ps : List Wi} (h : tblW.lookup w = some (ps.map Wi.rl)) (hp : ∀ p ∈ ps, ok p) : ok (frmW w ps) := ok_of (.frm "worth" w ps (fRl_w (.inl rfl) h)) hp
theorem wg_num {k : Nat} (h : k ≤ 1000000000) : Wg 300 1 (numW k) := ⟨rfl, ok_of (.wnm "worth" k (.inl rfl) (b43 h)) (fun p hp => nomatch hp), lo_num h, by show (Dt.int k).wt ≤ 300; simp only [Dt.wt]; omega, by show (Dt.int k).dp ≤ 1; simp only [Dt.dp]; omega⟩
theorem wg_tru (b : Bool) : Wg 300 1 (truW b) := ⟨rfl, ok_of (.wtr "worth" b (.inl rfl)) (fun p hp => nomatch hp), by show (Dt.bl b).loc 20 (10 ^ 44); unfold Dt.loc; trivial, by show (Dt.bl b).wt ≤ 300; simp only [Dt.wt]; omega, by show (Dt.bl b).dp ≤ 1; simp only [Dt.dp]; omega⟩
theorem wg_frm {w : Str} {ps : List Wi} {W D : Nat} (h : tblW.lookup w = some (ps.map Wi.rl)) (hw : w.length ≤ 6) (ha : (w.cps.toList.all fun c => decide (c < 128)) = true) (hl : ps.length ≤ 2) (hp : ∀ p ∈ ps, ok p ∧ p.d.loc 20 (10 ^ 44) ∧ p.d.wt ≤ W ∧ p.d.dp ≤ D) : Wg ((W + 2) * ps.length + 80) (D + 1) (frmW w ps) := by
  refine ⟨rfl, frmW_ok h fun p m => (hp p m).1, loN (by rw [List.length_cons, List.length_map]; omega) (fun x hx => ?_), ?_, ?_⟩
  · rcases List.mem_cons.mp hx with rfl | hx
    · exact lo_str ha (by omega)
    · obtain ⟨p, m, rfl⟩ := List.mem_map.mp hx
      exact (hp p m).2.1
  · have z := wts_le (l := ps.map Wi.d) (W := W) fun y hy => by
      obtain ⟨p, m, rfl⟩ := List.mem_map.mp hy
      exact (hp p m).2.2.1
    rw [List.length_map] at z
    show (Dt.tup (.str w :: ps.map Wi.d)).wt ≤ _
    simp only [Dt.wt, Dt.wts]
    omega
  · have z := dps_le' (n := D) (xs := ps.map Wi.d) fun y hy => by
      obtain ⟨p, m, rfl⟩ := List.mem_map.mp hy
      exact (hp p m).2.2.2
    show (Dt.tup (.str w :: ps.map Wi.d)).dp ≤ _
    simp only [Dt.dp, Dt.dps]
    omega
theorem Wg.in {W D : Nat} {i : Wi} (h : Wg W D i) : Kq.ok i ∧ i.d.loc 20 (10 ^ 44) ∧ i.d.wt ≤ W ∧ i.d.dp ≤ D := ⟨h.ok, h.lo, h.wt, h.dp⟩
theorem numN_in {k : Nat} (h : k ≤ 1000000000) {W D : Nat} (hW : 100 ≤ W) : ok (numN k) ∧ (numN k).d.loc 20 (10 ^ 44) ∧ (numN k).d.wt ≤ W ∧ (numN k).d.dp ≤ D := ⟨numN_ok h, lo_num h, by show (Dt.int k).wt ≤ W; simp only [Dt.wt]; omega, by show (Dt.int k).dp ≤ D; simp only [Dt.dp]; omega⟩
theorem namN_in {a : Str} (h : nmS a = true) {W D : Nat} (hW : 100 ≤ W) : ok (namN a) ∧ (namN a).d.loc 20 (10 ^ 44) ∧ (namN a).d.wt ≤ W ∧ (namN a).d.dp ≤ D := ⟨namN_ok h, lo_nm h, by have := nmS_len h; show (Dt.str a).wt ≤ W; simp only [Dt.wt]; omega, by show (Dt.str a).dp ≤ D; simp only [Dt.dp]; omega⟩
theorem itmN_in {is : List Wi} {W D n : Nat} (hl : is.length ≤ n) (hn : n ≤ 20) (h : ∀ i ∈ is, Wg W D i) : ok (itmN is) ∧ (itmN is).d.loc 20 (10 ^ 44) ∧ (itmN is).d.wt ≤ (W + 2) * n + 10 ∧ (itmN is).d.dp ≤ D + 1 := by
  refine ⟨itmN_ok (by omega) fun i hi => ⟨(h i hi).rl, (h i hi).ok⟩, loN (by rw [List.length_map]; omega) (fun x hx => ?_), ?_, ?_⟩
  · obtain ⟨p, m, rfl⟩ := List.mem_map.mp hx
    exact (h p m).lo
  · have z := wts_le (l := is.map Wi.d) (W := W) fun y hy => by
      obtain ⟨p, m, rfl⟩ := List.mem_map.mp hy
      exact (h p m).wt
    rw [List.length_map] at z
    have z2 := Nat.mul_le_mul_left (W + 2) hl
    show (Dt.tup (is.map Wi.d)).wt ≤ _
    simp only [Dt.wt]
    omega
  · have z := dps_le' (n := D) (xs := is.map Wi.d) fun y hy => by
      obtain ⟨p, m, rfl⟩ := List.mem_map.mp hy
      exact (h p m).dp
    show (Dt.tup (is.map Wi.d)).dp ≤ _
    simp only [Dt.dp]
    omega
end Kq

namespace Kq
open PySem PySem.Spec PyProof.Rows L2 Kf Kg Kv GxR Kk
abbrev tDatum : Stmt := tp 34
def db : Nat → Nat
  | 0 => 400
  | n + 1 => 7 * db n + 800
theorem db_ge : ∀ n, 400 ≤ db n
  | 0 => Nat.le_refl _
  | n + 1 => by
    have := db_ge n
    show 400 ≤ 7 * db n + 800
    omega
abbrev psDatum : List Str := ["_law_deck_here", "_law_names_here", "_law_deep_here"]
abbrev nDatum : List Str := ["_law_deck_here", "_law_names_here", "_law_deep_here", "_law_way", "_law_some", "_law_k"]
section
variable {P : Program} {w : World} {K : PySem.W.Frag} {mg : Str → Option Value} {base : Heap}
theorem scDatum : FnScope nDatum psDatum (defScope tDatum) := ⟨rfl, rfl, rfl, by decide +kernel, rfl, by decide +kernel, by decide +kernel⟩
def spDatum (n : Nat) : Sp := fun vs H Q _ => ∃ (d c o : Addr) (xs : List Str) (g : Nat), vs = [.ref d, .ref o, .int (g : Int)] ∧ g + 1 ≤ n ∧ Dk H d c ∧ H o = some (.lst (xs.map V.str)) ∧ o ≠ d ∧ o ≠ c ∧ N3 xs ∧
  ∀ (v : V) (i : Wi) (G : Hp), Kp d c H G → Dk G d c → Dd Non G i.d v → Wg (db g) (2 * g + 1) i → Q v G
theorem okDatum1 {f fD : Addr} {fd fdD : FuncData} {n k : Nat} (F : Fun K "_law_datum" "_law_datum" tDatum f fd) (bF : Binds K fd psDatum []) (gF : mg "_law_datum" = some (.ref f))
    (GD : FnOk P w K mg base CX0 k fD fdD ["_law_deck_here", "_law_most"] spDraw) (bD : Binds K fdD ["_law_deck_here", "_law_most"] []) (gD : mg "_law_draw" = some (.ref fD)) (kD : PySem.W.keepIn K (.ref fD) = true)
    (GI : FnOk P w K mg base CX0 k f fd psDatum (spDatum n)) (ml : mg "len" = none) (mt : mg "tuple" = none) (mi : mg "int" = none) (mr : mg "range" = none) : FnOk P w K mg base CX0 (k + 1) f fd psDatum (spDatum (n + 1)) := by
  refine F.ok scDatum (fun vs H Q E h => ?_) (fun cdv A outer s H vs Q E hr h => ?_)
  · obtain ⟨d, c, o, xs, g, rfl, _⟩ := h
    rfl
  obtain ⟨d, c, o, xs, g, rfl, gn, dk, ho, od, oc, n3, q⟩ := h
  refine ⟨_, pss_cons (ps_set (i := 3) scDatum.nd rfl (.inl rfl) (pe_call GD hr (by rfl) gD kD bD .nil pass0 (pa_cons (pv 0) (pa_cons (pe_ix ix_list (pe_lst (pa_cons pe_int (pa_cons pe_int pa_nil))) (pe_callTy call_int1 (by rfl) mi (by decide +kernel) (pa_cons (pe_cmpR op_gt (pv 2) pe_int (nomark _)) pa_nil)) (fun _ _ => rfl)) pa_nil))))
    (pss_cons (ps_if (pt_cmpR op_eq (pv 3) pe_int (nomark _)) (pss_one (ps_ret (pe_cmpR op_eq (pe_call GD hr (by rfl) gD kD bD .nil pass0 (pa_cons (pv 0) (pa_cons pe_int pa_nil))) pe_int (nomark _)))) pss_nil)
    (pss_cons (ps_if (pt_cmpR op_eq (pv 3) pe_int (nomark _)) (pss_one (ps_ret (pe_ix ix_list (pe_lst (pa_cons pe_int (pa_cons pe_int (pa_cons pe_int (pa_cons (pe_call GD hr (by rfl) gD kD bD .nil pass0 (pa_cons (pv 0) (pa_cons (pe_op op_add (pe_op op_pow pe_int pe_int) pe_int) pa_nil))) (pa_cons (pe_op op_pow pe_int pe_int) pa_nil))))))
      (pe_call GD hr (by rfl) gD kD bD .nil pass0 (pa_cons (pv 0) (pa_cons pe_int pa_nil))) (fun _ _ => rfl)))) pss_nil)
    (pss_cons (ps_if (pt_cmpR op_lt (pv 3) pe_int (nomark _)) (pss_one (ps_ret (pe_tup (pa_cons pe_str (pa_cons (pe_ix ix_list (pv 1) (pe_call GD hr (by rfl) gD kD bD .nil pass0 (pa_cons (pv 0) (pa_cons (pe_callB call_len_seq (by rfl) ml PySem.boot_len (pa_cons (pv 1) pa_nil)) pa_nil))) (fun _ _ => rfl))
      (pa_cons (pe_call GD hr (by rfl) gD kD bD .nil pass0 (pa_cons (pv 0) (pa_cons (pe_ix ix_list (pe_lst (pa_cons pe_int (pa_cons pe_int pa_nil))) (pe_call GD hr (by rfl) gD kD bD .nil pass0 (pa_cons (pv 0) (pa_cons pe_int pa_nil))) (fun _ _ => rfl)) pa_nil))) pa_nil)))))) pss_nil)
    (pss_cons (ps_if (pt_cmpR op_lt (pv 3) pe_int (nomark _)) (pss_one (ps_ret (pe_tup (pa_cons (pe_ix ix_list (pe_lst (pa_cons pe_str (pa_cons pe_str pa_nil))) (pe_op op_sub (pv 3) pe_int) (fun _ _ => rfl)) (pa_cons (pe_call GI hr (by rfl) gF F.kp bF .nil pass0 (pa_cons (pv 0) (pa_cons (pv 1) (pa_cons (pe_op op_sub (pv 2) pe_int) pa_nil)))) pa_nil))))) pss_nil)
    (pss_cons (ps_if (pt_cmpR op_eq (pv 3) pe_int (nomark _)) (pss_one (ps_ret (pe_tup (pa_cons pe_str (pa_cons (pe_call GI hr (by rfl) gF F.kp bF .nil pass0 (pa_cons (pv 0) (pa_cons (pv 1) (pa_cons (pe_op op_sub (pv 2) pe_int) pa_nil)))) (pa_cons (pe_call GI hr (by rfl) gF F.kp bF .nil pass0 (pa_cons (pv 0) (pa_cons (pv 1) (pa_cons (pe_op op_sub (pv 2) pe_int) pa_nil)))) pa_nil)))))) pss_nil)
    (pss_cons (ps_if (pt_cmpR op_eq (pv 3) pe_int (nomark _)) (pss_one (ps_ret (pe_tup (pa_cons pe_str (pa_cons (pe_callTy call_tuple_of (by rfl) mt PyProof.Rows.boot_tuple (pa_cons (pe_lc (own := [("_law_k", 5)]) (g := gName 5) (by rfl) scDatum.nd (pi_range1 (by rfl) mr (pa_cons (pe_call GD hr (by rfl) gD kD bD .nil pass0 (pa_cons (pv 0) (pa_cons pe_int pa_nil))) pa_nil)) (blkOk_by (own := [("_law_k", 5)]) (N := nDatum) (sc := defScope tDatum) (by decide +kernel))
      (fun _ _ _ _ _ => pg_name (i := 5) scDatum.nd rfl (.inl rfl)) (fun _ _ _ _ _ => pts_nil) (fun _ _ _ _ _ => pe_call GI hr (by rfl) gF F.kp bF .nil pass0 (pa_cons (pv 0) (pa_cons (pv 1) (pa_cons (pe_op op_sub (pv 2) pe_int) pa_nil))))) pa_nil)) pa_nil))))) pss_nil)
    (pss_cons (ps_set (i := 4) scDatum.nd rfl (.inl rfl) (pe_callTy call_tuple_of (by rfl) mt PyProof.Rows.boot_tuple (pa_cons (pe_lc (own := [("_law_k", 5)]) (g := gName 5) (by rfl) scDatum.nd (pi_range1 (by rfl) mr (pa_cons (pe_op op_add pe_int (pe_call GD hr (by rfl) gD kD bD .nil pass0 (pa_cons (pv 0) (pa_cons pe_int pa_nil)))) pa_nil)) (blkOk_by (own := [("_law_k", 5)]) (N := nDatum) (sc := defScope tDatum) (by decide +kernel))
      (fun _ _ _ _ _ => pg_name (i := 5) scDatum.nd rfl (.inl rfl)) (fun _ _ _ _ _ => pts_nil) (fun _ _ _ _ _ => pe_call GI hr (by rfl) gF F.kp bF .nil pass0 (pa_cons (pv 0) (pa_cons (pv 1) (pa_cons (pe_op op_sub (pv 2) pe_int) pa_nil))))) pa_nil)))
    (pss_one (ps_ret (pe_tup (pa_cons pe_str (pa_cons (pe_call GD hr (by rfl) gD kD bD .nil pass0 (pa_cons (pv 0) (pa_cons pe_int pa_nil))) (pa_cons (pv 4) pa_nil))))))))))))), ?_⟩
  have l3 := n3.len
  have lx : (xs.map V.str).length = 3 := by rw [List.length_map]; exact l3
  have z2 : 2 ≤ sizeLine := by decide
  have z3 : 3 ≤ sizeLine := by decide
  refine ⟨_, rfl, z2, fun l1 m1 => ?_⟩
  have e1 := newS (o := .lst [V.int 4, .int 9]) m1
  have g1 : (upd H l1 (.lst [V.int 4, .int 9])) l1 = some (.lst [V.int 4, .int 9]) := upd_same
  generalize upd H l1 (.lst [V.int 4, .int 9]) = F1 at e1 g1
  obtain ⟨m, hm, am⟩ : ∃ m : Nat, (m = 4 ∨ (m = 9 ∧ 0 < g)) ∧ atI [V.int 4, .int 9] (if decide ((0 : Int) < (g : Int)) = true then 1 else 0) = some (.int (m : Int)) := by
    by_cases hg : 0 < g
    · refine ⟨9, .inr ⟨rfl, hg⟩, ?_⟩
      rw [if_pos (decide_eq_true (by omega))]
      exact atI_nat (j := 1) rfl
    · refine ⟨4, .inl rfl, ?_⟩
      rw [if_neg (by simp; omega)]
      exact atI_nat (j := 0) rfl
  refine ⟨_, rfl, _, _, rfl, rfl, .inr ⟨_, rfl, l1, _, _, _, rfl, rfl, SqL.of g1, am, d, c, (m : Int), rfl, dk.same e1, by omega, by omega, fun wy G1 w0 w1 kp1 dk1 => ?_⟩⟩
  have kpA : Kp d c H G1 := (Kp.of e1).trans kp1
  have ho1 := kpA o _ od oc ho
  clear e1 g1 am
  refine ⟨_, rfl, rfl, _, rfl, ite2 (fun _ => ?b0) (fun n0 => ?_)⟩
  case b0 =>
    refine ⟨_, rfl, d, c, 2, rfl, dk1, by decide, by decide, fun r G2 r0 r1 kp2 dk2 => ⟨rfl, ?_⟩⟩
    exact q _ (truW (decide (V.int r = V.int 1))) G2 (kpA.trans kp2) dk2 (.bl _) ((wg_tru _).up (Nat.le_trans (by decide) (db_ge g)) (by omega))
  have n0 : wy ≠ 0 := fun e => n0 (decide_eq_true (by rw [e]))
  refine ⟨_, rfl, rfl, _, rfl, ite2 (fun _ => ?b1) (fun n1 => ?_)⟩
  case b1 =>
    refine ⟨_, rfl, _, _, rfl, rfl, ⟨by decide, by decide, by decide⟩, _, _, rfl, rfl, d, c, 10 ^ 9 + 1, rfl, dk1, by decide, by decide, fun r G2 r0 r1 kp2 dk2 => ⟨_, _, rfl, rfl, ⟨by decide, by decide, by decide⟩, by show 5 ≤ sizeLine; decide, fun l2 m2 => ?_⟩⟩
    have e2 := newS (o := .lst [V.int 0, .int 1, .int 10, .int r, .int (10 ^ (9 : Int).toNat)]) m2
    have g2 : (upd G2 l2 (.lst [V.int 0, .int 1, .int 10, .int r, .int (10 ^ (9 : Int).toNat)])) l2 = some (.lst [V.int 0, .int 1, .int 10, .int r, .int (10 ^ (9 : Int).toNat)]) := upd_same
    generalize upd G2 l2 (.lst [V.int 0, .int 1, .int 10, .int r, .int (10 ^ (9 : Int).toNat)]) = F2 at e2 g2
    have p9 : (10 : Int) ^ (9 : Int).toNat = 1000000000 := by decide
    have p9' : (10 : Int) ^ 9 + 1 = 1000000001 := by decide
    have r1' : r < 1000000001 := by rw [← p9']; exact r1
    refine ⟨_, rfl, d, c, 5, rfl, dk2.same e2, by decide, by decide, fun r' G3 r0' r1' kp3 dk3 => ?_⟩
    obtain ⟨k, hk, ak⟩ : ∃ k : Nat, k ≤ 1000000000 ∧ atI [V.int 0, .int 1, .int 10, .int r, .int (10 ^ (9 : Int).toNat)] r' = some (.int (k : Int)) := by
      rcases (by omega : r' = ((0 : Nat) : Int) ∨ r' = ((1 : Nat) : Int) ∨ r' = ((2 : Nat) : Int) ∨ r' = ((3 : Nat) : Int) ∨ r' = ((4 : Nat) : Int)) with e | e | e | e | e
      · exact ⟨0, by decide, by rw [e]; exact atI_nat rfl⟩
      · exact ⟨1, by decide, by rw [e]; exact atI_nat rfl⟩
      · exact ⟨10, by decide, by rw [e]; exact atI_nat rfl⟩
      · exact ⟨r.toNat, by omega, by rw [e, show ((r.toNat : Nat) : Int) = r by omega]; exact atI_nat rfl⟩
      · exact ⟨1000000000, by decide, by rw [e, p9]; exact atI_nat rfl⟩
    have off := dk2.off m2
    exact ⟨l2, _, _, _, rfl, rfl, SqL.of (kp3 l2 _ off.1 off.2 g2), ak, q _ (numW k) G3 (kpA.trans (kp2.trans ((Kp.of e2).trans kp3))) dk3 (.int _) ((wg_num hk).up (Nat.le_trans (by decide) (db_ge g)) (by omega))⟩
  have n1 : wy ≠ 1 := fun e => n1 (decide_eq_true (by rw [e]))
  refine ⟨_, rfl, _, _, rfl, rfl, _, rfl, ite2 (fun _ => ?b2) (fun n2 => ?_)⟩
  case b2 =>
    refine ⟨_, rfl, _, rfl, _, rfl, o, _, rfl, .inl (SqL.of ho1), d, c, _, rfl, dk1, by rw [lx]; decide, by rw [lx]; decide, fun r G2 r0 r1 kp2 dk2 => ?_⟩
    rw [lx] at r1
    obtain ⟨a, ha, aa⟩ : ∃ a ∈ xs, atI (xs.map V.str) r = some (.str a) := by
      have lr : r.toNat < xs.length := by omega
      refine ⟨xs[r.toNat], List.getElem_mem lr, ?_⟩
      have z := atI_nat (xs := xs.map V.str) (j := r.toNat) (v := .str xs[r.toNat]) (by rw [List.getElem?_map, List.getElem?_eq_getElem lr]; rfl)
      rw [show ((r.toNat : Nat) : Int) = r by omega] at z
      exact z
    have ho2 := kp2 o _ od oc ho1
    refine ⟨o, _, _, _, rfl, rfl, SqL.of ho2, aa, _, rfl, z2, fun l2 m2 => ?_⟩
    have e2 := newS (o := .lst [V.int 3, .int 100]) m2
    have g2 : (upd G2 l2 (.lst [V.int 3, .int 100])) l2 = some (.lst [V.int 3, .int 100]) := upd_same
    generalize upd G2 l2 (.lst [V.int 3, .int 100]) = F2 at e2 g2
    refine ⟨_, rfl, d, c, 2, rfl, dk2.same e2, by decide, by decide, fun r' G3 r0' r1' kp3 dk3 => ?_⟩
    obtain ⟨m, hm0, hm, am⟩ : ∃ m : Nat, 0 < m ∧ m ≤ 100 ∧ atI [V.int 3, .int 100] r' = some (.int (m : Int)) := by
      rcases (by omega : r' = ((0 : Nat) : Int) ∨ r' = ((1 : Nat) : Int)) with e | e
      · exact ⟨3, by decide, by decide, by rw [e]; exact atI_nat rfl⟩
      · exact ⟨100, by decide, by decide, by rw [e]; exact atI_nat rfl⟩
    have off := dk2.off m2
    refine ⟨l2, _, _, _, rfl, rfl, SqL.of (kp3 l2 _ off.1 off.2 g2), am, d, c, (m : Int), rfl, dk3, by omega, by omega, fun r4 G4 r40 r41 kp4 dk4 => ⟨z3, fun t1 m3 => ?_⟩⟩
    obtain ⟨k, rfl⟩ : ∃ k : Nat, r4 = (k : Int) := ⟨r4.toNat, by omega⟩
    have e4 := newS (o := .tup [V.str "thing", .str a, .int (k : Int)]) m3
    have kpB := kpA.trans (kp2.trans ((Kp.of e2).trans (kp3.trans kp4)))
    have wg := wg_frm (w := "thing") (ps := [namN a, numN k]) (W := 100) (D := 0) (by show _ = some [("name" : Str), ("number" : Str)]; decide +kernel) (by decide) (by decide +kernel) (by show 2 ≤ 2; decide) fun p hp => by
      rcases List.mem_cons.mp hp with rfl | hp
      · exact namN_in (n3.nm a ha) (by decide)
      · rw [List.mem_singleton.mp hp]
        exact numN_in (by omega) (by decide)
    exact q _ (frmW "thing" [namN a, numN k]) _ (kpB.trans (Kp.of e4)) (dk4.same e4) (.tup upd_same (.cons (.str _) (.cons (.str _) (.cons (.int _) .nil)))) (wg.up (Nat.le_trans (show (100 + 2) * 2 + 80 ≤ 400 by decide) (db_ge g)) (by omega))
  have n2 : 4 ≤ wy := by
    rcases Int.lt_or_le wy 4 with h | h
    · exact absurd (decide_eq_true h) n2
    · exact h
  obtain ⟨g, rfl⟩ : ∃ g', g = g' + 1 := ⟨g - 1, by omega⟩
  refine ⟨_, rfl, _, _, rfl, rfl, _, rfl, ite2 (fun n4 => ?b4) (fun n4 => ?_)⟩
  case b4 =>
    have n4 := of_decide_eq_true n4
    refine ⟨z2, fun l2 m2 => ?_⟩
    have e2 := newS (o := .lst [V.str "left", .str "right"]) m2
    have g2 : (upd G1 l2 (.lst [V.str "left", .str "right"])) l2 = some (.lst [V.str "left", .str "right"]) := upd_same
    generalize upd G1 l2 (.lst [V.str "left", .str "right"]) = F2 at e2 g2
    obtain ⟨wd, hw, aw⟩ : ∃ wd : Str, (wd = "left" ∨ wd = "right") ∧ atI [V.str "left", .str "right"] (wy - 4) = some (.str wd) := by
      rcases (by omega : wy - 4 = ((0 : Nat) : Int) ∨ wy - 4 = ((1 : Nat) : Int)) with e | e
      · exact ⟨_, .inl rfl, by rw [e]; exact atI_nat rfl⟩
      · exact ⟨_, .inr rfl, by rw [e]; exact atI_nat rfl⟩
    have e1 : ((g + 1 : Nat) : Int) - 1 = (g : Int) := by omega
    refine ⟨_, rfl, _, _, rfl, rfl, l2, _, _, _, rfl, rfl, SqL.of g2, aw, _, rfl, _, rfl, _, rfl, _, _, rfl, rfl, d, c, o, xs, g, congrArg (fun z : Int => [V.ref d, V.ref o, V.int z]) e1, by omega, dk1.same e2, e2 _ _ ho1, od, oc, n3, fun v i G3 kp3 dk3 dv wv => ⟨z2, fun t1 m3 => ?_⟩⟩
    have e4 := newS (o := .tup [V.str wd, v]) m3
    have wg : Wg ((db g + 2) * 1 + 80) (2 * g + 1 + 1) (frmW wd [i]) := by
      have hp : ∀ p ∈ [i], ok p ∧ p.d.loc 20 (10 ^ 44) ∧ p.d.wt ≤ db g ∧ p.d.dp ≤ 2 * g + 1 := fun p hp => by rw [List.mem_singleton.mp hp]; exact wv.in
      rcases hw with rfl | rfl
      · exact wg_frm (by show _ = some [i.rl]; rw [wv.rl]; decide +kernel) (by decide) (by decide +kernel) (by show 1 ≤ 2; decide) hp
      · exact wg_frm (by show _ = some [i.rl]; rw [wv.rl]; decide +kernel) (by decide) (by decide +kernel) (by show 1 ≤ 2; decide) hp
    exact q _ (frmW wd [i]) _ (kpA.trans (((Kp.of e2).trans kp3).trans (Kp.of e4))) (dk3.same e4) (.tup upd_same (.cons (.str _) (.cons (dv.same e4) .nil))) (wg.up (by show _ ≤ 7 * db g + 800; omega) (by omega))
  have n4 : 6 ≤ wy := by
    rcases Int.lt_or_le wy 6 with h | h
    · exact absurd (decide_eq_true h) n4
    · exact h
  refine ⟨_, rfl, rfl, _, rfl, ite2 (fun _ => ?b6) (fun n6 => ?_)⟩
  case b6 =>
    have e1 : ((g + 1 : Nat) : Int) - 1 = (g : Int) := by omega
    refine ⟨_, rfl, _, rfl, _, rfl, _, _, rfl, rfl, d, c, o, xs, g, congrArg (fun z : Int => [V.ref d, V.ref o, V.int z]) e1, by omega, dk1, ho1, od, oc, n3, fun v i G3 kp3 dk3 dv wv => ?_⟩
    have ho3 := kp3 o _ od oc ho1
    refine ⟨_, rfl, _, rfl, _, rfl, _, _, rfl, rfl, d, c, o, xs, g, congrArg (fun z : Int => [V.ref d, V.ref o, V.int z]) e1, by omega, dk3, ho3, od, oc, n3, fun v2 i2 G4 kp4 dk4 dv2 wv2 => ⟨z3, fun t1 m3 => ?_⟩⟩
    have dv4 := dv.kn (Kn.tk (Tk.kp kp4 dk3))
    have e4 := newS (o := .tup [V.str "pair", v, v2]) m3
    have wg : Wg ((db g + 2) * 2 + 80) (2 * g + 1 + 1) (frmW "pair" [i, i2]) := wg_frm (w := "pair") (ps := [i, i2]) (W := db g) (D := 2 * g + 1) (by show _ = some [i.rl, i2.rl]; rw [wv.rl, wv2.rl]; decide +kernel) (by decide) (by decide +kernel) (by show 2 ≤ 2; decide) fun p hp => by
      rcases List.mem_cons.mp hp with rfl | hp
      · exact wv.in
      · rw [List.mem_singleton.mp hp]; exact wv2.in
    exact q _ (frmW "pair" [i, i2]) _ (kpA.trans ((kp3.trans kp4).trans (Kp.of e4))) (dk4.same e4) (.tup upd_same (.cons (.str _) (.cons (dv4.same e4) (.cons (dv2.same e4) .nil)))) (wg.up (by have := db_ge g; show _ ≤ 7 * db g + 800; omega) (by omega))
  refine ⟨_, rfl, rfl, _, rfl, ite2 (fun _ => ?b7) (fun n7 => ?_)⟩
  case b7 =>
    have e1 : ((g + 1 : Nat) : Int) - 1 = (g : Int) := by omega
    refine ⟨_, rfl, d, c, 4, rfl, dk1, by decide, by decide, fun r G2 r0 r1 kp2 dk2 => ⟨r, rfl, by omega, by omega, fun D nD => ?_⟩⟩
    have off := dk2.off nD
    have ho2 := kp2 o _ od oc ho1
    refine lc_range (lo := 0) (n := r.toNat) (fun j G' => Kp d c G2 G' ∧ Dk G' d c ∧ ∃ (is : List Wi) (us : List V), is.length = j ∧ G' D = some (.lst us) ∧ DdL Non G' (is.map Wi.d) us ∧ ∀ i ∈ is, Wg (db g) (2 * g + 1) i) ?_ (fun j G' hj z => ?_) (fun G' z => ?_)
    · exact ⟨(Kp.rfl).mk nD, dk2.put off.1 off.2, [], [], rfl, upd_same, .nil, fun y z => (nomatch z)⟩
    · obtain ⟨kp3, dk3, is, us, li, gD', dl, wl⟩ := z
      refine ⟨rfl, _, rfl, _, rfl, _, rfl, _, _, rfl, rfl, d, c, o, xs, g, congrArg (fun z : Int => [V.ref d, V.ref o, V.int z]) e1, by omega, dk3, kp3 o _ od oc ho2, od, oc, n3, fun v i G4 kp4 dk4 dv wv => ?_⟩
      have gD4 := kp4 D _ off.1 off.2 gD'
      have lu : us.length = j := by rw [← dl.len, List.length_map, li]
      have up : Kn Non G4 (upd G4 D (.lst (us ++ [v]))) := Kn.tk (Tk.rfl.put fun xs z => by rw [gD4] at z; cases z)
      have dl4 := dl.kn (Kn.tk (Tk.kp kp4 dk3))
      refine ⟨us, gD4, small1000 (by omega), (kp3.trans kp4).mk nD, dk4.put off.1 off.2, is ++ [i], us ++ [v], by rw [List.length_append, li]; rfl, upd_same, ?_, fun p hp => ?_⟩
      · rw [List.map_append]
        exact (dl4.app (.cons dv .nil)).kn up
      · rcases List.mem_append.mp hp with hp | hp
        · exact wl p hp
        · rw [List.mem_singleton.mp hp]
          exact wv
    obtain ⟨kp3, dk3, is, us, li, gD', dl, wl⟩ := z
    refine ⟨D, us, rfl, .inl ⟨SqL.of gD', fun t1 m3 => ⟨z2, fun t2 m4 => ?_⟩⟩⟩
    have e3 := newS (o := .tup us) m3
    have e4 := newS (o := .tup [V.str "list", .ref t1]) m4
    have s4 : Same G' (upd (upd G' t1 (.tup us)) t2 (.tup [V.str "list", .ref t1])) := fun b o z => e4 _ _ (e3 _ _ z)
    have wi := itmN_in (is := is) (n := 3) (W := db g) (D := 2 * g + 1) (by omega) (by decide) wl
    have wg : Wg (((db g + 2) * 3 + 10 + 2) * 1 + 80) (2 * g + 1 + 1 + 1) (frmW "list" [itmN is]) := wg_frm (w := "list") (ps := [itmN is]) (W := (db g + 2) * 3 + 10) (D := 2 * g + 1 + 1) (by show _ = some [("items" : Str)]; decide +kernel) (by decide) (by decide +kernel) (by show 1 ≤ 2; decide) fun p hp => by
      rw [List.mem_singleton.mp hp]; exact wi
    exact q _ (frmW "list" [itmN is]) _ (kpA.trans ((kp2.trans kp3).trans (Kp.of s4))) (dk3.same s4) (.tup upd_same (.cons (.str _) (.cons (.tup (e4 _ _ upd_same) (dl.same s4)) .nil))) (wg.up (by show _ ≤ 7 * db g + 800; omega) (by omega))
  have e1 : ((g + 1 : Nat) : Int) - 1 = (g : Int) := by omega
  refine ⟨_, rfl, d, c, 3, rfl, dk1, by decide, by decide, fun r G2 r0 r1 kp2 dk2 => ⟨_, _, rfl, rfl, 1 + r, rfl, by omega, by omega, fun D nD => ?_⟩⟩
  have off := dk2.off nD
  have ho2 := kp2 o _ od oc ho1
  refine lc_range (lo := 0) (n := (1 + r).toNat) (fun j G' => Kp d c G2 G' ∧ Dk G' d c ∧ ∃ (is : List Wi) (us : List V), is.length = j ∧ G' D = some (.lst us) ∧ DdL Non G' (is.map Wi.d) us ∧ ∀ i ∈ is, Wg (db g) (2 * g + 1) i) ?_ (fun j G' hj z => ?_) (fun G' z => ?_)
  · exact ⟨(Kp.rfl).mk nD, dk2.put off.1 off.2, [], [], rfl, upd_same, .nil, fun y z => (nomatch z)⟩
  · obtain ⟨kp3, dk3, is, us, li, gD', dl, wl⟩ := z
    refine ⟨rfl, _, rfl, _, rfl, _, rfl, _, _, rfl, rfl, d, c, o, xs, g, congrArg (fun z : Int => [V.ref d, V.ref o, V.int z]) e1, by omega, dk3, kp3 o _ od oc ho2, od, oc, n3, fun v i G4 kp4 dk4 dv wv => ?_⟩
    have gD4 := kp4 D _ off.1 off.2 gD'
    have lu : us.length = j := by rw [← dl.len, List.length_map, li]
    have up : Kn Non G4 (upd G4 D (.lst (us ++ [v]))) := Kn.tk (Tk.rfl.put fun xs z => by rw [gD4] at z; cases z)
    have dl4 := dl.kn (Kn.tk (Tk.kp kp4 dk3))
    refine ⟨us, gD4, small1000 (by omega), (kp3.trans kp4).mk nD, dk4.put off.1 off.2, is ++ [i], us ++ [v], by rw [List.length_append, li]; rfl, upd_same, ?_, fun p hp => ?_⟩
    · rw [List.map_append]
      exact (dl4.app (.cons dv .nil)).kn up
    · rcases List.mem_append.mp hp with hp | hp
      · exact wl p hp
      · rw [List.mem_singleton.mp hp]
        exact wv
  obtain ⟨kp3, dk3, is, us, li, gD', dl, wl⟩ := z
  refine ⟨D, us, rfl, .inl ⟨SqL.of gD', fun t1 m3 => ?_⟩⟩
  have e3 := newS (o := .tup us) m3
  have g3 : (upd G' t1 (.tup us)) t1 = some (.tup us) := upd_same
  have dl3 := dl.same e3
  generalize upd G' t1 (.tup us) = F3 at e3 g3 dl3
  refine ⟨_, rfl, d, c, 4, rfl, dk3.same e3, by decide, by decide, fun r4 G4 r40 r41 kp4 dk4 => ⟨_, rfl, z3, fun t2 m4 => ?_⟩⟩
  obtain ⟨k, rfl⟩ : ∃ k : Nat, r4 = (k : Int) := ⟨r4.toNat, by omega⟩
  have off1 := dk3.off m3
  have g4 := kp4 t1 _ off1.1 off1.2 g3
  have dl4 := dl3.kn (Kn.tk (Tk.kp kp4 (dk3.same e3)))
  have e4 := newS (o := .tup [V.str "made", .int (k : Int), .ref t1]) m4
  have wi := itmN_in (is := is) (n := 3) (W := db g) (D := 2 * g + 1) (by omega) (by decide) wl
  have wg : Wg (((db g + 2) * 3 + 10 + 2) * 2 + 80) (2 * g + 1 + 1 + 1) (frmW "made" [numN k, itmN is]) := wg_frm (w := "made") (ps := [numN k, itmN is]) (W := (db g + 2) * 3 + 10) (D := 2 * g + 1 + 1) (by show _ = some [("number" : Str), ("items" : Str)]; decide +kernel) (by decide) (by decide +kernel) (by show 2 ≤ 2; decide) fun p hp => by
    rcases List.mem_cons.mp hp with rfl | hp
    · exact numN_in (by omega) (by have := db_ge g; omega)
    · rw [List.mem_singleton.mp hp]; exact wi
  exact q _ (frmW "made" [numN k, itmN is]) _ (kpA.trans ((kp2.trans kp3).trans ((Kp.of e3).trans (kp4.trans (Kp.of e4))))) (dk4.same e4) (.tup upd_same (.cons (.str _) (.cons (.int _) (.cons (.tup (e4 _ _ g4) (dl4.same e4)) .nil)))) (wg.up (by have := db_ge g; show _ ≤ 7 * db g + 800; omega) (by omega))
theorem okDatum {f fD : Addr} {fd fdD : FuncData} {k : Nat} (F : Fun K "_law_datum" "_law_datum" tDatum f fd) (bF : Binds K fd psDatum []) (gF : mg "_law_datum" = some (.ref f))
    (GD : ∀ n, FnOk P w K mg base CX0 (k + n) fD fdD ["_law_deck_here", "_law_most"] spDraw) (bD : Binds K fdD ["_law_deck_here", "_law_most"] []) (gD : mg "_law_draw" = some (.ref fD)) (kD : PySem.W.keepIn K (.ref fD) = true)
    (ml : mg "len" = none) (mt : mg "tuple" = none) (mi : mg "int" = none) (mr : mg "range" = none) : ∀ n, FnOk P w K mg base CX0 (k + n) f fd psDatum (spDatum n)
  | 0 => noFn fun vs H Q E h => by
    obtain ⟨d, c, o, xs, g, _, h2, _⟩ := h
    omega
  | n + 1 => okDatum1 F bF gF (GD n) bD gD kD (okDatum F bF gF GD bD gD kD ml mt mi mr n) ml mt mi mr
end
end Kq

namespace Kq
open PySem PySem.Spec PyProof.Rows L2 Kf Kg Kv GxR Kk
abbrev tTable : Stmt := tp 35
abbrev tWorth : Stmt := tp 36
/-- what stands in a row -/
def Rw (W D : Nat) (i : Wi) : Prop := ok i ∧ i.d.loc 20 (10 ^ 44) ∧ i.d.wt ≤ W ∧ i.d.dp ≤ D
theorem Rw.up {W D W' D' : Nat} {i : Wi} (h : Rw W D i) (a : W ≤ W') (b : D ≤ D') : Rw W' D' i := ⟨h.1, h.2.1, Nat.le_trans h.2.2.1 a, Nat.le_trans h.2.2.2 b⟩
theorem asA_rw {W D : Nat} {i : Wi} (h : Wg W D i) : Rw W D (asA i) ∧ (asA i).rl = "answer" ∧ (asA i).d = i.d := ⟨⟨asA_ok h.ok h.rl, h.lo, h.wt, h.dp⟩, rfl, rfl⟩
def fltA : Wi := .mk "answer" "fault" false (.tup (.str "fault" :: ([] : List Wi).map Wi.d)) []
theorem fltA_rw {W D : Nat} (hW : 200 ≤ W) (hD : 1 ≤ D) : Rw W D fltA := by
  refine ⟨ok_of (.frm "answer" "fault" [] (by decide +kernel)) (fun p hp => nomatch hp), loN (by show 1 ≤ 20; decide) (fun x hx => ?_), ?_, ?_⟩
  · have hx : x = Dt.str "fault" := by simpa using hx
    rw [hx]
    exact lo_str (by decide +kernel) (by decide)
  · have : ("fault" : Str).length = 5 := rfl
    show (Dt.tup [.str "fault"]).wt ≤ W
    simp only [Dt.wt, Dt.wts, this]
    omega
  · show (Dt.tup [.str "fault"]).dp ≤ D
    simp only [Dt.dp, Dt.dps]
    omega
theorem pairs_app : ∀ (n : Nat) (ds : List Dt) (a b : Dt), ds.length = 2 * n → pairs (ds ++ [a, b]) = pairs ds ++ [.tup [a, b]]
  | 0, [], a, b, _ => rfl
  | n + 1, [], a, b, h => by simp at h
  | 0, x :: r, a, b, h => by simp at h
  | n + 1, [x], a, b, h => by simp at h; omega
  | n + 1, x :: y :: r, a, b, h => by
    show Dt.tup [x, y] :: pairs (r ++ [a, b]) = Dt.tup [x, y] :: (pairs r ++ [.tup [a, b]])
    rw [pairs_app n r a b (by simp only [List.length_cons] at h; omega)]
theorem pairs_mem : ∀ (n : Nat) (ds : List Dt), ds.length = 2 * n → ∀ y ∈ pairs ds, ∃ a b, y = .tup [a, b] ∧ a ∈ ds ∧ b ∈ ds
  | 0, [], _, y, hy => nomatch hy
  | n + 1, [], h, _, _ => by simp at h
  | 0, x :: r, h, _, _ => by simp at h
  | n + 1, [x], h, _, _ => by simp at h; omega
  | n + 1, x :: y :: r, h, z, hz => by
    have hz : z ∈ Dt.tup [x, y] :: pairs r := hz
    rcases List.mem_cons.mp hz with rfl | hz
    · exact ⟨x, y, rfl, by simp, by simp⟩
    · obtain ⟨a, b, e, ha, hb⟩ := pairs_mem n r (by simp only [List.length_cons] at h; omega) z hz
      exact ⟨a, b, e, by simp [ha], by simp [hb]⟩
theorem nk_last (n : Nat) : nk (n + 1) = nk n ++ [("worth" : Str), ("answer" : Str)] := by
  unfold nk
  rw [List.replicate_succ', List.flatten_append]
  rfl
def rowN (n : Nat) (ps : List Wi) : Wi := .mk "rows" (numS n) false (.tup (pairs (ps.map Wi.d))) ps
theorem rowN_in {ps : List Wi} {W D n m : Nat} (hm : n ≤ m) (hm' : m ≤ 20) (hr : ps.map Wi.rl = nk n) (h : ∀ p ∈ ps, Rw W D p) : Rw ((2 * W + 11) * m + 10) (D + 2) (rowN n ps) := by
  have ev := ps_even hr
  have each : ∀ y ∈ pairs (ps.map Wi.d), y.loc 20 (10 ^ 44) ∧ y.wt ≤ 2 * W + 9 ∧ y.dp ≤ D + 1 := fun y hy => by
    obtain ⟨a, b, rfl, ha, hb⟩ := pairs_mem n _ ev y hy
    obtain ⟨p, hp, rfl⟩ := List.mem_map.mp ha
    obtain ⟨q, hq, rfl⟩ := List.mem_map.mp hb
    have z := wt_t2 p.d q.d
    have h1 := (h p hp).2
    have h2 := (h q hq).2
    refine ⟨loN (by show 2 ≤ 20; decide) (fun x hx => ?_), by omega, ?_⟩
    · have hx : x = p.d ∨ x = q.d := by simpa using hx
      rcases hx with rfl | rfl
      · exact h1.1
      · exact h2.1
    · simp only [Dt.dp, Dt.dps]
      omega
  have ln := pairs_len n _ ev
  refine ⟨ok_of (.row n ps (by omega) hr) (fun p hp => (h p hp).1), loN (by rw [ln]; omega) (fun x hx => (each x hx).1), ?_, ?_⟩
  · have z := wts_le (l := pairs (ps.map Wi.d)) (W := 2 * W + 9) fun y hy => (each y hy).2.1
    rw [ln, show 2 * W + 9 + 2 = 2 * W + 11 by omega] at z
    have z2 := Nat.mul_le_mul_left (2 * W + 11) hm
    show (Dt.tup (pairs (ps.map Wi.d))).wt ≤ _
    simp only [Dt.wt]
    omega
  · have z := dps_le' (n := D + 1) (xs := pairs (ps.map Wi.d)) fun y hy => (each y hy).2.2
    show (Dt.tup (pairs (ps.map Wi.d))).dp ≤ _
    simp only [Dt.dp]
    omega
def tb : Nat → Nat
  | 0 => 30000
  | n + 1 => 7 * tb n + 1000
theorem tb_ge : ∀ n, 30000 ≤ tb n
  | 0 => Nat.le_refl _
  | n + 1 => by
    have := tb_ge n
    show 30000 ≤ 7 * tb n + 1000
    omega
theorem wg_table {ps : List Wi} {W D n m : Nat} (hm : n ≤ m) (hm' : m ≤ 20) (hr : ps.map Wi.rl = nk n) (h : ∀ p ∈ ps, Rw W D p) : Wg ((2 * W + 11) * m + 92) (D + 3) (frmW "table" [rowN n ps]) := by
  have z := rowN_in hm hm' hr h
  refine (wg_frm (w := "table") (ps := [rowN n ps]) (W := (2 * W + 11) * m + 10) (D := D + 2) (by show _ = some [("rows" : Str)]; decide +kernel) (by decide) (by decide +kernel) (by show 1 ≤ 2; decide) fun p hp => by rw [List.mem_singleton.mp hp]; exact z).up ?_ (Nat.le_refl _)
  show ((2 * W + 11) * m + 10 + 2) * 1 + 80 ≤ _
  omega
abbrev psTable : List Str := ["_law_deck_here", "_law_names_here", "_law_deep_here"]
abbrev nTable : List Str := ["_law_deck_here", "_law_names_here", "_law_deep_here", "_law_rows", "_law_k", "_law_told", "_law_way"]
section
variable {P : Program} {w : World} {K : PySem.W.Frag} {mg : Str → Option Value} {base : Heap}
theorem scTable : FnScope nTable psTable (defScope tTable) := ⟨rfl, rfl, rfl, by decide +kernel, rfl, by decide +kernel, by decide +kernel⟩
def spTable (n : Nat) : Sp := fun vs H Q _ => ∃ (d c o : Addr) (xs : List Str) (g : Nat), vs = [.ref d, .ref o, .int (g : Int)] ∧ g + 1 ≤ n ∧ Dk H d c ∧ H o = some (.lst (xs.map V.str)) ∧ o ≠ d ∧ o ≠ c ∧ N3 xs ∧
  ∀ (v : V) (i : Wi) (G : Hp), Kp d c H G → Dk G d c → Dd Non G i.d v → Wg (tb g) (3 * g + 6) i → Q v G
theorem okTable1 {f fD fA : Addr} {fd fdD fdA : FuncData} {n k : Nat} (F : Fun K "_law_table" "_law_table" tTable f fd) (bF : Binds K fd psTable []) (gF : mg "_law_table" = some (.ref f))
    (GD : FnOk P w K mg base CX0 k fD fdD ["_law_deck_here", "_law_most"] spDraw) (bD : Binds K fdD ["_law_deck_here", "_law_most"] []) (gD : mg "_law_draw" = some (.ref fD)) (kD : PySem.W.keepIn K (.ref fD) = true)
    (GA : FnOk P w K mg base CX0 k fA fdA psDatum (spDatum 5)) (bA : Binds K fdA psDatum []) (gA : mg "_law_datum" = some (.ref fA)) (kA : PySem.W.keepIn K (.ref fA) = true)
    (GI : FnOk P w K mg base CX0 k f fd psTable (spTable n)) (mt : mg "tuple" = none) (mr : mg "range" = none) : FnOk P w K mg base CX0 (k + 1) f fd psTable (spTable (n + 1)) := by
  refine F.ok scTable (fun vs H Q E h => ?_) (fun cdv A outer s H vs Q E hr h => ?_)
  · obtain ⟨d, c, o, xs, g, rfl, _⟩ := h
    rfl
  obtain ⟨d, c, o, xs, g, rfl, gn, dk, ho, od, oc, n3, q⟩ := h
  refine ⟨_, pss_cons (ps_set (i := 3) scTable.nd rfl (.inl rfl) (pe_lst pa_nil))
    (pss_cons (ps_for PassesOwn.never rfl (pi_range1 (by rfl) mr (pa_cons (pe_call GD hr (by rfl) gD kD bD .nil pass0 (pa_cons (pv 0) (pa_cons pe_int pa_nil))) pa_nil)) (pg_name (i := 4) scTable.nd rfl (.inl rfl))
      (pss_cons (ps_set (i := 5) scTable.nd rfl (.inl rfl) (pe_call GA hr (by rfl) gA kA bA .nil pass0 (pa_cons (pv 0) (pa_cons (pv 1) (pa_cons pe_int pa_nil)))))
      (pss_cons (ps_set (i := 6) scTable.nd rfl (.inl rfl) (pe_call GD hr (by rfl) gD kD bD .nil pass0 (pa_cons (pv 0) (pa_cons pe_int pa_nil))))
      (pss_cons (ps_if (pt_cmpR op_eq (pv 6) pe_int (nomark _)) (pss_one (ps_set (i := 5) scTable.nd rfl (.inl rfl) (pe_tup (pa_cons pe_str pa_nil)))) pss_nil)
      (pss_cons (ps_if (PW.pt (pw_and (pt_cmpR op_eq (pv 6) pe_int (nomark _)) (pw_and1 (pt_cmpR op_gt (pv 2) pe_int (nomark _))))) (pss_one (ps_set (i := 5) scTable.nd rfl (.inl rfl) (pe_call GI hr (by rfl) gF F.kp bF .nil pass0 (pa_cons (pv 0) (pa_cons (pv 1) (pa_cons (pe_op op_sub (pv 2) pe_int) pa_nil)))))) pss_nil)
      (pss_one (ps_expr (pe_bm PySem.F.plainAttrs_list PySem.F.slot_list_append PySem.F.type_list_append mt_append (pv 3) (pa_cons (pe_tup (pa_cons (pe_call GA hr (by rfl) gA kA bA .nil pass0 (pa_cons (pv 0) (pa_cons (pv 1) (pa_cons pe_int pa_nil)))) (pa_cons (pv 5) pa_nil))) pa_nil)))))))))
    (pss_one (ps_ret (pe_tup (pa_cons pe_str (pa_cons (pe_callTy call_tuple_of (by rfl) mt PyProof.Rows.boot_tuple (pa_cons (pv 3) pa_nil)) pa_nil)))))), ?_⟩
  have z2 : 2 ≤ sizeLine := by decide
  have z1 : 1 ≤ sizeLine := by decide
  refine ⟨Nat.zero_le _, fun L nL => ?_⟩
  have off := dk.off nL
  have s0 := newS (o := .lst []) nL
  have gL0 : (upd H L (.lst [])) L = some (.lst []) := upd_same
  generalize upd H L (.lst []) = H0 at s0 gL0
  have Lo : L ≠ o := (ne_of_none ho nL).symm
  refine ⟨_, rfl, d, c, 4, rfl, dk.same s0, by decide, by decide, fun r G1 r0 r1 kp1 dk1 => ⟨r, rfl, by omega, by omega, for_range (lo := 0) (n := r.toNat) (fun j σ G => ∃ (y4 y5 y6 : Option V) (us : List V) (ps : List Wi), σ = [some (.ref d), some (.ref o), some (.int (g : Int)), some (.ref L), y4, y5, y6] ∧ Kp d c H G ∧ Dk G d c ∧ G L = some (.lst us) ∧ ps.map Wi.rl = nk j ∧ DdL Non G (pairs (ps.map Wi.d)) us ∧ ∀ p ∈ ps, Rw (if g = 0 then db 1 else tb (g - 1)) (3 * g + 3) p)
    ⟨_, _, _, [], [], rfl, (Kp.of s0).trans kp1, dk1, kp1 L _ off.1 off.2 gL0, rfl, .nil, fun p hp => (nomatch hp)⟩ (fun j σ G hj z => ?_) (fun σ G z => ?_)⟩⟩
  · obtain ⟨y4, y5, y6, us, ps, rfl, kp, dkG, gL, hrl, dl, hrw⟩ := z
    have ho1 := kp o _ od oc ho
    refine ⟨_, rfl, _, rfl, d, c, o, xs, 1, rfl, by decide, dkG, ho1, od, oc, n3, fun v1 i1 G1 kp1 dk1 dv1 wv1 => ?_⟩
    refine ⟨_, rfl, d, c, 5, rfl, dk1, by decide, by decide, fun wy G2 w0 w1 kp2 dk2 => ?_⟩
    have dv2 := dv1.kn (Kn.tk (Tk.kp kp2 dk1))
    have kp12 := kp1.trans kp2
    have gW : db 1 ≤ (if g = 0 then db 1 else tb (g - 1)) := by
      split
      · exact Nat.le_refl _
      · exact Nat.le_trans (by decide) (tb_ge _)
    refine ⟨_, rfl, rfl, _, rfl, ite2 (fun y0 => ?_) (fun y0 => ?_)⟩
    · have y0 : wy = 0 := V.int.inj (of_decide_eq_true y0)
      refine ⟨z1, fun t0 m0 => ?_⟩
      have e0 := newS (o := .tup [V.str "fault"]) m0
      have g0 : (upd G2 t0 (.tup [V.str "fault"])) t0 = some (.tup [V.str "fault"]) := upd_same
      generalize upd G2 t0 (.tup [V.str "fault"]) = F at e0 g0
      refine ⟨_, rfl, rfl, _, rfl, ite2 (fun y1 => ?_) (fun _ => ?_)⟩
      · have y1 : wy = 1 := V.int.inj (of_decide_eq_true y1)
        omega
      refine iteF ?_
      have hF := kp12.trans (Kp.of e0)
      have ho4 := hF o _ od oc ho1
      refine ⟨_, rfl, .inl ⟨rfl, us, SqL.of (hF L _ off.1 off.2 gL)⟩, _, rfl, _, rfl, d, c, o, xs, 1, rfl, by decide, dk2.same e0, ho4, od, oc, n3, fun v6 i6 G6 kp6 dk6 dv6 wv6 => ⟨_, rfl, z2, fun t9 m9 => ?_⟩⟩
      have e9 := newS (o := .tup [v6, .ref t0]) m9
      have g9 : (upd G6 t9 (.tup [v6, .ref t0])) t9 = some (.tup [v6, .ref t0]) := upd_same
      generalize upd G6 t9 (.tup [v6, .ref t0]) = F9 at e9 g9
      have kpZ : Kp d c G F9 := (hF.trans kp6).trans (Kp.of e9)
      have gL9 := kpZ L _ off.1 off.2 gL
      have dv5 : Dd Non F9 (fltA).d (.ref t0) := (((show Dd Non F fltA.d (.ref t0) from .tup g0 (.cons (.str _) .nil))).kn (Kn.tk (Tk.kp kp6 (dk2.same e0)))).same e9
      have lp := ps_even hrl
      have lu : us.length = j := by rw [← dl.len, pairs_len j _ lp]
      have up : Kn Non F9 (upd F9 L (.lst (us ++ [.ref t9]))) := Kn.tk (Tk.rfl.put fun xs z => by rw [gL9] at z; cases z)
      have dl9 := (dl.kn (Kn.tk (Tk.kp kpZ dkG))).app (.cons (.tup g9 (.cons (dv6.same e9) (.cons dv5 .nil))) .nil)
      refine ⟨L, us, .ref t9, rfl, rfl, gL9, small1000 (by omega), _, _, _, us ++ [.ref t9], ps ++ [i6, fltA], rfl, (kp.trans kpZ).mk nL, (dk6.same e9).put off.1 off.2, upd_same, ?_, ?_, fun p hp => ?_⟩
      · rw [List.map_append, hrl, nk_last]
        show _ ++ [i6.rl, (fltA).rl] = _
        rw [wv6.rl]
        rfl
      · rw [List.map_append]
        show DdL Non _ (pairs (ps.map Wi.d ++ [i6.d, (fltA).d])) _
        rw [pairs_app j _ _ _ lp]
        exact dl9.kn up
      · rcases List.mem_append.mp hp with hp | hp
        · exact hrw p hp
        · have hp : p = i6 ∨ p = fltA := by simpa using hp
          rcases hp with rfl | rfl
          · exact (show Rw _ _ _ from wv6.in).up gW (by omega)
          · exact fltA_rw (Nat.le_trans (by decide) gW) (by omega)
    · have y0 : wy ≠ 0 := fun e => y0 (decide_eq_true (by rw [e]))
      refine ⟨_, rfl, rfl, _, rfl, ite2 (fun y1 => ?_) (fun _ => ?_)⟩
      · refine ⟨_, rfl, _, _, rfl, rfl, _, rfl, ite2 (fun y2 => ?_) (fun _ => ?_)⟩
        · have y2 : (0 : Int) < (g : Int) := of_decide_eq_true y2
          obtain ⟨g, rfl⟩ : ∃ g', g = g' + 1 := ⟨g - 1, by omega⟩
          have e1 : ((g + 1 : Nat) : Int) - 1 = (g : Int) := by omega
          have ho3 := kp12 o _ od oc ho1
          refine ⟨_, rfl, _, rfl, _, rfl, _, _, rfl, rfl, d, c, o, xs, g, congrArg (fun z : Int => [V.ref d, V.ref o, V.int z]) e1, by omega, dk2, ho3, od, oc, n3, fun v5 i5 F kpT dkT dvT wvT => ?_⟩
          have hF := kp12.trans kpT
          have ho4 := hF o _ od oc ho1
          refine ⟨_, rfl, .inl ⟨rfl, us, SqL.of (hF L _ off.1 off.2 gL)⟩, _, rfl, _, rfl, d, c, o, xs, 1, rfl, by decide, dkT, ho4, od, oc, n3, fun v6 i6 G6 kp6 dk6 dv6 wv6 => ⟨_, rfl, z2, fun t9 m9 => ?_⟩⟩
          have e9 := newS (o := .tup [v6, v5]) m9
          have g9 : (upd G6 t9 (.tup [v6, v5])) t9 = some (.tup [v6, v5]) := upd_same
          generalize upd G6 t9 (.tup [v6, v5]) = F9 at e9 g9
          have kpZ : Kp d c G F9 := (hF.trans kp6).trans (Kp.of e9)
          have gL9 := kpZ L _ off.1 off.2 gL
          have dv5 : Dd Non F9 ((asA i5)).d (v5) := (((show Dd Non F (asA i5).d v5 from dvT)).kn (Kn.tk (Tk.kp kp6 (dkT)))).same e9
          have lp := ps_even hrl
          have lu : us.length = j := by rw [← dl.len, pairs_len j _ lp]
          have up : Kn Non F9 (upd F9 L (.lst (us ++ [.ref t9]))) := Kn.tk (Tk.rfl.put fun xs z => by rw [gL9] at z; cases z)
          have dl9 := (dl.kn (Kn.tk (Tk.kp kpZ dkG))).app (.cons (.tup g9 (.cons (dv6.same e9) (.cons dv5 .nil))) .nil)
          refine ⟨L, us, .ref t9, rfl, rfl, gL9, small1000 (by omega), _, _, _, us ++ [.ref t9], ps ++ [i6, (asA i5)], rfl, (kp.trans kpZ).mk nL, (dk6.same e9).put off.1 off.2, upd_same, ?_, ?_, fun p hp => ?_⟩
          · rw [List.map_append, hrl, nk_last]
            show _ ++ [i6.rl, ((asA i5)).rl] = _
            rw [wv6.rl]
            rfl
          · rw [List.map_append]
            show DdL Non _ (pairs (ps.map Wi.d ++ [i6.d, ((asA i5)).d])) _
            rw [pairs_app j _ _ _ lp]
            exact dl9.kn up
          · rcases List.mem_append.mp hp with hp | hp
            · exact hrw p hp
            · have hp : p = i6 ∨ p = (asA i5) := by simpa using hp
              rcases hp with rfl | rfl
              · exact (show Rw _ _ _ from wv6.in).up gW (by omega)
              · exact (asA_rw wvT).1.up (by rw [if_neg (Nat.succ_ne_zero g), show g + 1 - 1 = g by omega]; exact Nat.le_refl _) (by omega)
        · have hF := kp12
          have ho4 := hF o _ od oc ho1
          refine ⟨_, rfl, .inl ⟨rfl, us, SqL.of (hF L _ off.1 off.2 gL)⟩, _, rfl, _, rfl, d, c, o, xs, 1, rfl, by decide, dk2, ho4, od, oc, n3, fun v6 i6 G6 kp6 dk6 dv6 wv6 => ⟨_, rfl, z2, fun t9 m9 => ?_⟩⟩
          have e9 := newS (o := .tup [v6, v1]) m9
          have g9 : (upd G6 t9 (.tup [v6, v1])) t9 = some (.tup [v6, v1]) := upd_same
          generalize upd G6 t9 (.tup [v6, v1]) = F9 at e9 g9
          have kpZ : Kp d c G F9 := (hF.trans kp6).trans (Kp.of e9)
          have gL9 := kpZ L _ off.1 off.2 gL
          have dv5 : Dd Non F9 ((asA i1)).d (v1) := (((show Dd Non G2 (asA i1).d v1 from dv2)).kn (Kn.tk (Tk.kp kp6 (dk2)))).same e9
          have lp := ps_even hrl
          have lu : us.length = j := by rw [← dl.len, pairs_len j _ lp]
          have up : Kn Non F9 (upd F9 L (.lst (us ++ [.ref t9]))) := Kn.tk (Tk.rfl.put fun xs z => by rw [gL9] at z; cases z)
          have dl9 := (dl.kn (Kn.tk (Tk.kp kpZ dkG))).app (.cons (.tup g9 (.cons (dv6.same e9) (.cons dv5 .nil))) .nil)
          refine ⟨L, us, .ref t9, rfl, rfl, gL9, small1000 (by omega), _, _, _, us ++ [.ref t9], ps ++ [i6, (asA i1)], rfl, (kp.trans kpZ).mk nL, (dk6.same e9).put off.1 off.2, upd_same, ?_, ?_, fun p hp => ?_⟩
          · rw [List.map_append, hrl, nk_last]
            show _ ++ [i6.rl, ((asA i1)).rl] = _
            rw [wv6.rl]
            rfl
          · rw [List.map_append]
            show DdL Non _ (pairs (ps.map Wi.d ++ [i6.d, ((asA i1)).d])) _
            rw [pairs_app j _ _ _ lp]
            exact dl9.kn up
          · rcases List.mem_append.mp hp with hp | hp
            · exact hrw p hp
            · have hp : p = i6 ∨ p = (asA i1) := by simpa using hp
              rcases hp with rfl | rfl
              · exact (show Rw _ _ _ from wv6.in).up gW (by omega)
              · exact (asA_rw wv1).1.up gW (by omega)
      · refine iteF ?_
        have hF := kp12
        have ho4 := hF o _ od oc ho1
        refine ⟨_, rfl, .inl ⟨rfl, us, SqL.of (hF L _ off.1 off.2 gL)⟩, _, rfl, _, rfl, d, c, o, xs, 1, rfl, by decide, dk2, ho4, od, oc, n3, fun v6 i6 G6 kp6 dk6 dv6 wv6 => ⟨_, rfl, z2, fun t9 m9 => ?_⟩⟩
        have e9 := newS (o := .tup [v6, v1]) m9
        have g9 : (upd G6 t9 (.tup [v6, v1])) t9 = some (.tup [v6, v1]) := upd_same
        generalize upd G6 t9 (.tup [v6, v1]) = F9 at e9 g9
        have kpZ : Kp d c G F9 := (hF.trans kp6).trans (Kp.of e9)
        have gL9 := kpZ L _ off.1 off.2 gL
        have dv5 : Dd Non F9 ((asA i1)).d (v1) := (((show Dd Non G2 (asA i1).d v1 from dv2)).kn (Kn.tk (Tk.kp kp6 (dk2)))).same e9
        have lp := ps_even hrl
        have lu : us.length = j := by rw [← dl.len, pairs_len j _ lp]
        have up : Kn Non F9 (upd F9 L (.lst (us ++ [.ref t9]))) := Kn.tk (Tk.rfl.put fun xs z => by rw [gL9] at z; cases z)
        have dl9 := (dl.kn (Kn.tk (Tk.kp kpZ dkG))).app (.cons (.tup g9 (.cons (dv6.same e9) (.cons dv5 .nil))) .nil)
        refine ⟨L, us, .ref t9, rfl, rfl, gL9, small1000 (by omega), _, _, _, us ++ [.ref t9], ps ++ [i6, (asA i1)], rfl, (kp.trans kpZ).mk nL, (dk6.same e9).put off.1 off.2, upd_same, ?_, ?_, fun p hp => ?_⟩
        · rw [List.map_append, hrl, nk_last]
          show _ ++ [i6.rl, ((asA i1)).rl] = _
          rw [wv6.rl]
          rfl
        · rw [List.map_append]
          show DdL Non _ (pairs (ps.map Wi.d ++ [i6.d, ((asA i1)).d])) _
          rw [pairs_app j _ _ _ lp]
          exact dl9.kn up
        · rcases List.mem_append.mp hp with hp | hp
          · exact hrw p hp
          · have hp : p = i6 ∨ p = (asA i1) := by simpa using hp
            rcases hp with rfl | rfl
            · exact (show Rw _ _ _ from wv6.in).up gW (by omega)
            · exact (asA_rw wv1).1.up gW (by omega)
  · obtain ⟨y4, y5, y6, us, ps, rfl, kp, dkG, gL, hrl, dl, hrw⟩ := z
    refine ⟨_, rfl, L, us, rfl, .inl ⟨SqL.of gL, fun t1 m1 => ⟨z2, fun t2 m2 => ?_⟩⟩⟩
    have e1 := newS (o := .tup us) m1
    have e2 := newS (o := .tup [V.str "table", .ref t1]) m2
    have s2 : Same G (upd (upd G t1 (.tup us)) t2 (.tup [V.str "table", .ref t1])) := fun b o z => e2 _ _ (e1 _ _ z)
    have wg := wg_table (n := r.toNat) (m := 3) (by omega) (by decide) hrl hrw
    refine q _ (frmW "table" [rowN r.toNat ps]) _ (kp.trans (Kp.of s2)) (dkG.same s2) (.tup upd_same (.cons (.str _) (.cons (.tup (e2 _ _ upd_same) (dl.same s2)) .nil))) (wg.up ?_ (by omega))
    cases g with
    | zero => exact (by decide : (2 * db 1 + 11) * 3 + 92 ≤ 30000)
    | succ g =>
      rw [if_neg (Nat.succ_ne_zero g), show g + 1 - 1 = g by omega]
      show _ ≤ 7 * tb g + 1000
      have := tb_ge g
      omega
end
end Kq

namespace Kq
open PySem PySem.Spec PyProof.Rows L2 Kf Kg Kv GxR Kk
/-- counted rows -/
def enI : Nat → List Wi → List Wi
  | _, [] => []
  | k, i :: is => numW k :: asA i :: enI (k + 1) is
theorem enI_rl : ∀ (k : Nat) (is : List Wi), (enI k is).map Wi.rl = nk is.length
  | _, [] => rfl
  | k, i :: is => by
    show ("worth" : Str) :: ("answer" : Str) :: (enI (k + 1) is).map Wi.rl = _
    rw [enI_rl (k + 1) is, List.length_cons, nk_succ]
theorem enI_rw {W D : Nat} (hW : 300 ≤ W) (hD : 1 ≤ D) : ∀ (k : Nat) (is : List Wi), k + is.length ≤ 1000 → (∀ i ∈ is, Wg W D i) → ∀ p ∈ enI k is, Rw W D p
  | _, [], _, _, p, hp => nomatch hp
  | k, i :: is, hk, h, p, hp => by
    have hp : p ∈ numW k :: asA i :: enI (k + 1) is := hp
    rw [List.length_cons] at hk
    rcases List.mem_cons.mp hp with rfl | hp
    · exact (show Rw 300 1 (numW k) from (wg_num (by omega)).in).up hW hD
    · rcases List.mem_cons.mp hp with rfl | hp
      · exact (asA_rw (h i List.mem_cons_self)).1
      · exact enI_rw hW hD (k + 1) is (by omega) (fun i hi => h i (List.mem_cons_of_mem _ hi)) p hp
theorem en_ddl {F : Hp} : ∀ (is : List Wi) (ts : List Addr) (us : List V) (k : Nat), ts.length = us.length → DdL Non F (is.map Wi.d) us → (∀ (j : Nat) (t : Addr) (x : V), ts[j]? = some t → us[j]? = some x → F t = some (.tup [.int ((k + j : Nat) : Int), x])) → DdL Non F (pairs ((enI k is).map Wi.d)) (ts.map V.ref)
  | [], ts, us, k, hl, dl, _ => by
    cases dl
    have : ts = [] := List.length_eq_zero_iff.mp hl
    subst this
    exact .nil
  | i :: is, ts, us, k, hl, dl, h => by
    cases dl with
    | cons hd tl =>
      rename_i u us
      match ts, hl with
      | t :: ts, hl =>
        have e := h 0 t u rfl rfl
        refine .cons (.tup e (.cons (.int _) (.cons hd .nil))) (en_ddl is ts us (k + 1) (by simpa using hl) tl fun j t' x e1 e2 => ?_)
        have z := h (j + 1) t' x (by simpa using e1) (by simpa using e2)
        rw [show k + 1 + j = k + (j + 1) by omega]
        exact z
abbrev psWorth : List Str := ["_law_deck_here", "_law_names_here"]
abbrev nWorth : List Str := ["_law_deck_here", "_law_names_here", "_law_way", "_law_some", "_law_k"]
section
variable {P : Program} {w : World} {K : PySem.W.Frag} {mg : Str → Option Value} {base : Heap}
theorem okTable {f fD fA : Addr} {fd fdD fdA : FuncData} {k : Nat} (F : Fun K "_law_table" "_law_table" tTable f fd) (bF : Binds K fd psTable []) (gF : mg "_law_table" = some (.ref f))
    (GD : ∀ n, FnOk P w K mg base CX0 (k + n) fD fdD ["_law_deck_here", "_law_most"] spDraw) (bD : Binds K fdD ["_law_deck_here", "_law_most"] []) (gD : mg "_law_draw" = some (.ref fD)) (kD : PySem.W.keepIn K (.ref fD) = true)
    (GA : ∀ n, FnOk P w K mg base CX0 (k + n) fA fdA psDatum (spDatum 5)) (bA : Binds K fdA psDatum []) (gA : mg "_law_datum" = some (.ref fA)) (kA : PySem.W.keepIn K (.ref fA) = true)
    (mt : mg "tuple" = none) (mr : mg "range" = none) : ∀ n, FnOk P w K mg base CX0 (k + n) f fd psTable (spTable n)
  | 0 => noFn fun vs H Q E h => by
    obtain ⟨d, c, o, xs, g, _, h2, _⟩ := h
    omega
  | n + 1 => okTable1 F bF gF (GD n) bD gD kD (GA n) bA gA kA (okTable F bF gF GD bD gD kD GA bA gA kA mt mr n) mt mr
theorem scWorth : FnScope nWorth psWorth (defScope tWorth) := ⟨rfl, rfl, rfl, by decide +kernel, rfl, by decide +kernel, by decide +kernel⟩
def spWorth : Sp := fun vs H Q _ => ∃ (d c o : Addr) (xs : List Str), vs = [.ref d, .ref o] ∧ Dk H d c ∧ H o = some (.lst (xs.map V.str)) ∧ o ≠ d ∧ o ≠ c ∧ N3 xs ∧
  ∀ (v : V) (i : Wi) (G : Hp), Kp d c H G → Dk G d c → Dd Non G i.d v → Wg 15000000 20 i → Q v G
theorem okWorth {f fD fA fT : Addr} {fd fdD fdA fdT : FuncData} {k : Nat} (F : Fun K "_law_worth" "_law_worth" tWorth f fd)
    (GD : FnOk P w K mg base CX0 k fD fdD ["_law_deck_here", "_law_most"] spDraw) (bD : Binds K fdD ["_law_deck_here", "_law_most"] []) (gD : mg "_law_draw" = some (.ref fD)) (kD : PySem.W.keepIn K (.ref fD) = true)
    (GA : FnOk P w K mg base CX0 k fA fdA psDatum (spDatum 5)) (bA : Binds K fdA psDatum []) (gA : mg "_law_datum" = some (.ref fA)) (kA : PySem.W.keepIn K (.ref fA) = true)
    (GT : FnOk P w K mg base CX0 k fT fdT psTable (spTable 4)) (bT : Binds K fdT psTable []) (gT : mg "_law_table" = some (.ref fT)) (kT : PySem.W.keepIn K (.ref fT) = true)
    (mt : mg "tuple" = none) (mr : mg "range" = none) (me : mg "enumerate" = none) : FnOk P w K mg base CX0 (k + 1) f fd psWorth spWorth := by
  refine F.ok scWorth (fun vs H Q E h => ?_) (fun cdv A outer s H vs Q E hr h => ?_)
  · obtain ⟨d, c, o, xs, rfl, _⟩ := h
    rfl
  obtain ⟨d, c, o, xs, rfl, dk, ho, od, oc, n3, q⟩ := h
  refine ⟨_, pss_cons (ps_set (i := 2) scWorth.nd rfl (.inl rfl) (pe_call GD hr (by rfl) gD kD bD .nil pass0 (pa_cons (pv 0) (pa_cons pe_int pa_nil))))
    (pss_cons (ps_if (pt_cmpR op_eq (pv 2) pe_int (nomark _)) (pss_one (ps_ret (pe_tup (pa_cons pe_str (pa_cons (pe_call GD hr (by rfl) gD kD bD .nil pass0 (pa_cons (pv 0) (pa_cons pe_int pa_nil))) (pa_cons (pe_op op_add pe_int (pe_call GD hr (by rfl) gD kD bD .nil pass0 (pa_cons (pv 0) (pa_cons pe_int pa_nil)))) pa_nil)))))) pss_nil)
    (pss_cons (ps_if (pt_cmpR op_lt (pv 2) pe_int (nomark _)) (pss_one (ps_ret (pe_call GT hr (by rfl) gT kT bT .nil pass0 (pa_cons (pv 0) (pa_cons (pv 1) (pa_cons pe_int pa_nil)))))) pss_nil)
    (pss_cons (ps_if (pt_cmpR op_lt (pv 2) pe_int (nomark _))
      (pss_cons (ps_setLc (i := 3) (own := [("_law_k", 4)]) (g := gName 4) (by rfl) scWorth.nd rfl rfl (sw_true rfl rfl rfl (by decide +kernel)) (pi_range1 (by rfl) mr (pa_cons (pe_op op_add pe_int (pe_call GD hr (by rfl) gD kD bD .nil pass0 (pa_cons (pv 0) (pa_cons pe_int pa_nil)))) pa_nil)) (blkOk_by (own := [("_law_k", 4)]) (N := nWorth) (sc := defScope tWorth) (by decide +kernel))
        (fun _ _ _ _ _ => pg_name (i := 4) scWorth.nd rfl (.inl rfl)) (fun _ _ _ _ _ => pts_nil) (fun _ _ _ _ _ => pe_call GA hr (by rfl) gA kA bA .nil pass0 (pa_cons (pv 0) (pa_cons (pv 1) (pa_cons pe_int pa_nil)))))
      (pss_one (ps_ret (pe_ix ix_list (pe_lst (pa_cons (pe_tup (pa_cons pe_str (pa_cons (pe_callTy call_tuple_of (by rfl) mt PyProof.Rows.boot_tuple (pa_cons (pv 3) pa_nil)) pa_nil))) (pa_cons (pe_tup (pa_cons pe_str (pa_cons (Kz.pe_tupEnum rfl (by rfl) mt (by rfl) me (pa_cons (pv 3) pa_nil)) pa_nil))) pa_nil))) (pe_op op_sub (pv 2) pe_int) (fun _ _ => rfl))))) pss_nil)
    (pss_one (ps_ret (pe_call GA hr (by rfl) gA kA bA .nil pass0 (pa_cons (pv 0) (pa_cons (pv 1) (pa_cons (pe_ix ix_list (pe_lst (pa_cons pe_int (pa_cons pe_int (pa_cons pe_int (pa_cons pe_int pa_nil))))) (pe_call GD hr (by rfl) gD kD bD .nil pass0 (pa_cons (pv 0) (pa_cons pe_int pa_nil))) (fun _ _ => rfl)) pa_nil))))))))), ?_⟩
  have z2 : 2 ≤ sizeLine := by decide
  have z3 : 3 ≤ sizeLine := by decide
  have z4 : 4 ≤ sizeLine := by decide
  refine ⟨_, rfl, d, c, 8, rfl, dk, by decide, by decide, fun wy G1 w0 w1 kp1 dk1 => ?_⟩
  have ho1 := kp1 o _ od oc ho
  refine ⟨_, rfl, rfl, _, rfl, ite2 (fun _ => ?_) (fun n0 => ?_)⟩
  · refine ⟨_, rfl, d, c, 4, rfl, dk1, by decide, by decide, fun r G2 r0 r1 kp2 dk2 => ⟨_, rfl, d, c, 4, rfl, dk2, by decide, by decide, fun r' G3 r0' r1' kp3 dk3 => ⟨_, _, rfl, rfl, z3, fun t1 m1 => ?_⟩⟩⟩
    obtain ⟨a, rfl⟩ : ∃ a : Nat, r = (a : Int) := ⟨r.toNat, by omega⟩
    obtain ⟨b, rfl⟩ : ∃ b : Nat, r' = (b : Int) := ⟨r'.toNat, by omega⟩
    have e1 := newS (o := .tup [V.str "maker", .int (a : Int), .int (1 + (b : Int))]) m1
    have eb : ∀ F : Hp, Dd Non F (.int ((1 + b : Nat) : Int)) (.int (1 + (b : Int))) := fun F => by
      rw [show ((1 + b : Nat) : Int) = 1 + (b : Int) by omega]
      exact .int _
    have wg := wg_frm (w := "maker") (ps := [numN a, numN (1 + b)]) (W := 100) (D := 0) (by show _ = some [("number" : Str), ("number" : Str)]; decide +kernel) (by decide) (by decide +kernel) (by show 2 ≤ 2; decide) fun p hp => by
      rcases List.mem_cons.mp hp with rfl | hp
      · exact numN_in (by omega) (by decide)
      · rw [List.mem_singleton.mp hp]
        exact numN_in (by omega) (by decide)
    exact q _ (frmW "maker" [numN a, numN (1 + b)]) _ (kp1.trans (kp2.trans (kp3.trans (Kp.of e1)))) (dk3.same e1) (.tup upd_same (.cons (.str _) (.cons (.int _) (.cons (eb _) .nil)))) (wg.up (show (100 + 2) * 2 + 80 ≤ 15000000 by decide) (by omega))
  refine ⟨_, rfl, _, _, rfl, rfl, _, rfl, ite2 (fun _ => ?_) (fun n3' => ?_)⟩
  · exact ⟨_, rfl, _, rfl, d, c, o, xs, 3, rfl, by decide, dk1, ho1, od, oc, n3, fun v i G kp2 dk2 dv wv => q v i G (kp1.trans kp2) dk2 dv (wv.up (by decide) (by decide))⟩
  refine ⟨_, rfl, _, _, rfl, rfl, _, rfl, ite2 (fun n5 => ?_) (fun _ => ?_)⟩
  · have n5 := of_decide_eq_true n5
    have n3'' : 3 ≤ wy := by
      rcases Int.lt_or_le wy 3 with h | h
      · exact absurd (decide_eq_true h) n3'
      · exact h
    refine ⟨_, rfl, d, c, 3, rfl, dk1, by decide, by decide, fun r G2 r0 r1 kp2 dk2 => ⟨_, _, rfl, rfl, 10 + r, rfl, by omega, by omega, fun D nD => ?_⟩⟩
    have off := dk2.off nD
    have ho2 := kp2 o _ od oc ho1
    refine lc_range (lo := 0) (n := (10 + r).toNat) (fun j G' => Kp d c G2 G' ∧ Dk G' d c ∧ ∃ (is : List Wi) (us : List V), is.length = j ∧ G' D = some (.lst us) ∧ DdL Non G' (is.map Wi.d) us ∧ ∀ i ∈ is, Wg (db 1) 3 i) ?_ (fun j G' hj z => ?_) (fun G' z => ?_)
    · exact ⟨(Kp.rfl).mk nD, dk2.put off.1 off.2, [], [], rfl, upd_same, .nil, fun y z => (nomatch z)⟩
    · obtain ⟨kp3, dk3, is, us, li, gD', dl, wl⟩ := z
      refine ⟨rfl, _, rfl, _, rfl, d, c, o, xs, 1, rfl, by decide, dk3, kp3 o _ od oc ho2, od, oc, n3, fun v i G4 kp4 dk4 dv wv => ?_⟩
      have gD4 := kp4 D _ off.1 off.2 gD'
      have lu : us.length = j := by rw [← dl.len, List.length_map, li]
      have up : Kn Non G4 (upd G4 D (.lst (us ++ [v]))) := Kn.tk (Tk.rfl.put fun xs z => by rw [gD4] at z; cases z)
      have dl4 := dl.kn (Kn.tk (Tk.kp kp4 dk3))
      refine ⟨us, gD4, small1000 (by omega), (kp3.trans kp4).mk nD, dk4.put off.1 off.2, is ++ [i], us ++ [v], by rw [List.length_append, li]; rfl, upd_same, ?_, fun p hp => ?_⟩
      · rw [List.map_append]
        exact (dl4.app (.cons dv .nil)).kn up
      · rcases List.mem_append.mp hp with hp | hp
        · exact wl p hp
        · rw [List.mem_singleton.mp hp]
          exact wv
    obtain ⟨kp3, dk3, is, us, li, gD', dl, wl⟩ := z
    have l12 : is.length ≤ 12 := by omega
    have kpB := kp1.trans (kp2.trans kp3)
    refine ⟨_, rfl, D, us, rfl, .inl ⟨SqL.of gD', fun t1 m1 => ⟨z2, fun t2 m2 => ?_⟩⟩⟩
    have e1 := newS (o := .tup us) m1
    have g1 : (upd G' t1 (.tup us)) t1 = some (.tup us) := upd_same
    generalize upd G' t1 (.tup us) = J1 at e1 g1 m2 ⊢
    have e2 := newS (o := .tup [V.str "list", .ref t1]) m2
    have g2 : (upd J1 t2 (.tup [V.str "list", .ref t1])) t2 = some (.tup [V.str "list", .ref t1]) := upd_same
    generalize upd J1 t2 (.tup [V.str "list", .ref t1]) = J2 at e2 g2 ⊢
    have s12 : Same G' J2 := fun b o z => e2 _ _ (e1 _ _ z)
    refine ⟨_, rfl, D, us, rfl, SqL.of (s12 _ _ gD'), fun t3 ts J3 s3 n3' lt en nw => ⟨z2, fun t4 m4 => ⟨z2, fun l5 m5 => ?_⟩⟩⟩
    have e3 := newS (o := .tup (ts.map V.ref)) n3'
    have g3 : (upd J3 t3 (.tup (ts.map V.ref))) t3 = some (.tup (ts.map V.ref)) := upd_same
    generalize upd J3 t3 (.tup (ts.map V.ref)) = J4 at e3 g3 m4 m5 ⊢
    have e4 := newS (o := .tup [V.str "table", .ref t3]) m4
    have g4 : (upd J4 t4 (.tup [V.str "table", .ref t3])) t4 = some (.tup [V.str "table", .ref t3]) := upd_same
    generalize upd J4 t4 (.tup [V.str "table", .ref t3]) = J5 at e4 g4 m5 ⊢
    have e5 := newS (o := .lst [V.ref t2, .ref t4]) m5
    have g5 : (upd J5 l5 (.lst [V.ref t2, .ref t4])) l5 = some (.lst [V.ref t2, .ref t4]) := upd_same
    generalize upd J5 l5 (.lst [V.ref t2, .ref t4]) = J6 at e5 g5 ⊢
    have s46 : Same J4 J6 := fun b o z => e5 _ _ (e4 _ _ z)
    have s26 : Same J2 J6 := fun b o z => s46 _ _ (e3 _ _ (s3 _ _ z))
    have sA : Same G' J6 := fun b o z => s26 _ _ (s12 _ _ z)
    have kpZ : Kp d c H J6 := kpB.trans (Kp.of sA)
    have lu : us.length = is.length := by rw [← dl.len, List.length_map]
    rcases (by omega : wy - 3 = ((0 : Nat) : Int) ∨ wy - 3 = ((1 : Nat) : Int)) with e | e
    · refine ⟨_, rfl, _, _, rfl, rfl, l5, _, _, .ref t2, rfl, rfl, SqL.of g5, by rw [e]; exact atI_nat rfl, ?_⟩
      have wi := itmN_in (is := is) (n := 12) (W := db 1) (D := 3) l12 (by decide) wl
      have wg : Wg (((db 1 + 2) * 12 + 10 + 2) * 1 + 80) (3 + 1 + 1) (frmW "list" [itmN is]) := wg_frm (w := "list") (ps := [itmN is]) (W := (db 1 + 2) * 12 + 10) (D := 3 + 1) (by show _ = some [("items" : Str)]; decide +kernel) (by decide) (by decide +kernel) (by show 1 ≤ 2; decide) fun p hp => by
        rw [List.mem_singleton.mp hp]; exact wi
      exact q _ (frmW "list" [itmN is]) _ kpZ (dk3.same sA) (.tup (s26 _ _ g2) (.cons (.str _) (.cons (.tup (s26 _ _ (e2 _ _ g1)) (dl.same sA)) .nil))) (wg.up (by decide) (by decide))
    · refine ⟨_, rfl, _, _, rfl, rfl, l5, _, _, .ref t4, rfl, rfl, SqL.of g5, by rw [e]; exact atI_nat rfl, ?_⟩
      have wg := wg_table (ps := enI 0 is) (n := is.length) (m := 12) l12 (by decide) (enI_rl 0 is) (enI_rw (W := db 1) (D := 3) (by decide) (by decide) 0 is (by omega) wl)
      have dd : DdL Non J6 (pairs ((enI 0 is).map Wi.d)) (ts.map V.ref) := en_ddl is ts us 0 lt (dl.same sA) fun j t x h1 h2 => by
        rw [Nat.zero_add]
        exact s46 _ _ (e3 _ _ (en j t x h1 h2))
      exact q _ (frmW "table" [rowN is.length (enI 0 is)]) _ kpZ (dk3.same sA) (.tup (e5 _ _ g4) (.cons (.str _) (.cons (.tup (s46 _ _ g3) dd) .nil))) (wg.up (by decide) (by decide))
  · refine ⟨_, rfl, _, rfl, z4, fun l2 m2 => ?_⟩
    have e2 := newS (o := .lst [V.int 0, .int 2, .int 3, .int 4]) m2
    have g2 : (upd G1 l2 (.lst [V.int 0, .int 2, .int 3, .int 4])) l2 = some (.lst [V.int 0, .int 2, .int 3, .int 4]) := upd_same
    generalize upd G1 l2 (.lst [V.int 0, .int 2, .int 3, .int 4]) = F2 at e2 g2
    refine ⟨_, rfl, d, c, 4, rfl, dk1.same e2, by decide, by decide, fun r' G3 r0' r1' kp3 dk3 => ?_⟩
    obtain ⟨m, hm, am⟩ : ∃ m : Nat, m ≤ 4 ∧ atI [V.int 0, .int 2, .int 3, .int 4] r' = some (.int (m : Int)) := by
      rcases (by omega : r' = ((0 : Nat) : Int) ∨ r' = ((1 : Nat) : Int) ∨ r' = ((2 : Nat) : Int) ∨ r' = ((3 : Nat) : Int)) with e | e | e | e
      · exact ⟨0, by decide, by rw [e]; exact atI_nat rfl⟩
      · exact ⟨2, by decide, by rw [e]; exact atI_nat rfl⟩
      · exact ⟨3, by decide, by rw [e]; exact atI_nat rfl⟩
      · exact ⟨4, by decide, by rw [e]; exact atI_nat rfl⟩
    have off := dk1.off m2
    have kpB := kp1.trans ((Kp.of e2).trans kp3)
    refine ⟨l2, _, _, _, rfl, rfl, SqL.of (kp3 l2 _ off.1 off.2 g2), am, d, c, o, xs, m, rfl, by omega, dk3, kpB o _ od oc ho, od, oc, n3, fun v i G kp4 dk4 dv wv => q v i G (kpB.trans kp4) dk4 dv (wv.up ?_ (by omega))⟩
    rcases (by omega : m = 0 ∨ m = 1 ∨ m = 2 ∨ m = 3 ∨ m = 4) with rfl | rfl | rfl | rfl | rfl <;> decide
end
end Kq

namespace Kq
open PySem PySem.Spec PyProof.Rows L2 Kf Kg Kv GxR Kk
abbrev tLSh : Stmt := tp 37
theorem joinL_app (S : List Nat) : ∀ {xs ys : List (List Nat)}, xs ≠ [] → ys ≠ [] → TL.joinL S (xs ++ ys) = TL.joinL S xs ++ (S ++ TL.joinL S ys)
  | [], _, h, _ => absurd rfl h
  | [x], [], _, h => absurd rfl h
  | [x], y :: ys, _, _ => rfl
  | x :: x2 :: xs, ys, _, h => by
    have ih := joinL_app S (xs := x2 :: xs) (ys := ys) (by simp) h
    show x ++ (S ++ TL.joinL S (x2 :: xs ++ ys)) = (x ++ (S ++ TL.joinL S (x2 :: xs))) ++ (S ++ TL.joinL S ys)
    rw [ih]
    simp [List.append_assoc]
theorem map0 {α β : Type} {f : α → β} {ps : List α} (h : ps.map f = []) : ps = [] := by
  cases ps with
  | nil => rfl
  | cons a r => cases h
theorem map1 {α β : Type} {f : α → β} {a : β} {ps : List α} (h : ps.map f = [a]) : ∃ p, ps = [p] ∧ f p = a := by
  match ps, h with
  | [p], h => exact ⟨p, rfl, (List.cons.inj h).1⟩
theorem map2 {α β : Type} {f : α → β} {a b : β} {ps : List α} (h : ps.map f = [a, b]) : ∃ p q, ps = [p, q] ∧ f p = a ∧ f q = b := by
  match ps, h with
  | [p, q], h => exact ⟨p, q, rfl, (List.cons.inj h).1, (List.cons.inj (List.cons.inj h).2).1⟩
/-! joins -/
def jn (l : List Str) : Str := Txt.join (Str.ofString " ") l
open TL in
theorem jn_app {xs ys : List Str} (h1 : xs ≠ []) (h2 : ys ≠ []) : jn (xs ++ ys) = jn xs ++ Str.ofString " " ++ jn ys := by
  refine ext_tl ?_
  unfold jn
  rw [tl_append, tl_append, join_eq, join_eq, join_eq, tl_join, tl_join, tl_join, List.map_append, joinL_app _ (by simpa using h1) (by simpa using h2), List.append_assoc]
theorem jn1 (x : Str) : jn [x] = x := by
  refine TL.ext_tl ?_
  unfold jn
  rw [TL.join_eq, TL.tl_join]
  rfl
/-- the texts fs are the words of is, joined here and there -/
structure Jn (fs : List Str) (is : List Wi) : Prop where
  ne : fs ≠ []
  ni : is ≠ []
  eq : jn fs = jn (is.map Wi.wd)
  len : (fs.map (·.length)).sum + fs.length ≤ wl is
theorem str_len_app (x y : Str) : (x ++ y).length = x.length + y.length := by
  rw [TL.len_tl, TL.tl_append, List.length_append, ← TL.len_tl, ← TL.len_tl]
theorem jn_wl : ∀ {l : List Wi}, l ≠ [] → (jn (l.map Wi.wd)).length + 1 ≤ wl l
  | [], h => absurd rfl h
  | [i], _ => by
    rw [List.map_singleton, jn1, wl_cons]
    omega
  | i :: j :: l, _ => by
    have ih := jn_wl (l := j :: l) (by simp)
    have e : (i :: j :: l).map Wi.wd = [i.wd] ++ (j :: l).map Wi.wd := rfl
    rw [e, jn_app (by simp) (by simp), str_len_app, str_len_app, jn1, wl_cons]
    have : (Str.ofString " ").length = 1 := rfl
    omega
theorem Jn.one (i : Wi) : Jn [i.wd] [i] := ⟨by simp, by simp, rfl, by rw [wl_cons]; simp [wl]⟩
theorem Jn.snoc {fs : List Str} {is js : List Wi} (h : Jn fs is) {x : Str} (hj : js ≠ []) (e : x = jn (js.map Wi.wd)) : Jn (fs ++ [x]) (is ++ js) := by
  refine ⟨by simp, by simp [h.ni], ?_, ?_⟩
  · rw [List.map_append, jn_app h.ne (by simp), jn_app (by simpa using h.ni) (by simpa using hj), h.eq, jn1, e]
  · have h1 := h.len
    have h2 := jn_wl hj
    rw [← e] at h2
    rw [List.map_append, List.sum_append, List.length_append, wl_app]
    simp only [List.map_cons, List.map_nil, List.sum_cons, List.sum_nil, List.length_cons, List.length_nil]
    omega
theorem Jn.many {fs : List Str} {is : List Wi} (h : Jn fs is) : ∀ (js : List Wi), Jn (fs ++ js.map tx) (is ++ Wi.tks js)
  | [] => by
    rw [List.map_nil, List.append_nil, Wi.tks, List.append_nil]
    exact h
  | j :: js => by
    have z := (h.snoc (x := tx j) (js := j.tk) (by rw [Wi.tk_eq]; simp) rfl).many js
    rw [List.map_cons, Wi.tks]
    rw [List.append_assoc, List.append_assoc] at z
    exact z
theorem nam_of {p : Wi} (h : Ok1 p) (r : p.rl = "name") : ∃ n, nmS n = true ∧ p = .mk "name" n true (.str n) [] := by
  have wn : ∀ {r : Str}, wr r → r ≠ "name" := fun h => by rcases h with rfl | rfl <;> decide
  cases h with
  | nam n hn => exact ⟨n, hn, rfl⟩
  | num k hk => exact absurd (show ("number" : Str) = "name" from r) (by decide)
  | wnm r2 k h2 hk => exact absurd r (wn h2)
  | wtr r2 b h2 => exact absurd r (wn h2)
  | frm r2 w2 ps hr => exact absurd r (wn (fRl_r hr))
  | itm n ps hn hr => exact absurd (show ("items" : Str) = "name" from r) (by decide)
  | row n ps hn hr => exact absurd (show ("rows" : Str) = "name" from r) (by decide)
theorem num_of {p : Wi} (h : Ok1 p) (r : p.rl = "number") : ∃ n, n < 10 ^ 4300 ∧ p = .mk "number" (numS n) true (.int n) [] := by
  have wn : ∀ {r : Str}, wr r → r ≠ "number" := fun h => by rcases h with rfl | rfl <;> decide
  cases h with
  | nam n hn => exact absurd (show ("name" : Str) = "number" from r) (by decide)
  | num k hk => exact ⟨k, hk, rfl⟩
  | wnm r2 k h2 hk => exact absurd r (wn h2)
  | wtr r2 b h2 => exact absurd r (wn h2)
  | frm r2 w2 ps hr => exact absurd r (wn (fRl_r hr))
  | itm n ps hn hr => exact absurd (show ("items" : Str) = "number" from r) (by decide)
  | row n ps hn hr => exact absurd (show ("rows" : Str) = "number" from r) (by decide)
theorem itm_of {p : Wi} (h : Ok1 p) (r : p.rl = "items") : ∃ n ps, n ≤ 1000 ∧ ps.map Wi.rl = List.replicate n ("worth" : Str) ∧ p = .mk "items" (numS n) false (.tup (ps.map Wi.d)) ps := by
  have wn : ∀ {r : Str}, wr r → r ≠ "items" := fun h => by rcases h with rfl | rfl <;> decide
  cases h with
  | nam n hn => exact absurd (show ("name" : Str) = "items" from r) (by decide)
  | num k hk => exact absurd (show ("number" : Str) = "items" from r) (by decide)
  | wnm r2 k h2 hk => exact absurd r (wn h2)
  | wtr r2 b h2 => exact absurd r (wn h2)
  | frm r2 w2 ps hr => exact absurd r (wn (fRl_r hr))
  | itm n ps hn hr => exact ⟨n, ps, hn, hr, rfl⟩
  | row n ps hn hr => exact absurd (show ("rows" : Str) = "items" from r) (by decide)
theorem row_of {p : Wi} (h : Ok1 p) (r : p.rl = "rows") : ∃ n ps, n ≤ 1000 ∧ ps.map Wi.rl = nk n ∧ p = .mk "rows" (numS n) false (.tup (pairs (ps.map Wi.d))) ps := by
  have wn : ∀ {r : Str}, wr r → r ≠ "rows" := fun h => by rcases h with rfl | rfl <;> decide
  cases h with
  | nam n hn => exact absurd (show ("name" : Str) = "rows" from r) (by decide)
  | num k hk => exact absurd (show ("number" : Str) = "rows" from r) (by decide)
  | wnm r2 k h2 hk => exact absurd r (wn h2)
  | wtr r2 b h2 => exact absurd r (wn h2)
  | frm r2 w2 ps hr => exact absurd r (wn (fRl_r hr))
  | itm n ps hn hr => exact absurd (show ("items" : Str) = "rows" from r) (by decide)
  | row n ps hn hr => exact ⟨n, ps, hn, hr, rfl⟩
/-- the words, one by one -/
theorem fr_cases {r w : Str} {ps : List Wi} (h : fRl r w = some (ps.map Wi.rl)) :
    ((w = "thing" ∨ w = "maker") ∧ ∃ p q, ps = [p, q] ∧ (p.rl = "name" ∨ p.rl = "number") ∧ q.rl = "number") ∨
    ((w = "pair" ∨ w = "left" ∨ w = "right" ∨ w = "fault") ∧ ∀ p ∈ ps, p.rl = "worth") ∨
    (w = "list" ∧ ∃ p, ps = [p] ∧ p.rl = "items") ∨ (w = "made" ∧ ∃ p q, ps = [p, q] ∧ p.rl = "number" ∧ q.rl = "items") ∨ (w = "table" ∧ ∃ p, ps = [p] ∧ p.rl = "rows") := by
  rcases fRl_z h with ⟨_, rfl, e⟩ | ⟨_, h⟩
  · have : ps = [] := map0 e
    subst this
    exact .inr (.inl ⟨.inr (.inr (.inr rfl)), fun p hp => (nomatch hp)⟩)
  · have m := PySem.mem_of_lookup h
    have m : (w, ps.map Wi.rl) = (("thing" : Str), [("name" : Str), ("number" : Str)]) ∨ (w, ps.map Wi.rl) = (("pair" : Str), [("worth" : Str), ("worth" : Str)]) ∨ (w, ps.map Wi.rl) = (("left" : Str), [("worth" : Str)]) ∨ (w, ps.map Wi.rl) = (("right" : Str), [("worth" : Str)]) ∨ (w, ps.map Wi.rl) = (("list" : Str), [("items" : Str)]) ∨ (w, ps.map Wi.rl) = (("table" : Str), [("rows" : Str)]) ∨ (w, ps.map Wi.rl) = (("made" : Str), [("number" : Str), ("items" : Str)]) ∨ (w, ps.map Wi.rl) = (("maker" : Str), [("number" : Str), ("number" : Str)]) := by
      simpa [tblW] using m
    have worths : ∀ {l : List Str}, (∀ x ∈ l, x = "worth") → ps.map Wi.rl = l → ∀ p ∈ ps, p.rl = "worth" := fun hl e p hp => hl _ (by rw [← e]; exact List.mem_map_of_mem hp)
    rcases m with m | m | m | m | m | m | m | m <;> obtain ⟨e1, e2⟩ := Prod.mk.inj m
    · obtain ⟨p, q, e, h1, h2⟩ := map2 e2
      exact .inl ⟨.inl e1, p, q, e, .inl h1, h2⟩
    · exact .inr (.inl ⟨.inl e1, worths (by simp) e2⟩)
    · exact .inr (.inl ⟨.inr (.inl e1), worths (by simp) e2⟩)
    · exact .inr (.inl ⟨.inr (.inr (.inl e1)), worths (by simp) e2⟩)
    · obtain ⟨p, e, h1⟩ := map1 e2
      exact .inr (.inr (.inl ⟨e1, p, e, h1⟩))
    · obtain ⟨p, e, h1⟩ := map1 e2
      exact .inr (.inr (.inr (.inr ⟨e1, p, e, h1⟩)))
    · obtain ⟨p, q, e, h1, h2⟩ := map2 e2
      exact .inr (.inr (.inr (.inl ⟨e1, p, q, e, h1, h2⟩)))
    · obtain ⟨p, q, e, h1, h2⟩ := map2 e2
      exact .inl ⟨.inr e1, p, q, e, .inr h1, h2⟩
theorem nk_wr : ∀ (n : Nat) {x : Str}, x ∈ nk n → wr x
  | 0, x, h => nomatch h
  | n + 1, x, h => by
    rw [nk_succ] at h
    rcases List.mem_cons.mp h with rfl | h
    · exact .inl rfl
    · rcases List.mem_cons.mp h with rfl | h
      · exact .inr rfl
      · exact nk_wr n h
theorem pairs_dp : ∀ (n : Nat) (ds : List Dt), ds.length = 2 * n → ∀ {x : Dt}, x ∈ ds → x.dp + 1 ≤ Dt.dps (pairs ds)
  | 0, [], _, x, h => nomatch h
  | n + 1, [], h, _, _ => by simp at h
  | 0, a :: r, h, _, _ => by simp at h
  | n + 1, [a], h, _, _ => by simp at h; omega
  | n + 1, a :: b :: r, h, x, hx => by
    show x.dp + 1 ≤ Dt.dps (.tup [a, b] :: pairs r)
    simp only [Dt.dps, Dt.dp]
    rcases List.mem_cons.mp hx with rfl | hx
    · omega
    rcases List.mem_cons.mp hx with rfl | hx
    · omega
    · have := pairs_dp n r (by simp only [List.length_cons] at h; omega) hx
      omega
theorem small1000' {n : Nat} (h : n ≤ 2000) : n ≤ sizeLine := by
  rw [sizeLine_eq]
  omega
theorem listK {X : Cx} (K : PySem.W.Frag) (h : X.K = K) : CallR X (.type "list") (fun xs H Q => ∃ p ys, xs = [.ref p] ∧ (SqL K H p ys ∨ SqT K H p ys) ∧ ∀ l, H l = none → Q (.ref l) (upd H l (.lst ys))) := by
  subst h
  exact call_list_of
section
variable {P : Program} {w : World} {K : PySem.W.Frag} {mg : Str → Option Value} {base : Heap}
abbrev nLSh : List Str := ["_law_worth_here", "_law_found", "_law_some", "_law_row", "_law_inner"]
theorem scLSh : FnScope nLSh ["_law_worth_here"] (defScope tLSh) := ⟨rfl, rfl, rfl, by decide +kernel, rfl, by decide +kernel, by decide +kernel⟩
def spLSh (n : Nat) : Sp := fun vs H Q _ => ∃ (i : Wi) (v : V), vs = [v] ∧ wr i.rl ∧ ok i ∧ i.d.dp + 1 ≤ n ∧ tkl i ≤ 16000000 ∧ Dd Non H i.d v ∧ ∀ G : Hp, Same H G → Q (.str (tx i)) G
theorem okLSh1 {f : Addr} {fd : FuncData} {n k : Nat} (F : Fun K "_law_shown" "_law_shown" tLSh f fd) (bT : Binds K fd ["_law_worth_here"] []) (gT : mg "_law_shown" = some (.ref f))
    (GI : FnOk P w K mg base CX0 k f fd ["_law_worth_here"] (spLSh n)) (e1 : PySem.W.nsOkIn K cStatics = true) (e2 : PySem.W.nsIn K cStatics "sys.int_max_str_digits" = some none)
    (mi : mg "isinstance" = none) (mb : mg "bool" = none) (mn : mg "int" = none) (ms : mg "str" = none) (ml : mg "len" = none) (mL : mg "list" = none) (mu : mg "sum" = none) : FnOk P w K mg base CX0 (k + 1) f fd ["_law_worth_here"] (spLSh (n + 1)) := by
  refine F.ok scLSh (fun vs H Q E h => ?_) (fun cdv A outer s H vs Q E hr h => ?_)
  · obtain ⟨i, v, rfl, _⟩ := h
    rfl
  obtain ⟨i, v, rfl, ir, io, idp, il, hd, q⟩ := h
  refine ⟨_, pss_cons (ps_if (pt_val (pe_callB (isiK K rfl) (by rfl) mi PyProof.Rows.boot_isinstance (pa_cons (pv 0) (pa_cons (pe_bltn (v := .ty "bool") (by rfl) mb PyProof.Rows.boot_bool rfl) pa_nil)))) (pss_one (ps_ret (Kz.pe_yn (pv 0) (fun _ _ => rfl)))) pss_nil)
    (pss_cons (ps_if (pt_val (pe_callB (isiK K rfl) (by rfl) mi PyProof.Rows.boot_isinstance (pa_cons (pv 0) (pa_cons (pe_bltn (v := .ty "int") (by rfl) mn PyProof.Rows.boot_int rfl) pa_nil)))) (pss_one (ps_ret (pe_callTy (Kz.call_strB hr.hd e1 e2) (by rfl) ms PyProof.Rows.boot_str (pa_cons (pv 0) pa_nil)))) pss_nil)
    (pss_cons (ps_if (pt_cmpR op_in_seq (pe_ix ix_tup (pv 0) pe_int (fun _ _ => rfl)) (pe_tup (pa_cons pe_str (pa_cons pe_str pa_nil))) rfl)
      (pss_one (ps_ret (pe_op op_add_str (pe_op op_add_str (pe_op op_add_str (pe_op op_add_str (pe_ix ix_tup (pv 0) pe_int (fun _ _ => rfl)) pe_str) (pe_callTy (Kz.call_strB hr.hd e1 e2) (by rfl) ms PyProof.Rows.boot_str (pa_cons (pe_ix ix_tup (pv 0) pe_int (fun _ _ => rfl)) pa_nil))) pe_str)
        (pe_callTy (Kz.call_strB hr.hd e1 e2) (by rfl) ms PyProof.Rows.boot_str (pa_cons (pe_ix ix_tup (pv 0) pe_int (fun _ _ => rfl)) pa_nil))))) pss_nil)
    (pss_cons (ps_set (i := 1) scLSh.nd rfl (.inl rfl) (pe_lst (pa_cons (pe_ix ix_tup (pv 0) pe_int (fun _ _ => rfl)) pa_nil)))
    (pss_cons (ps_if (pt_cmpR op_eq (pe_ix ix_tup (pv 0) pe_int (fun _ _ => rfl)) pe_str (nomark _)) (pss_one (ps_expr (pe_bm PySem.F.plainAttrs_list PySem.F.slot_list_append PySem.F.type_list_append mt_append (pv 1) (pa_cons (pe_callTy (Kz.call_strB hr.hd e1 e2) (by rfl) ms PyProof.Rows.boot_str (pa_cons (pe_ix ix_tup (pv 0) pe_int (fun _ _ => rfl)) pa_nil)) pa_nil)))) pss_nil)
    (pss_cons (ps_set (i := 2) scLSh.nd rfl (.inl rfl) (pe_callTy call_list_of (by rfl) mL boot_list (pa_cons (pe_slice sl_tup (pv 0) (po_some pe_int) po_none) pa_nil)))
    (pss_cons (ps_if (pt_cmpR op_in_seq (pe_ix ix_tup (pv 0) pe_int (fun _ _ => rfl)) (pe_tup (pa_cons pe_str (pa_cons pe_str (pa_cons pe_str pa_nil)))) rfl)
      (pss_cons (ps_set (i := 2) scLSh.nd rfl (.inl rfl) (pe_callTy call_list_of (by rfl) mL boot_list (pa_cons (pe_ix ix_tup (pv 0) (pe_un un_neg pe_int) (fun _ _ => rfl)) pa_nil)))
      (pss_one (ps_expr (pe_bm PySem.F.plainAttrs_list PySem.F.slot_list_append PySem.F.type_list_append mt_append (pv 1) (pa_cons (pe_callTy (Kz.call_strB hr.hd e1 e2) (by rfl) ms PyProof.Rows.boot_str (pa_cons (pe_callB call_len_seq (by rfl) ml PySem.boot_len (pa_cons (pv 2) pa_nil)) pa_nil)) pa_nil))))) pss_nil)
    (pss_cons (ps_if (pt_cmpR op_eq (pe_ix ix_tup (pv 0) pe_int (fun _ _ => rfl)) pe_str (nomark _)) (pss_one (ps_set (i := 2) scLSh.nd rfl (.inl rfl) (pe_callB (Ks.cr_sumL hr.hd) (by rfl) mu PyProof.Rows.boot_sum (pa_cons (pe_lc (own := [("_law_row", 3)]) (g := gName 3) (by rfl) scLSh.nd (pi_list (pv 2)) (blkOk_by (own := [("_law_row", 3)]) (N := nLSh) (sc := defScope tLSh) (by decide +kernel))
        (fun _ _ _ _ _ => pg_name (i := 3) scLSh.nd rfl (.inl rfl)) (fun _ _ _ _ _ => pts_nil) (fun _ _ _ _ _ => pe_callTy (listK K rfl) (by rfl) mL boot_list (pa_cons (pv 3) pa_nil))) (pa_cons (pe_lst pa_nil) pa_nil))))) pss_nil)
    (pss_one (ps_ret (pe_join pe_str (pe_op op_cat (pv 1) (pe_lc (own := [("_law_inner", 4)]) (g := gName 4) (by rfl) scLSh.nd (pi_list (pv 2)) (blkOk_by (own := [("_law_inner", 4)]) (N := nLSh) (sc := defScope tLSh) (by decide +kernel))
        (fun _ _ _ _ _ => pg_name (i := 4) scLSh.nd rfl (.inl rfl)) (fun _ _ _ _ _ => pts_nil) (fun _ _ _ _ _ => pe_call GI hr (by rfl) gT F.kp bT .nil pass0 (pa_cons (pv 4) pa_nil)))))))))))))), ?_⟩
  have z1 : 1 ≤ sizeLine := by decide
  have z2 : 2 ≤ sizeLine := by decide
  have z3 : 3 ≤ sizeLine := by decide
  have oi := io.one
  refine ⟨_, rfl, _, _, _, _, i.d.isBl, rfl, .ty "bool", hd.ty, kBl K i.d, _, rfl, ?_⟩
  cases oi with
  | nam n hn => exact absurd ir (by show ¬ wr "name"; unfold wr; decide)
  | num m hm => exact absurd ir (by show ¬ wr "number"; unfold wr; decide)
  | itm n ps hn hr2 => exact absurd ir (by show ¬ wr "items"; unfold wr; decide)
  | row n ps hn hr2 => exact absurd ir (by show ¬ wr "rows"; unfold wr; decide)
  | wtr r b h2 =>
    cases hd
    have et : tx (.mk r (yn b) true (.bl b) []) = yn b := by
      show jn ((Wi.tk (.mk r (yn b) true (.bl b) [])).map Wi.wd) = _
      rw [Wi.tk_eq]
      exact jn1 _
    rw [et] at q
    exact iteT ⟨_, rfl, b, rfl, q H fun _ _ e => e⟩
  | wnm r m h2 hm =>
    cases hd
    have et : tx (.mk r (numS m) true (.int m) []) = numS m := by
      show jn ((Wi.tk (.mk r (numS m) true (.int m) [])).map Wi.wd) = _
      rw [Wi.tk_eq]
      exact jn1 _
    rw [et] at q
    exact iteF ⟨_, rfl, _, _, _, _, true, rfl, .ty "int", .base (.int _), kInt K (.int m), _, rfl, iteT ⟨_, rfl, .inr ⟨m, rfl, hm, q H fun _ _ e => e⟩⟩⟩
  | frm r wd ps hf =>
    have hd : Dd Non H (.tup (.str wd :: ps.map Wi.d)) v := hd
    have hty := hd.ty (K := K)
    obtain ⟨a, us, rfl, ha, hL⟩ := Dd.tupS hd
    obtain ⟨us1, rfl, hM⟩ : ∃ us1, us = V.str wd :: us1 ∧ DdL Non H (ps.map Wi.d) us1 := by
      cases hL with
      | cons h1 t =>
        cases h1
        exact ⟨_, rfl, t⟩
    have opz := io.ps
    have opz : ∀ p ∈ ps, ok p := opz
    refine iteF ⟨_, rfl, _, _, _, _, false, rfl, .ty "int", hty, kInt K (.tup (.str wd :: ps.map Wi.d)), _, rfl, iteF ?_⟩
    refine ⟨_, rfl, a, _, _, _, rfl, rfl, SqT.of ha, atI_nat (j := 0) rfl, z2, fun p hp => ⟨p, _, rfl, .inr (SqT.of upd_same), rfl, rfl, _, rfl, ?_⟩⟩
    have s1 := newS (o := .tup [V.str "thing", .str "maker"]) hp
    generalize upd H p (.tup [V.str "thing", .str "maker"]) = H1 at s1 ⊢
    have ha1 := s1 _ _ ha
    have hM1 := hM.same s1
    have ehead : tx (.mk r wd false (.tup (.str wd :: ps.map Wi.d)) ps) = jn (wd :: (Wi.tks ps).map Wi.wd) := by
      show jn ((Wi.tk (.mk r wd false (.tup (.str wd :: ps.map Wi.d)) ps)).map Wi.wd) = _
      rw [Wi.tk_eq]
      rfl
    have itkl : wd.length + 1 + wl (Wi.tks ps) ≤ 16000000 := by
      have z := tkl_ps (.mk r wd false (.tup (.str wd :: ps.map Wi.d)) ps)
      have z2 : tkl (.mk r wd false (.tup (.str wd :: ps.map Wi.d)) ps) = wd.length + 1 + wl (Wi.tks ps) := z
      omega
    rcases fr_cases hf with ⟨hw, p1, p2, rfl, r1, r2⟩ | ⟨hw, hps⟩ | ⟨rfl, p1, rfl, r1⟩ | ⟨rfl, p1, p2, rfl, r1, r2⟩ | ⟨rfl, p1, rfl, r1⟩
    · have eb : inV (V.str wd) [V.str "thing", V.str "maker"] = true := by rcases hw with rfl | rfl <;> decide +kernel
      show if inV (V.str wd) [V.str "thing", V.str "maker"] = true then _ else _
      rw [eb]
      obtain ⟨m2, hm2, rfl⟩ := num_of (opz p2 (by simp)).one r2
      have l2 := numS_len (n := m2) (k := 4300) (by decide) hm2
      obtain ⟨u1, u2, rfl, d1, d2⟩ : ∃ u1 u2, us1 = [u1, u2] ∧ Dd Non H1 p1.d u1 ∧ Dd Non H1 (.int m2) u2 := by
        cases hM1 with
        | cons h1 t => cases t with
          | cons h2 t => cases t; exact ⟨_, _, rfl, h1, h2⟩
      cases d2
      obtain ⟨t1, et1, lt1, ep1, st1⟩ : ∃ t1 : Str, p1.wd = t1 ∧ t1.length ≤ 4300 ∧ p1.tk = [p1] ∧ ((∃ n : Str, u1 = .str n ∧ t1 = n) ∨ ∃ m : Nat, u1 = .int m ∧ m < 10 ^ 4300 ∧ t1 = numS m) := by
        rcases r1 with r1 | r1
        · obtain ⟨n, hn, rfl⟩ := nam_of (opz p1 (by simp)).one r1
          cases d1
          exact ⟨n, rfl, by have := nmS_len hn; omega, by rw [Wi.tk_eq]; show _ :: Wi.tks [] = _; rw [Wi.tks], .inl ⟨n, rfl, rfl⟩⟩
        · obtain ⟨m, hm, rfl⟩ := num_of (opz p1 (by simp)).one r1
          cases d1
          exact ⟨numS m, rfl, numS_len (by decide) hm, by rw [Wi.tk_eq]; show _ :: Wi.tks [] = _; rw [Wi.tks], .inr ⟨m, rfl, hm, rfl⟩⟩
      have lw : wd.length ≤ 5 := by rcases hw with rfl | rfl <;> decide
      have ls : (" " : Str).length = 1 := rfl
      have lS : sizeLine = 16777216 := rfl
      have etx : tx (.mk r wd false (.tup (.str wd :: [p1, .mk "number" (numS m2) true (.int m2) []].map Wi.d)) [p1, .mk "number" (numS m2) true (.int m2) []]) = wd ++ " " ++ t1 ++ " " ++ numS m2 := by
        rw [ehead]
        have e : (Wi.tks [p1, .mk "number" (numS m2) true (.int m2) []]).map Wi.wd = [t1, numS m2] := by
          rw [Wi.tks, Wi.tks, ep1, Wi.tks, Wi.tk_eq]
          show p1.wd :: numS m2 :: ((Wi.tks []) ++ []).map Wi.wd = _
          rw [et1, Wi.tks]
          rfl
        rw [e]
        have j1 := jn_app (xs := [wd, t1]) (ys := [numS m2]) (by simp) (by simp)
        have j2 := jn_app (xs := [wd]) (ys := [t1]) (by simp) (by simp)
        rw [jn1] at j1
        rw [jn1, jn1] at j2
        exact j1.trans (by rw [show jn [wd, t1] = wd ++ Str.ofString " " ++ t1 from j2])
      have fin := q H1 s1
      rw [etx] at fin
      refine iteT ⟨_, rfl, a, _, _, _, rfl, rfl, SqT.of ha1, atI_nat (j := 0) rfl, _, _, rfl, rfl, by omega, _, rfl, a, _, _, _, rfl, rfl, SqT.of ha1, atI_nat (j := 1) rfl, ?_⟩
      have a1 : (wd ++ " ").length = wd.length + 1 := str_len_app _ _
      have a2 : (wd ++ " " ++ t1).length = wd.length + 1 + t1.length := by rw [str_len_app, a1]
      have a3 : (wd ++ " " ++ t1 ++ " ").length = wd.length + 1 + t1.length + 1 := by rw [str_len_app, a2]; rfl
      rcases st1 with ⟨n, rfl, rfl⟩ | ⟨m, rfl, hm, rfl⟩
      · exact .inl ⟨_, rfl, _, _, rfl, rfl, by omega, _, _, rfl, rfl, by omega, _, rfl, a, _, _, _, rfl, rfl, SqT.of ha1, atI_nat (j := 2) rfl, .inr ⟨m2, rfl, hm2, _, _, rfl, rfl, by rw [a3]; show _ + (numS m2).length ≤ _; omega, fin⟩⟩
      · exact .inr ⟨m, rfl, hm, _, _, rfl, rfl, by rw [a1]; show _ + (numS m).length ≤ _; omega, _, _, rfl, rfl, by show (wd ++ " " ++ numS m).length + _ ≤ _; omega, _, rfl, a, _, _, _, rfl, rfl, SqT.of ha1, atI_nat (j := 2) rfl, .inr ⟨m2, rfl, hm2, _, _, rfl, rfl, by show (wd ++ " " ++ numS m ++ " ").length + (numS m2).length ≤ _; omega, fin⟩⟩
    · have ef : inV (V.str wd) [V.str "thing", V.str "maker"] = false ∧ decide (V.str wd = V.str "made") = false ∧ inV (V.str wd) [V.str "list", V.str "table", V.str "made"] = false ∧ decide (V.str wd = V.str "table") = false := by rcases hw with rfl | rfl | rfl | rfl <;> decide +kernel
      obtain ⟨ea, em, el, et⟩ := ef
      show if inV (V.str wd) [V.str "thing", V.str "maker"] = true then _ else _
      rw [ea]
      refine iteF ⟨_, rfl, a, _, _, _, rfl, rfl, SqT.of ha1, atI_nat (j := 0) rfl, z1, fun fa nfa => ?_⟩
      have s2 := newS (o := .lst [V.str wd]) nfa
      have gfa0 : (upd H1 fa (.lst [V.str wd])) fa = some (.lst [V.str wd]) := upd_same
      generalize upd H1 fa (.lst [V.str wd]) = H2 at s2 gfa0
      have ha2 := s2 _ _ ha1
      refine ⟨_, rfl, a, _, _, _, rfl, rfl, SqT.of ha2, atI_nat (j := 0) rfl, rfl, _, rfl, ?_⟩
      show if decide (V.str wd = V.str "made") = true then _ else _
      rw [em]
      refine iteF ⟨_, rfl, 1, rfl, a, _, rfl, SqT.of ha2, notWhole _ _, fun p2 hp2 => ?_⟩
      rw [cutFrom1]
      have s3 := newS (o := .tup us1) hp2
      have g3 : (upd H2 p2 (.tup us1)) p2 = some (.tup us1) := upd_same
      generalize upd H2 p2 (.tup us1) = H3 at s3 g3
      refine ⟨p2, us1, rfl, .inr (SqT.of g3), fun sa nsa => ?_⟩
      have s4 := newS (o := .lst us1) nsa
      have g4 : (upd H3 sa (.lst us1)) sa = some (.lst us1) := upd_same
      generalize upd H3 sa (.lst us1) = H4 at s4 g4
      have ha4 := s4 _ _ (s3 _ _ ha2)
      refine ⟨_, rfl, a, _, _, _, rfl, rfl, SqT.of ha4, atI_nat (j := 0) rfl, z3, fun p3 hp3 => ⟨p3, _, rfl, .inr (SqT.of upd_same), rfl, rfl, _, rfl, ?_⟩⟩
      have s5 := newS (o := .tup [V.str "list", .str "table", .str "made"]) hp3
      generalize upd H4 p3 (.tup [V.str "list", .str "table", .str "made"]) = G at s5
      show if inV (V.str wd) [V.str "list", V.str "table", V.str "made"] = true then _ else _
      rw [el]
      refine iteF ⟨_, rfl, a, _, _, _, rfl, rfl, SqT.of (s5 _ _ ha4), atI_nat (j := 0) rfl, rfl, _, rfl, ?_⟩
      show if decide (V.str wd = V.str "table") = true then _ else _
      rw [et]
      refine iteF ?_
      have sG : Same H G := fun b o e => s5 _ _ (s4 _ _ (s3 _ _ (s2 _ _ (s1 _ _ e))))
      have sG1 : Same H1 G := fun b o e => s5 _ _ (s4 _ _ (s3 _ _ (s2 _ _ e)))
      have gfa : G fa = some (.lst (([wd] : List Str).map V.str)) := s5 _ _ (s4 _ _ (s3 _ _ gfa0))
      have gsa : G sa = some (.lst us1) := s5 _ _ g4
      have dj : DdL Non G (ps.map Wi.d) us1 := hM1.same sG1
      have hj : ∀ j ∈ ps, wr j.rl ∧ ok j ∧ j.d.dp + 1 ≤ n ∧ tkl j ≤ 16000000 := fun j hj => by
        refine ⟨.inl (hps j hj), opz j hj, ?_, ?_⟩
        · have z := dps_mem' (xs := ps.map Wi.d) (List.mem_map_of_mem (f := Wi.d) hj)
          have idp : (Dt.tup (.str wd :: ps.map Wi.d)).dp + 1 ≤ n + 1 := idp
          simp only [Dt.dp, Dt.dps] at idp
          omega
        · have := wl_tks hj
          omega
      have jn0 : Jn [wd] [Wi.mk r wd false (.tup (.str wd :: ps.map Wi.d)) ps] := Jn.one (Wi.mk r wd false (.tup (.str wd :: ps.map Wi.d)) ps)
      have jeq : jn (([Wi.mk r wd false (.tup (.str wd :: ps.map Wi.d)) ps] ++ Wi.tks ps).map Wi.wd) = tx (.mk r wd false (.tup (.str wd :: ps.map Wi.d)) ps) := by rw [ehead]; rfl
      have jlen : wl ([Wi.mk r wd false (.tup (.str wd :: ps.map Wi.d)) ps] ++ Wi.tks ps) ≤ 16000000 := by
        rw [List.singleton_append, wl_cons]
        exact itkl
      have jm := jn0.many (ps)
      have jl := jm.len
      have lS : sizeLine = 16777216 := rfl
      refine ⟨⟨_, rfl⟩, _, rfl, _, rfl, sa, rfl, ⟨_, SqL.of gsa⟩, fun D nD => ?_⟩
      have sD := newS (o := .lst []) nD
      refine lc_list (xs := us1) (fun j F => Same G F ∧ F D = some (.lst (((ps).take j).map (fun q => V.str (tx q))))) ⟨sD, upd_same⟩ (fun j F _ z => SqL.of (z.1 _ _ gsa)) (fun j u F hu z => ?_) (fun F z => ?_)
      · obtain ⟨sF, gD⟩ := z
        obtain ⟨x, hx, dx⟩ := dj.get hu
        rw [List.getElem?_map] at hx
        obtain ⟨q1, hq1, rfl⟩ := Option.map_eq_some_iff.mp hx
        obtain ⟨k1, k2, k3, k4⟩ := hj q1 (List.mem_of_getElem? hq1)
        refine ⟨rfl, _, rfl, q1, u, rfl, k1, k2, k3, k4, dx.same sF, fun F2 s2 => ?_⟩
        have lj : j < (ps).length := (List.getElem?_eq_some_iff.mp hq1).1
        have lt : (((ps).take j).map (fun q => V.str (tx q))).length < sizeLine := by
          rw [List.length_map, List.length_take]
          rw [List.length_append, List.length_map] at jl
          omega
        refine ⟨_, s2 _ _ gD, lt, fun b o e => ?_, ?_⟩
        · rw [upd_ne (ne_of_none e nD)]
          exact s2 _ _ (sF _ _ e)
        · rw [upd_same, List.take_add_one, hq1, List.map_append]
          rfl
      obtain ⟨sF, gD⟩ := z
      have lu : us1.length = (ps).length := by rw [← dj.len, List.length_map]
      rw [lu, List.take_length] at gD
      have e0 : ([wd]).map V.str ++ (ps).map (fun q => V.str (tx q)) = ((([wd]) ++ (ps).map tx).map V.str) := by
        rw [List.map_append, List.map_map]
        rfl
      refine ⟨fa, D, _, _, rfl, rfl, sF _ _ gfa, gD, ?_, fun p9 hp9 => ?_⟩
      · rw [List.length_map, List.length_map]
        rw [List.length_append, List.length_map] at jl
        omega
      rw [e0]
      have s9 := newS (o := .lst ((([wd]) ++ (ps).map tx).map V.str)) hp9
      refine ⟨_, p9, _, rfl, rfl, .inl (SqL.of upd_same), ?_, ?_⟩
      · have : (" " : Str).length = 1 := rfl
        rw [this]
        omega
      have z := q _ (fun b o e => s9 _ _ (sF _ _ (sG _ _ e)))
      rw [← jeq, ← jm.eq] at z
      exact z
    · obtain ⟨c, is, hn, hr2, rfl⟩ := itm_of (opz p1 List.mem_cons_self).one r1
      have lc : is.length = c := rep_len hr2
      obtain ⟨b, usb, rfl, hb, dlb⟩ : ∃ b usb, us1 = [V.ref b] ∧ H1 b = some (.tup usb) ∧ DdL Non H1 (is.map Wi.d) usb := by
        cases hM1 with
        | cons h1 t =>
          cases t
          obtain ⟨b, usb, rfl, hb, dlb⟩ := Dd.tupS (show Dd Non H1 (.tup (is.map Wi.d)) _ from h1)
          exact ⟨b, usb, rfl, hb, dlb⟩
      have lub : usb.length = c := by rw [← dlb.len, List.length_map, lc]
      have hc43 : c < 10 ^ 4300 := Nat.lt_of_le_of_lt hn (by decide +kernel)
      refine iteF ⟨_, rfl, a, _, _, _, rfl, rfl, SqT.of ha1, atI_nat (j := 0) rfl, z1, fun fa nfa => ?_⟩
      have s2 := newS (o := .lst [V.str "list"]) nfa
      have gfa0 : (upd H1 fa (.lst [V.str "list"])) fa = some (.lst [V.str "list"]) := upd_same
      generalize upd H1 fa (.lst [V.str "list"]) = H2 at s2 gfa0
      have ha2 := s2 _ _ ha1
      have nfaH : ∀ x o, H1 x = some o → x ≠ fa := fun x o e => ne_of_none e nfa
      have k2 : ∀ x o, H1 x = some o → H2 x = some o := fun x o e => s2 _ _ e
      refine ⟨_, rfl, a, _, _, _, rfl, rfl, SqT.of ha2, atI_nat (j := 0) rfl, rfl, _, rfl, iteF ?_⟩
      refine ⟨_, rfl, 1, rfl, a, _, rfl, SqT.of ha2, notWhole _ _, fun p2 hp2 => ?_⟩
      rw [cutFrom1]
      have s3 := newS (o := .tup [V.ref b]) hp2
      have g3 : (upd H2 p2 (.tup [V.ref b])) p2 = some (.tup [V.ref b]) := upd_same
      generalize upd H2 p2 (.tup [V.ref b]) = H3 at s3 g3
      refine ⟨p2, _, rfl, .inr (SqT.of g3), fun s0 ns0 => ?_⟩
      have s4 := newS (o := .lst [V.ref b]) ns0
      generalize upd H3 s0 (.lst [V.ref b]) = H4 at s4
      have ha4 := s4 _ _ (s3 _ _ ha2)
      refine ⟨_, rfl, a, _, _, _, rfl, rfl, SqT.of ha4, atI_nat (j := 0) rfl, z3, fun p3 hp3 => ⟨p3, _, rfl, .inr (SqT.of upd_same), rfl, rfl, _, rfl, iteT ?_⟩⟩
      have s5 := newS (o := .tup [V.str "list", .str "table", .str "made"]) hp3
      generalize upd H4 p3 (.tup [V.str "list", .str "table", .str "made"]) = H5 at s5 ⊢
      have k5 : Same H2 H5 := fun x o e => s5 _ _ (s4 _ _ (s3 _ _ e))
      have hb5 := k5 _ _ (k2 _ _ hb)
      refine ⟨_, rfl, 1, rfl, a, _, _, .ref b, rfl, rfl, SqT.of (s5 _ _ ha4), rfl, b, usb, rfl, .inr (SqT.of hb5), fun sa nsa => ?_⟩
      have s6 := newS (o := .lst usb) nsa
      have g6 : (upd H5 sa (.lst usb)) sa = some (.lst usb) := upd_same
      generalize upd H5 sa (.lst usb) = H6 at s6 g6
      have gfa6 := s6 _ _ (k5 _ _ gfa0)
      have safa : sa ≠ fa := (ne_of_none (k5 _ _ gfa0) nsa).symm
      refine ⟨_, rfl, .inl ⟨rfl, _, SqL.of gfa6⟩, _, rfl, sa, usb, rfl, .inl (SqL.of g6), .inr ⟨c, by rw [lub], hc43, fa, _, _, rfl, rfl, gfa6, by show 1 < sizeLine; decide, ?_⟩⟩
      have gfa : (upd H6 fa (.lst ([V.str "list"] ++ [V.str (Str.ofString (toString ((c : Nat) : Int)))]))) fa = some (.lst (([("list" : Str), numS c] : List Str).map V.str)) := upd_same
      have k7 : ∀ x o, x ≠ fa → H6 x = some o → (upd H6 fa (.lst ([V.str "list"] ++ [V.str (Str.ofString (toString ((c : Nat) : Int)))]))) x = some o := fun x o h e => by rw [upd_ne h]; exact e
      have gsa := k7 _ _ safa g6
      have sG : Same H (upd H6 fa (.lst ([V.str "list"] ++ [V.str (Str.ofString (toString ((c : Nat) : Int)))]))) := fun x o e => k7 _ _ (nfaH _ _ (s1 _ _ e)) (s6 _ _ (k5 _ _ (k2 _ _ (s1 _ _ e))))
      have sG1 : Same H1 (upd H6 fa (.lst ([V.str "list"] ++ [V.str (Str.ofString (toString ((c : Nat) : Int)))]))) := fun x o e => k7 _ _ (nfaH _ _ e) (s6 _ _ (k5 _ _ (k2 _ _ e)))
      have haG := sG1 _ _ ha1
      have djG := dlb.same sG1
      generalize upd H6 fa (.lst ([V.str "list"] ++ [V.str (Str.ofString (toString ((c : Nat) : Int)))])) = G at gfa gsa sG sG1 haG djG ⊢
      refine ⟨_, rfl, a, _, _, _, rfl, rfl, SqT.of haG, atI_nat (j := 0) rfl, rfl, _, rfl, iteF ?_⟩
      have oki : ∀ j ∈ is, ok j := (opz (Wi.mk "items" (numS c) false (.tup (is.map Wi.d)) is) List.mem_cons_self).ps
      have hj : ∀ j ∈ is, wr j.rl ∧ ok j ∧ j.d.dp + 1 ≤ n ∧ tkl j ≤ 16000000 := fun j hj => by
        refine ⟨.inl ?_, oki j hj, ?_, ?_⟩
        · have z : j.rl ∈ is.map Wi.rl := List.mem_map_of_mem hj
          rw [hr2] at z
          exact (List.mem_replicate.mp z).2
        · have z := dps_mem' (xs := is.map Wi.d) (List.mem_map_of_mem (f := Wi.d) hj)
          have z2 := dps_mem' (xs := ([Wi.mk "items" (numS c) false (.tup (is.map Wi.d)) is]).map Wi.d) (x := .tup (is.map Wi.d)) (by simp [Wi.d])
          have idp : (Dt.tup (.str "list" :: ([Wi.mk "items" (numS c) false (.tup (is.map Wi.d)) is]).map Wi.d)).dp + 1 ≤ n + 1 := idp
          rw [dp_tup] at z2
          rw [dp_tup] at idp
          simp only [Dt.dps] at idp
          omega
        · have q1 := wl_tks hj
          have q2 := wl_tks (is := [Wi.mk "items" (numS c) false (.tup (is.map Wi.d)) is]) (p := Wi.mk "items" (numS c) false (.tup (is.map Wi.d)) is) (by simp)
          rw [tkl_ps] at q2
          have q3 : (Wi.mk "items" (numS c) false (.tup (is.map Wi.d)) is).ps = is := rfl
          rw [q3] at q2
          omega
      have etk : Wi.tks ([Wi.mk "items" (numS c) false (.tup (is.map Wi.d)) is]) = [Wi.mk "items" (numS c) false (.tup (is.map Wi.d)) is] ++ Wi.tks is := by
        rw [Wi.tks_cons, List.append_nil]; rfl
      have jn0 : Jn [("list" : Str), numS c] ([Wi.mk r "list" false (.tup (.str "list" :: ([Wi.mk "items" (numS c) false (.tup (is.map Wi.d)) is]).map Wi.d)) [Wi.mk "items" (numS c) false (.tup (is.map Wi.d)) is]] ++ [Wi.mk "items" (numS c) false (.tup (is.map Wi.d)) is]) := by
        exact (Jn.one (Wi.mk r "list" false (.tup (.str "list" :: ([Wi.mk "items" (numS c) false (.tup (is.map Wi.d)) is]).map Wi.d)) [Wi.mk "items" (numS c) false (.tup (is.map Wi.d)) is])).snoc (x := numS c) (js := [Wi.mk "items" (numS c) false (.tup (is.map Wi.d)) is]) (by simp) (jn1 _).symm
      have jeq : jn ((([Wi.mk r "list" false (.tup (.str "list" :: ([Wi.mk "items" (numS c) false (.tup (is.map Wi.d)) is]).map Wi.d)) [Wi.mk "items" (numS c) false (.tup (is.map Wi.d)) is]] ++ [Wi.mk "items" (numS c) false (.tup (is.map Wi.d)) is]) ++ Wi.tks is).map Wi.wd) = tx (Wi.mk r "list" false (.tup (.str "list" :: ([Wi.mk "items" (numS c) false (.tup (is.map Wi.d)) is]).map Wi.d)) [Wi.mk "items" (numS c) false (.tup (is.map Wi.d)) is]) := by
        rw [ehead, etk, List.append_assoc]
        rfl
      have jlen : wl (([Wi.mk r "list" false (.tup (.str "list" :: ([Wi.mk "items" (numS c) false (.tup (is.map Wi.d)) is]).map Wi.d)) [Wi.mk "items" (numS c) false (.tup (is.map Wi.d)) is]] ++ [Wi.mk "items" (numS c) false (.tup (is.map Wi.d)) is]) ++ Wi.tks is) ≤ 16000000 := by
        rw [List.append_assoc, List.singleton_append, wl_cons, ← etk]
        exact itkl
      have jm := jn0.many (is)
      have jl := jm.len
      have lS : sizeLine = 16777216 := rfl
      refine ⟨⟨_, rfl⟩, _, rfl, _, rfl, sa, rfl, ⟨_, SqL.of gsa⟩, fun D nD => ?_⟩
      have sD := newS (o := .lst []) nD
      refine lc_list (xs := usb) (fun j F => Same G F ∧ F D = some (.lst (((is).take j).map (fun q => V.str (tx q))))) ⟨sD, upd_same⟩ (fun j F _ z => SqL.of (z.1 _ _ gsa)) (fun j u F hu z => ?_) (fun F z => ?_)
      · obtain ⟨sF, gD⟩ := z
        obtain ⟨x, hx, dx⟩ := djG.get hu
        rw [List.getElem?_map] at hx
        obtain ⟨q1, hq1, rfl⟩ := Option.map_eq_some_iff.mp hx
        obtain ⟨k1, k2, k3, k4⟩ := hj q1 (List.mem_of_getElem? hq1)
        refine ⟨rfl, _, rfl, q1, u, rfl, k1, k2, k3, k4, dx.same sF, fun F2 s2 => ?_⟩
        have lj : j < (is).length := (List.getElem?_eq_some_iff.mp hq1).1
        have lt : (((is).take j).map (fun q => V.str (tx q))).length < sizeLine := by
          rw [List.length_map, List.length_take]
          rw [List.length_append, List.length_map] at jl
          omega
        refine ⟨_, s2 _ _ gD, lt, fun b o e => ?_, ?_⟩
        · rw [upd_ne (ne_of_none e nD)]
          exact s2 _ _ (sF _ _ e)
        · rw [upd_same, List.take_add_one, hq1, List.map_append]
          rfl
      obtain ⟨sF, gD⟩ := z
      have lu : usb.length = (is).length := by rw [← djG.len, List.length_map]
      rw [lu, List.take_length] at gD
      have e0 : ([("list" : Str), numS c]).map V.str ++ (is).map (fun q => V.str (tx q)) = ((([("list" : Str), numS c]) ++ (is).map tx).map V.str) := by
        rw [List.map_append, List.map_map]
        rfl
      refine ⟨fa, D, _, _, rfl, rfl, sF _ _ gfa, gD, ?_, fun p9 hp9 => ?_⟩
      · rw [List.length_map, List.length_map]
        rw [List.length_append, List.length_map] at jl
        omega
      rw [e0]
      have s9 := newS (o := .lst ((([("list" : Str), numS c]) ++ (is).map tx).map V.str)) hp9
      refine ⟨_, p9, _, rfl, rfl, .inl (SqL.of upd_same), ?_, ?_⟩
      · have : (" " : Str).length = 1 := rfl
        rw [this]
        omega
      have z := q _ (fun b o e => s9 _ _ (sF _ _ (sG _ _ e)))
      rw [← jeq, ← jm.eq] at z
      exact z
    · obtain ⟨m, hm, rfl⟩ := num_of (opz p1 List.mem_cons_self).one r1
      obtain ⟨c, is, hn, hr2, rfl⟩ := itm_of (opz p2 (List.mem_cons_of_mem _ List.mem_cons_self)).one r2
      have lc : is.length = c := rep_len hr2
      obtain ⟨b, usb, rfl, hb, dlb⟩ : ∃ b usb, us1 = V.int (m : Int) :: [V.ref b] ∧ H1 b = some (.tup usb) ∧ DdL Non H1 (is.map Wi.d) usb := by
        cases hM1 with
        | cons h0 t => cases t with
          | cons h1 t =>
            cases t
            cases h0
            obtain ⟨b, usb, rfl, hb, dlb⟩ := Dd.tupS (show Dd Non H1 (.tup (is.map Wi.d)) _ from h1)
            exact ⟨b, usb, rfl, hb, dlb⟩
      have lub : usb.length = c := by rw [← dlb.len, List.length_map, lc]
      have hc43 : c < 10 ^ 4300 := Nat.lt_of_le_of_lt hn (by decide +kernel)
      refine iteF ⟨_, rfl, a, _, _, _, rfl, rfl, SqT.of ha1, atI_nat (j := 0) rfl, z1, fun fa nfa => ?_⟩
      have s2 := newS (o := .lst [V.str "made"]) nfa
      have gfa0 : (upd H1 fa (.lst [V.str "made"])) fa = some (.lst [V.str "made"]) := upd_same
      generalize upd H1 fa (.lst [V.str "made"]) = H2 at s2 gfa0
      have ha2 := s2 _ _ ha1
      have nfaH : ∀ x o, H1 x = some o → x ≠ fa := fun x o e => ne_of_none e nfa
      refine ⟨_, rfl, a, _, _, _, rfl, rfl, SqT.of ha2, atI_nat (j := 0) rfl, rfl, _, rfl, iteT ⟨_, rfl, .inl ⟨rfl, _, SqL.of gfa0⟩, _, rfl, a, _, _, _, rfl, rfl, SqT.of ha2, atI_nat (j := 1) rfl, .inr ⟨m, rfl, hm, fa, _, _, rfl, rfl, gfa0, by show 1 < sizeLine; decide, ?_⟩⟩⟩
      have s2' : ∀ x o, x ≠ fa → H2 x = some o → (upd H2 fa (.lst ([V.str "made"] ++ [V.str (Str.ofString (toString ((m : Nat) : Int)))]))) x = some o := fun x o h e => by rw [upd_ne h]; exact e
      have gfa1 : (upd H2 fa (.lst ([V.str "made"] ++ [V.str (Str.ofString (toString ((m : Nat) : Int)))]))) fa = some (.lst [V.str "made", .str (numS m)]) := upd_same
      have ha2 : (upd H2 fa (.lst ([V.str "made"] ++ [V.str (Str.ofString (toString ((m : Nat) : Int)))]))) a = _ := s2' _ _ (nfaH _ _ ha1) ha2
      have k2 : ∀ x o, H1 x = some o → (upd H2 fa (.lst ([V.str "made"] ++ [V.str (Str.ofString (toString ((m : Nat) : Int)))]))) x = some o := fun x o e => s2' _ _ (nfaH _ _ e) (s2 _ _ e)
      generalize upd H2 fa (.lst ([V.str "made"] ++ [V.str (Str.ofString (toString ((m : Nat) : Int)))])) = H2b at gfa1 ha2 k2 ⊢
      refine ⟨_, rfl, 1, rfl, a, _, rfl, SqT.of ha2, notWhole _ _, fun p2 hp2 => ?_⟩
      rw [cutFrom1]
      have s3 := newS (o := .tup [V.int (m : Int), .ref b]) hp2
      have g3 : (upd H2b p2 (.tup [V.int (m : Int), .ref b])) p2 = some (.tup [V.int (m : Int), .ref b]) := upd_same
      generalize upd H2b p2 (.tup [V.int (m : Int), .ref b]) = H3 at s3 g3
      refine ⟨p2, _, rfl, .inr (SqT.of g3), fun s0 ns0 => ?_⟩
      have s4 := newS (o := .lst [V.int (m : Int), .ref b]) ns0
      generalize upd H3 s0 (.lst [V.int (m : Int), .ref b]) = H4 at s4
      have ha4 := s4 _ _ (s3 _ _ ha2)
      refine ⟨_, rfl, a, _, _, _, rfl, rfl, SqT.of ha4, atI_nat (j := 0) rfl, z3, fun p3 hp3 => ⟨p3, _, rfl, .inr (SqT.of upd_same), rfl, rfl, _, rfl, iteT ?_⟩⟩
      have s5 := newS (o := .tup [V.str "list", .str "table", .str "made"]) hp3
      generalize upd H4 p3 (.tup [V.str "list", .str "table", .str "made"]) = H5 at s5 ⊢
      have k5 : Same H2b H5 := fun x o e => s5 _ _ (s4 _ _ (s3 _ _ e))
      have hb5 := k5 _ _ (k2 _ _ hb)
      refine ⟨_, rfl, 1, rfl, a, _, _, .ref b, rfl, rfl, SqT.of (s5 _ _ ha4), rfl, b, usb, rfl, .inr (SqT.of hb5), fun sa nsa => ?_⟩
      have s6 := newS (o := .lst usb) nsa
      have g6 : (upd H5 sa (.lst usb)) sa = some (.lst usb) := upd_same
      generalize upd H5 sa (.lst usb) = H6 at s6 g6
      have gfa6 := s6 _ _ (k5 _ _ gfa1)
      have safa : sa ≠ fa := (ne_of_none (k5 _ _ gfa1) nsa).symm
      refine ⟨_, rfl, .inl ⟨rfl, _, SqL.of gfa6⟩, _, rfl, sa, usb, rfl, .inl (SqL.of g6), .inr ⟨c, by rw [lub], hc43, fa, _, _, rfl, rfl, gfa6, by show 2 < sizeLine; decide, ?_⟩⟩
      have gfa : (upd H6 fa (.lst ([V.str "made", .str (numS m)] ++ [V.str (Str.ofString (toString ((c : Nat) : Int)))]))) fa = some (.lst (([("made" : Str), numS m, numS c] : List Str).map V.str)) := upd_same
      have k7 : ∀ x o, x ≠ fa → H6 x = some o → (upd H6 fa (.lst ([V.str "made", .str (numS m)] ++ [V.str (Str.ofString (toString ((c : Nat) : Int)))]))) x = some o := fun x o h e => by rw [upd_ne h]; exact e
      have gsa := k7 _ _ safa g6
      have sG : Same H (upd H6 fa (.lst ([V.str "made", .str (numS m)] ++ [V.str (Str.ofString (toString ((c : Nat) : Int)))]))) := fun x o e => k7 _ _ (nfaH _ _ (s1 _ _ e)) (s6 _ _ (k5 _ _ (k2 _ _ (s1 _ _ e))))
      have sG1 : Same H1 (upd H6 fa (.lst ([V.str "made", .str (numS m)] ++ [V.str (Str.ofString (toString ((c : Nat) : Int)))]))) := fun x o e => k7 _ _ (nfaH _ _ e) (s6 _ _ (k5 _ _ (k2 _ _ e)))
      have haG := sG1 _ _ ha1
      have djG := dlb.same sG1
      generalize upd H6 fa (.lst ([V.str "made", .str (numS m)] ++ [V.str (Str.ofString (toString ((c : Nat) : Int)))])) = G at gfa gsa sG sG1 haG djG ⊢
      refine ⟨_, rfl, a, _, _, _, rfl, rfl, SqT.of haG, atI_nat (j := 0) rfl, rfl, _, rfl, iteF ?_⟩
      have oki : ∀ j ∈ is, ok j := (opz (Wi.mk "items" (numS c) false (.tup (is.map Wi.d)) is) (List.mem_cons_of_mem _ List.mem_cons_self)).ps
      have hj : ∀ j ∈ is, wr j.rl ∧ ok j ∧ j.d.dp + 1 ≤ n ∧ tkl j ≤ 16000000 := fun j hj => by
        refine ⟨.inl ?_, oki j hj, ?_, ?_⟩
        · have z : j.rl ∈ is.map Wi.rl := List.mem_map_of_mem hj
          rw [hr2] at z
          exact (List.mem_replicate.mp z).2
        · have z := dps_mem' (xs := is.map Wi.d) (List.mem_map_of_mem (f := Wi.d) hj)
          have z2 := dps_mem' (xs := ([Wi.mk "number" (numS m) true (.int m) [], Wi.mk "items" (numS c) false (.tup (is.map Wi.d)) is]).map Wi.d) (x := .tup (is.map Wi.d)) (by simp [Wi.d])
          have idp : (Dt.tup (.str "made" :: ([Wi.mk "number" (numS m) true (.int m) [], Wi.mk "items" (numS c) false (.tup (is.map Wi.d)) is]).map Wi.d)).dp + 1 ≤ n + 1 := idp
          rw [dp_tup] at z2
          rw [dp_tup] at idp
          simp only [Dt.dps] at idp
          omega
        · have q1 := wl_tks hj
          have q2 := wl_tks (is := [Wi.mk "number" (numS m) true (.int m) [], Wi.mk "items" (numS c) false (.tup (is.map Wi.d)) is]) (p := Wi.mk "items" (numS c) false (.tup (is.map Wi.d)) is) (by simp)
          rw [tkl_ps] at q2
          have q3 : (Wi.mk "items" (numS c) false (.tup (is.map Wi.d)) is).ps = is := rfl
          rw [q3] at q2
          omega
      have etk : Wi.tks ([Wi.mk "number" (numS m) true (.int m) [], Wi.mk "items" (numS c) false (.tup (is.map Wi.d)) is]) = [Wi.mk "number" (numS m) true (.int m) [], Wi.mk "items" (numS c) false (.tup (is.map Wi.d)) is] ++ Wi.tks is := by
        rw [Wi.tks_cons, show (Wi.mk "number" (numS m) true (.int m) []).ps = [] from rfl, List.nil_append, Wi.tks_cons, List.append_nil]; rfl
      have jn0 : Jn [("made" : Str), numS m, numS c] ([Wi.mk r "made" false (.tup (.str "made" :: ([Wi.mk "number" (numS m) true (.int m) [], Wi.mk "items" (numS c) false (.tup (is.map Wi.d)) is]).map Wi.d)) [Wi.mk "number" (numS m) true (.int m) [], Wi.mk "items" (numS c) false (.tup (is.map Wi.d)) is]] ++ [Wi.mk "number" (numS m) true (.int m) [], Wi.mk "items" (numS c) false (.tup (is.map Wi.d)) is]) := by
        exact ((Jn.one (Wi.mk r "made" false (.tup (.str "made" :: ([Wi.mk "number" (numS m) true (.int m) [], Wi.mk "items" (numS c) false (.tup (is.map Wi.d)) is]).map Wi.d)) [Wi.mk "number" (numS m) true (.int m) [], Wi.mk "items" (numS c) false (.tup (is.map Wi.d)) is])).snoc (x := numS m) (js := [Wi.mk "number" (numS m) true (.int m) []]) (by simp) (jn1 _).symm).snoc (x := numS c) (js := [Wi.mk "items" (numS c) false (.tup (is.map Wi.d)) is]) (by simp) (jn1 _).symm
      have jeq : jn ((([Wi.mk r "made" false (.tup (.str "made" :: ([Wi.mk "number" (numS m) true (.int m) [], Wi.mk "items" (numS c) false (.tup (is.map Wi.d)) is]).map Wi.d)) [Wi.mk "number" (numS m) true (.int m) [], Wi.mk "items" (numS c) false (.tup (is.map Wi.d)) is]] ++ [Wi.mk "number" (numS m) true (.int m) [], Wi.mk "items" (numS c) false (.tup (is.map Wi.d)) is]) ++ Wi.tks is).map Wi.wd) = tx (Wi.mk r "made" false (.tup (.str "made" :: ([Wi.mk "number" (numS m) true (.int m) [], Wi.mk "items" (numS c) false (.tup (is.map Wi.d)) is]).map Wi.d)) [Wi.mk "number" (numS m) true (.int m) [], Wi.mk "items" (numS c) false (.tup (is.map Wi.d)) is]) := by
        rw [ehead, etk, List.append_assoc]
        rfl
      have jlen : wl (([Wi.mk r "made" false (.tup (.str "made" :: ([Wi.mk "number" (numS m) true (.int m) [], Wi.mk "items" (numS c) false (.tup (is.map Wi.d)) is]).map Wi.d)) [Wi.mk "number" (numS m) true (.int m) [], Wi.mk "items" (numS c) false (.tup (is.map Wi.d)) is]] ++ [Wi.mk "number" (numS m) true (.int m) [], Wi.mk "items" (numS c) false (.tup (is.map Wi.d)) is]) ++ Wi.tks is) ≤ 16000000 := by
        rw [List.append_assoc, List.singleton_append, wl_cons, ← etk]
        exact itkl
      have jm := jn0.many (is)
      have jl := jm.len
      have lS : sizeLine = 16777216 := rfl
      refine ⟨⟨_, rfl⟩, _, rfl, _, rfl, sa, rfl, ⟨_, SqL.of gsa⟩, fun D nD => ?_⟩
      have sD := newS (o := .lst []) nD
      refine lc_list (xs := usb) (fun j F => Same G F ∧ F D = some (.lst (((is).take j).map (fun q => V.str (tx q))))) ⟨sD, upd_same⟩ (fun j F _ z => SqL.of (z.1 _ _ gsa)) (fun j u F hu z => ?_) (fun F z => ?_)
      · obtain ⟨sF, gD⟩ := z
        obtain ⟨x, hx, dx⟩ := djG.get hu
        rw [List.getElem?_map] at hx
        obtain ⟨q1, hq1, rfl⟩ := Option.map_eq_some_iff.mp hx
        obtain ⟨k1, k2, k3, k4⟩ := hj q1 (List.mem_of_getElem? hq1)
        refine ⟨rfl, _, rfl, q1, u, rfl, k1, k2, k3, k4, dx.same sF, fun F2 s2 => ?_⟩
        have lj : j < (is).length := (List.getElem?_eq_some_iff.mp hq1).1
        have lt : (((is).take j).map (fun q => V.str (tx q))).length < sizeLine := by
          rw [List.length_map, List.length_take]
          rw [List.length_append, List.length_map] at jl
          omega
        refine ⟨_, s2 _ _ gD, lt, fun b o e => ?_, ?_⟩
        · rw [upd_ne (ne_of_none e nD)]
          exact s2 _ _ (sF _ _ e)
        · rw [upd_same, List.take_add_one, hq1, List.map_append]
          rfl
      obtain ⟨sF, gD⟩ := z
      have lu : usb.length = (is).length := by rw [← djG.len, List.length_map]
      rw [lu, List.take_length] at gD
      have e0 : ([("made" : Str), numS m, numS c]).map V.str ++ (is).map (fun q => V.str (tx q)) = ((([("made" : Str), numS m, numS c]) ++ (is).map tx).map V.str) := by
        rw [List.map_append, List.map_map]
        rfl
      refine ⟨fa, D, _, _, rfl, rfl, sF _ _ gfa, gD, ?_, fun p9 hp9 => ?_⟩
      · rw [List.length_map, List.length_map]
        rw [List.length_append, List.length_map] at jl
        omega
      rw [e0]
      have s9 := newS (o := .lst ((([("made" : Str), numS m, numS c]) ++ (is).map tx).map V.str)) hp9
      refine ⟨_, p9, _, rfl, rfl, .inl (SqL.of upd_same), ?_, ?_⟩
      · have : (" " : Str).length = 1 := rfl
        rw [this]
        omega
      have z := q _ (fun b o e => s9 _ _ (sF _ _ (sG _ _ e)))
      rw [← jeq, ← jm.eq] at z
      exact z
    · obtain ⟨c, is, hn, hr2, rfl⟩ := row_of (opz p1 List.mem_cons_self).one r1
      have ev := ps_even hr2
      have lc : is.length = 2 * c := by rw [List.length_map] at ev; exact ev
      obtain ⟨b, usb, rfl, hb, dlb⟩ : ∃ b usb, us1 = [V.ref b] ∧ H1 b = some (.tup usb) ∧ DdL Non H1 (pairs (is.map Wi.d)) usb := by
        cases hM1 with
        | cons h1 t =>
          cases t
          obtain ⟨b, usb, rfl, hb, dlb⟩ := Dd.tupS (show Dd Non H1 (.tup (pairs (is.map Wi.d))) _ from h1)
          exact ⟨b, usb, rfl, hb, dlb⟩
      have lub : usb.length = c := by rw [← dlb.len, pairs_len c _ ev]
      have hc43 : c < 10 ^ 4300 := Nat.lt_of_le_of_lt hn (by decide +kernel)
      refine iteF ⟨_, rfl, a, _, _, _, rfl, rfl, SqT.of ha1, atI_nat (j := 0) rfl, z1, fun fa nfa => ?_⟩
      have s2 := newS (o := .lst [V.str "table"]) nfa
      have gfa0 : (upd H1 fa (.lst [V.str "table"])) fa = some (.lst [V.str "table"]) := upd_same
      generalize upd H1 fa (.lst [V.str "table"]) = H2 at s2 gfa0
      have ha2 := s2 _ _ ha1
      have nfaH : ∀ x o, H1 x = some o → x ≠ fa := fun x o e => ne_of_none e nfa
      have k2 : ∀ x o, H1 x = some o → H2 x = some o := fun x o e => s2 _ _ e
      refine ⟨_, rfl, a, _, _, _, rfl, rfl, SqT.of ha2, atI_nat (j := 0) rfl, rfl, _, rfl, iteF ?_⟩
      refine ⟨_, rfl, 1, rfl, a, _, rfl, SqT.of ha2, notWhole _ _, fun p2 hp2 => ?_⟩
      rw [cutFrom1]
      have s3 := newS (o := .tup [V.ref b]) hp2
      have g3 : (upd H2 p2 (.tup [V.ref b])) p2 = some (.tup [V.ref b]) := upd_same
      generalize upd H2 p2 (.tup [V.ref b]) = H3 at s3 g3
      refine ⟨p2, _, rfl, .inr (SqT.of g3), fun s0 ns0 => ?_⟩
      have s4 := newS (o := .lst [V.ref b]) ns0
      generalize upd H3 s0 (.lst [V.ref b]) = H4 at s4
      have ha4 := s4 _ _ (s3 _ _ ha2)
      refine ⟨_, rfl, a, _, _, _, rfl, rfl, SqT.of ha4, atI_nat (j := 0) rfl, z3, fun p3 hp3 => ⟨p3, _, rfl, .inr (SqT.of upd_same), rfl, rfl, _, rfl, iteT ?_⟩⟩
      have s5 := newS (o := .tup [V.str "list", .str "table", .str "made"]) hp3
      generalize upd H4 p3 (.tup [V.str "list", .str "table", .str "made"]) = H5 at s5 ⊢
      have k5 : Same H2 H5 := fun x o e => s5 _ _ (s4 _ _ (s3 _ _ e))
      have hb5 := k5 _ _ (k2 _ _ hb)
      refine ⟨_, rfl, 1, rfl, a, _, _, .ref b, rfl, rfl, SqT.of (s5 _ _ ha4), rfl, b, usb, rfl, .inr (SqT.of hb5), fun sa nsa => ?_⟩
      have s6 := newS (o := .lst usb) nsa
      have g6 : (upd H5 sa (.lst usb)) sa = some (.lst usb) := upd_same
      generalize upd H5 sa (.lst usb) = H6 at s6 g6
      have gfa6 := s6 _ _ (k5 _ _ gfa0)
      have safa : sa ≠ fa := (ne_of_none (k5 _ _ gfa0) nsa).symm
      refine ⟨_, rfl, .inl ⟨rfl, _, SqL.of gfa6⟩, _, rfl, sa, usb, rfl, .inl (SqL.of g6), .inr ⟨c, by rw [lub], hc43, fa, _, _, rfl, rfl, gfa6, by show 1 < sizeLine; decide, ?_⟩⟩
      have gfa : (upd H6 fa (.lst ([V.str "table"] ++ [V.str (Str.ofString (toString ((c : Nat) : Int)))]))) fa = some (.lst (([("table" : Str), numS c] : List Str).map V.str)) := upd_same
      have k7 : ∀ x o, x ≠ fa → H6 x = some o → (upd H6 fa (.lst ([V.str "table"] ++ [V.str (Str.ofString (toString ((c : Nat) : Int)))]))) x = some o := fun x o h e => by rw [upd_ne h]; exact e
      have gsa := k7 _ _ safa g6
      have sG : Same H (upd H6 fa (.lst ([V.str "table"] ++ [V.str (Str.ofString (toString ((c : Nat) : Int)))]))) := fun x o e => k7 _ _ (nfaH _ _ (s1 _ _ e)) (s6 _ _ (k5 _ _ (k2 _ _ (s1 _ _ e))))
      have sG1 : Same H1 (upd H6 fa (.lst ([V.str "table"] ++ [V.str (Str.ofString (toString ((c : Nat) : Int)))]))) := fun x o e => k7 _ _ (nfaH _ _ e) (s6 _ _ (k5 _ _ (k2 _ _ e)))
      have haG := sG1 _ _ ha1
      have djG := dlb.same sG1
      generalize upd H6 fa (.lst ([V.str "table"] ++ [V.str (Str.ofString (toString ((c : Nat) : Int)))])) = G at gfa gsa sG sG1 haG djG ⊢
      have oki : ∀ j ∈ is, ok j := (opz (Wi.mk "rows" (numS c) false (.tup (pairs (is.map Wi.d))) is) List.mem_cons_self).ps
      have hj : ∀ j ∈ is, wr j.rl ∧ ok j ∧ j.d.dp + 1 ≤ n ∧ tkl j ≤ 16000000 := fun j hj => by
        refine ⟨?_, oki j hj, ?_, ?_⟩
        · have z : j.rl ∈ is.map Wi.rl := List.mem_map_of_mem hj
          rw [hr2] at z
          exact nk_wr c z
        · have z := pairs_dp c _ ev (List.mem_map_of_mem (f := Wi.d) hj)
          have z2 := dps_mem' (xs := ([Wi.mk "rows" (numS c) false (.tup (pairs (is.map Wi.d))) is]).map Wi.d) (x := .tup (pairs (is.map Wi.d))) (by simp [Wi.d])
          have idp : (Dt.tup (.str "table" :: ([Wi.mk "rows" (numS c) false (.tup (pairs (is.map Wi.d))) is]).map Wi.d)).dp + 1 ≤ n + 1 := idp
          rw [dp_tup] at z2
          rw [dp_tup] at idp
          simp only [Dt.dps] at idp
          omega
        · have q1 := wl_tks hj
          have q2 := wl_tks (is := [Wi.mk "rows" (numS c) false (.tup (pairs (is.map Wi.d))) is]) (p := Wi.mk "rows" (numS c) false (.tup (pairs (is.map Wi.d))) is) (by simp)
          rw [tkl_ps] at q2
          have q3 : (Wi.mk "rows" (numS c) false (.tup (pairs (is.map Wi.d))) is).ps = is := rfl
          rw [q3] at q2
          omega
      have etk : Wi.tks ([Wi.mk "rows" (numS c) false (.tup (pairs (is.map Wi.d))) is]) = [Wi.mk "rows" (numS c) false (.tup (pairs (is.map Wi.d))) is] ++ Wi.tks is := by
        rw [Wi.tks_cons, List.append_nil]; rfl
      have jn0 : Jn [("table" : Str), numS c] ([Wi.mk r "table" false (.tup (.str "table" :: ([Wi.mk "rows" (numS c) false (.tup (pairs (is.map Wi.d))) is]).map Wi.d)) [Wi.mk "rows" (numS c) false (.tup (pairs (is.map Wi.d))) is]] ++ [Wi.mk "rows" (numS c) false (.tup (pairs (is.map Wi.d))) is]) := by
        exact (Jn.one (Wi.mk r "table" false (.tup (.str "table" :: ([Wi.mk "rows" (numS c) false (.tup (pairs (is.map Wi.d))) is]).map Wi.d)) [Wi.mk "rows" (numS c) false (.tup (pairs (is.map Wi.d))) is])).snoc (x := numS c) (js := [Wi.mk "rows" (numS c) false (.tup (pairs (is.map Wi.d))) is]) (by simp) (jn1 _).symm
      have jeq : jn ((([Wi.mk r "table" false (.tup (.str "table" :: ([Wi.mk "rows" (numS c) false (.tup (pairs (is.map Wi.d))) is]).map Wi.d)) [Wi.mk "rows" (numS c) false (.tup (pairs (is.map Wi.d))) is]] ++ [Wi.mk "rows" (numS c) false (.tup (pairs (is.map Wi.d))) is]) ++ Wi.tks is).map Wi.wd) = tx (Wi.mk r "table" false (.tup (.str "table" :: ([Wi.mk "rows" (numS c) false (.tup (pairs (is.map Wi.d))) is]).map Wi.d)) [Wi.mk "rows" (numS c) false (.tup (pairs (is.map Wi.d))) is]) := by
        rw [ehead, etk, List.append_assoc]
        rfl
      have jlen : wl (([Wi.mk r "table" false (.tup (.str "table" :: ([Wi.mk "rows" (numS c) false (.tup (pairs (is.map Wi.d))) is]).map Wi.d)) [Wi.mk "rows" (numS c) false (.tup (pairs (is.map Wi.d))) is]] ++ [Wi.mk "rows" (numS c) false (.tup (pairs (is.map Wi.d))) is]) ++ Wi.tks is) ≤ 16000000 := by
        rw [List.append_assoc, List.singleton_append, wl_cons, ← etk]
        exact itkl
      refine ⟨_, rfl, a, _, _, _, rfl, rfl, SqT.of haG, atI_nat (j := 0) rfl, rfl, _, rfl, iteT ?_⟩
      refine ⟨_, rfl, sa, rfl, ⟨_, SqL.of gsa⟩, fun D nD => ?_⟩
      have sD := newS (o := .lst []) nD
      refine lc_list (xs := usb) (fun j F => Same G F ∧ ∃ (ls : List Addr) (rs : List (List V)), F D = some (.lst (ls.map V.ref)) ∧ ls.length = j ∧ rs.length = j ∧ (∀ (i : Nat) (p : Addr) (r : List V), ls[i]? = some p → rs[i]? = some r → F p = some (.lst r)) ∧ DdL Non G ((is.take (2 * j)).map Wi.d) rs.flatten ∧ ∀ q ∈ ls, q ≠ D) ⟨sD, [], [], upd_same, rfl, rfl, fun i p r h => (by simp at h), .nil, fun q hq => (nomatch hq)⟩ (fun j F _ z => SqL.of (z.1 _ _ gsa)) (fun j u F hu z => ?_) (fun F z => ?_)
      · obtain ⟨sF, ls, rs, gD, l1, l2, hrows, dfl, nD2⟩ := z
        have hj2 : j < c := by rw [← lub]; exact (List.getElem?_eq_some_iff.mp hu).1
        obtain ⟨x, y, hx, hy, hxy⟩ := pairs_at c _ j ev hj2
        obtain ⟨d0, hd0, rd⟩ := djG.get hu
        rw [hxy] at hd0
        obtain rfl := Option.some.inj hd0
        rw [List.getElem?_map] at hx hy
        obtain ⟨i1, hi1, rfl⟩ := Option.map_eq_some_iff.mp hx
        obtain ⟨i2, hi2, rfl⟩ := Option.map_eq_some_iff.mp hy
        obtain ⟨p9, v1, v2, rfl, hp9, d1, d2⟩ := Dd.tup2 rd
        refine ⟨rfl, _, rfl, p9, _, rfl, .inr (SqT.of (sF _ _ hp9)), fun l nl => ?_⟩
        have sl := newS (o := .lst [v1, v2]) nl
        have gl : (upd F l (.lst [v1, v2])) l = some (.lst [v1, v2]) := upd_same
        generalize upd F l (.lst [v1, v2]) = F2 at sl gl
        have gD2 := sl _ _ gD
        have lD : l ≠ D := fun w => by rw [w, gD] at nl; cases nl
        refine ⟨_, gD2, small1000 (by rw [List.length_map]; omega), fun b o e => ?_, ls ++ [l], rs ++ [[v1, v2]], by rw [upd_same, List.map_append]; rfl, by rw [List.length_append, l1]; rfl, by rw [List.length_append, l2]; rfl, fun i p r h1 h2 => ?_, ?_, fun q hq => ?_⟩
        · rw [upd_ne (ne_of_none e nD)]
          exact sl _ _ (sF _ _ e)
        · by_cases hi : i < ls.length
          · rw [List.getElem?_append_left hi] at h1
            rw [List.getElem?_append_left (by omega)] at h2
            have g := sl _ _ (hrows i p r h1 h2)
            have pD : p ≠ D := nD2 p (List.mem_of_getElem? h1)
            rw [upd_ne pD]
            exact g
          · have hi2 : i < (ls ++ [l]).length := (List.getElem?_eq_some_iff.mp h1).1
            rw [List.length_append] at hi2
            simp only [List.length_cons, List.length_nil] at hi2
            have ei : i = ls.length := by omega
            subst ei
            rw [List.getElem?_append_right (Nat.le_refl _), Nat.sub_self] at h1
            rw [List.getElem?_append_right (by omega), show ls.length - rs.length = 0 by omega] at h2
            cases h1
            cases h2
            rw [upd_ne lD]
            exact gl
        · rw [List.flatten_append, show 2 * (j + 1) = 2 * j + 1 + 1 by omega, List.take_add_one, hi2, List.take_add_one, hi1, List.append_assoc, List.map_append]
          exact dfl.app (.cons d1 (.cons d2 .nil))
        · rcases List.mem_append.mp hq with hq | hq
          · exact nD2 q hq
          · rw [List.mem_singleton.mp hq]
            exact lD
      obtain ⟨sF, ls, rs, gD, l1, l2, hrows, dfl, _⟩ := z
      rw [lub, ← lc, List.take_length] at dfl
      have lfl : rs.flatten.length = 2 * c := by rw [← dfl.len, List.length_map, lc]
      refine ⟨Nat.zero_le _, fun e0 ne0 => ?_⟩
      have se := newS (o := .lst []) ne0
      have ge : (upd F e0 (.lst [])) e0 = some (.lst []) := upd_same
      generalize upd F e0 (.lst []) = F3 at se ge
      have s3F : Same G F3 := fun b o e => se _ _ (sF _ _ e)
      refine ⟨D, e0, ls, rs, rfl, SqL.of (se _ _ gD), ge, by rw [l1, l2], fun i p r h1 h2 => se _ _ (hrows i p r h1 h2), small1000' (by omega), fun e => ?_, fun ne l hl => ?_⟩
      · have gsx : F3 e0 = some (.lst rs.flatten) := by rw [ge, e]; rfl
        have sGF : Same H F3 := fun b o e => s3F _ _ (sG _ _ e)
        have gfaF := s3F _ _ gfa
        have djF := dfl.same s3F
        generalize hGF : F3 = GF at gsx sGF gfaF djF ⊢
        generalize hsx : e0 = sx at gsx ⊢
        have jm := jn0.many (is)
        have jl := jm.len
        have lS : sizeLine = 16777216 := rfl
        refine ⟨⟨_, rfl⟩, _, rfl, _, rfl, sx, rfl, ⟨_, SqL.of gsx⟩, fun D nD => ?_⟩
        have sD := newS (o := .lst []) nD
        refine lc_list (xs := rs.flatten) (fun j F => Same GF F ∧ F D = some (.lst (((is).take j).map (fun q => V.str (tx q))))) ⟨sD, upd_same⟩ (fun j F _ z => SqL.of (z.1 _ _ gsx)) (fun j u F hu z => ?_) (fun F z => ?_)
        · obtain ⟨sF, gD⟩ := z
          obtain ⟨x, hx, dx⟩ := djF.get hu
          rw [List.getElem?_map] at hx
          obtain ⟨q1, hq1, rfl⟩ := Option.map_eq_some_iff.mp hx
          obtain ⟨k1, k2, k3, k4⟩ := hj q1 (List.mem_of_getElem? hq1)
          refine ⟨rfl, _, rfl, q1, u, rfl, k1, k2, k3, k4, dx.same sF, fun F2 s2 => ?_⟩
          have lj : j < (is).length := (List.getElem?_eq_some_iff.mp hq1).1
          have lt : (((is).take j).map (fun q => V.str (tx q))).length < sizeLine := by
            rw [List.length_map, List.length_take]
            rw [List.length_append, List.length_map] at jl
            omega
          refine ⟨_, s2 _ _ gD, lt, fun b o e => ?_, ?_⟩
          · rw [upd_ne (ne_of_none e nD)]
            exact s2 _ _ (sF _ _ e)
          · rw [upd_same, List.take_add_one, hq1, List.map_append]
            rfl
        obtain ⟨sF, gD⟩ := z
        have lu : rs.flatten.length = (is).length := by rw [← djF.len, List.length_map]
        rw [lu, List.take_length] at gD
        have e0 : ([("table" : Str), numS c]).map V.str ++ (is).map (fun q => V.str (tx q)) = ((([("table" : Str), numS c]) ++ (is).map tx).map V.str) := by
          rw [List.map_append, List.map_map]
          rfl
        refine ⟨fa, D, _, _, rfl, rfl, sF _ _ gfaF, gD, ?_, fun p9 hp9 => ?_⟩
        · rw [List.length_map, List.length_map]
          rw [List.length_append, List.length_map] at jl
          omega
        rw [e0]
        have s9 := newS (o := .lst ((([("table" : Str), numS c]) ++ (is).map tx).map V.str)) hp9
        refine ⟨_, p9, _, rfl, rfl, .inl (SqL.of upd_same), ?_, ?_⟩
        · have : (" " : Str).length = 1 := rfl
          rw [this]
          omega
        have z := q _ (fun b o e => s9 _ _ (sF _ _ (sGF _ _ e)))
        rw [← jeq, ← jm.eq] at z
        exact z
      · have sl := newS (o := .lst rs.flatten) hl
        have gsx : (upd F3 l (.lst rs.flatten)) l = some (.lst rs.flatten) := upd_same
        have s4F : Same G (upd F3 l (.lst rs.flatten)) := fun b o e => sl _ _ (s3F _ _ e)
        have sGF : Same H (upd F3 l (.lst rs.flatten)) := fun b o e => s4F _ _ (sG _ _ e)
        have gfaF := s4F _ _ gfa
        have djF := dfl.same s4F
        generalize hGF : upd F3 l (.lst rs.flatten) = GF at gsx sGF gfaF djF ⊢
        generalize hsx : l = sx at gsx ⊢
        have jm := jn0.many (is)
        have jl := jm.len
        have lS : sizeLine = 16777216 := rfl
        refine ⟨⟨_, rfl⟩, _, rfl, _, rfl, sx, rfl, ⟨_, SqL.of gsx⟩, fun D nD => ?_⟩
        have sD := newS (o := .lst []) nD
        refine lc_list (xs := rs.flatten) (fun j F => Same GF F ∧ F D = some (.lst (((is).take j).map (fun q => V.str (tx q))))) ⟨sD, upd_same⟩ (fun j F _ z => SqL.of (z.1 _ _ gsx)) (fun j u F hu z => ?_) (fun F z => ?_)
        · obtain ⟨sF, gD⟩ := z
          obtain ⟨x, hx, dx⟩ := djF.get hu
          rw [List.getElem?_map] at hx
          obtain ⟨q1, hq1, rfl⟩ := Option.map_eq_some_iff.mp hx
          obtain ⟨k1, k2, k3, k4⟩ := hj q1 (List.mem_of_getElem? hq1)
          refine ⟨rfl, _, rfl, q1, u, rfl, k1, k2, k3, k4, dx.same sF, fun F2 s2 => ?_⟩
          have lj : j < (is).length := (List.getElem?_eq_some_iff.mp hq1).1
          have lt : (((is).take j).map (fun q => V.str (tx q))).length < sizeLine := by
            rw [List.length_map, List.length_take]
            rw [List.length_append, List.length_map] at jl
            omega
          refine ⟨_, s2 _ _ gD, lt, fun b o e => ?_, ?_⟩
          · rw [upd_ne (ne_of_none e nD)]
            exact s2 _ _ (sF _ _ e)
          · rw [upd_same, List.take_add_one, hq1, List.map_append]
            rfl
        obtain ⟨sF, gD⟩ := z
        have lu : rs.flatten.length = (is).length := by rw [← djF.len, List.length_map]
        rw [lu, List.take_length] at gD
        have e0 : ([("table" : Str), numS c]).map V.str ++ (is).map (fun q => V.str (tx q)) = ((([("table" : Str), numS c]) ++ (is).map tx).map V.str) := by
          rw [List.map_append, List.map_map]
          rfl
        refine ⟨fa, D, _, _, rfl, rfl, sF _ _ gfaF, gD, ?_, fun p9 hp9 => ?_⟩
        · rw [List.length_map, List.length_map]
          rw [List.length_append, List.length_map] at jl
          omega
        rw [e0]
        have s9 := newS (o := .lst ((([("table" : Str), numS c]) ++ (is).map tx).map V.str)) hp9
        refine ⟨_, p9, _, rfl, rfl, .inl (SqL.of upd_same), ?_, ?_⟩
        · have : (" " : Str).length = 1 := rfl
          rw [this]
          omega
        have z := q _ (fun b o e => s9 _ _ (sF _ _ (sGF _ _ e)))
        rw [← jeq, ← jm.eq] at z
        exact z
end
end Kq

namespace Kq
open PySem PySem.Spec PyProof.Rows L2 Kf Kg Kv GxR Kk
abbrev tRight : Stmt := tp 38
abbrev tDeep : Stmt := tp 39
abbrev tBack : Stmt := tp 40
abbrev Wl2 (i : Wi) : Prop := Wg 15000000 60 i
theorem Wg.tkl {i : Wi} (h : Wl2 i) : Kq.tkl i ≤ 16000000 := by
  have := tkl_wt h.ok (Dt.loc_up (by decide) (by decide +kernel) h.lo)
  have := h.wt
  omega
theorem Wg.shw {i : Wi} (h : Wl2 i) : Shw 70 i.d :=
  (show Fine (10 ^ 44) 70 16777214 i.d from ⟨Dt.loc_fine h.lo, by have := h.dp; omega, by have := h.wt; omega⟩).shw (by decide +kernel) (by decide +kernel)
theorem wg_l1 {W D : Nat} {i : Wi} (h : Wg W D i) : Wg (W + 300) (D + 2) (frmW "list" [itmN [i]]) := by
  have wi := itmN_in (is := [i]) (n := 1) (W := W) (D := D) (by show 1 ≤ 1; decide) (by decide) fun p hp => by rw [List.mem_singleton.mp hp]; exact h
  exact (wg_frm (w := "list") (ps := [itmN [i]]) (W := (W + 2) * 1 + 10) (D := D + 1) (by show _ = some [("items" : Str)]; decide +kernel) (by decide) (by decide +kernel) (by show 1 ≤ 2; decide) fun p hp => by rw [List.mem_singleton.mp hp]; exact wi).up (by show ((W + 2) * 1 + 10 + 2) * 1 + 80 ≤ _; omega) (Nat.le_refl _)
theorem wg_s1 {W D : Nat} {i : Wi} (h : Wg W D i) : Wg (W + 300) (D + 2) (frmW "left" [i]) :=
  (wg_frm (w := "left") (ps := [i]) (W := W) (D := D) (by show _ = some [i.rl]; rw [h.rl]; decide +kernel) (by decide) (by decide +kernel) (by show 1 ≤ 2; decide) fun p hp => by rw [List.mem_singleton.mp hp]; exact h.in).up (by show (W + 2) * 1 + 80 ≤ _; omega) (by omega)
theorem wg_m1 {W D : Nat} {i : Wi} (h : Wg W D i) {k : Nat} (hk : k ≤ 1000) : Wg (W + 300) (D + 2) (frmW "made" [numN k, itmN [i]]) := by
  have wi := itmN_in (is := [i]) (n := 1) (W := W) (D := D) (by show 1 ≤ 1; decide) (by decide) fun p hp => by rw [List.mem_singleton.mp hp]; exact h
  have wn := numN_in (k := k) (by omega) (W := 100) (D := 0) (by decide)
  refine ⟨rfl, frmW_ok (by show _ = some [("number" : Str), ("items" : Str)]; decide +kernel) fun p hp => ?_, loN (by show 3 ≤ 20; decide) (fun x hx => ?_), ?_, ?_⟩
  · rcases List.mem_cons.mp hp with rfl | hp
    · exact wn.1
    · rw [List.mem_singleton.mp hp]; exact wi.1
  · have hx : x = Dt.str "made" ∨ x = (numN k).d ∨ x = (itmN [i]).d := by simpa [frmW] using hx
    rcases hx with rfl | rfl | rfl
    · exact lo_str (by decide +kernel) (by decide)
    · exact wn.2.1
    · exact wi.2.1
  · have h1 := h.wt
    have e : ("made" : Str).length = 4 := rfl
    show (Dt.tup [.str "made", .int k, .tup [i.d]]).wt ≤ W + 300
    simp only [Dt.wt, Dt.wts, e]
    omega
  · have h1 := h.dp
    show (Dt.tup [.str "made", .int k, .tup [i.d]]).dp ≤ D + 2
    simp only [Dt.dp, Dt.dps]
    omega
section
variable {P : Program} {w : World} {K : PySem.W.Frag} {mg : Str → Option Value} {base : Heap} {T : List Addr}
theorem okLSh {f : Addr} {fd : FuncData} {k : Nat} (F : Fun K "_law_shown" "_law_shown" tLSh f fd) (bT : Binds K fd ["_law_worth_here"] []) (gT : mg "_law_shown" = some (.ref f))
    (e1 : PySem.W.nsOkIn K cStatics = true) (e2 : PySem.W.nsIn K cStatics "sys.int_max_str_digits" = some none)
    (mi : mg "isinstance" = none) (mb : mg "bool" = none) (mn : mg "int" = none) (ms : mg "str" = none) (ml : mg "len" = none) (mL : mg "list" = none) (mu : mg "sum" = none) : ∀ n, FnOk P w K mg base CX0 (k + n) f fd ["_law_worth_here"] (spLSh n)
  | 0 => noFn fun vs H Q E h => by
    obtain ⟨i, v, _, _, _, hn, _⟩ := h
    omega
  | n + 1 => okLSh1 F bT gT (okLSh F bT gT e1 e2 mi mb mn ms ml mL mu n) e1 e2 mi mb mn ms ml mL mu
abbrev nRight : List Str := ["_law_worth_here", "_law_text"]
theorem scRight : FnScope nRight ["_law_worth_here"] (defScope tRight) := ⟨rfl, rfl, rfl, by decide +kernel, rfl, by decide +kernel, by decide +kernel⟩
def spRight (T : List Addr) : Sp := fun vs H Q _ => ∃ (i : Wi) (v : V), vs = [v] ∧ Wl2 i ∧ Dd Non H i.d v ∧ TbS T H ∧ ∀ G : Hp, Sm T H G → Q (.bl true) G
theorem okRight {f fL fS fR : Addr} {fd fdL fdS fdR : FuncData} {k : Nat} (F : Fun K "_law_right" "_law_right" tRight f fd)
    (GL : FnOk P w K mg base CX0 (k + 72) fL fdL ["_law_worth_here"] (spLSh 61)) (bL : Binds K fdL ["_law_worth_here"] []) (gL : mg "_law_shown" = some (.ref fL)) (kL : PySem.W.keepIn K (.ref fL) = true)
    (GS : FnOk P w K mg base CX0 (k + 72) fS fdS ["worth"] spShow) (bS : Binds K fdS ["worth"] []) (gS : mg "show_worth" = some (.ref fS)) (kS : PySem.W.keepIn K (.ref fS) = true)
    (GR : FnOk P w K mg base CX0 (k + 72) fR fdR ["text"] (spReadT T)) (bR : Binds K fdR ["text"] []) (gR : mg "read_worth" = some (.ref fR)) (kR : PySem.W.keepIn K (.ref fR) = true)
    (mp : mg "repr" = none) (mi : mg "isinstance" = none) (ms : mg "str" = none) : FnG P w K mg base CX0 (k + 73) f fd ["_law_worth_here"] (spRight T) := by
  refine okG F scRight (fun vs H Q E h => ?_) (fun cdv A outer s H vs Q E still hr h => ?_)
  · obtain ⟨k, v, rfl, _⟩ := h
    rfl
  obtain ⟨i, v, rfl, wg, hd, tb, q⟩ := h
  have hu : (cxOf CX0 P w K mg base nRight "_law_right" (defScope tRight) f cdv A outer s H E).nox.A.units + (70 + 1) < cLine := by
    have := hr.un
    show (A.deeper _).units + 71 < cLine
    omega
  refine ⟨_, pss_cons (ps_set (i := 1) scRight.nd rfl (.inl rfl) (pe_call GL hr (by rfl) gL kL bL .nil pass0 (pa_cons (pv 0) pa_nil)))
    (pss_cons (ps_if (PW.pt (pw_or (pt_cmpR op_ne (pe_call GS hr (by rfl) gS kS bS .nil pass0 (pa_cons (pv 0) pa_nil)) (pv 1) (nomark _))
      (pw_or1 (pt_not (pt_val (pe_callB (isiK K rfl) (by rfl) mi PyProof.Rows.boot_isinstance (pa_cons (pe_call GS hr (by rfl) gS kS bS .nil pass0 (pa_cons (pv 0) pa_nil)) (pa_cons (pe_bltn (v := .ty "str") (by rfl) ms PyProof.Rows.boot_str rfl) pa_nil))))))))
      (pss_one (ps_ret pe_bl)) pss_nil)
    (pss_one (ps_ret (pe_and (pe_cmpR op_eq (pe_callB (call_showU (n := 70) still hu) (by rfl) mp PyProof.Rows.boot_repr (pa_cons (pe_call GR hr (by rfl) gR kR bR .nil pass0 (pa_cons (pv 1) pa_nil)) pa_nil)) (pe_callB (call_showU (n := 70) still hu) (by rfl) mp PyProof.Rows.boot_repr (pa_cons (pv 0) pa_nil)) (nomark _))
      (pe_one (pe_cmpR op_eq (pe_callB (call_showU (n := 70) still hu) (by rfl) mp PyProof.Rows.boot_repr (pa_cons (pe_call GR hr (by rfl) gR kR bR .nil pass0 (pa_cons (pv 1) pa_nil)) pa_nil)) (pe_callB (call_showU (n := 70) still hu) (by rfl) mp PyProof.Rows.boot_repr (pa_cons (pv 0) pa_nil)) (nomark _))))))), ?_⟩
  have sh := wg.shw
  have il := wg.tkl
  have irl := wg.rl
  have io := wg.ok
  have tdp := wg.dp
  refine ⟨_, rfl, i, v, rfl, .inl irl, io, by omega, il, hd, fun G1 s1 => ?_⟩
  have hd1 := hd.same s1
  have tb1 := tb.same s1
  refine ⟨_, rfl, i, v, rfl, irl, hd1, io, il, fun G2 s2 => ⟨_, rfl, rfl, _, rfl, ite2 (fun e => ?_) (fun _ => ?_)⟩⟩
  · exfalso
    simp at e
  have hd2 := hd1.same s2
  have tb2 := tb1.same s2
  refine ⟨_, rfl, i, v, rfl, irl, hd2, io, il, fun G3 s3 => ?_⟩
  have hd3 := hd2.same s3
  have tb3 := tb2.same s3
  have hs : Dd Any G3 (.str (tx i)) (.str (tx i)) := .str _
  refine ⟨_, _, _, _, true, rfl, .ty "str", hs.ty, kStr K (.str (tx i)), _, rfl, iteF ?_⟩
  refine ⟨_, rfl, i, rfl, irl, io, tb3, il, fun v4 G4 s4 d4 => ⟨v4, i.d, rfl, d4.any, sh, ?_⟩⟩
  have hd4 := hd3.kn (s4.kn tb3)
  refine ⟨_, rfl, v, i.d, rfl, hd4.any, sh, rfl, _, rfl, ?_⟩
  have eq1 : decide (V.str i.d.toP.shown = V.str i.d.toP.shown) = true := decide_eq_true rfl
  rw [eq1]
  refine iteT ⟨_, rfl, i, rfl, irl, io, s4.2, il, fun v6 G6 s6 d6 => ⟨v6, i.d, rfl, d6.any, sh, _, rfl, v, i.d, rfl, (hd4.kn (s6.kn s4.2)).any, sh, rfl, ?_⟩⟩
  have z := q G6 ((Sm.of (fun b o z => s3 _ _ (s2 _ _ (s1 _ _ z))) tb).trans (s4.trans s6))
  show Q (.bl (decide (V.str i.d.toP.shown = V.str i.d.toP.shown))) G6
  rw [eq1]
  exact z
abbrev nBack : List Str := ["_law_worth_here", "_law_found"]
theorem scBack : FnScope nBack ["_law_worth_here"] (defScope tBack) := ⟨rfl, rfl, rfl, by decide +kernel, rfl, by decide +kernel, by decide +kernel⟩
theorem okBack {f fL fS fR : Addr} {fd fdL fdS fdR : FuncData} {k : Nat} (F : Fun K "_law_back" "_law_back" tBack f fd)
    (GL : FnOk P w K mg base CX0 (k + 72) fL fdL ["_law_worth_here"] (spLSh 61)) (bL : Binds K fdL ["_law_worth_here"] []) (gL : mg "_law_shown" = some (.ref fL)) (kL : PySem.W.keepIn K (.ref fL) = true)
    (GS : FnOk P w K mg base CX0 (k + 72) fS fdS ["worth"] spShow) (bS : Binds K fdS ["worth"] []) (gS : mg "show_worth" = some (.ref fS)) (kS : PySem.W.keepIn K (.ref fS) = true)
    (GR : FnOk P w K mg base CX0 (k + 72) fR fdR ["text"] (spReadT T)) (bR : Binds K fdR ["text"] []) (gR : mg "read_worth" = some (.ref fR)) (kR : PySem.W.keepIn K (.ref fR) = true)
    (mp : mg "repr" = none) : FnG P w K mg base CX0 (k + 73) f fd ["_law_worth_here"] (spRight T) := by
  refine okG F scBack (fun vs H Q E h => ?_) (fun cdv A outer s H vs Q E still hr h => ?_)
  · obtain ⟨k, v, rfl, _⟩ := h
    rfl
  obtain ⟨i, v, rfl, wg, hd, tb, q⟩ := h
  have hu : (cxOf CX0 P w K mg base nBack "_law_back" (defScope tBack) f cdv A outer s H E).nox.A.units + (70 + 1) < cLine := by
    have := hr.un
    show (A.deeper _).units + 71 < cLine
    omega
  refine ⟨_, pss_cons (ps_set (i := 1) scBack.nd rfl (.inl rfl) (pe_call GR hr (by rfl) gR kR bR .nil pass0 (pa_cons (pe_call GL hr (by rfl) gL kL bL .nil pass0 (pa_cons (pv 0) pa_nil)) pa_nil)))
    (pss_one (ps_ret (pe_and (pe_cmpR op_eq (pe_callB (call_showU (n := 70) still hu) (by rfl) mp PyProof.Rows.boot_repr (pa_cons (pv 1) pa_nil)) (pe_callB (call_showU (n := 70) still hu) (by rfl) mp PyProof.Rows.boot_repr (pa_cons (pv 0) pa_nil)) (nomark _))
      (pe_one (pe_cmpR op_eq (pe_call GS hr (by rfl) gS kS bS .nil pass0 (pa_cons (pv 1) pa_nil)) (pe_call GL hr (by rfl) gL kL bL .nil pass0 (pa_cons (pv 0) pa_nil)) (nomark _)))))), ?_⟩
  have sh := wg.shw
  have il := wg.tkl
  have irl := wg.rl
  have io := wg.ok
  have tdp := wg.dp
  refine ⟨_, rfl, i, v, rfl, .inl irl, io, by omega, il, hd, fun G1 s1 => ⟨i, rfl, irl, io, tb.same s1, il, fun v4 G4 s4 d4 => ?_⟩⟩
  have hd4 := (hd.same s1).kn (s4.kn (tb.same s1))
  have eq1 : decide (V.str i.d.toP.shown = V.str i.d.toP.shown) = true := decide_eq_true rfl
  refine ⟨_, rfl, v4, i.d, rfl, d4.any, sh, _, rfl, v, i.d, rfl, hd4.any, sh, rfl, _, rfl, ?_⟩
  rw [eq1]
  refine iteT ⟨_, rfl, i, v4, rfl, irl, d4, io, il, fun G5 s5 => ⟨_, rfl, i, v, rfl, .inl irl, io, by omega, il, hd4.same s5, fun G6 s6 => ⟨rfl, ?_⟩⟩⟩
  have z := q G6 ((Sm.of s1 tb).trans (s4.trans (Sm.of (fun b o z => s6 _ _ (s5 _ _ z)) s4.2)))
  show Q (.bl (decide (V.str (tx i) = V.str (tx i)))) G6
  rw [decide_eq_true rfl]
  exact z
abbrev psDeep : List Str := ["_law_deck_here", "_law_names_here"]
abbrev nDeep : List Str := ["_law_deck_here", "_law_names_here", "_law_found", "_law_k", "_law_way"]
theorem scDeep : FnScope nDeep psDeep (defScope tDeep) := ⟨rfl, rfl, rfl, by decide +kernel, rfl, by decide +kernel, by decide +kernel⟩
def spDeep : Sp := fun vs H Q _ => ∃ (d c o : Addr) (xs : List Str), vs = [.ref d, .ref o] ∧ Dk H d c ∧ H o = some (.lst (xs.map V.str)) ∧ o ≠ d ∧ o ≠ c ∧ N3 xs ∧
  ∀ (v : V) (i : Wi) (G : Hp), Kp d c H G → Dk G d c → Dd Non G i.d v → Wl2 i → Q v G
theorem okDeep {f fD fA : Addr} {fd fdD fdA : FuncData} {k : Nat} (F : Fun K "_law_deep" "_law_deep" tDeep f fd)
    (GD : FnOk P w K mg base CX0 k fD fdD ["_law_deck_here", "_law_most"] spDraw) (bD : Binds K fdD ["_law_deck_here", "_law_most"] []) (gD : mg "_law_draw" = some (.ref fD)) (kD : PySem.W.keepIn K (.ref fD) = true)
    (GA : FnOk P w K mg base CX0 k fA fdA psDatum (spDatum 5)) (bA : Binds K fdA psDatum []) (gA : mg "_law_datum" = some (.ref fA)) (kA : PySem.W.keepIn K (.ref fA) = true) (mr : mg "range" = none) : FnOk P w K mg base CX0 (k + 1) f fd psDeep spDeep := by
  refine F.ok scDeep (fun vs H Q E h => ?_) (fun cdv A outer s H vs Q E hr h => ?_)
  · obtain ⟨d, c, o, xs, rfl, _⟩ := h
    rfl
  obtain ⟨d, c, o, xs, rfl, dk, ho, od, oc, n3, q⟩ := h
  refine ⟨_, pss_cons (ps_set (i := 2) scDeep.nd rfl (.inl rfl) (pe_call GA hr (by rfl) gA kA bA .nil pass0 (pa_cons (pv 0) (pa_cons (pv 1) (pa_cons pe_int pa_nil)))))
    (pss_cons (ps_for PassesOwn.never rfl (pi_range1 (by rfl) mr (pa_cons pe_int pa_nil)) (pg_name (i := 3) scDeep.nd rfl (.inl rfl))
      (pss_cons (ps_set (i := 4) scDeep.nd rfl (.inl rfl) (pe_call GD hr (by rfl) gD kD bD .nil pass0 (pa_cons (pv 0) (pa_cons pe_int pa_nil))))
      (pss_one (ps_set (i := 2) scDeep.nd rfl (.inl rfl) (pe_ix ix_list (pe_lst (pa_cons (pe_tup (pa_cons pe_str (pa_cons (pe_tup (pa_cons (pv 2) pa_nil)) pa_nil))) (pa_cons (pe_tup (pa_cons pe_str (pa_cons (pv 2) pa_nil))) (pa_cons (pe_tup (pa_cons pe_str (pa_cons (pv 3) (pa_cons (pe_tup (pa_cons (pv 2) pa_nil)) pa_nil)))) pa_nil)))) (pv 4) (fun _ _ => rfl))))))
    (pss_one (ps_ret (pv 2)))), ?_⟩
  have z1 : 1 ≤ sizeLine := by decide
  have z2 : 2 ≤ sizeLine := by decide
  have z3 : 3 ≤ sizeLine := by decide
  refine ⟨_, rfl, _, rfl, d, c, o, xs, 0, rfl, by decide, dk, ho, od, oc, n3, fun v0 i0 G0 kp0 dk0 dv0 wv0 => ?_⟩
  refine ⟨29, rfl, by decide, by decide, for_range (lo := 0) (n := 29) (fun j σ G => ∃ (y3 y4 : Option V) (v : V) (i : Wi), σ = [some (.ref d), some (.ref o), some v, y3, y4] ∧ Kp d c H G ∧ Dk G d c ∧ Dd Non G i.d v ∧ Wg (400 + 300 * j) (1 + 2 * j) i)
    ⟨_, _, v0, i0, rfl, kp0, dk0, dv0, wv0.up (by decide) (by decide)⟩ (fun j σ G hj z => ?_) (fun σ G z => ?_)⟩
  · obtain ⟨y3, y4, v, i, rfl, kp, dkG, dv, wv⟩ := z
    refine ⟨_, rfl, d, c, 3, rfl, dkG, by decide, by decide, fun r G1 r0 r1 kp1 dk1 => ?_⟩
    have dv1 := dv.kn (Kn.tk (Tk.kp kp1 dkG))
    refine ⟨_, rfl, z1, fun t1 m1 => ⟨z2, fun t2 m2 => ?_⟩⟩
    have e1 := newS (o := .tup [v]) m1
    have g1 : (upd G1 t1 (.tup [v])) t1 = some (.tup [v]) := upd_same
    generalize upd G1 t1 (.tup [v]) = J1 at e1 g1 m2 ⊢
    have e2 := newS (o := .tup [V.str "list", .ref t1]) m2
    have g2 : (upd J1 t2 (.tup [V.str "list", .ref t1])) t2 = some (.tup [V.str "list", .ref t1]) := upd_same
    generalize upd J1 t2 (.tup [V.str "list", .ref t1]) = J2 at e2 g2 ⊢
    refine ⟨_, rfl, z2, fun t3 m3 => ?_⟩
    have e3 := newS (o := .tup [V.str "left", v]) m3
    have g3 : (upd J2 t3 (.tup [V.str "left", v])) t3 = some (.tup [V.str "left", v]) := upd_same
    generalize upd J2 t3 (.tup [V.str "left", v]) = J3 at e3 g3 ⊢
    refine ⟨_, rfl, _, rfl, z1, fun t4 m4 => ⟨z3, fun t5 m5 => ?_⟩⟩
    have e4 := newS (o := .tup [v]) m4
    have g4 : (upd J3 t4 (.tup [v])) t4 = some (.tup [v]) := upd_same
    generalize upd J3 t4 (.tup [v]) = J4 at e4 g4 m5 ⊢
    have e5 := newS (o := .tup [V.str "made", .int (0 + (j : Int)), .ref t4]) m5
    have g5 : (upd J4 t5 (.tup [V.str "made", .int (0 + (j : Int)), .ref t4])) t5 = some (.tup [V.str "made", .int (0 + (j : Int)), .ref t4]) := upd_same
    generalize upd J4 t5 (.tup [V.str "made", .int (0 + (j : Int)), .ref t4]) = J5 at e5 g5 ⊢
    refine ⟨z3, fun l6 m6 => ?_⟩
    have e6 := newS (o := .lst [V.ref t2, .ref t3, .ref t5]) m6
    have g6 : (upd J5 l6 (.lst [V.ref t2, .ref t3, .ref t5])) l6 = some (.lst [V.ref t2, .ref t3, .ref t5]) := upd_same
    generalize upd J5 l6 (.lst [V.ref t2, .ref t3, .ref t5]) = J6 at e6 g6 ⊢
    have k5 : Same J4 J6 := fun b o z => e6 _ _ (e5 _ _ z)
    have k3 : Same J3 J6 := fun b o z => k5 _ _ (e4 _ _ z)
    have k2 : Same J2 J6 := fun b o z => k3 _ _ (e3 _ _ z)
    have k1 : Same J1 J6 := fun b o z => k2 _ _ (e2 _ _ z)
    have k0 : Same G1 J6 := fun b o z => k1 _ _ (e1 _ _ z)
    have dv6 := dv1.same k0
    have kpZ := kp.trans (kp1.trans (Kp.of k0))
    rw [show (0 : Int) + (j : Int) = (j : Int) by omega] at g5
    have up : ∀ {i' : Wi}, Wg (400 + 300 * j + 300) (1 + 2 * j + 2) i' → Wg (400 + 300 * (j + 1)) (1 + 2 * (j + 1)) i' := fun h => h.up (by omega) (by omega)
    rcases (by omega : r = ((0 : Nat) : Int) ∨ r = ((1 : Nat) : Int) ∨ r = ((2 : Nat) : Int)) with e | e | e
    · exact ⟨_, rfl, l6, _, _, .ref t2, rfl, rfl, SqL.of g6, by rw [e]; exact atI_nat rfl, _, _, .ref t2, frmW "list" [itmN [i]], rfl, kpZ, dk1.same k0, .tup (k2 _ _ g2) (.cons (.str _) (.cons (.tup (k1 _ _ g1) (.cons dv6 .nil)) .nil)), up (wg_l1 wv)⟩
    · exact ⟨_, rfl, l6, _, _, .ref t3, rfl, rfl, SqL.of g6, by rw [e]; exact atI_nat rfl, _, _, .ref t3, frmW "left" [i], rfl, kpZ, dk1.same k0, .tup (k3 _ _ g3) (.cons (.str _) (.cons dv6 .nil)), up (wg_s1 wv)⟩
    · exact ⟨_, rfl, l6, _, _, .ref t5, rfl, rfl, SqL.of g6, by rw [e]; exact atI_nat rfl, _, _, .ref t5, frmW "made" [numN j, itmN [i]], rfl, kpZ, dk1.same k0, .tup (e6 _ _ g5) (.cons (.str _) (.cons (.int _) (.cons (.tup (k5 _ _ g4) (.cons dv6 .nil)) .nil))), up (wg_m1 wv (by omega))⟩
  · obtain ⟨y3, y4, v, i, rfl, kp, dkG, dv, wv⟩ := z
    exact ⟨_, rfl, q v i G kp dkG dv (wv.up (by decide) (by decide))⟩
end
end Kq

namespace Kq
open PySem PySem.Spec PyProof.Rows L2 Kf Kg Kv GxR Kk
abbrev tLaw : Stmt := tp 41
theorem TbS.kpD {T : List Addr} {H G : Hp} {d c : Addr} (t : TbS T H) (kp : Kp d c H G) (dk : Dk H d c) : TbS T G := fun p hp => by
  obtain ⟨ps, h1, h2⟩ := t p hp
  obtain ⟨_, ⟨x, y, e⟩, ⟨ns, f, _⟩⟩ := dk
  exact ⟨ps, kp p _ (fun z => by rw [z, e] at h1; cases h1) (fun z => by rw [z, f] at h1; cases h1) h1, h2⟩
theorem Dk.sm {T : List Addr} {H G : Hp} {d c : Addr} (x : Dk H d c) (t : TbS T H) (s : Sm T H G) : Dk G d c := by
  obtain ⟨n, ⟨a, b, e⟩, ⟨ns, f, l⟩⟩ := x
  exact ⟨n, ⟨a, b, s.at t e fun _ z => (by cases z)⟩, ⟨ns, s.at t f (fun _ z => (by cases z)), l⟩⟩
theorem wg_pair {W D : Nat} {i j : Wi} (h : Wg W D i) (k : Wg W D j) : Wg ((W + 2) * 2 + 80) (D + 1) (frmW "pair" [i, j]) := wg_frm (w := "pair") (ps := [i, j]) (W := W) (D := D) (by show _ = some [i.rl, j.rl]; rw [h.rl, k.rl]; decide +kernel) (by decide) (by decide +kernel) (by show 2 ≤ 2; decide) fun p hp => by
  rcases List.mem_cons.mp hp with rfl | hp
  · exact h.in
  · rw [List.mem_singleton.mp hp]; exact k.in
theorem wg_thing {a : Str} (ha : nmS a = true) {k : Nat} (hk : k ≤ 1000) : Wg 400 1 (frmW "thing" [namN a, numN k]) := (wg_frm (w := "thing") (ps := [namN a, numN k]) (W := 100) (D := 0) (by show _ = some [("name" : Str), ("number" : Str)]; decide +kernel) (by decide) (by decide +kernel) (by show 2 ≤ 2; decide) fun p hp => by
  rcases List.mem_cons.mp hp with rfl | hp
  · exact namN_in ha (by decide)
  · rw [List.mem_singleton.mp hp]
    exact numN_in (by omega) (by decide)).up (show (100 + 2) * 2 + 80 ≤ 400 by decide) (by omega)
/-- the two that are unlike -/
def pI (a : Str) (k : Nat) (x : Wi) : Wi := frmW "pair" [frmW "thing" [namN a, numN k], x]
theorem pI_wg {a : Str} (ha : nmS a = true) {k : Nat} (hk : k ≤ 1000) {x : Wi} (hx : Wg 400 1 x) : Wl2 (pI a k x) := (wg_pair (wg_thing ha hk) hx).up (show (400 + 2) * 2 + 80 ≤ 15000000 by decide) (by omega)
def endI : Wi := frmW "table" [rowN 2 [truW false, fltA, truW true, asA (numW 7)]]
theorem end_ok : ok endI := by
  refine frmW_ok (by show _ = some [("rows" : Str)]; decide +kernel) fun p hp => ?_
  rw [List.mem_singleton.mp hp]
  refine ok_of (.row 2 _ (by decide) rfl) fun p hp => ?_
  have hp : p = truW false ∨ p = fltA ∨ p = truW true ∨ p = asA (numW 7) := by simpa [rowN, Wi.ps] using hp
  rcases hp with rfl | rfl | rfl | rfl
  · exact (wg_tru false).ok
  · exact (fltA_rw (W := 200) (D := 1) (by decide) (by decide)).1
  · exact (wg_tru true).ok
  · exact asA_ok (wg_num (by decide)).ok rfl
theorem end_tx : tx endI = "table 2 no fault yes 7" := by decide +kernel
theorem end_tkl : tkl endI ≤ 100 := by decide +kernel
section
variable {P : Program} {w : World} {K : PySem.W.Frag} {mg : Str → Option Value} {base : Heap} {T : List Addr}
abbrev nLaw : List Str := ["_law_script", "_law_deck_here", "_law_turn", "_law_names_here", "_law_worth_here", "_law_one", "_law_other"]
theorem scLaw : FnScope nLaw ["_law_script"] (defScope tLaw) := ⟨rfl, rfl, rfl, by decide +kernel, rfl, by decide +kernel, by decide +kernel⟩
def spLaw (K : PySem.W.Frag) (T : List Addr) : Sp := fun vs H Q _ => ∃ (a : Addr) (ns : List Int), vs = [.ref a] ∧ SqL K H a (ns.map V.int) ∧ ns.length ≤ 63 ∧ TbS T H ∧ ∀ G : Hp, Q (.bl true) G
theorem okLaw {f f1 f2 fD fW fE fG fB fS : Addr} {fd fd1 fd2 fdD fdW fdE fdG fdB fdS : FuncData} {k : Nat} (F : Fun K "law" "law" tLaw f fd)
    (G1 : FnOk P w K mg base CX0 (k + 73) f1 fd1 ["_law_script"] (spDeck K)) (b1 : Binds K fd1 ["_law_script"] []) (g1 : mg "_law_deck" = some (.ref f1)) (k1 : PySem.W.keepIn K (.ref f1) = true)
    (G2 : FnOk P w K mg base CX0 (k + 73) f2 fd2 psCalled spCalled) (b2 : Binds K fd2 psCalled []) (g2 : mg "_law_called" = some (.ref f2)) (k2 : PySem.W.keepIn K (.ref f2) = true)
    (GD : FnOk P w K mg base CX0 (k + 73) fD fdD ["_law_deck_here", "_law_most"] spDraw) (bD : Binds K fdD ["_law_deck_here", "_law_most"] []) (gD : mg "_law_draw" = some (.ref fD)) (kD : PySem.W.keepIn K (.ref fD) = true)
    (GW : FnOk P w K mg base CX0 (k + 73) fW fdW psWorth spWorth) (bW : Binds K fdW psWorth []) (gW : mg "_law_worth" = some (.ref fW)) (kW : PySem.W.keepIn K (.ref fW) = true)
    (GE : FnOk P w K mg base CX0 (k + 73) fE fdE psDeep spDeep) (bE : Binds K fdE psDeep []) (gE : mg "_law_deep" = some (.ref fE)) (kE : PySem.W.keepIn K (.ref fE) = true)
    (GG : FnG P w K mg base CX0 (k + 73) fG fdG ["_law_worth_here"] (spRight T)) (bG : Binds K fdG ["_law_worth_here"] []) (gG : mg "_law_right" = some (.ref fG)) (kG : PySem.W.keepIn K (.ref fG) = true)
    (GB : FnG P w K mg base CX0 (k + 73) fB fdB ["_law_worth_here"] (spRight T)) (bB : Binds K fdB ["_law_worth_here"] []) (gB : mg "_law_back" = some (.ref fB)) (kB : PySem.W.keepIn K (.ref fB) = true)
    (GS : FnOk P w K mg base CX0 (k + 73) fS fdS ["worth"] spShow) (bS : Binds K fdS ["worth"] []) (gS : mg "show_worth" = some (.ref fS)) (kS : PySem.W.keepIn K (.ref fS) = true)
    (mr : mg "range" = none) : FnG P w K mg base CX0 (k + 74) f fd ["_law_script"] (spLaw K T) := by
  refine okG F scLaw (fun vs H Q E h => ?_) (fun cdv A outer s H vs Q E still hr h => ?_)
  · obtain ⟨a, ns, rfl, _⟩ := h
    rfl
  obtain ⟨a, ns, rfl, hS, hl, tb, q⟩ := h
  refine ⟨_, pss_cons (ps_set (i := 1) scLaw.nd rfl (.inl rfl) (pe_call G1 hr (by rfl) g1 k1 b1 .nil pass0 (pa_cons (pv 0) pa_nil)))
    (pss_cons (ps_for PassesOwn.never rfl (pi_range1 (by rfl) mr (pa_cons pe_int pa_nil)) (pg_name (i := 2) scLaw.nd rfl (.inl rfl))
      (pss_cons (ps_set (i := 3) scLaw.nd rfl (.inl rfl) (pe_call G2 hr (by rfl) g2 k2 b2 .nil pass0 (pa_cons (pv 1) (pa_cons pe_int pa_nil))))
      (pss_cons (ps_set (i := 4) scLaw.nd rfl (.inl rfl) (pe_call GW hr (by rfl) gW kW bW .nil pass0 (pa_cons (pv 1) (pa_cons (pv 3) pa_nil))))
      (pss_cons (ps_if (PW.pt (pw_or (pt_not (pt_val (pe_callG GG still hr (by rfl) gG kG bG .nil pass0 (pa_cons (pv 4) pa_nil))))
          (pw_or (pt_not (pt_val (pe_callG GB still hr (by rfl) gB kB bB .nil pass0 (pa_cons (pe_call GE hr (by rfl) gE kE bE .nil pass0 (pa_cons (pv 1) (pa_cons (pv 3) pa_nil))) pa_nil))))
          (pw_or1 (pt_not (pt_val (pe_callG GG still hr (by rfl) gG kG bG .nil pass0 (pa_cons (pv 4) pa_nil)))))))) (pss_one (ps_ret pe_bl)) pss_nil)
      (pss_cons (ps_set (i := 5) scLaw.nd rfl (.inl rfl) (pe_tup (pa_cons pe_str (pa_cons (pe_tup (pa_cons pe_str (pa_cons (pe_ix ix_list (pv 3) pe_int (fun _ _ => rfl)) (pa_cons (pv 2) pa_nil)))) (pa_cons (pv 2) pa_nil)))))
      (pss_cons (ps_set (i := 6) scLaw.nd rfl (.inl rfl) (pe_lst (pa_cons (pe_tup (pa_cons pe_str (pa_cons (pe_tup (pa_cons pe_str (pa_cons (pe_ix ix_list (pv 3) pe_int (fun _ _ => rfl)) (pa_cons (pv 2) pa_nil)))) (pa_cons (pv 2) pa_nil))))
        (pa_cons (pe_tup (pa_cons pe_str (pa_cons (pe_tup (pa_cons pe_str (pa_cons (pe_ix ix_list (pv 3) pe_int (fun _ _ => rfl)) (pa_cons (pe_op op_add (pv 2) pe_int) pa_nil)))) (pa_cons (pv 2) pa_nil)))) pa_nil))))
      (pss_cons (ps_set (i := 6) scLaw.nd rfl (.inl rfl) (pe_ix ix_list (pe_op op_cat (pv 6) (pe_lst (pa_cons (pe_tup (pa_cons pe_str (pa_cons (pe_tup (pa_cons pe_str (pa_cons (pe_ix ix_list (pv 3) pe_int (fun _ _ => rfl)) (pa_cons (pv 2) pa_nil)))) (pa_cons pe_bl pa_nil)))) pa_nil)))
        (pe_call GD hr (by rfl) gD kD bD .nil pass0 (pa_cons (pv 1) (pa_cons pe_int pa_nil))) (fun _ _ => rfl)))
      (pss_one (ps_if (PW.pt (pw_or (pt_not (pt_val (pe_callG GG still hr (by rfl) gG kG bG .nil pass0 (pa_cons (pv 5) pa_nil))))
          (pw_or (pt_not (pt_val (pe_callG GG still hr (by rfl) gG kG bG .nil pass0 (pa_cons (pv 6) pa_nil))))
          (pw_or1 (pt_cmpR op_eq (pe_call GS hr (by rfl) gS kS bS .nil pass0 (pa_cons (pv 5) pa_nil)) (pe_call GS hr (by rfl) gS kS bS .nil pass0 (pa_cons (pv 6) pa_nil)) (nomark _)))))) (pss_one (ps_ret pe_bl)) pss_nil)))))))))
    (pss_one (ps_ret (pe_cmpR op_eq (pe_call GS hr (by rfl) gS kS bS .nil pass0 (pa_cons (pe_tup (pa_cons pe_str (pa_cons (pe_tup (pa_cons (pe_tup (pa_cons pe_bl (pa_cons (pe_tup (pa_cons pe_str pa_nil)) pa_nil))) (pa_cons (pe_tup (pa_cons pe_bl (pa_cons pe_int pa_nil))) pa_nil))) pa_nil))) pa_nil)) pe_str (nomark _))))), ?_⟩
  have z1 : 1 ≤ sizeLine := by decide
  have z2 : 2 ≤ sizeLine := by decide
  have z3 : 3 ≤ sizeLine := by decide
  refine ⟨_, rfl, a, ns, rfl, hS, hl, fun d c H1 s1 dk1 => ?_⟩
  have tb1 := tb.same s1
  refine ⟨6, rfl, by decide, by decide, for_range (lo := 0) (n := 6) (fun i σ G => ∃ (y2 y3 y4 y5 y6 : Option V), σ = [some (.ref a), some (.ref d), y2, y3, y4, y5, y6] ∧ Dk G d c ∧ TbS T G)
    ⟨_, _, _, _, _, rfl, dk1, tb1⟩ (fun i σ G hi z => ?_) (fun σ G z => ?_)⟩
  · obtain ⟨y2, y3, y4, y5, y6, rfl, dkG, tbG⟩ := z
    refine ⟨_, rfl, d, c, rfl, dkG, fun o xs G1 kp1 dk1 no go n3 => ?_⟩
    obtain ⟨od, oc⟩ := dkG.off no
    have tb1 := TbS.kpD tbG kp1 dkG
    refine ⟨_, rfl, _, rfl, d, c, o, xs, rfl, dk1, go, od, oc, n3, fun v iw G2 kp2 dk2 dv wv => ?_⟩
    have tb2 := TbS.kpD tb1 kp2 dk1
    have go2 := kp2 o _ od oc go
    have wl : Wl2 iw := wv.up (Nat.le_refl _) (by decide)
    refine ⟨_, rfl, iw, v, rfl, wl, dv, tb2, fun G3 s3 => ⟨_, rfl, iteF ?_⟩⟩
    have tb3 := s3.2
    have dk3 := dk2.sm tb2 s3
    have go3 := s3.at tb2 go2 (fun _ z => by cases z)
    have dv3 := dv.kn (s3.kn tb2)
    refine ⟨_, rfl, _, rfl, d, c, o, xs, rfl, dk3, go3, od, oc, n3, fun v4 i4 G4 kp4 dk4 dv4 wv4 => ?_⟩
    have tb4 := TbS.kpD tb3 kp4 dk3
    have go4 := kp4 o _ od oc go3
    have dv3' := dv3.kn (Kn.tk (Tk.kp kp4 dk3))
    refine ⟨i4, v4, rfl, wv4, dv4, tb4, fun G5 s5 => ⟨_, rfl, iteF ?_⟩⟩
    have tb5 := s5.2
    have dk5 := dk4.sm tb4 s5
    have go5 := s5.at tb4 go4 (fun _ z => by cases z)
    refine ⟨_, rfl, iw, v, rfl, wl, dv3'.kn (s5.kn tb4), tb5, fun G6 s6 => ⟨_, rfl, iteF ?_⟩⟩
    have tb6 := s6.2
    have dk6 := dk5.sm tb5 s6
    have go6 := s6.at tb5 go5 (fun _ z => by cases z)
    obtain ⟨a0, a1, a2, rfl⟩ : ∃ a0 a1 a2, xs = [a0, a1, a2] := by
      have := n3.len
      match xs, this with
      | [a0, a1, a2], _ => exact ⟨a0, a1, a2, rfl⟩
    have h0 := n3.nm a0 (by simp)
    have h1 := n3.nm a1 (by simp)
    have n01 : a0 ≠ a1 := fun z => by
      have := n3.nd
      rw [z] at this
      simp at this
    have go6 : G6 o = some (.lst [.str a0, .str a1, .str a2]) := go6
    have ei : (0 : Int) + (i : Int) = (i : Int) := by omega
    have ei1 : (0 : Int) + (i : Int) + 1 = ((i + 1 : Nat) : Int) := by omega
    refine ⟨_, rfl, o, _, _, _, rfl, rfl, SqL.of go6, atI_nat (j := 0) rfl, _, rfl, z3, fun t1 m1 => ?_⟩
    have e1 := newS (o := .tup [V.str "thing", .str a0, .int (0 + (i : Int))]) m1
    have g1 : (upd G6 t1 (.tup [V.str "thing", .str a0, .int (0 + (i : Int))])) t1 = some (.tup [V.str "thing", .str a0, .int (0 + (i : Int))]) := upd_same
    generalize upd G6 t1 (.tup [V.str "thing", .str a0, .int (0 + (i : Int))]) = J1 at e1 g1
    refine ⟨_, rfl, z3, fun t2 m2 => ?_⟩
    have e2 := newS (o := .tup [V.str "pair", .ref t1, .int (0 + (i : Int))]) m2
    have g2 : (upd J1 t2 (.tup [V.str "pair", .ref t1, .int (0 + (i : Int))])) t2 = some (.tup [V.str "pair", .ref t1, .int (0 + (i : Int))]) := upd_same
    generalize upd J1 t2 (.tup [V.str "pair", .ref t1, .int (0 + (i : Int))]) = J2 at e2 g2
    have go2' := e2 _ _ (e1 _ _ go6)
    refine ⟨_, rfl, o, _, _, _, rfl, rfl, SqL.of go2', atI_nat (j := 1) rfl, _, rfl, z3, fun t3 m3 => ?_⟩
    have e3 := newS (o := .tup [V.str "thing", .str a1, .int (0 + (i : Int))]) m3
    have g3 : (upd J2 t3 (.tup [V.str "thing", .str a1, .int (0 + (i : Int))])) t3 = some (.tup [V.str "thing", .str a1, .int (0 + (i : Int))]) := upd_same
    generalize upd J2 t3 (.tup [V.str "thing", .str a1, .int (0 + (i : Int))]) = J3 at e3 g3
    refine ⟨_, rfl, z3, fun t4 m4 => ?_⟩
    have e4 := newS (o := .tup [V.str "pair", .ref t3, .int (0 + (i : Int))]) m4
    have g4 : (upd J3 t4 (.tup [V.str "pair", .ref t3, .int (0 + (i : Int))])) t4 = some (.tup [V.str "pair", .ref t3, .int (0 + (i : Int))]) := upd_same
    generalize upd J3 t4 (.tup [V.str "pair", .ref t3, .int (0 + (i : Int))]) = J4 at e4 g4
    have go4' := e4 _ _ (e3 _ _ go2')
    refine ⟨_, rfl, o, _, _, _, rfl, rfl, SqL.of go4', atI_nat (j := 0) rfl, _, rfl, _, _, rfl, rfl, z3, fun t5 m5 => ?_⟩
    have e5 := newS (o := .tup [V.str "thing", .str a0, .int (0 + (i : Int) + 1)]) m5
    have g5 : (upd J4 t5 (.tup [V.str "thing", .str a0, .int (0 + (i : Int) + 1)])) t5 = some (.tup [V.str "thing", .str a0, .int (0 + (i : Int) + 1)]) := upd_same
    generalize upd J4 t5 (.tup [V.str "thing", .str a0, .int (0 + (i : Int) + 1)]) = J5 at e5 g5
    refine ⟨_, rfl, z3, fun t6 m6 => ⟨z2, fun l7 m7 => ?_⟩⟩
    have e6 := newS (o := .tup [V.str "pair", .ref t5, .int (0 + (i : Int))]) m6
    have g6 : (upd J5 t6 (.tup [V.str "pair", .ref t5, .int (0 + (i : Int))])) t6 = some (.tup [V.str "pair", .ref t5, .int (0 + (i : Int))]) := upd_same
    generalize upd J5 t6 (.tup [V.str "pair", .ref t5, .int (0 + (i : Int))]) = J6 at e6 g6 m7 ⊢
    have e7 := newS (o := .lst [V.ref t4, .ref t6]) m7
    have g7 : (upd J6 l7 (.lst [V.ref t4, .ref t6])) l7 = some (.lst [V.ref t4, .ref t6]) := upd_same
    generalize upd J6 l7 (.lst [V.ref t4, .ref t6]) = J7 at e7 g7
    have go7' := e7 _ _ (e6 _ _ (e5 _ _ go4'))
    refine ⟨_, rfl, _, rfl, o, _, _, _, rfl, rfl, SqL.of go7', atI_nat (j := 0) rfl, _, rfl, z3, fun t8 m8 => ?_⟩
    have e8 := newS (o := .tup [V.str "thing", .str a0, .int (0 + (i : Int))]) m8
    have g8 : (upd J7 t8 (.tup [V.str "thing", .str a0, .int (0 + (i : Int))])) t8 = some (.tup [V.str "thing", .str a0, .int (0 + (i : Int))]) := upd_same
    generalize upd J7 t8 (.tup [V.str "thing", .str a0, .int (0 + (i : Int))]) = J8 at e8 g8
    refine ⟨z3, fun t9 m9 => ⟨z1, fun l10 m10 => ?_⟩⟩
    have e9 := newS (o := .tup [V.str "pair", .ref t8, .bl true]) m9
    have g9 : (upd J8 t9 (.tup [V.str "pair", .ref t8, .bl true])) t9 = some (.tup [V.str "pair", .ref t8, .bl true]) := upd_same
    generalize upd J8 t9 (.tup [V.str "pair", .ref t8, .bl true]) = J9 at e9 g9 m10 ⊢
    have e10 := newS (o := .lst [V.ref t9]) m10
    have g10 : (upd J9 l10 (.lst [V.ref t9])) l10 = some (.lst [V.ref t9]) := upd_same
    generalize upd J9 l10 (.lst [V.ref t9]) = J10 at e10 g10
    have g7' := e10 _ _ (e9 _ _ (e8 _ _ g7))
    refine ⟨l7, l10, _, _, rfl, rfl, g7', g10, z3, fun l11 m11 => ?_⟩
    have e11 := newS (o := .lst ([V.ref t4, .ref t6] ++ [V.ref t9])) m11
    have g11 : (upd J10 l11 (.lst ([V.ref t4, .ref t6] ++ [V.ref t9]))) l11 = some (.lst [V.ref t4, .ref t6, .ref t9]) := upd_same
    generalize upd J10 l11 (.lst ([V.ref t4, .ref t6] ++ [V.ref t9])) = J11 at e11 g11
    have k10 : Same J9 J11 := fun b o z => e11 _ _ (e10 _ _ z)
    have k8 : Same J8 J11 := fun b o z => k10 _ _ (e9 _ _ z)
    have k7 : Same J7 J11 := fun b o z => k8 _ _ (e8 _ _ z)
    have k6 : Same J6 J11 := fun b o z => k7 _ _ (e7 _ _ z)
    have k5 : Same J5 J11 := fun b o z => k6 _ _ (e6 _ _ z)
    have k4 : Same J4 J11 := fun b o z => k5 _ _ (e5 _ _ z)
    have k3 : Same J3 J11 := fun b o z => k4 _ _ (e4 _ _ z)
    have k2 : Same J2 J11 := fun b o z => k3 _ _ (e3 _ _ z)
    have k1 : Same J1 J11 := fun b o z => k2 _ _ (e2 _ _ z)
    have k0 : Same G6 J11 := fun b o z => k1 _ _ (e1 _ _ z)
    rw [ei] at g1 g2 g3 g4 g6 g8
    rw [ei1] at g5
    have hi6 : i ≤ 1000 := by omega
    have dOne : Dd Non J11 (pI a0 i (numW i)).d (.ref t2) := .tup (k2 _ _ g2) (.cons (.str _) (.cons (.tup (k1 _ _ g1) (.cons (.str _) (.cons (.str _) (.cons (.int _) .nil)))) (.cons (.int _) .nil)))
    have wn : Wg 400 1 (numW i) := (wg_num (by omega)).up (by decide) (by decide)
    have wOne := pI_wg h0 hi6 wn
    refine ⟨_, rfl, d, c, 3, rfl, dk6.same k0, by decide, by decide, fun r G7 r0 r1 kp7 dk7 => ?_⟩
    have tb7 := TbS.kpD (tb6.same k0) kp7 (dk6.same k0)
    have kn7 := Kn.tk (Tk.kp kp7 (dk6.same k0))
    have dOne7 := dOne.kn kn7
    have offL := (dk6.same (fun b o z => e10 _ _ (e9 _ _ (e8 _ _ (e7 _ _ (e6 _ _ (e5 _ _ (e4 _ _ (e3 _ _ (e2 _ _ (e1 _ _ z))))))))))).off m11
    have g11' := kp7 l11 _ offL.1 offL.2 g11
    have dA : Dd Non J11 (pI a1 i (numW i)).d (.ref t4) := .tup (k4 _ _ g4) (.cons (.str _) (.cons (.tup (k3 _ _ g3) (.cons (.str _) (.cons (.str _) (.cons (.int _) .nil)))) (.cons (.int _) .nil)))
    have dB : Dd Non J11 (pI a0 (i + 1) (numW i)).d (.ref t6) := .tup (k6 _ _ g6) (.cons (.str _) (.cons (.tup (k5 _ _ g5) (.cons (.str _) (.cons (.str _) (.cons (.int _) .nil)))) (.cons (.int _) .nil)))
    have dC : Dd Non J11 (pI a0 i (truW true)).d (.ref t9) := .tup (k10 _ _ g9) (.cons (.str _) (.cons (.tup (k8 _ _ g8) (.cons (.str _) (.cons (.str _) (.cons (.int _) .nil)))) (.cons (.bl _) .nil)))
    obtain ⟨u, y, au, du, wy, ny⟩ : ∃ (u : V) (y : Wi), atI [V.ref t4, .ref t6, .ref t9] r = some u ∧ Dd Non G7 y.d u ∧ Wl2 y ∧ pI a0 i (numW i) ≠ y := by
      rcases (by omega : r = ((0 : Nat) : Int) ∨ r = ((1 : Nat) : Int) ∨ r = ((2 : Nat) : Int)) with e | e | e
      · exact ⟨_, _, by rw [e]; exact atI_nat rfl, dA.kn kn7, pI_wg h1 hi6 wn, fun z => n01 (by have := congrArg Wi.d z; simpa [pI, frmW, Wi.d, namN, numN, numW] using this)⟩
      · exact ⟨_, _, by rw [e]; exact atI_nat rfl, dB.kn kn7, pI_wg h0 (by omega) wn, fun z => by have := congrArg Wi.d z; simp [pI, frmW, Wi.d, namN, numN, numW] at this; omega⟩
      · exact ⟨_, _, by rw [e]; exact atI_nat rfl, dC.kn kn7, pI_wg h0 hi6 ((wg_tru true).up (by decide) (by decide)), fun z => by have := congrArg Wi.d z; simp [pI, frmW, Wi.d, namN, numN, numW, truW] at this⟩
    refine ⟨l11, _, _, _, rfl, rfl, SqL.of g11', au, ?_⟩
    refine ⟨_, rfl, _, _, rfl, wOne, dOne7, tb7, fun G8 s8 => ⟨_, rfl, iteF ?_⟩⟩
    have dOne8 := dOne7.kn (s8.kn tb7)
    have du8 := du.kn (s8.kn tb7)
    refine ⟨_, rfl, y, u, rfl, wy, du8, s8.2, fun G9 s9 => ⟨_, rfl, iteF ?_⟩⟩
    have dOne9 := dOne8.kn (s9.kn s8.2)
    have du9 := du8.kn (s9.kn s8.2)
    refine ⟨_, rfl, _, _, rfl, wOne.rl, dOne9, wOne.ok, wOne.tkl, fun G10 s10 => ⟨_, rfl, y, u, rfl, wy.rl, du9.same s10, wy.ok, wy.tkl, fun G11 s11 => ⟨rfl, _, rfl, ite2 (fun e => ?_) (fun _ => ?_)⟩⟩⟩
    · exact absurd (tx_inj wOne.ok wy.ok (wOne.rl.trans wy.rl.symm) (V.str.inj (of_decide_eq_true e))) ny
    · have s1011 : Same G9 G11 := fun b o z => s11 _ _ (s10 _ _ z)
      exact ⟨_, _, _, _, _, rfl, ((dk7.sm tb7 s8).sm s8.2 s9).same s1011, s9.2.same s1011⟩
  · obtain ⟨y2, y3, y4, y5, y6, rfl, dkG, tbG⟩ := z
    refine ⟨z1, fun p1 n1 => ⟨z2, fun p2 n2 => ⟨z2, fun p3 n3 => ⟨z2, fun p4 n4 => ⟨z2, fun p5 n5 => ?_⟩⟩⟩⟩⟩
    have t2 := newS (o := .tup [V.bl false, .ref p1]) n2
    have t3 := newS (o := .tup [V.bl true, .int 7]) n3
    have t4 := newS (o := .tup [V.ref p2, .ref p3]) n4
    have t5 := newS (o := .tup [V.str "table", .ref p4]) n5
    refine ⟨endI, .ref p5, rfl, rfl, ?_, end_ok, Nat.le_trans end_tkl (by decide), fun G6 s6 => ⟨rfl, ?_⟩⟩
    · exact Dd.tup (xs := [.str "table", .tup [.tup [.bl false, .tup [.str "fault"]], .tup [.bl true, .int 7]]]) upd_same (.cons (.str _) (.cons (.tup (t5 _ _ upd_same) (.cons (.tup (t5 _ _ (t4 _ _ (t3 _ _ upd_same))) (.cons (.bl _) (.cons (.tup (t5 _ _ (t4 _ _ (t3 _ _ (t2 _ _ upd_same)))) (.cons (.str _) .nil)) .nil))) (.cons (.tup (t5 _ _ (t4 _ _ upd_same)) (.cons (.bl _) (.cons (.int _) .nil))) .nil))) .nil))
    · rw [end_tx]
      have zz := q G6
      show Q (.bl (decide (V.str "table 2 no fault yes 7" = V.str "table 2 no fault yes 7"))) G6
      rw [decide_eq_true rfl]
      exact zz
end
end Kq

/-! the end where some of the defs hold generator expressions -/
namespace Kg
open PySem PySem.Spec PyProof.Rows L2 LamX
/-- the def's code object, its table: empty -/
def TabOf (mg : Str → Option Value) (h : Heap) (x : Str) : Prop := ∃ (a : Addr) (o : Obj) (fd : FuncData) (c p : Addr), mg x = some (.ref a) ∧ h.get? a = some o ∧ o.data = .func fd ∧ fd.code = .ref c ∧ h.IsCode c p #[] ∧ h.TableAt c p #[]
theorem walk_ofNs {l : PySem.W.OpenLaw} {n k : Nat} {q : Program} {loose : List Str} {XP : (Str → Option Value) → Heap → Prop} {YP : World → Heap → Prop} {d : DefRec} {K : Params → PySem.W.Frag} {CX : World → CXT} {x : Str} (names : List Str)
    (hn : l.most = some n) (hn2 : n ≤ sizeLine) (hdf : d.params.defaults = []) (hr : Room k callerA) (hrec : (names.all fun y => (recsOf q).any fun e => e.name == y) = true) (hY : ∀ (w : World) (h : Heap), YP w h → (K w.params).In h)
    (F : ∀ (w : World) (mg : Str → Option Value) (fa : Addr) (h : Heap), YP w h → (K w.params).In h → h.Ns mainGlobals mg → mg d.name = some (.ref fa) → (∀ y ∈ names, TabOf mg h y) → LawAtS l w (K w.params) (CX w) k n x mg fa h)
    (hCX : ∀ (w : World) (H : Hp) (s : Shared) (e : Value) (s' : Shared), CX w [] H s (fun _ _ _ => False) e s' → False) :
    PySem.W.WalkO q loose XP YP l.row.toRowW d [] (fun f vs => PySem.call f vs) := by
  refine Att.attach_callB hn hdf fun w s₀ s₁ mg mb fa o pm cd doc a vs ns G Y ho hd hcd hmg hobj hints hlen hbits hg => ?_
  have KX := hY w _ Y
  have own : ∀ y ∈ names, TabOf mg s₁.heap y := fun y hy => by
    obtain ⟨dL, hm, hn1⟩ := List.any_eq_true.mp (List.all_eq_true.mp hrec y hy)
    have hn2 : dL.name = y := beq_iff_eq.mp hn1
    obtain ⟨a', o', fd', c', P', h1, h2, h3, h4, h5, h6⟩ := G.T.tab dL hm
    exact ⟨a', o', fd', c', P', by rw [← hn2]; exact h1, h2, h3, h4, h5, h6⟩
  obtain ⟨fd, cs, sp, hT, nT, C, hb, hsp, hF⟩ := F w mg fa _ Y KX G.T.g hmg own
  exact law_callTs KX G.T.g G.T.b G.T.builtins G.T.nolimit hg hT nT C G.T.bmain hobj hints (Nat.le_trans hlen hn2) hr hF hb (fun H hH hS => hsp H a ns hlen hbits hH hS) fun H e s' => hCX w H s₁ e s'
/-- such a def by what is written of it -/
theorem tabOf_at {K : PySem.W.Frag} {mg : Str → Option Value} {h : Heap} {x name qual : Str} {f c p : Addr} {params : Arguments} {body : List Stmt} {scope : Scope} {oc dV kV doc pm ct e : Value} {od an dd : Option Addr} {sl sl' : Array (Option Value)} {vs : Array Value} (X : K.In h) (T : TabOf mg h x) (g : mg x = some (.ref f))
    (l : K.lookup f = some ⟨oc, od, .func (PySem.W.fnOf name qual params body scope dV kV doc pm an (.ref c) ct), sl⟩) (t : K.lookup c = some ⟨e, dd, .fields vs, sl'⟩) (v : vs[11]? = some (.ref p)) :
    h.get? p = some { cls := .none, data := .fields #[] } ∧ PySem.W.CodeHd h c p := by
  obtain ⟨a', o', fd', c', P', h1, h2, h3, h4, h5, h6⟩ := T
  rw [g] at h1
  cases h1
  rw [X _ _ l] at h2
  cases h2
  cases h3
  cases h4
  obtain ⟨⟨oc', vc, e1, e2, e3, e4⟩, hP⟩ := id h6
  rw [X _ _ t] at e1
  cases e1
  cases e3
  rw [v] at e4
  cases e4
  exact ⟨hP, .of h5 h6⟩
end Kg

namespace Kq
open PySem PySem.Spec PyProof.Rows L2 Kf Kg Kv GxR Kk
def KeysAre : List DictEntry → List (Str × Value) → Prop
  | [], [] => True
  | e :: es, (x, v) :: xs => (∃ t, e.key = .str x t) ∧ e.val = v ∧ KeysAre es xs
  | _, _ => False
theorem find_keys (z : Str) : ∀ {es : List DictEntry} {xs : List (Str × Value)}, KeysAre es xs → (es.find? (·.key.isStr z)).map (·.val) = xs.lookup z ∧ es.any (·.refKey) = false
  | [], [], _ => ⟨rfl, rfl⟩
  | e :: es, (x, v) :: xs, h => by
    obtain ⟨⟨t, h1⟩, h2, h3⟩ := h
    obtain ⟨i1, i2⟩ := find_keys z h3
    have e1 : e.key.isStr z = (z == x) := by
      rw [h1]
      show (x == z) = (z == x)
      by_cases c : x = z
      · subst c
        rfl
      · rw [beq_eq_false_iff_ne.mpr c, beq_eq_false_iff_ne.mpr (Ne.symm c)]
    have e2 : e.refKey = false := by
      unfold DictEntry.refKey
      rw [h1]
    refine ⟨?_, by rw [List.any_cons, e2, i2]; rfl⟩
    rw [List.find?_cons, List.lookup_cons, e1]
    cases c : (z == x) with
    | true => exact congrArg some h2
    | false => exact i1
  | [], _ :: _, h => h.elim
  | _ :: _, [], h => h.elim
theorem ns_keys {K : PySem.W.Frag} {a : Addr} {es : Array DictEntry} {n : Nat} {xs : List (Str × Value)} (l : K.lookup a = some ⟨.type "dict", none, .dict es n, #[]⟩) (h : KeysAre es.toList xs) (z : Str) : PySem.W.nsIn K a z = some (xs.lookup z) := by
  obtain ⟨i1, i2⟩ := find_keys z h
  unfold PySem.W.nsIn
  rw [l]
  simp only
  cases c : es.toList.find? (·.key.isStr z) with
  | some e =>
    rw [c] at i1
    exact congrArg some i1
  | none =>
    rw [c] at i1
    simp only [i2]
    exact congrArg some i1
theorem upOk {P : Program} {w : World} {K : PySem.W.Frag} {mg : Str → Option Value} {base : Heap} {j k : Nat} {f : Addr} {fd : FuncData} {ps : List Str} {sp : Sp} (F : FnOk P w K mg base CX0 j f fd ps sp) (h : j ≤ k) : FnOk P w K mg base CX0 k f fd ps sp :=
  ⟨F.len, fun A outer s H args us vs Q E hr => F.run A outer s H args us vs Q E (hr.mono h)⟩
theorem tt_of {x : Str} {q : Program} {mg : Str → Option Value} {h : Heap} (hrec : ((recsOf q).any fun e => e.name == x) = true)
    (tabs : ∀ e ∈ recsOf q, ∃ (a : Addr) (o : Obj) (fd : FuncData) (c p : Addr), mg e.name = some (.ref a) ∧ h.get? a = some o ∧ o.data = .func fd ∧ fd.code = .ref c ∧ h.IsCode c p #[] ∧ h.TableAt c p #[]) : Kg.TabOf mg h x := by
  obtain ⟨dL, hm, hn1⟩ := List.any_eq_true.mp hrec
  obtain ⟨a', o', fd', c', P', h1, h2, h3, h4, h5, h6⟩ := tabs dL hm
  exact ⟨a', o', fd', c', P', by rw [← (beq_iff_eq.mp hn1)]; exact h1, h2, h3, h4, h5, h6⟩
theorem tabX {base : Heap} {mg : Str → Option Value} {c p : Addr} (t : LamX.TabB base mg c p) : GxR.TabB base mg c p := ⟨t.code, t.bm, t.gP⟩
inductive Rl2 (R : List Str → Value → Prop) : List (Str × List Str) → List (Str × Value) → Prop
  | nil : Rl2 R [] []
  | cons {z : Str} {rs : List Str} {u : Value} {xs : List (Str × List Str)} {ys : List (Str × Value)} : R rs u → Rl2 R xs ys → Rl2 R ((z, rs) :: xs) ((z, u) :: ys)
theorem Rl2.look {R : List Str → Value → Prop} (k : Str) : ∀ {xs : List (Str × List Str)} {ys : List (Str × Value)}, Rl2 R xs ys → (xs.lookup k = none → ys.lookup k = none) ∧ ∀ rs, xs.lookup k = some rs → ∃ u, ys.lookup k = some u ∧ R rs u
  | _, _, .nil => ⟨fun _ => rfl, fun _ h => by cases h⟩
  | _, _, .cons (z := z) (u := u) r t => by
    obtain ⟨h1, h2⟩ := t.look k
    rw [List.lookup_cons, List.lookup_cons]
    cases c : (k == z) with
    | true => exact ⟨fun h => (by cases h), fun rs h => ⟨u, rfl, by rw [← Option.some.inj h]; exact r⟩⟩
    | false => exact ⟨h1, h2⟩
theorem all_mk {l : PySem.W.OpenLaw} {w : World} {K : PySem.W.Frag} {h : Heap} {mg : Str → Option Value} {fa dW dC oC oR o1 o2 o3 o4 o5 o6 o7 o8 f1 f2 f3 f4 f5 f6 f7 f8 f9 f10 f11 f12 f13 f14 f15 f16 f17 f18 f19 f20 f21 f22 f23 f24 f25 f26 f27 f28 c1 p1 c10 p10 c13 p13 : Addr} (X : K.In h) (G : h.Ns mainGlobals mg) (hfa : mg "law" = some (.ref fa))
    (TT1 : Kg.TabOf mg h "is_name")
    (TT10 : Kg.TabOf mg h "is_figures")
    (TT13 : Kg.TabOf mg h "joined")
    {od1 an1 od2 an2 od3 an3 od4 an4 od5 an5 od6 an6 od7 an7 od8 an8 od9 an9 od10 an10 od11 an11 od12 an12 od13 an13 od14 an14 od15 an15 od16 an16 od17 an17 od18 an18 od19 an19 od20 an20 od21 an21 od22 an22 od23 an23 od24 an24 od25 an25 od26 an26 od27 an27 od28 an28 dd1 dd10 dd13 dT1 dT2 dT3 dT4 dT5 dT6 dT7 dT8 dCt dRt : Option Addr} {sl1 sl2 sl3 sl4 sl5 sl6 sl7 sl8 sl9 sl10 sl11 sl12 sl13 sl14 sl15 sl16 sl17 sl18 sl19 sl20 sl21 sl22 sl23 sl24 sl25 sl26 sl27 sl28 sm1 sm10 sm13 sT1 sT2 sT3 sT4 sT5 sT6 sT7 sT8 sCt sRt : Array (Option Value)} {es esC : Array DictEntry} {nD nC nCt nRt nT1 nT2 nT3 nT4 nT5 nT6 nT7 nT8 : Nat} {oc1 kV1 dc1 pm1 ct1 oc2 kV2 dc2 pm2 ct2 oc3 kV3 dc3 pm3 ct3 oc4 kV4 dc4 pm4 ct4 oc5 kV5 dc5 pm5 ct5 oc6 kV6 dc6 pm6 ct6 oc7 kV7 dc7 pm7 ct7 oc8 kV8 dc8 pm8 ct8 oc9 kV9 dc9 pm9 ct9 oc10 kV10 dc10 pm10 ct10 oc11 kV11 dc11 pm11 ct11 oc12 kV12 dc12 pm12 ct12 oc13 kV13 dc13 pm13 ct13 oc14 kV14 dc14 pm14 ct14 oc15 kV15 dc15 pm15 ct15 oc16 kV16 dc16 pm16 ct16 oc17 kV17 dc17 pm17 ct17 oc18 kV18 dc18 pm18 ct18 oc19 kV19 dc19 pm19 ct19 oc20 kV20 dc20 pm20 ct20 oc21 kV21 dc21 pm21 ct21 oc22 kV22 dc22 pm22 ct22 oc23 kV23 dc23 pm23 ct23 oc24 kV24 dc24 pm24 ct24 oc25 kV25 dc25 pm25 ct25 oc26 kV26 dc26 pm26 ct26 oc27 kV27 dc27 pm27 ct27 oc28 kV28 dc28 pm28 ct28 cd2 cd3 cd4 cd5 cd6 cd7 cd8 cd9 cd11 cd12 cd14 cd15 cd16 cd17 cd18 cd19 cd20 cd21 cd22 cd23 cd24 cd25 cd26 cd27 cd28 e1 e10 e13 uL uN uF x1 x4 x5 x6 : Value} {vs1 vs10 vs13 iT1 iT2 iT3 iT4 iT5 iT6 iT7 iT8 iCt iRt : Array Value}
    (a1 : PySem.W.nsIn K mainGlobals "is_name" = some (some (.ref f1))) (l1 : K.lookup f1 = some ⟨oc1, od1, .func (PySem.W.fnOf "is_name" "is_name" (defArgs tName) (defBody tName) (defScope tName) .none kV1 dc1 pm1 an1 (.ref c1) ct1), sl1⟩)
      (q1 : PySem.W.codeIn K (.ref c1) "is_name" = true) (k1 : PySem.W.keepIn K (.ref f1) = true)
    (a2 : PySem.W.nsIn K mainGlobals "written" = some (some (.ref f2))) (l2 : K.lookup f2 = some ⟨oc2, od2, .func (PySem.W.fnOf "written" "written" (defArgs tWritten) (defBody tWritten) (defScope tWritten) .none kV2 dc2 pm2 an2 cd2 ct2), sl2⟩)
      (q2 : PySem.W.codeIn K cd2 "written" = true) (k2 : PySem.W.keepIn K (.ref f2) = true)
    (a3 : PySem.W.nsIn K mainGlobals "word_of" = some (some (.ref f3))) (l3 : K.lookup f3 = some ⟨oc3, od3, .func (PySem.W.fnOf "word_of" "word_of" (defArgs tWordOf) (defBody tWordOf) (defScope tWordOf) .none kV3 dc3 pm3 an3 cd3 ct3), sl3⟩)
      (q3 : PySem.W.codeIn K cd3 "word_of" = true) (k3 : PySem.W.keepIn K (.ref f3) = true)
    (a4 : PySem.W.nsIn K mainGlobals "parts_behind" = some (some (.ref f4))) (l4 : K.lookup f4 = some ⟨oc4, od4, .func (PySem.W.fnOf "parts_behind" "parts_behind" (defArgs tBehind) (defBody tBehind) (defScope tBehind) .none kV4 dc4 pm4 an4 cd4 ct4), sl4⟩)
      (q4 : PySem.W.codeIn K cd4 "parts_behind" = true) (k4 : PySem.W.keepIn K (.ref f4) = true)
    (a5 : PySem.W.nsIn K mainGlobals "form_of" = some (some (.ref f5))) (l5 : K.lookup f5 = some ⟨oc5, od5, .func (PySem.W.fnOf "form_of" "form_of" (defArgs tFormOf) (defBody tFormOf) (defScope tFormOf) .none kV5 dc5 pm5 an5 cd5 ct5), sl5⟩)
      (q5 : PySem.W.codeIn K cd5 "form_of" = true) (k5 : PySem.W.keepIn K (.ref f5) = true)
    (a6 : PySem.W.nsIn K mainGlobals "read" = some (some (.ref f6))) (l6 : K.lookup f6 = some ⟨oc6, od6, .func (PySem.W.fnOf "read" "read" (defArgs tRead) (defBody tRead) (defScope tRead) .none kV6 dc6 pm6 an6 cd6 ct6), sl6⟩)
      (q6 : PySem.W.codeIn K cd6 "read" = true) (k6 : PySem.W.keepIn K (.ref f6) = true)
    (a7 : PySem.W.nsIn K mainGlobals "read_words" = some (some (.ref f7))) (l7 : K.lookup f7 = some ⟨oc7, od7, .func (PySem.W.fnOf "read_words" "read_words" (defArgs tReadW) (defBody tReadW) (defScope tReadW) .none kV7 dc7 pm7 an7 cd7 ct7), sl7⟩)
      (q7 : PySem.W.codeIn K cd7 "read_words" = true) (k7 : PySem.W.keepIn K (.ref f7) = true)
    (a8 : PySem.W.nsIn K mainGlobals "roles_behind" = some (some (.ref f8))) (l8 : K.lookup f8 = some ⟨oc8, od8, .func (PySem.W.fnOf "roles_behind" "roles_behind" (defArgs tBehindR) (defBody tBehindR) (defScope tBehindR) .none kV8 dc8 pm8 an8 cd8 ct8), sl8⟩)
      (q8 : PySem.W.codeIn K cd8 "roles_behind" = true) (k8 : PySem.W.keepIn K (.ref f8) = true)
    (a9 : PySem.W.nsIn K mainGlobals "is_single" = some (some (.ref f9))) (l9 : K.lookup f9 = some ⟨oc9, od9, .func (PySem.W.fnOf "is_single" "is_single" (defArgs tIsSingle) (defBody tIsSingle) (defScope tIsSingle) .none kV9 dc9 pm9 an9 cd9 ct9), sl9⟩)
      (q9 : PySem.W.codeIn K cd9 "is_single" = true) (k9 : PySem.W.keepIn K (.ref f9) = true)
    (a10 : PySem.W.nsIn K mainGlobals "is_figures" = some (some (.ref f10))) (l10 : K.lookup f10 = some ⟨oc10, od10, .func (PySem.W.fnOf "is_figures" "is_figures" (defArgs tFig) (defBody tFig) (defScope tFig) .none kV10 dc10 pm10 an10 (.ref c10) ct10), sl10⟩)
      (q10 : PySem.W.codeIn K (.ref c10) "is_figures" = true) (k10 : PySem.W.keepIn K (.ref f10) = true)
    (a11 : PySem.W.nsIn K mainGlobals "put_together" = some (some (.ref f11))) (l11 : K.lookup f11 = some ⟨oc11, od11, .func (PySem.W.fnOf "put_together" "put_together" (defArgs tPut) (defBody tPut) (defScope tPut) .none kV11 dc11 pm11 an11 cd11 ct11), sl11⟩)
      (q11 : PySem.W.codeIn K cd11 "put_together" = true) (k11 : PySem.W.keepIn K (.ref f11) = true)
    (a12 : PySem.W.nsIn K mainGlobals "single" = some (some (.ref f12))) (l12 : K.lookup f12 = some ⟨oc12, od12, .func (PySem.W.fnOf "single" "single" (defArgs tSingle) (defBody tSingle) (defScope tSingle) .none kV12 dc12 pm12 an12 cd12 ct12), sl12⟩)
      (q12 : PySem.W.codeIn K cd12 "single" = true) (k12 : PySem.W.keepIn K (.ref f12) = true)
    (a13 : PySem.W.nsIn K mainGlobals "joined" = some (some (.ref f13))) (l13 : K.lookup f13 = some ⟨oc13, od13, .func (PySem.W.fnOf "joined" "joined" (defArgs tJoined) (defBody tJoined) (defScope tJoined) .none kV13 dc13 pm13 an13 (.ref c13) ct13), sl13⟩)
      (q13 : PySem.W.codeIn K (.ref c13) "joined" = true) (k13 : PySem.W.keepIn K (.ref f13) = true)
    (a14 : PySem.W.nsIn K mainGlobals "show_worth" = some (some (.ref f14))) (l14 : K.lookup f14 = some ⟨oc14, od14, .func (PySem.W.fnOf "show_worth" "show_worth" (defArgs tShow) (defBody tShow) (defScope tShow) .none kV14 dc14 pm14 an14 cd14 ct14), sl14⟩)
      (q14 : PySem.W.codeIn K cd14 "show_worth" = true) (k14 : PySem.W.keepIn K (.ref f14) = true)
    (a15 : PySem.W.nsIn K mainGlobals "read_worth" = some (some (.ref f15))) (l15 : K.lookup f15 = some ⟨oc15, od15, .func (PySem.W.fnOf "read_worth" "read_worth" (defArgs tReadT) (defBody tReadT) (defScope tReadT) .none kV15 dc15 pm15 an15 cd15 ct15), sl15⟩)
      (q15 : PySem.W.codeIn K cd15 "read_worth" = true) (k15 : PySem.W.keepIn K (.ref f15) = true)
    (a16 : PySem.W.nsIn K mainGlobals "_law_deck" = some (some (.ref f16))) (l16 : K.lookup f16 = some ⟨oc16, od16, .func (PySem.W.fnOf "_law_deck" "_law_deck" (defArgs tDeck) (defBody tDeck) (defScope tDeck) .none kV16 dc16 pm16 an16 cd16 ct16), sl16⟩)
      (q16 : PySem.W.codeIn K cd16 "_law_deck" = true) (k16 : PySem.W.keepIn K (.ref f16) = true)
    (a17 : PySem.W.nsIn K mainGlobals "_law_mixed" = some (some (.ref f17))) (l17 : K.lookup f17 = some ⟨oc17, od17, .func (PySem.W.fnOf "_law_mixed" "_law_mixed" (defArgs tMixed) (defBody tMixed) (defScope tMixed) .none kV17 dc17 pm17 an17 cd17 ct17), sl17⟩)
      (q17 : PySem.W.codeIn K cd17 "_law_mixed" = true) (k17 : PySem.W.keepIn K (.ref f17) = true)
    (a18 : PySem.W.nsIn K mainGlobals "_law_draw" = some (some (.ref f18))) (l18 : K.lookup f18 = some ⟨oc18, od18, .func (PySem.W.fnOf "_law_draw" "_law_draw" (defArgs tDraw) (defBody tDraw) (defScope tDraw) .none kV18 dc18 pm18 an18 cd18 ct18), sl18⟩)
      (q18 : PySem.W.codeIn K cd18 "_law_draw" = true) (k18 : PySem.W.keepIn K (.ref f18) = true)
    (a19 : PySem.W.nsIn K mainGlobals "_law_names" = some (some (.ref f19))) (l19 : K.lookup f19 = some ⟨oc19, od19, .func (PySem.W.fnOf "_law_names" "_law_names" (defArgs tNames) (defBody tNames) (defScope tNames) .none kV19 dc19 pm19 an19 cd19 ct19), sl19⟩)
      (q19 : PySem.W.codeIn K cd19 "_law_names" = true) (k19 : PySem.W.keepIn K (.ref f19) = true)
    (a20 : PySem.W.nsIn K mainGlobals "_law_called" = some (some (.ref f20))) (l20 : K.lookup f20 = some ⟨oc20, od20, .func (PySem.W.fnOf "_law_called" "_law_called" (defArgs tCalled) (defBody tCalled) (defScope tCalled) .none kV20 dc20 pm20 an20 cd20 ct20), sl20⟩)
      (q20 : PySem.W.codeIn K cd20 "_law_called" = true) (k20 : PySem.W.keepIn K (.ref f20) = true)
    (a21 : PySem.W.nsIn K mainGlobals "_law_datum" = some (some (.ref f21))) (l21 : K.lookup f21 = some ⟨oc21, od21, .func (PySem.W.fnOf "_law_datum" "_law_datum" (defArgs tDatum) (defBody tDatum) (defScope tDatum) .none kV21 dc21 pm21 an21 cd21 ct21), sl21⟩)
      (q21 : PySem.W.codeIn K cd21 "_law_datum" = true) (k21 : PySem.W.keepIn K (.ref f21) = true)
    (a22 : PySem.W.nsIn K mainGlobals "_law_table" = some (some (.ref f22))) (l22 : K.lookup f22 = some ⟨oc22, od22, .func (PySem.W.fnOf "_law_table" "_law_table" (defArgs tTable) (defBody tTable) (defScope tTable) .none kV22 dc22 pm22 an22 cd22 ct22), sl22⟩)
      (q22 : PySem.W.codeIn K cd22 "_law_table" = true) (k22 : PySem.W.keepIn K (.ref f22) = true)
    (a23 : PySem.W.nsIn K mainGlobals "_law_worth" = some (some (.ref f23))) (l23 : K.lookup f23 = some ⟨oc23, od23, .func (PySem.W.fnOf "_law_worth" "_law_worth" (defArgs tWorth) (defBody tWorth) (defScope tWorth) .none kV23 dc23 pm23 an23 cd23 ct23), sl23⟩)
      (q23 : PySem.W.codeIn K cd23 "_law_worth" = true) (k23 : PySem.W.keepIn K (.ref f23) = true)
    (a24 : PySem.W.nsIn K mainGlobals "_law_shown" = some (some (.ref f24))) (l24 : K.lookup f24 = some ⟨oc24, od24, .func (PySem.W.fnOf "_law_shown" "_law_shown" (defArgs tLSh) (defBody tLSh) (defScope tLSh) .none kV24 dc24 pm24 an24 cd24 ct24), sl24⟩)
      (q24 : PySem.W.codeIn K cd24 "_law_shown" = true) (k24 : PySem.W.keepIn K (.ref f24) = true)
    (a25 : PySem.W.nsIn K mainGlobals "_law_right" = some (some (.ref f25))) (l25 : K.lookup f25 = some ⟨oc25, od25, .func (PySem.W.fnOf "_law_right" "_law_right" (defArgs tRight) (defBody tRight) (defScope tRight) .none kV25 dc25 pm25 an25 cd25 ct25), sl25⟩)
      (q25 : PySem.W.codeIn K cd25 "_law_right" = true) (k25 : PySem.W.keepIn K (.ref f25) = true)
    (a26 : PySem.W.nsIn K mainGlobals "_law_deep" = some (some (.ref f26))) (l26 : K.lookup f26 = some ⟨oc26, od26, .func (PySem.W.fnOf "_law_deep" "_law_deep" (defArgs tDeep) (defBody tDeep) (defScope tDeep) .none kV26 dc26 pm26 an26 cd26 ct26), sl26⟩)
      (q26 : PySem.W.codeIn K cd26 "_law_deep" = true) (k26 : PySem.W.keepIn K (.ref f26) = true)
    (a27 : PySem.W.nsIn K mainGlobals "_law_back" = some (some (.ref f27))) (l27 : K.lookup f27 = some ⟨oc27, od27, .func (PySem.W.fnOf "_law_back" "_law_back" (defArgs tBack) (defBody tBack) (defScope tBack) .none kV27 dc27 pm27 an27 cd27 ct27), sl27⟩)
      (q27 : PySem.W.codeIn K cd27 "_law_back" = true) (k27 : PySem.W.keepIn K (.ref f27) = true)
    (a28 : PySem.W.nsIn K mainGlobals "law" = some (some (.ref f28))) (l28 : K.lookup f28 = some ⟨oc28, od28, .func (PySem.W.fnOf "law" "law" (defArgs tLaw) (defBody tLaw) (defScope tLaw) .none kV28 dc28 pm28 an28 cd28 ct28), sl28⟩)
      (q28 : PySem.W.codeIn K cd28 "law" = true) (k28 : PySem.W.keepIn K (.ref f28) = true)
    (t1 : K.lookup c1 = some ⟨e1, dd1, .fields vs1, sm1⟩) (v1 : vs1[11]? = some (.ref p1)) (n1 : K.lookup p1 = none)
    (t10 : K.lookup c10 = some ⟨e10, dd10, .fields vs10, sm10⟩) (v10 : vs10[11]? = some (.ref p10)) (n10 : K.lookup p10 = none)
    (t13 : K.lookup c13 = some ⟨e13, dd13, .fields vs13, sm13⟩) (v13 : vs13[11]? = some (.ref p13)) (n13 : K.lookup p13 = none)
    (aL : PySem.W.nsIn K mainGlobals "LETTERS" = some (some uL)) (rL : RelV (.str lets) uL) (aN : PySem.W.nsIn K mainGlobals "LONGEST_NAME" = some (some uN)) (rN : RelV (.int 8) uN) (aF : PySem.W.nsIn K mainGlobals "FIGURES" = some (some uF)) (rF : RelV (.str figs) uF)
    (aD : PySem.W.nsIn K mainGlobals "WORTH_FORMS" = some (some (.ref dW))) (lD : K.lookup dW = some ⟨.type "dict", none, .dict es nD, #[]⟩) (tD : PySem.W.KeysLit w.params es.toList) (sD : (dW == sysModules) = false)
    (kD : KeysAre es.toList [("thing", .ref o1), ("pair", .ref o2), ("left", .ref o3), ("right", .ref o4), ("list", .ref o5), ("table", .ref o6), ("made", .ref o7), ("maker", .ref o8)])
    (lT1 : K.lookup o1 = some ⟨.type "tuple", dT1, .seq iT1 nT1, sT1⟩) (vT1 : iT1.size ≤ sizeLine ∧ Vals [V.str "name", V.str "number"] iT1.toList)
    (lT2 : K.lookup o2 = some ⟨.type "tuple", dT2, .seq iT2 nT2, sT2⟩) (vT2 : iT2.size ≤ sizeLine ∧ Vals [V.str "worth", V.str "worth"] iT2.toList)
    (lT3 : K.lookup o3 = some ⟨.type "tuple", dT3, .seq iT3 nT3, sT3⟩) (vT3 : iT3.size ≤ sizeLine ∧ Vals [V.str "worth"] iT3.toList)
    (lT4 : K.lookup o4 = some ⟨.type "tuple", dT4, .seq iT4 nT4, sT4⟩) (vT4 : iT4.size ≤ sizeLine ∧ Vals [V.str "worth"] iT4.toList)
    (lT5 : K.lookup o5 = some ⟨.type "tuple", dT5, .seq iT5 nT5, sT5⟩) (vT5 : iT5.size ≤ sizeLine ∧ Vals [V.str "items"] iT5.toList)
    (lT6 : K.lookup o6 = some ⟨.type "tuple", dT6, .seq iT6 nT6, sT6⟩) (vT6 : iT6.size ≤ sizeLine ∧ Vals [V.str "rows"] iT6.toList)
    (lT7 : K.lookup o7 = some ⟨.type "tuple", dT7, .seq iT7 nT7, sT7⟩) (vT7 : iT7.size ≤ sizeLine ∧ Vals [V.str "number", V.str "items"] iT7.toList)
    (lT8 : K.lookup o8 = some ⟨.type "tuple", dT8, .seq iT8 nT8, sT8⟩) (vT8 : iT8.size ≤ sizeLine ∧ Vals [V.str "number", V.str "number"] iT8.toList)
    (aC : PySem.W.nsIn K mainGlobals "COUNTED" = some (some (.ref dC))) (lC : K.lookup dC = some ⟨.type "dict", none, .dict esC nC, #[]⟩) (tC : PySem.W.KeysLit w.params esC.toList) (sC : (dC == sysModules) = false)
    (kC : KeysAre esC.toList [("fills", x1), ("items", .ref oC), ("rows", .ref oR), ("names", x4), ("setting", x5), ("pairs", x6)])
    (lCt : K.lookup oC = some ⟨.type "tuple", dCt, .seq iCt nCt, sCt⟩) (vCt : iCt.size ≤ sizeLine ∧ Vals [V.str "worth"] iCt.toList) (lRt : K.lookup oR = some ⟨.type "tuple", dRt, .seq iRt nRt, sRt⟩) (vRt : iRt.size ≤ sizeLine ∧ Vals [V.str "worth", V.str "answer"] iRt.toList) (s1 : PySem.W.nsOkIn K cStatics = true) (s2 : PySem.W.nsIn K cStatics "sys.int_max_str_digits" = some none)
    (z1 : PySem.W.nsIn K mainGlobals "range" = some none) (z2 : PySem.W.nsIn K mainGlobals "len" = some none) (z3 : PySem.W.nsIn K mainGlobals "list" = some none) (z4 : PySem.W.nsIn K mainGlobals "reversed" = some none) (z5 : PySem.W.nsIn K mainGlobals "tuple" = some none) (z6 : PySem.W.nsIn K mainGlobals "all" = some none) (z7 : PySem.W.nsIn K mainGlobals "isinstance" = some none) (z8 : PySem.W.nsIn K mainGlobals "bool" = some none) (z9 : PySem.W.nsIn K mainGlobals "str" = some none) (z10 : PySem.W.nsIn K mainGlobals "int" = some none) (z11 : PySem.W.nsIn K mainGlobals "zip" = some none) (z12 : PySem.W.nsIn K mainGlobals "enumerate" = some none) (z13 : PySem.W.nsIn K mainGlobals "repr" = some none) (z14 : PySem.W.nsIn K mainGlobals "sum" = some none) :
    LawG l w K CX0 150 63 "_law_script" mg fa h := by
  have e := hfa.symm.trans (PySem.W.mg_of X G a28)
  cases e
  have F1 := fun_mk (st := tName) l1 q1 k1
  have b1 := F1.binds (ps := ["thing"]) fun _ _ _ _ _ _ us hl => match us, hl with | [_], _ => rfl
  have g1 := PySem.W.mg_of X G a1
  have F2 := fun_mk (st := tWritten) l2 q2 k2
  have b2 := F2.binds (ps := ["thing", "role"]) fun _ _ _ _ _ _ us hl => match us, hl with | [_, _], _ => rfl
  have g2 := PySem.W.mg_of X G a2
  have F3 := fun_mk (st := tWordOf) l3 q3 k3
  have b3 := F3.binds (ps := ["part", "role"]) fun _ _ _ _ _ _ us hl => match us, hl with | [_, _], _ => rfl
  have g3 := PySem.W.mg_of X G a3
  have F4 := fun_mk (st := tBehind) l4 q4 k4
  have b4 := F4.binds (ps := ["part", "role"]) fun _ _ _ _ _ _ us hl => match us, hl with | [_, _], _ => rfl
  have g4 := PySem.W.mg_of X G a4
  have F5 := fun_mk (st := tFormOf) l5 q5 k5
  have b5 := F5.binds (ps := ["role", "word"]) fun _ _ _ _ _ _ us hl => match us, hl with | [_, _], _ => rfl
  have g5 := PySem.W.mg_of X G a5
  have F6 := fun_mk (st := tRead) l6 q6 k6
  have b6 := F6.binds (ps := ["text", "role"]) fun _ _ _ _ _ _ us hl => match us, hl with | [_, _], _ => rfl
  have g6 := PySem.W.mg_of X G a6
  have F7 := fun_mk (st := tReadW) l7 q7 k7
  have b7 := F7.binds (ps := ["words", "first", "again"]) fun _ _ _ _ _ _ us hl => match us, hl with | [_, _, _], _ => rfl
  have g7 := PySem.W.mg_of X G a7
  have F8 := fun_mk (st := tBehindR) l8 q8 k8
  have b8 := F8.binds (ps := ["word", "role", "left"]) fun _ _ _ _ _ _ us hl => match us, hl with | [_, _, _], _ => rfl
  have g8 := PySem.W.mg_of X G a8
  have F9 := fun_mk (st := tIsSingle) l9 q9 k9
  have b9 := F9.binds (ps := ["word", "role"]) fun _ _ _ _ _ _ us hl => match us, hl with | [_, _], _ => rfl
  have g9 := PySem.W.mg_of X G a9
  have F10 := fun_mk (st := tFig) l10 q10 k10
  have b10 := F10.binds (ps := ["word"]) fun _ _ _ _ _ _ us hl => match us, hl with | [_], _ => rfl
  have g10 := PySem.W.mg_of X G a10
  have F11 := fun_mk (st := tPut) l11 q11 k11
  have b11 := F11.binds (ps := ["words", "roles"]) fun _ _ _ _ _ _ us hl => match us, hl with | [_, _], _ => rfl
  have g11 := PySem.W.mg_of X G a11
  have F12 := fun_mk (st := tSingle) l12 q12 k12
  have b12 := F12.binds (ps := ["word", "role"]) fun _ _ _ _ _ _ us hl => match us, hl with | [_, _], _ => rfl
  have g12 := PySem.W.mg_of X G a12
  have F13 := fun_mk (st := tJoined) l13 q13 k13
  have b13 := F13.binds (ps := ["word", "role", "parts"]) fun _ _ _ _ _ _ us hl => match us, hl with | [_, _, _], _ => rfl
  have g13 := PySem.W.mg_of X G a13
  have F14 := fun_mk (st := tShow) l14 q14 k14
  have b14 := F14.binds (ps := ["worth"]) fun _ _ _ _ _ _ us hl => match us, hl with | [_], _ => rfl
  have g14 := PySem.W.mg_of X G a14
  have F15 := fun_mk (st := tReadT) l15 q15 k15
  have b15 := F15.binds (ps := ["text"]) fun _ _ _ _ _ _ us hl => match us, hl with | [_], _ => rfl
  have g15 := PySem.W.mg_of X G a15
  have F16 := fun_mk (st := tDeck) l16 q16 k16
  have b16 := F16.binds (ps := ["_law_script"]) fun _ _ _ _ _ _ us hl => match us, hl with | [_], _ => rfl
  have g16 := PySem.W.mg_of X G a16
  have F17 := fun_mk (st := tMixed) l17 q17 k17
  have b17 := F17.binds (ps := ["_law_cell", "_law_k"]) fun _ _ _ _ _ _ us hl => match us, hl with | [_, _], _ => rfl
  have g17 := PySem.W.mg_of X G a17
  have F18 := fun_mk (st := tDraw) l18 q18 k18
  have b18 := F18.binds (ps := ["_law_deck_here", "_law_most"]) fun _ _ _ _ _ _ us hl => match us, hl with | [_, _], _ => rfl
  have g18 := PySem.W.mg_of X G a18
  have F19 := fun_mk (st := tNames) l19 q19 k19
  have b19 := F19.binds (ps := ["_law_deck_here", "_law_many"]) fun _ _ _ _ _ _ us hl => match us, hl with | [_, _], _ => rfl
  have g19 := PySem.W.mg_of X G a19
  have F20 := fun_mk (st := tCalled) l20 q20 k20
  have b20 := F20.binds (ps := psCalled) fun _ _ _ _ _ _ us hl => match us, hl with | [_, _], _ => rfl
  have g20 := PySem.W.mg_of X G a20
  have F21 := fun_mk (st := tDatum) l21 q21 k21
  have b21 := F21.binds (ps := psDatum) fun _ _ _ _ _ _ us hl => match us, hl with | [_, _, _], _ => rfl
  have g21 := PySem.W.mg_of X G a21
  have F22 := fun_mk (st := tTable) l22 q22 k22
  have b22 := F22.binds (ps := psTable) fun _ _ _ _ _ _ us hl => match us, hl with | [_, _, _], _ => rfl
  have g22 := PySem.W.mg_of X G a22
  have F23 := fun_mk (st := tWorth) l23 q23 k23
  have b23 := F23.binds (ps := psWorth) fun _ _ _ _ _ _ us hl => match us, hl with | [_, _], _ => rfl
  have g23 := PySem.W.mg_of X G a23
  have F24 := fun_mk (st := tLSh) l24 q24 k24
  have b24 := F24.binds (ps := ["_law_worth_here"]) fun _ _ _ _ _ _ us hl => match us, hl with | [_], _ => rfl
  have g24 := PySem.W.mg_of X G a24
  have F25 := fun_mk (st := tRight) l25 q25 k25
  have b25 := F25.binds (ps := ["_law_worth_here"]) fun _ _ _ _ _ _ us hl => match us, hl with | [_], _ => rfl
  have g25 := PySem.W.mg_of X G a25
  have F26 := fun_mk (st := tDeep) l26 q26 k26
  have b26 := F26.binds (ps := psDeep) fun _ _ _ _ _ _ us hl => match us, hl with | [_, _], _ => rfl
  have g26 := PySem.W.mg_of X G a26
  have F27 := fun_mk (st := tBack) l27 q27 k27
  have b27 := F27.binds (ps := ["_law_worth_here"]) fun _ _ _ _ _ _ us hl => match us, hl with | [_], _ => rfl
  have g27 := PySem.W.mg_of X G a27
  have F28 := fun_mk (st := tLaw) l28 q28 k28
  have m_range := PySem.W.mg_none_of X G z1
  have m_len := PySem.W.mg_none_of X G z2
  have m_list := PySem.W.mg_none_of X G z3
  have m_reversed := PySem.W.mg_none_of X G z4
  have m_tuple := PySem.W.mg_none_of X G z5
  have m_all := PySem.W.mg_none_of X G z6
  have m_isinstance := PySem.W.mg_none_of X G z7
  have m_bool := PySem.W.mg_none_of X G z8
  have m_str := PySem.W.mg_none_of X G z9
  have m_int := PySem.W.mg_none_of X G z10
  have m_zip := PySem.W.mg_none_of X G z11
  have m_enumerate := PySem.W.mg_none_of X G z12
  have m_repr := PySem.W.mg_none_of X G z13
  have m_sum := PySem.W.mg_none_of X G z14
  have C1 := Kg.funC_mk (st := tName) l1 q1
  obtain ⟨h1, hc1⟩ := Kg.tabOf_at X TT1 g1 l1 t1 v1
  have C10 := Kg.funC_mk (st := tFig) l10 q10
  obtain ⟨h10, hc10⟩ := Kg.tabOf_at X TT10 g10 l10 t10 v10
  have C13 := Kg.funC_mk (st := tJoined) l13 q13
  obtain ⟨h13, hc13⟩ := Kg.tabOf_at X TT13 g13 l13 t13 v13
  have gL := PySem.W.mg_of X G aL
  have gN := PySem.W.mg_of X G aN
  have gD := PySem.W.mg_of X G aD
  have gC := PySem.W.mg_of X G aC
  have gF := PySem.W.mg_of X G aF
  have hW : WForms K w dW es nD := by
    have r2 : Rl2 (fun rs u => ∃ t, u = Value.ref t ∧ ∀ G : Hp, SqT K G t (rs.map V.str)) tblW [("thing", .ref o1), ("pair", .ref o2), ("left", .ref o3), ("right", .ref o4), ("list", .ref o5), ("table", .ref o6), ("made", .ref o7), ("maker", .ref o8)] := (.cons ⟨o1, rfl, fun H => .inr ⟨_, iT1, nT1, lT1, rfl, rfl, vT1.1, vT1.2⟩⟩ (.cons ⟨o2, rfl, fun H => .inr ⟨_, iT2, nT2, lT2, rfl, rfl, vT2.1, vT2.2⟩⟩ (.cons ⟨o3, rfl, fun H => .inr ⟨_, iT3, nT3, lT3, rfl, rfl, vT3.1, vT3.2⟩⟩ (.cons ⟨o4, rfl, fun H => .inr ⟨_, iT4, nT4, lT4, rfl, rfl, vT4.1, vT4.2⟩⟩ (.cons ⟨o5, rfl, fun H => .inr ⟨_, iT5, nT5, lT5, rfl, rfl, vT5.1, vT5.2⟩⟩ (.cons ⟨o6, rfl, fun H => .inr ⟨_, iT6, nT6, lT6, rfl, rfl, vT6.1, vT6.2⟩⟩ (.cons ⟨o7, rfl, fun H => .inr ⟨_, iT7, nT7, lT7, rfl, rfl, vT7.1, vT7.2⟩⟩ (.cons ⟨o8, rfl, fun H => .inr ⟨_, iT8, nT8, lT8, rfl, rfl, vT8.1, vT8.2⟩⟩ .nil))))))))
    refine ⟨⟨lD, tD, sD⟩, fun z rs hz => ?_⟩
    obtain ⟨u, hu, t, rfl, ht⟩ := (r2.look z).2 rs hz
    exact ⟨t, by rw [ns_keys lD kD, hu], ht⟩
  have hC : CForms K w dC esC nC := by
    refine ⟨⟨lC, tC, sC⟩, fun r hr => ?_, ⟨oC, (ns_keys lC kC _).trans rfl, fun H => .inr ⟨_, iCt, nCt, lCt, rfl, rfl, vCt.1, vCt.2⟩⟩, ⟨oR, (ns_keys lC kC _).trans rfl, fun H => .inr ⟨_, iRt, nRt, lRt, rfl, rfl, vRt.1, vRt.2⟩⟩⟩
    rw [ns_keys lC kC]
    simp only [plainR, List.mem_cons, List.not_mem_nil, or_false] at hr
    rcases hr with rfl | rfl | rfl | rfl <;> rfl
  refine ⟨PySem.W.fnOf "law" "law" (defArgs tLaw) (defBody tLaw) (defScope tLaw) .none kV28 dc28 pm28 an28 cd28 ct28, [(c1, p1), (c10, p10), (c13, p13)], spLaw K [p1, p10, p13], ?T, fun s v => .of_eq rfl, fun H a ns hl _ hH hS => ⟨a, ns, rfl, hS, hl, ?S, fun _ => rfl⟩, fun base _ _ TB => ?_⟩
  case T =>
    intro p hp
    rcases List.mem_cons.mp hp with e | hp
    · rw [e]; exact ⟨h1, n1, hc1⟩
    rcases List.mem_cons.mp hp with e | hp
    · rw [e]; exact ⟨h10, n10, hc10⟩
    · rw [List.mem_singleton.mp hp]; exact ⟨h13, n13, hc13⟩
  case S =>
    intro p hp
    have q : ∀ p ∈ [p1, p10, p13], H p = some (.tbl #[]) := by
      intro p hp
      rcases List.mem_cons.mp hp with e | hp
      · rw [e]; exact hH (c1, p1) (by simp)
      rcases List.mem_cons.mp hp with e | hp
      · rw [e]; exact hH (c10, p10) (by simp)
      · rw [List.mem_singleton.mp hp]; exact hH (c13, p13) (by simp)
    exact ⟨#[], q p hp, True.intro⟩
  have T1 := tabX (TB (c1, p1) (by simp))
  have M1 : p1 ∈ [p1, p10, p13] := by simp
  have T10 := tabX (TB (c10, p10) (by simp))
  have M10 : p10 ∈ [p1, p10, p13] := by simp
  have T13 := tabX (TB (c13, p13) (by simp))
  have M13 : p13 ∈ [p1, p10, p13] := by simp
  have D0 : ∀ k, FnOk l.prog w K mg base CX0 (k + 2) f18 _ ["_law_deck_here", "_law_most"] spDraw := fun k => okDraw F18 F17 b17 g17
  have N0 : ∀ k, FnOk l.prog w K mg base CX0 (k + 4) f1 _ ["thing"] (spName [p1, p10, p13]) := fun k => okName C1 T1 M1 gL rL gN rN m_all m_isinstance m_str m_len
  have FO := okFormOf (P := l.prog) (w := w) (base := base) (k := 0) F5 gD hW
  have WO := okWordOf (P := l.prog) (w := w) (mg := mg) (base := base) (k := 0) F3 gC hC s1 s2 m_isinstance m_bool m_tuple m_str m_len
  have BH := okBehind (P := l.prog) (w := w) (base := base) (k := 1) F4 FO b5 g5 k5 gC hC m_isinstance m_tuple m_list m_zip m_len
  have WR := okWritten (P := l.prog) (w := w) (base := base) (k := 3) F2 (upOk WO (by decide)) b3 g3 k3 (upOk BH (by decide)) b4 g4 k4 m_list m_reversed
  have SH := okShow (P := l.prog) (w := w) (base := base) (k := 4) F14 WR b2 g2 k2
  have FG := okFig (P := l.prog) (w := w) (base := base) (k := 0) C10 T10 M10 gF rF m_all
  have SI := okIsSingle (P := l.prog) (w := w) (base := base) (k := 4) F9 (N0 0) b1 g1 k1 FG b10 g10 k10
  have RB := okBehindR (P := l.prog) (w := w) (base := base) (k := 5) F8 SI b9 g9 k9 (upOk FO (by decide)) b5 g5 k5 (upOk FG (by decide)) b10 g10 k10 gC hC s1 s2 m_int
  have SG := okSingle (P := l.prog) (w := w) (mg := mg) (base := base) (k := 0) F12 s1 s2 m_int
  have JO := okJoined (P := l.prog) (w := w) (mg := mg) (base := base) (k := 0) C13 T13 M13 gC hC m_len m_tuple m_range
  have PT := okPut (P := l.prog) (w := w) (base := base) (k := 6) F11 (upOk SI (by decide)) b9 g9 k9 RB b8 g8 k8 (upOk SG (by decide)) b12 g12 k12 (upOk JO (by decide)) b13 g13 k13 m_list m_reversed m_zip m_len
  have RW := okReadW (P := l.prog) (w := w) (base := base) (k := 7) F7 (upOk RB (by decide)) b8 g8 k8 PT b11 g11 k11 m_list m_reversed m_enumerate m_len
  have RD := okRead (P := l.prog) (w := w) (base := base) (k := 8) F6 RW b7 g7 k7 m_isinstance m_str
  have RK := okReadT (P := l.prog) (w := w) (base := base) (k := 9) F15 RD b6 g6 k6
  have NM := okNames (P := l.prog) (w := w) (base := base) (k := 0) F19 (D0 0) b18 g18 k18 m_list m_range
  have CA := okCalled (P := l.prog) (w := w) (base := base) (k := 3) F20 (D0 1) b18 g18 k18 NM b19 g19 k19
  have DU := okDatum (P := l.prog) (w := w) (base := base) (k := 2) F21 b21 g21 (fun n => upOk (D0 0) (Nat.le_add_right _ _)) b18 g18 k18 m_len m_tuple m_int m_range 5
  have TA := okTable (P := l.prog) (w := w) (base := base) (k := 7) F22 b22 g22 (fun n => upOk (D0 5) (Nat.le_add_right _ _)) b18 g18 k18 (fun n => upOk DU (Nat.le_add_right _ _)) b21 g21 k21 m_tuple m_range 4
  have WT := okWorth (P := l.prog) (w := w) (base := base) (k := 11) F23 (D0 9) b18 g18 k18 (upOk DU (by decide)) b21 g21 k21 TA b22 g22 k22 m_tuple m_range m_enumerate
  have DE := okDeck (P := l.prog) (w := w) (base := base) (k := 0) F16 m_list m_reversed
  have DP := okDeep (P := l.prog) (w := w) (base := base) (k := 7) F26 (D0 5) b18 g18 k18 DU b21 g21 k21 m_range
  have LH := okLSh (P := l.prog) (w := w) (mg := mg) (base := base) (k := 1) F24 b24 g24 s1 s2 m_isinstance m_bool m_int m_str m_len m_list m_sum
  have RG := okRight (P := l.prog) (w := w) (base := base) (k := 0) (T := [p1, p10, p13]) F25 (upOk (LH 61) (by decide)) b24 g24 k24 (upOk SH (by decide)) b14 g14 k14 (upOk RK (by decide)) b15 g15 k15 m_repr m_isinstance m_str
  have BK := okBack (P := l.prog) (w := w) (base := base) (k := 0) (T := [p1, p10, p13]) F27 (upOk (LH 61) (by decide)) b24 g24 k24 (upOk SH (by decide)) b14 g14 k14 (upOk RK (by decide)) b15 g15 k15 m_repr
  exact (okLaw (k := 0) F28 (upOk DE (by decide)) b16 g16 k16 (upOk CA (by decide)) b20 g20 k20 (D0 71) b18 g18 k18 (upOk WT (by decide)) b23 g23 k23 (upOk DP (by decide)) b26 g26 k26 RG b25 g25 k25 BK b27 g27 k27 (upOk SH (by decide)) b14 g14 k14 m_range).up (by decide)
end Kq
open PySem PySem.W PyProof.Rows
set_option maxRecDepth 100000 in
set_option maxHeartbeats 0 in
theorem PySem.Challenge.cw_kindalone_k13_worths_written_and_read_holds : PySem.Challenge.rw_kindalone_k13_worths_written_and_read.Holds := by
  w_on; o_law; k_head; (case hw => w_witness2)
  k_fill
  refine Kf.walk_ofG (l := PySem.Challenge.rw_kindalone_k13_worths_written_and_read) (n := 63) (k := 150) (x := "_law_script") (CX := fun _ => L2.CX0) rfl (by decide) rfl ⟨rfl, by decide, by decide⟩ (fun w h Y => PySem.W.kIn_of Y) ?F (fun _ _ _ _ _ h => h)
  case F =>
    intro w mg fa h Y KX G hmg tabs
    have TT1 : Kg.TabOf mg h "is_name" := by
      refine Kq.tt_of ?_ tabs
      decide +kernel
    have TT10 : Kg.TabOf mg h "is_figures" := by
      refine Kq.tt_of ?_ tabs
      decide +kernel
    have TT13 : Kg.TabOf mg h "joined" := by
      refine Kq.tt_of ?_ tabs
      decide +kernel
    refine' Kq.all_mk KX G hmg TT1 TT10 TT13 ?a1 ?l1 ?q1 ?k1 ?a2 ?l2 ?q2 ?k2 ?a3 ?l3 ?q3 ?k3 ?a4 ?l4 ?q4 ?k4 ?a5 ?l5 ?q5 ?k5 ?a6 ?l6 ?q6 ?k6 ?a7 ?l7 ?q7 ?k7 ?a8 ?l8 ?q8 ?k8 ?a9 ?l9 ?q9 ?k9 ?a10 ?l10 ?q10 ?k10 ?a11 ?l11 ?q11 ?k11 ?a12 ?l12 ?q12 ?k12 ?a13 ?l13 ?q13 ?k13 ?a14 ?l14 ?q14 ?k14 ?a15 ?l15 ?q15 ?k15 ?a16 ?l16 ?q16 ?k16 ?a17 ?l17 ?q17 ?k17 ?a18 ?l18 ?q18 ?k18 ?a19 ?l19 ?q19 ?k19 ?a20 ?l20 ?q20 ?k20 ?a21 ?l21 ?q21 ?k21 ?a22 ?l22 ?q22 ?k22 ?a23 ?l23 ?q23 ?k23 ?a24 ?l24 ?q24 ?k24 ?a25 ?l25 ?q25 ?k25 ?a26 ?l26 ?q26 ?k26 ?a27 ?l27 ?q27 ?k27 ?a28 ?l28 ?q28 ?k28 ?t1 ?v1 ?n1 ?t10 ?v10 ?n10 ?t13 ?v13 ?n13 ?aL ?rL ?aN ?rN ?aF ?rF ?aD ?lD ?tD ?sD ?kD ?lT1 ?vT1 ?lT2 ?vT2 ?lT3 ?vT3 ?lT4 ?vT4 ?lT5 ?vT5 ?lT6 ?vT6 ?lT7 ?vT7 ?lT8 ?vT8 ?aC ?lC ?tC ?sC ?kC ?lCt ?vCt ?lRt ?vRt ?s1 ?s2 ?z1 ?z2 ?z3 ?z4 ?z5 ?z6 ?z7 ?z8 ?z9 ?z10 ?z11 ?z12 ?z13 ?z14
    (case a1 => k_is); (case l1 => k_is); (case q1 => k_is); (case k1 => k_is)
    (case a2 => k_is); (case l2 => k_is); (case q2 => k_is); (case k2 => k_is)
    (case a3 => k_is); (case l3 => k_is); (case q3 => k_is); (case k3 => k_is)
    (case a4 => k_is); (case l4 => k_is); (case q4 => k_is); (case k4 => k_is)
    (case a5 => k_is); (case l5 => k_is); (case q5 => k_is); (case k5 => k_is)
    (case a6 => k_is); (case l6 => k_is); (case q6 => k_is); (case k6 => k_is)
    (case a7 => k_is); (case l7 => k_is); (case q7 => k_is); (case k7 => k_is)
    (case a8 => k_is); (case l8 => k_is); (case q8 => k_is); (case k8 => k_is)
    (case a9 => k_is); (case l9 => k_is); (case q9 => k_is); (case k9 => k_is)
    (case a10 => k_is); (case l10 => k_is); (case q10 => k_is); (case k10 => k_is)
    (case a11 => k_is); (case l11 => k_is); (case q11 => k_is); (case k11 => k_is)
    (case a12 => k_is); (case l12 => k_is); (case q12 => k_is); (case k12 => k_is)
    (case a13 => k_is); (case l13 => k_is); (case q13 => k_is); (case k13 => k_is)
    (case a14 => k_is); (case l14 => k_is); (case q14 => k_is); (case k14 => k_is)
    (case a15 => k_is); (case l15 => k_is); (case q15 => k_is); (case k15 => k_is)
    (case a16 => k_is); (case l16 => k_is); (case q16 => k_is); (case k16 => k_is)
    (case a17 => k_is); (case l17 => k_is); (case q17 => k_is); (case k17 => k_is)
    (case a18 => k_is); (case l18 => k_is); (case q18 => k_is); (case k18 => k_is)
    (case a19 => k_is); (case l19 => k_is); (case q19 => k_is); (case k19 => k_is)
    (case a20 => k_is); (case l20 => k_is); (case q20 => k_is); (case k20 => k_is)
    (case a21 => k_is); (case l21 => k_is); (case q21 => k_is); (case k21 => k_is)
    (case a22 => k_is); (case l22 => k_is); (case q22 => k_is); (case k22 => k_is)
    (case a23 => k_is); (case l23 => k_is); (case q23 => k_is); (case k23 => k_is)
    (case a24 => k_is); (case l24 => k_is); (case q24 => k_is); (case k24 => k_is)
    (case a25 => k_is); (case l25 => k_is); (case q25 => k_is); (case k25 => k_is)
    (case a26 => k_is); (case l26 => k_is); (case q26 => k_is); (case k26 => k_is)
    (case a27 => k_is); (case l27 => k_is); (case q27 => k_is); (case k27 => k_is)
    (case a28 => k_is); (case l28 => k_is); (case q28 => k_is); (case k28 => k_is)
    (case t1 => k_is); (case v1 => rfl); (case n1 => rfl)
    (case t10 => k_is); (case v10 => rfl); (case n10 => rfl)
    (case t13 => k_is); (case v13 => rfl); (case n13 => rfl)
    (case aL => k_is); (case rL => exact ⟨_, rfl⟩); (case aN => k_is); (case rN => exact ⟨_, rfl⟩); (case aF => k_is); (case rF => exact ⟨_, rfl⟩)
    (case aD => k_is); (case lD => k_is); (case tD => exact ⟨⟨_, _, rfl, rfl⟩, ⟨_, _, rfl, rfl⟩, ⟨_, _, rfl, rfl⟩, ⟨_, _, rfl, rfl⟩, ⟨_, _, rfl, rfl⟩, ⟨_, _, rfl, rfl⟩, ⟨_, _, rfl, rfl⟩, ⟨_, _, rfl, rfl⟩, trivial⟩); (case sD => rfl)
    (case kD => exact ⟨⟨_, rfl⟩, rfl, ⟨_, rfl⟩, rfl, ⟨_, rfl⟩, rfl, ⟨_, rfl⟩, rfl, ⟨_, rfl⟩, rfl, ⟨_, rfl⟩, rfl, ⟨_, rfl⟩, rfl, ⟨_, rfl⟩, rfl, trivial⟩)
    (case lT1 => k_is); (case vT1 => exact ⟨by decide, (.cons ⟨_, rfl⟩ (.cons ⟨_, rfl⟩ .nil))⟩)
    (case lT2 => k_is); (case vT2 => exact ⟨by decide, (.cons ⟨_, rfl⟩ (.cons ⟨_, rfl⟩ .nil))⟩)
    (case lT3 => k_is); (case vT3 => exact ⟨by decide, (.cons ⟨_, rfl⟩ .nil)⟩)
    (case lT4 => k_is); (case vT4 => exact ⟨by decide, (.cons ⟨_, rfl⟩ .nil)⟩)
    (case lT5 => k_is); (case vT5 => exact ⟨by decide, (.cons ⟨_, rfl⟩ .nil)⟩)
    (case lT6 => k_is); (case vT6 => exact ⟨by decide, (.cons ⟨_, rfl⟩ .nil)⟩)
    (case lT7 => k_is); (case vT7 => exact ⟨by decide, (.cons ⟨_, rfl⟩ (.cons ⟨_, rfl⟩ .nil))⟩)
    (case lT8 => k_is); (case vT8 => exact ⟨by decide, (.cons ⟨_, rfl⟩ (.cons ⟨_, rfl⟩ .nil))⟩)
    (case aC => k_is); (case lC => k_is); (case tC => exact ⟨⟨_, _, rfl, rfl⟩, ⟨_, _, rfl, rfl⟩, ⟨_, _, rfl, rfl⟩, ⟨_, _, rfl, rfl⟩, ⟨_, _, rfl, rfl⟩, ⟨_, _, rfl, rfl⟩, trivial⟩); (case sC => rfl)
    (case kC => exact ⟨⟨_, rfl⟩, rfl, ⟨_, rfl⟩, rfl, ⟨_, rfl⟩, rfl, ⟨_, rfl⟩, rfl, ⟨_, rfl⟩, rfl, ⟨_, rfl⟩, rfl, trivial⟩)
    (case lCt => k_is); (case vCt => exact ⟨by decide, (.cons ⟨_, rfl⟩ .nil)⟩); (case lRt => k_is); (case vRt => exact ⟨by decide, (.cons ⟨_, rfl⟩ (.cons ⟨_, rfl⟩ .nil))⟩); (case s1 => first | kernel_rfl | k_is); (case s2 => first | kernel_rfl | k_is)
    (case z1 => k_is); (case z2 => k_is); (case z3 => k_is); (case z4 => k_is); (case z5 => k_is); (case z6 => k_is); (case z7 => k_is); (case z8 => k_is); (case z9 => k_is); (case z10 => k_is); (case z11 => k_is); (case z12 => k_is); (case z13 => k_is); (case z14 => k_is)
