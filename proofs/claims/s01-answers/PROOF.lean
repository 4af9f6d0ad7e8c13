import PyProof.Rows.All
import Wide.All
import OpenK.AllK
import Wide.FinOn
import PyProof.EqAt
import PyProof.EqKinds
import PyProof.TupleCall
import Open.SpecLaws
import KE.OsGo
import HandS.ForSpec
import HandS.ForMost
import HandS.Conv
import HandS.CallLocal
import HandS.Evl
import HandS.Walk
import Fc01Spec
import HandS.Lambda
import PySem.Challenge.RW_arrowsmake_s01_answers
import HandS.Nested
import HandS.SortKw
import HandS.SetFor
import HandS.Deep
import KE.KMinKey
import KE.SortCalls
import KE.SortKeyed
import HandS.Strs
import KE.SortData
import PyFc01
import HandS.Spec
import HandS.EndTab
import KE.KNest
-- text A1
set_option Elab.async false
set_option maxRecDepth 100000
set_option maxHeartbeats 4000000
/-! # words that the layer lacks, over Evl's own -/
namespace Arr
open PySem L2 Evl
section
variable {K : PySem.W.Frag} {σ : L2.St} {H H' : Hp} {ta tb te : TE} {t u : TT} {x y z v : V} {C a dx : Addr} {fs : List (Str × V)} {f m : Str} {D : Ends} {tu tw tz : TS}
/-- a field -/
theorem ev_fld (h : Ev ta σ H (.ref a)) (ho : H a = some (.ins C dx fs)) (c : Cls K C) (n : NoAttr K C f) (l : fs.lookup f = some v) : Ev (tFld K ta f) σ H v := fun H1 e _ q =>
  h H1 e _ fun H2 e2 => ⟨a, C, dx, fs, v, rfl, (e.trans e2) a _ ho, c, n, l, q H2 e2⟩
/-- a method that gives a value -/
theorem ev_meth {sp : Sp} {vs : List V} {E : XK} {tr : TA} (h : Ev ta σ H (.ref a)) (ho : H a = some (.ins C dx fs)) (l : fs.lookup m = none) (ha : EvA tr σ H vs) (hs : SpV sp (.ref a :: vs) H z) : Ev (tMeth C m sp [] E ta tr) σ H z := fun H1 e Q q =>
  h H1 e _ fun H2 e2 => ⟨a, dx, fs, rfl, (e.trans e2) a _ ho, l, ha H2 (e.trans e2) _ fun H3 e3 => by
    rw [List.append_nil]
    exact hs H3 ((e.trans e2).trans e3) Q (fun H4 e4 => q H4 ((e2.trans e3).trans e4)) E⟩
/-- .. a new list -/
theorem el_meth {sp : Sp} {vs xs : List V} {E : XK} {tr : TA} (h : Ev ta σ H (.ref a)) (ho : H a = some (.ins C dx fs)) (l : fs.lookup m = none) (ha : EvA tr σ H vs) (hs : SpL sp (.ref a :: vs) H xs) : EvL (tMeth C m sp [] E ta tr) σ H xs := fun H1 e Q q =>
  h H1 e _ fun H2 e2 => ⟨a, dx, fs, rfl, (e.trans e2) a _ ho, l, ha H2 (e.trans e2) _ fun H3 e3 => by
    rw [List.append_nil]
    exact hs H3 ((e.trans e2).trans e3) Q (fun p H4 hp e4 h4 => q p H4 (fresh_back (e2.trans e3) hp) ((e2.trans e3).trans e4) h4) E⟩
theorem ev_fn {sp : Sp} {vs : List V} {E : XK} {tr : TA} (ha : EvA tr σ H vs) (hs : SpV sp vs H z) : Ev (tCall sp [] E tr) σ H z := ev_call ha (by rw [List.append_nil]; exact hs)
theorem el_fn {sp : Sp} {vs xs : List V} {E : XK} {tr : TA} (ha : EvA tr σ H vs) (hs : SpL sp vs H xs) : EvL (tCall sp [] E tr) σ H xs := el_call ha (by rw [List.append_nil]; exact hs)
/-- a promise: a value; a new list. R is told at some earlier heap -/
def spV (R : List V → Hp → V → Prop) : Sp := fun vs H Q _ => ∃ H0 v, Ex H0 H ∧ R vs H0 v ∧ RetV v H Q
def spL (R : List V → Hp → List V → Prop) : Sp := fun vs H Q _ => ∃ H0 xs, Ex H0 H ∧ R vs H0 xs ∧ RetL xs H Q
theorem spV_go {R : List V → Hp → V → Prop} {vs : List V} (h : R vs H z) : SpV (spV R) vs H z := fun _ e _ q _ => ⟨H, z, e, h, q⟩
theorem spL_go {R : List V → Hp → List V → Prop} {vs xs : List V} (h : R vs H xs) : SpL (spL R) vs H xs := fun _ e _ q _ => ⟨H, xs, e, h, q⟩
theorem ev_mono_l (e : Ex H H') (h : H a = some (.ins C dx fs)) : H' a = some (.ins C dx fs) := e a _ h
/-- d.get(k), k a new tuple -/
theorem ev_dget1 {d : Addr} {kvs : List (List Key × V)} {k : List Key} (h : Ev ta σ H (.ref d)) (hd : H d = some (.dT kvs)) (hk : EvU tb σ H (k.map kV)) : Ev (tDGet1 ta tb) σ H ((valV kvs k).getD .non) := fun H1 e Q q =>
  h H1 e _ fun H2 e2 => ⟨d, rfl, Or.inr ⟨kvs, Or.inl ((e.trans e2) d _ hd)⟩, hk H2 (e.trans e2) _ fun p H3 _ e3 hp => ⟨_, DGet.t (((e.trans e2).trans e3) d _ hd) hp, q H3 (e2.trans e3)⟩⟩
/-- x is None -/
theorem rv_isN : RV (fun x y H Q => y = .non ∧ Q (.bl (decide (x = .non))) H) x .non H (.bl (decide (x = .non))) := fun H1 _ _ q => ⟨rfl, q H1 (Ex.refl H1)⟩
/-- any, all of a new list of truth values -/
theorem ev_anyL {bs : List Bool} (h : EvL te σ H (bs.map V.bl)) : Ev (tCB (rAny K) (tCons te tNil)) σ H (.bl (bs.any id)) := fun H1 e Q q =>
  h H1 e _ fun p H2 _ e2 hp => ⟨p, bs, rfl, sq_of hp, q H2 e2⟩
theorem ev_allL {bs : List Bool} (h : EvL te σ H (bs.map V.bl)) : Ev (tCB (rAll K) (tCons te tNil)) σ H (.bl (bs.all id)) := fun H1 e Q q =>
  h H1 e _ fun p H2 _ e2 hp => ⟨p, bs, rfl, sq_of hp, q H2 e2⟩
/-- a list + a list -/
theorem el_cat {xs ys : List V} {b : Addr} (ha : EvL ta σ H xs) (hb : Ev tb σ H (.ref b)) (hl : H b = some (.lst ys)) (hz : xs.length + ys.length ≤ 100000) : EvL (tOp rCat ta tb) σ H (xs ++ ys) := fun H1 e Q q =>
  ha H1 e _ fun p H2 hp e2 h2 => hb H2 (e.trans e2) _ fun H3 e3 => ⟨p, b, xs, ys, rfl, rfl, e3 p _ h2, ((e.trans e2).trans e3) b _ hl, sz_of hz, fun r hr => q r _ (fresh_back (e2.trans e3) hr) ((e2.trans e3).trans (Ex.new hr)) upd_same⟩
/-- a list of ints against a list of ints -/
theorem dp_ints {p : Addr} {ns : List Int} (h : H p = some (.lst (ns.map V.int))) : Dp K H (.ref p) (.list (ns.map PyData.int)) := by
  refine Dp.lst (sq_of h) ?_
  clear h
  induction ns with
  | nil => exact DpAll.nil
  | cons n r ih => exact DpAll.cons (Dp.int n) ih
end
/-! the layer's rules with the written part named: within a comprehension the reading may not name the block's own context -/
section
variable {X : Cx} {K : PySem.W.Frag} {tg e o : Expr} {f : Str} {pos pos' apos : Pos} {ta tv tl : TE} {value : Expr}
theorem fldK (h : X.K = K) (he : PE X e ta) (hb : attributeBase e f X.env (eval e X.env) = eval e X.env) : PE X (.Attribute e f pos) (tFld K ta f) := by
  subst h
  exact pe_fld he hb
theorem setfldK (h : X.K = K) (ha : PE X o ta) (hv : PE X value tv) (hs : swapsWith value (some (.Attribute o f pos')) pos.line X.env = pure false) : PS X (.Assign [.Attribute o f pos'] value pos) (sFld K ta tv f) := by
  subst h
  exact ps_fld ha hv hs
theorem ixListK (h : X.K = K) : IxR X (rIxL K) := by
  subst h
  exact ix_list
theorem ixTupK (h : X.K = K) : IxR X (rIxT K) := by
  subst h
  exact ix_tup
theorem slListK (h : X.K = K) : SlR X (rSlL K) := by
  subst h
  exact sl_list
theorem lenK (h : X.K = K) : CallR X (.builtin "len") (rLenS K) := by
  subst h
  exact call_len_seq
theorem listK (h : X.K = K) : CallR X (.type "list") (rListS K) := by
  subst h
  exact call_list_of
theorem anyK (h : X.K = K) (hc : X.calm = true) : CallR X (.builtin "any") (rAny K) := by
  subst h
  exact cr_any hc
theorem allK (h : X.K = K) (hc : X.calm = true) : CallR X (.builtin "all") (rAll K) := by
  subst h
  exact cr_all hc
theorem eqDK (h : X.K = K) (hu : X.A.units + 64 < cLine) : OpR X (compareOp .Eq) (rEqD K) := by
  subst h
  exact op_eqD hu
theorem neDK (h : X.K = K) (hu : X.A.units + 64 < cLine) : OpR X (compareOp .NotEq) (rNeD K) := by
  subst h
  exact op_neD hu
theorem inK (h : X.K = K) : OpR X (compareOp .In) (rIn K false) := by
  subst h
  exact op_in_seq
theorem notInK (h : X.K = K) : OpR X (compareOp .NotIn) (rIn K true) := by
  subst h
  exact op_notIn_seq
theorem piListK (h : X.K = K) (hl : PE X e tl) : PI X tg e (iList K tl) := by
  subst h
  exact pi_list hl
theorem piTupK (h : X.K = K) (hl : PE X e tl) : PI X tg e (iTup K tl) := by
  subst h
  exact pi_tup hl
end
end Arr
-- text A2
set_option Elab.async false
set_option maxRecDepth 100000
set_option maxHeartbeats 4000000
/-! # the text by places; what the top has written -/
namespace Arr
open PySem PySem.Spec PyProof.Rows L2 Evl
def top (i : Nat) : Stmt := PySem.Challenge.pw_arrowsmake_s01_answers.main.body.getD i (.Pass ⟨0, 0, 0, 0⟩)
abbrev s___init__ : Stmt := inClass (top 54) 0
abbrev s_arrow_count : Stmt := inClass (top 54) 1
abbrev s_has_thing : Stmt := inClass (top 54) 2
abbrev s_has_arrow : Stmt := inClass (top 54) 3
abbrev s_is_own : Stmt := inClass (top 54) 4
abbrev s_add_arrow : Stmt := inClass (top 54) 5
abbrev s_tell : Stmt := inClass (top 54) 6
abbrev s_leads : Stmt := inClass (top 54) 7
abbrev s_meet : Stmt := inClass (top 54) 8
abbrev s_made : Stmt := inClass (top 54) 9
abbrev s_hom : Stmt := inClass (top 54) 10
abbrev s_turned : Stmt := inClass (top 54) 11
abbrev s_keeps_apart : Stmt := top 1
abbrev s_arrows_back : Stmt := top 2
abbrev s_undone_by : Stmt := top 3
abbrev s_can_be_undone : Stmt := top 4
abbrev s_can_be_undone_both_ways : Stmt := top 5
abbrev s_makes_itself : Stmt := top 6
abbrev s_kinds_of : Stmt := top 7
abbrev s_fits : Stmt := top 9
abbrev s_arrows_up_to : Stmt := top 10
abbrev s_longer_changes : Stmt := top 11
abbrev s_changes_among : Stmt := top 12
abbrev s_arrows_between : Stmt := top 13
abbrev s_all_changes : Stmt := top 14
abbrev s_undone_both_ways : Stmt := top 15
abbrev s_are_alike : Stmt := top 16
abbrev s_comes_from_one : Stmt := top 17
abbrev s_all_come_from_one : Stmt := top 18
abbrev s_partner_arrows : Stmt := top 19
abbrev s_partner_choices : Stmt := top 20
abbrev s_partner_changes : Stmt := top 21
abbrev s_first_partner : Stmt := top 22
abbrev s_is_last : Stmt := top 24
abbrev s_last_thing : Stmt := top 25
abbrev s_comes_by_one : Stmt := top 26
abbrev s_all_come_by : Stmt := top 27
abbrev s_first_pair : Stmt := top 28
abbrev s_first_product : Stmt := top 29
abbrev s_first_pullback : Stmt := top 30
abbrev s_first_equalizer : Stmt := top 31
abbrev s_made_threes : Stmt := top 33
abbrev s_tied_arrows : Stmt := top 34
abbrev s_most_tied : Stmt := top 35
abbrev s_settled_first : Stmt := top 36
abbrev s_side_by_side : Stmt := top 37
abbrev s_holds : Stmt := top 38
abbrev s_with_settled : Stmt := top 39
abbrev s_choices : Stmt := top 40
abbrev s_settle : Stmt := top 41
abbrev s_box_of : Stmt := top 42
abbrev s_boxes_of : Stmt := top 43
abbrev s_ways_from : Stmt := top 44
abbrev s_mapping_count : Stmt := top 45
abbrev s_boxes_with : Stmt := top 46
abbrev s_mapping_at : Stmt := top 47
abbrev s_mappings_in : Stmt := top 48
abbrev s_all_mappings : Stmt := top 49
abbrev s_fault_of_pair : Stmt := top 55
abbrev s_first_fault_of_pairs : Stmt := top 56
abbrev s_same_both_ways : Stmt := top 57
abbrev s_first_fault_of_threes : Stmt := top 58
abbrev s_first_fault : Stmt := top 59
abbrev s_is_category : Stmt := top 60
abbrev s_answer_start : Stmt := top 73
abbrev s_answer_arrow : Stmt := top 74
abbrev s_answer_make : Stmt := top 75
abbrev s_answer_check : Stmt := top 76
abbrev s_refusal_of_arrows : Stmt := top 77
abbrev s_refusal_of_things : Stmt := top 78
abbrev s_answer_kinds : Stmt := top 79
abbrev s_answer_hom : Stmt := top 80
abbrev s_answer_turn : Stmt := top 81
abbrev s_answer_last : Stmt := top 82
abbrev s_answer_product : Stmt := top 83
abbrev s_answer_pullback : Stmt := top 84
abbrev s_answer_equalizer : Stmt := top 85
abbrev s_both_are_categories : Stmt := top 86
abbrev s_answer_maps : Stmt := top 87
abbrev s_answer_of_mappings : Stmt := top 88
abbrev s_tell_mapping : Stmt := top 89
abbrev s_tell_changes : Stmt := top 90
abbrev s_tell_alike : Stmt := top 91
abbrev s_tell_partner : Stmt := top 92
abbrev s_answer_nth : Stmt := top 93
abbrev s_answer_changes : Stmt := top 94
abbrev s_answer_alike : Stmt := top 95
abbrev s_answer_partner : Stmt := top 96
abbrev s_answer_swap : Stmt := top 97
abbrev s_answer_call : Stmt := top 100
abbrev s_answers : Stmt := top 101
theorem sc___init__ : FnScope ["self", "thing_count"] ["self", "thing_count"] (defScope s___init__) := ⟨rfl, rfl, rfl, by decide +kernel, rfl, by decide +kernel, by decide +kernel⟩
theorem sc_arrow_count : FnScope ["self"] ["self"] (defScope s_arrow_count) := ⟨rfl, rfl, rfl, by decide +kernel, rfl, by decide +kernel, by decide +kernel⟩
theorem sc_has_thing : FnScope ["self", "x"] ["self", "x"] (defScope s_has_thing) := ⟨rfl, rfl, rfl, by decide +kernel, rfl, by decide +kernel, by decide +kernel⟩
theorem sc_has_arrow : FnScope ["self", "f"] ["self", "f"] (defScope s_has_arrow) := ⟨rfl, rfl, rfl, by decide +kernel, rfl, by decide +kernel, by decide +kernel⟩
theorem sc_is_own : FnScope ["self", "f"] ["self", "f"] (defScope s_is_own) := ⟨rfl, rfl, rfl, by decide +kernel, rfl, by decide +kernel, by decide +kernel⟩
theorem sc_add_arrow : FnScope ["self", "x", "y"] ["self", "x", "y"] (defScope s_add_arrow) := ⟨rfl, rfl, rfl, by decide +kernel, rfl, by decide +kernel, by decide +kernel⟩
theorem sc_tell : FnScope ["self", "f", "g", "h"] ["self", "f", "g", "h"] (defScope s_tell) := ⟨rfl, rfl, rfl, by decide +kernel, rfl, by decide +kernel, by decide +kernel⟩
theorem sc_leads : FnScope ["self", "f", "x", "y"] ["self", "f", "x", "y"] (defScope s_leads) := ⟨rfl, rfl, rfl, by decide +kernel, rfl, by decide +kernel, by decide +kernel⟩
theorem sc_meet : FnScope ["self", "f", "g"] ["self", "f", "g"] (defScope s_meet) := ⟨rfl, rfl, rfl, by decide +kernel, rfl, by decide +kernel, by decide +kernel⟩
theorem sc_made : FnScope ["self", "f", "g"] ["self", "f", "g"] (defScope s_made) := ⟨rfl, rfl, rfl, by decide +kernel, rfl, by decide +kernel, by decide +kernel⟩
theorem sc_hom : FnScope ["self", "x", "y", "f"] ["self", "x", "y"] (defScope s_hom) := ⟨rfl, rfl, rfl, by decide +kernel, rfl, by decide +kernel, by decide +kernel⟩
theorem sc_turned : FnScope ["self", "other", "met"] ["self"] (defScope s_turned) := ⟨rfl, rfl, rfl, by decide +kernel, rfl, by decide +kernel, by decide +kernel⟩
theorem sc_keeps_apart : FnScope ["category", "f", "x", "ahead", "u", "v"] ["category", "f"] (defScope s_keeps_apart) := ⟨rfl, rfl, rfl, by decide +kernel, rfl, by decide +kernel, by decide +kernel⟩
theorem sc_arrows_back : FnScope ["category", "f"] ["category", "f"] (defScope s_arrows_back) := ⟨rfl, rfl, rfl, by decide +kernel, rfl, by decide +kernel, by decide +kernel⟩
theorem sc_undone_by : FnScope ["category", "f", "g"] ["category", "f", "g"] (defScope s_undone_by) := ⟨rfl, rfl, rfl, by decide +kernel, rfl, by decide +kernel, by decide +kernel⟩
theorem sc_can_be_undone : FnScope ["category", "f", "g"] ["category", "f"] (defScope s_can_be_undone) := ⟨rfl, rfl, rfl, by decide +kernel, rfl, by decide +kernel, by decide +kernel⟩
theorem sc_can_be_undone_both_ways : FnScope ["category", "f", "back", "g"] ["category", "f"] (defScope s_can_be_undone_both_ways) := ⟨rfl, rfl, rfl, by decide +kernel, rfl, by decide +kernel, by decide +kernel⟩
theorem sc_makes_itself : FnScope ["category", "f"] ["category", "f"] (defScope s_makes_itself) := ⟨rfl, rfl, rfl, by decide +kernel, rfl, by decide +kernel, by decide +kernel⟩
theorem sc_kinds_of : FnScope ["category", "f", "turned", "total"] ["category", "f"] (defScope s_kinds_of) := ⟨rfl, rfl, rfl, by decide +kernel, rfl, by decide +kernel, by decide +kernel⟩
theorem sc_fits : FnScope ["source", "target", "first", "second", "change", "f", "before", "behind"] ["source", "target", "first", "second", "change", "f"] (defScope s_fits) := ⟨rfl, rfl, rfl, by decide +kernel, rfl, by decide +kernel, by decide +kernel⟩
theorem sc_arrows_up_to : FnScope ["source", "x", "ends", "f"] ["source", "x"] (defScope s_arrows_up_to) := ⟨rfl, rfl, rfl, by decide +kernel, rfl, by decide +kernel, by decide +kernel⟩
theorem sc_longer_changes : FnScope ["source", "target", "first", "second", "change", "possible", "asked", "longer", "arrow", "further", "f"] ["source", "target", "first", "second", "change", "possible"] (defScope s_longer_changes) := ⟨rfl, rfl, rfl, by decide +kernel, rfl, by decide +kernel, by decide +kernel⟩
theorem sc_changes_among : FnScope ["source", "target", "first", "second", "choices", "rows", "possible", "longer", "change"] ["source", "target", "first", "second", "choices"] (defScope s_changes_among) := ⟨rfl, rfl, rfl, by decide +kernel, rfl, by decide +kernel, by decide +kernel⟩
theorem sc_arrows_between : FnScope ["source", "target", "first", "second", "x"] ["source", "target", "first", "second"] (defScope s_arrows_between) := ⟨rfl, rfl, rfl, by decide +kernel, rfl, by decide +kernel, by decide +kernel⟩
theorem sc_all_changes : FnScope ["source", "target", "first", "second", "choices"] ["source", "target", "first", "second"] (defScope s_all_changes) := ⟨rfl, rfl, rfl, by decide +kernel, rfl, by decide +kernel, by decide +kernel⟩
theorem sc_undone_both_ways : FnScope ["category", "arrows", "f"] ["category", "arrows"] (defScope s_undone_both_ways) := ⟨rfl, rfl, rfl, by decide +kernel, rfl, by decide +kernel, by decide +kernel⟩
theorem sc_are_alike : FnScope ["source", "target", "first", "second", "between", "choices", "arrows"] ["source", "target", "first", "second"] (defScope s_are_alike) := ⟨rfl, rfl, rfl, by decide +kernel, rfl, by decide +kernel, by decide +kernel⟩
theorem sc_comes_from_one : FnScope ["source", "back", "arrow", "u", "there", "g"] ["source", "back", "arrow", "u", "there"] (defScope s_comes_from_one) := ⟨rfl, rfl, rfl, by decide +kernel, rfl, by decide +kernel, by decide +kernel⟩
theorem sc_all_come_from_one : FnScope ["source", "target", "mapping", "back", "x", "arrow", "y", "there", "u"] ["source", "target", "mapping", "back", "x", "arrow"] (defScope s_all_come_from_one) := ⟨rfl, rfl, rfl, by decide +kernel, rfl, by decide +kernel, by decide +kernel⟩
theorem sc_partner_arrows : FnScope ["source", "target", "mapping", "back", "x", "to", "arrow"] ["source", "target", "mapping", "back", "x"] (defScope s_partner_arrows) := ⟨rfl, rfl, rfl, by decide +kernel, rfl, by decide +kernel, by decide +kernel⟩
theorem sc_partner_choices : FnScope ["source", "target", "mapping", "back", "choices", "x", "arrows"] ["source", "target", "mapping", "back"] (defScope s_partner_choices) := ⟨rfl, rfl, rfl, by decide +kernel, rfl, by decide +kernel, by decide +kernel⟩
theorem sc_partner_changes : FnScope ["source", "target", "mapping", "back", "choices", "itself", "there_and_back", "goes"] ["source", "target", "mapping", "back"] (defScope s_partner_changes) := ⟨rfl, rfl, rfl, by decide +kernel, rfl, by decide +kernel, by decide +kernel⟩
theorem sc_first_partner : FnScope ["source", "target", "mapping", "backs", "back", "found"] ["source", "target", "mapping", "backs"] (defScope s_first_partner) := ⟨rfl, rfl, rfl, by decide +kernel, rfl, by decide +kernel, by decide +kernel⟩
theorem sc_is_last : FnScope ["category", "y", "x"] ["category", "y"] (defScope s_is_last) := ⟨rfl, rfl, rfl, by decide +kernel, rfl, by decide +kernel, by decide +kernel⟩
theorem sc_last_thing : FnScope ["category", "y"] ["category"] (defScope s_last_thing) := ⟨rfl, rfl, rfl, by decide +kernel, rfl, by decide +kernel, by decide +kernel⟩
theorem sc_comes_by_one : FnScope ["category", "first", "second", "u", "v", "p", "ways", "m"] ["category", "first", "second", "u", "v"] (defScope s_comes_by_one) := ⟨rfl, rfl, rfl, by decide +kernel, rfl, by decide +kernel, by decide +kernel⟩
theorem sc_all_come_by : FnScope ["category", "first", "second", "agree", "x", "y", "w", "u", "v"] ["category", "first", "second", "agree"] (defScope s_all_come_by) := ⟨rfl, rfl, rfl, by decide +kernel, rfl, by decide +kernel, by decide +kernel⟩
theorem sc_first_pair : FnScope ["category", "x", "y", "agree", "p", "first", "second"] ["category", "x", "y", "agree"] (defScope s_first_pair) := ⟨rfl, rfl, rfl, by decide +kernel, rfl, by decide +kernel, by decide +kernel⟩
theorem sc_first_product : FnScope ["category", "x", "y"] ["category", "x", "y"] (defScope s_first_product) := ⟨rfl, rfl, rfl, by decide +kernel, rfl, by decide +kernel, by decide +kernel⟩
theorem sc_first_pullback : FnScope ["category", "f", "g", "make_the_same"] ["category", "f", "g"] (defScope s_first_pullback) := ⟨rfl, rfl, rfl, by decide +kernel, rfl, by decide +kernel, by decide +kernel⟩
theorem sc_first_equalizer : FnScope ["category", "f", "g", "x", "ahead", "equal", "arrow", "u"] ["category", "f", "g"] (defScope s_first_equalizer) := ⟨rfl, rfl, rfl, by decide +kernel, rfl, by decide +kernel, by decide +kernel⟩
theorem sc_made_threes : FnScope ["source", "threes", "f", "g"] ["source"] (defScope s_made_threes) := ⟨rfl, rfl, rfl, by decide +kernel, rfl, by decide +kernel, by decide +kernel⟩
theorem sc_tied_arrows : FnScope ["threes", "settled", "tied", "three", "loose", "f"] ["threes", "settled"] (defScope s_tied_arrows) := ⟨rfl, rfl, rfl, by decide +kernel, rfl, by decide +kernel, by decide +kernel⟩
theorem sc_most_tied : FnScope ["tied"] ["tied"] (defScope s_most_tied) := ⟨rfl, rfl, rfl, by decide +kernel, rfl, by decide +kernel, by decide +kernel⟩
theorem sc_settled_first : FnScope ["source", "threes", "settled", "tied"] ["source", "threes"] (defScope s_settled_first) := ⟨rfl, rfl, rfl, by decide +kernel, rfl, by decide +kernel, by decide +kernel⟩
theorem sc_side_by_side : FnScope ["source", "target", "where", "f"] ["source", "target", "where", "f"] (defScope s_side_by_side) := ⟨rfl, rfl, rfl, by decide +kernel, rfl, by decide +kernel, by decide +kernel⟩
theorem sc_holds : FnScope ["target", "where", "three", "first", "second", "both"] ["target", "where", "three"] (defScope s_holds) := ⟨rfl, rfl, rfl, by decide +kernel, rfl, by decide +kernel, by decide +kernel⟩
theorem sc_with_settled : FnScope ["where", "f", "goes", "further"] ["where", "f", "goes"] (defScope s_with_settled) := ⟨rfl, rfl, rfl, by decide +kernel, rfl, by decide +kernel, by decide +kernel⟩
theorem sc_choices : FnScope ["source", "target", "threes", "where", "f", "of_f", "possible", "goes", "further", "three"] ["source", "target", "threes", "where", "f"] (defScope s_choices) := ⟨rfl, rfl, rfl, by decide +kernel, rfl, by decide +kernel, by decide +kernel⟩
theorem sc_settle : FnScope ["source", "target", "threes", "f", "rows", "longer", "where", "goes"] ["source", "target", "threes", "f", "rows"] (defScope s_settle) := ⟨rfl, rfl, rfl, by decide +kernel, rfl, by decide +kernel, by decide +kernel⟩
theorem sc_box_of : FnScope ["source", "target", "threes", "where", "box", "f", "goes"] ["source", "target", "threes", "where"] (defScope s_box_of) := ⟨rfl, rfl, rfl, by decide +kernel, rfl, by decide +kernel, by decide +kernel⟩
theorem sc_boxes_of : FnScope ["source", "target", "threes", "rows", "f", "boxes", "where", "box"] ["source", "target"] (defScope s_boxes_of) := ⟨rfl, rfl, rfl, by decide +kernel, rfl, by decide +kernel, by decide +kernel⟩
theorem sc_ways_from : FnScope ["boxes", "f", "total", "box", "ways", "possible"] ["boxes", "f"] (defScope s_ways_from) := ⟨rfl, rfl, rfl, by decide +kernel, rfl, by decide +kernel, by decide +kernel⟩
theorem sc_mapping_count : FnScope ["boxes"] ["boxes"] (defScope s_mapping_count) := ⟨rfl, rfl, rfl, by decide +kernel, rfl, by decide +kernel, by decide +kernel⟩
theorem sc_boxes_with : FnScope ["boxes", "f", "goes", "box"] ["boxes", "f", "goes"] (defScope s_boxes_with) := ⟨rfl, rfl, rfl, by decide +kernel, rfl, by decide +kernel, by decide +kernel⟩
theorem sc_mapping_at : FnScope ["boxes", "k", "where", "left", "ahead", "f", "goes"] ["boxes", "k"] (defScope s_mapping_at) := ⟨rfl, rfl, rfl, by decide +kernel, rfl, by decide +kernel, by decide +kernel⟩
theorem sc_mappings_in : FnScope ["box", "rows", "possible", "longer", "row", "goes"] ["box"] (defScope s_mappings_in) := ⟨rfl, rfl, rfl, by decide +kernel, rfl, by decide +kernel, by decide +kernel⟩
theorem sc_all_mappings : FnScope ["boxes", "found", "box"] ["boxes"] (defScope s_all_mappings) := ⟨rfl, rfl, rfl, by decide +kernel, rfl, by decide +kernel, by decide +kernel⟩
theorem sc_fault_of_pair : FnScope ["category", "f", "g", "h"] ["category", "f", "g"] (defScope s_fault_of_pair) := ⟨rfl, rfl, rfl, by decide +kernel, rfl, by decide +kernel, by decide +kernel⟩
theorem sc_first_fault_of_pairs : FnScope ["category", "f", "g", "fault"] ["category"] (defScope s_first_fault_of_pairs) := ⟨rfl, rfl, rfl, by decide +kernel, rfl, by decide +kernel, by decide +kernel⟩
theorem sc_same_both_ways : FnScope ["category", "f", "g", "h", "first_two", "last_two"] ["category", "f", "g", "h"] (defScope s_same_both_ways) := ⟨rfl, rfl, rfl, by decide +kernel, rfl, by decide +kernel, by decide +kernel⟩
theorem sc_first_fault_of_threes : FnScope ["category", "f", "g", "h"] ["category"] (defScope s_first_fault_of_threes) := ⟨rfl, rfl, rfl, by decide +kernel, rfl, by decide +kernel, by decide +kernel⟩
theorem sc_first_fault : FnScope ["category", "fault"] ["category"] (defScope s_first_fault) := ⟨rfl, rfl, rfl, by decide +kernel, rfl, by decide +kernel, by decide +kernel⟩
theorem sc_is_category : FnScope ["category"] ["category"] (defScope s_is_category) := ⟨rfl, rfl, rfl, by decide +kernel, rfl, by decide +kernel, by decide +kernel⟩
theorem sc_answer_start : FnScope ["pair", "numbers", "n"] ["pair", "numbers"] (defScope s_answer_start) := ⟨rfl, rfl, rfl, by decide +kernel, rfl, by decide +kernel, by decide +kernel⟩
theorem sc_answer_arrow : FnScope ["pair", "numbers", "category", "x", "y"] ["pair", "numbers"] (defScope s_answer_arrow) := ⟨rfl, rfl, rfl, by decide +kernel, rfl, by decide +kernel, by decide +kernel⟩
theorem sc_answer_make : FnScope ["pair", "numbers", "category", "f", "g", "h", "named"] ["pair", "numbers"] (defScope s_answer_make) := ⟨rfl, rfl, rfl, by decide +kernel, rfl, by decide +kernel, by decide +kernel⟩
theorem sc_answer_check : FnScope ["pair", "numbers"] ["pair", "numbers"] (defScope s_answer_check) := ⟨rfl, rfl, rfl, by decide +kernel, rfl, by decide +kernel, by decide +kernel⟩
theorem sc_refusal_of_arrows : FnScope ["category", "arrows", "f"] ["category", "arrows"] (defScope s_refusal_of_arrows) := ⟨rfl, rfl, rfl, by decide +kernel, rfl, by decide +kernel, by decide +kernel⟩
theorem sc_refusal_of_things : FnScope ["category", "things", "x"] ["category", "things"] (defScope s_refusal_of_things) := ⟨rfl, rfl, rfl, by decide +kernel, rfl, by decide +kernel, by decide +kernel⟩
theorem sc_answer_kinds : FnScope ["pair", "numbers", "category", "refusal"] ["pair", "numbers"] (defScope s_answer_kinds) := ⟨rfl, rfl, rfl, by decide +kernel, rfl, by decide +kernel, by decide +kernel⟩
theorem sc_answer_hom : FnScope ["pair", "numbers", "category", "refusal", "between"] ["pair", "numbers"] (defScope s_answer_hom) := ⟨rfl, rfl, rfl, by decide +kernel, rfl, by decide +kernel, by decide +kernel⟩
theorem sc_answer_turn : FnScope ["pair", "numbers", "turned"] ["pair", "numbers"] (defScope s_answer_turn) := ⟨rfl, rfl, rfl, by decide +kernel, rfl, by decide +kernel, by decide +kernel⟩
theorem sc_answer_last : FnScope ["pair", "numbers", "category"] ["pair", "numbers"] (defScope s_answer_last) := ⟨rfl, rfl, rfl, by decide +kernel, rfl, by decide +kernel, by decide +kernel⟩
theorem sc_answer_product : FnScope ["pair", "numbers", "category", "refusal"] ["pair", "numbers"] (defScope s_answer_product) := ⟨rfl, rfl, rfl, by decide +kernel, rfl, by decide +kernel, by decide +kernel⟩
theorem sc_answer_pullback : FnScope ["pair", "numbers", "category", "f", "g", "refusal"] ["pair", "numbers"] (defScope s_answer_pullback) := ⟨rfl, rfl, rfl, by decide +kernel, rfl, by decide +kernel, by decide +kernel⟩
theorem sc_answer_equalizer : FnScope ["pair", "numbers", "category", "f", "g", "refusal"] ["pair", "numbers"] (defScope s_answer_equalizer) := ⟨rfl, rfl, rfl, by decide +kernel, rfl, by decide +kernel, by decide +kernel⟩
theorem sc_both_are_categories : FnScope ["pair"] ["pair"] (defScope s_both_are_categories) := ⟨rfl, rfl, rfl, by decide +kernel, rfl, by decide +kernel, by decide +kernel⟩
theorem sc_answer_maps : FnScope ["pair", "numbers"] ["pair", "numbers"] (defScope s_answer_maps) := ⟨rfl, rfl, rfl, by decide +kernel, rfl, by decide +kernel, by decide +kernel⟩
theorem sc_answer_of_mappings : FnScope ["pair", "numbers", "tell", "source", "target", "boxes", "k"] ["pair", "numbers", "tell"] (defScope s_answer_of_mappings) := ⟨rfl, rfl, rfl, by decide +kernel, rfl, by decide +kernel, by decide +kernel⟩
theorem sc_tell_mapping : FnScope ["source", "target", "asked"] ["source", "target", "asked"] (defScope s_tell_mapping) := ⟨rfl, rfl, rfl, by decide +kernel, rfl, by decide +kernel, by decide +kernel⟩
theorem sc_tell_changes : FnScope ["source", "target", "asked", "found"] ["source", "target", "asked"] (defScope s_tell_changes) := ⟨rfl, rfl, rfl, by decide +kernel, rfl, by decide +kernel, by decide +kernel⟩
theorem sc_tell_alike : FnScope ["source", "target", "asked"] ["source", "target", "asked"] (defScope s_tell_alike) := ⟨rfl, rfl, rfl, by decide +kernel, rfl, by decide +kernel, by decide +kernel⟩
theorem sc_tell_partner : FnScope ["source", "target", "asked", "boxes"] ["source", "target", "asked"] (defScope s_tell_partner) := ⟨rfl, rfl, rfl, by decide +kernel, rfl, by decide +kernel, by decide +kernel⟩
theorem sc_answer_nth : FnScope ["pair", "numbers"] ["pair", "numbers"] (defScope s_answer_nth) := ⟨rfl, rfl, rfl, by decide +kernel, rfl, by decide +kernel, by decide +kernel⟩
theorem sc_answer_changes : FnScope ["pair", "numbers"] ["pair", "numbers"] (defScope s_answer_changes) := ⟨rfl, rfl, rfl, by decide +kernel, rfl, by decide +kernel, by decide +kernel⟩
theorem sc_answer_alike : FnScope ["pair", "numbers"] ["pair", "numbers"] (defScope s_answer_alike) := ⟨rfl, rfl, rfl, by decide +kernel, rfl, by decide +kernel, by decide +kernel⟩
theorem sc_answer_partner : FnScope ["pair", "numbers"] ["pair", "numbers"] (defScope s_answer_partner) := ⟨rfl, rfl, rfl, by decide +kernel, rfl, by decide +kernel, by decide +kernel⟩
theorem sc_answer_swap : FnScope ["pair", "numbers"] ["pair", "numbers"] (defScope s_answer_swap) := ⟨rfl, rfl, rfl, by decide +kernel, rfl, by decide +kernel, by decide +kernel⟩
theorem sc_answer_call : FnScope ["pair", "call", "numbers", "answer"] ["pair", "call", "numbers"] (defScope s_answer_call) := ⟨rfl, rfl, rfl, by decide +kernel, rfl, by decide +kernel, by decide +kernel⟩
theorem sc_answers : FnScope ["calls", "pair", "given", "at", "call", "behind", "answered"] ["calls"] (defScope s_answers) := ⟨rfl, rfl, rfl, by decide +kernel, rfl, by decide +kernel, by decide +kernel⟩
structure Ads where
  C : Addr
  f___init__ : Addr
  d___init__ : FuncData
  f_arrow_count : Addr
  d_arrow_count : FuncData
  f_has_thing : Addr
  d_has_thing : FuncData
  f_has_arrow : Addr
  d_has_arrow : FuncData
  f_is_own : Addr
  d_is_own : FuncData
  f_add_arrow : Addr
  d_add_arrow : FuncData
  f_tell : Addr
  d_tell : FuncData
  f_leads : Addr
  d_leads : FuncData
  f_meet : Addr
  d_meet : FuncData
  f_made : Addr
  d_made : FuncData
  f_hom : Addr
  d_hom : FuncData
  f_turned : Addr
  d_turned : FuncData
  f_keeps_apart : Addr
  d_keeps_apart : FuncData
  f_arrows_back : Addr
  d_arrows_back : FuncData
  f_undone_by : Addr
  d_undone_by : FuncData
  f_can_be_undone : Addr
  d_can_be_undone : FuncData
  f_can_be_undone_both_ways : Addr
  d_can_be_undone_both_ways : FuncData
  f_makes_itself : Addr
  d_makes_itself : FuncData
  f_kinds_of : Addr
  d_kinds_of : FuncData
  f_fits : Addr
  d_fits : FuncData
  f_arrows_up_to : Addr
  d_arrows_up_to : FuncData
  f_longer_changes : Addr
  d_longer_changes : FuncData
  f_changes_among : Addr
  d_changes_among : FuncData
  f_arrows_between : Addr
  d_arrows_between : FuncData
  f_all_changes : Addr
  d_all_changes : FuncData
  f_undone_both_ways : Addr
  d_undone_both_ways : FuncData
  f_are_alike : Addr
  d_are_alike : FuncData
  f_comes_from_one : Addr
  d_comes_from_one : FuncData
  f_all_come_from_one : Addr
  d_all_come_from_one : FuncData
  f_partner_arrows : Addr
  d_partner_arrows : FuncData
  f_partner_choices : Addr
  d_partner_choices : FuncData
  f_partner_changes : Addr
  d_partner_changes : FuncData
  f_first_partner : Addr
  d_first_partner : FuncData
  f_is_last : Addr
  d_is_last : FuncData
  f_last_thing : Addr
  d_last_thing : FuncData
  f_comes_by_one : Addr
  d_comes_by_one : FuncData
  f_all_come_by : Addr
  d_all_come_by : FuncData
  f_first_pair : Addr
  d_first_pair : FuncData
  f_first_product : Addr
  d_first_product : FuncData
  f_first_pullback : Addr
  d_first_pullback : FuncData
  f_first_equalizer : Addr
  d_first_equalizer : FuncData
  f_made_threes : Addr
  d_made_threes : FuncData
  f_tied_arrows : Addr
  d_tied_arrows : FuncData
  f_most_tied : Addr
  d_most_tied : FuncData
  f_settled_first : Addr
  d_settled_first : FuncData
  f_side_by_side : Addr
  d_side_by_side : FuncData
  f_holds : Addr
  d_holds : FuncData
  f_with_settled : Addr
  d_with_settled : FuncData
  f_choices : Addr
  d_choices : FuncData
  f_settle : Addr
  d_settle : FuncData
  f_box_of : Addr
  d_box_of : FuncData
  f_boxes_of : Addr
  d_boxes_of : FuncData
  f_ways_from : Addr
  d_ways_from : FuncData
  f_mapping_count : Addr
  d_mapping_count : FuncData
  f_boxes_with : Addr
  d_boxes_with : FuncData
  f_mapping_at : Addr
  d_mapping_at : FuncData
  f_mappings_in : Addr
  d_mappings_in : FuncData
  f_all_mappings : Addr
  d_all_mappings : FuncData
  f_fault_of_pair : Addr
  d_fault_of_pair : FuncData
  f_first_fault_of_pairs : Addr
  d_first_fault_of_pairs : FuncData
  f_same_both_ways : Addr
  d_same_both_ways : FuncData
  f_first_fault_of_threes : Addr
  d_first_fault_of_threes : FuncData
  f_first_fault : Addr
  d_first_fault : FuncData
  f_is_category : Addr
  d_is_category : FuncData
  f_answer_start : Addr
  d_answer_start : FuncData
  f_answer_arrow : Addr
  d_answer_arrow : FuncData
  f_answer_make : Addr
  d_answer_make : FuncData
  f_answer_check : Addr
  d_answer_check : FuncData
  f_refusal_of_arrows : Addr
  d_refusal_of_arrows : FuncData
  f_refusal_of_things : Addr
  d_refusal_of_things : FuncData
  f_answer_kinds : Addr
  d_answer_kinds : FuncData
  f_answer_hom : Addr
  d_answer_hom : FuncData
  f_answer_turn : Addr
  d_answer_turn : FuncData
  f_answer_last : Addr
  d_answer_last : FuncData
  f_answer_product : Addr
  d_answer_product : FuncData
  f_answer_pullback : Addr
  d_answer_pullback : FuncData
  f_answer_equalizer : Addr
  d_answer_equalizer : FuncData
  f_both_are_categories : Addr
  d_both_are_categories : FuncData
  f_answer_maps : Addr
  d_answer_maps : FuncData
  f_answer_of_mappings : Addr
  d_answer_of_mappings : FuncData
  f_tell_mapping : Addr
  d_tell_mapping : FuncData
  f_tell_changes : Addr
  d_tell_changes : FuncData
  f_tell_alike : Addr
  d_tell_alike : FuncData
  f_tell_partner : Addr
  d_tell_partner : FuncData
  f_answer_nth : Addr
  d_answer_nth : FuncData
  f_answer_changes : Addr
  d_answer_changes : FuncData
  f_answer_alike : Addr
  d_answer_alike : FuncData
  f_answer_partner : Addr
  d_answer_partner : FuncData
  f_answer_swap : Addr
  d_answer_swap : FuncData
  f_answer_call : Addr
  d_answer_call : FuncData
  f_answers : Addr
  d_answers : FuncData
  a_LENGTHS : Addr
  a_ANSWERS : Addr
  c_first_product : Addr
  p_first_product : Addr
  c_first_pullback : Addr
  p_first_pullback : Addr
  c_most_tied : Addr
  p_most_tied : Addr
structure Txt (K : PySem.W.Frag) (mg : Str → Option Value) (A : Ads) : Prop where
  cl : Cls K A.C
  gC : mg "Category" = some (.ref A.C)
  mkC : Mk K A.C A.f___init__
  n_begins : NoAttr K A.C "begins"
  n_ends : NoAttr K A.C "ends"
  n_told : NoAttr K A.C "told"
  n_thing_count : NoAttr K A.C "thing_count"
  b_len : mg "len" = none
  b_range : mg "range" = none
  b_list : mg "list" = none
  b_any : mg "any" = none
  b_all : mg "all" = none
  b_max : mg "max" = none
  b_sorted : mg "sorted" = none
  b_set : mg "set" = none
  b_enumerate : mg "enumerate" = none
  c_NOT_TOLD : ∃ tk, mg "NOT_TOLD" = some (.int (1) tk)
  c_LEADS_ELSEWHERE : ∃ tk, mg "LEADS_ELSEWHERE" = some (.int (2) tk)
  c_NOT_THE_SAME : ∃ tk, mg "NOT_THE_SAME" = some (.int (3) tk)
  c_NOT_REFUSED : ∃ tk, mg "NOT_REFUSED" = some (.int (0) tk)
  c_DOES_NOT_FIT : ∃ tk, mg "DOES_NOT_FIT" = some (.int (-1) tk)
  c_NO_SUCH_NUMBER : ∃ tk, mg "NO_SUCH_NUMBER" = some (.int (-2) tk)
  c_NO_SUCH_ARROW : ∃ tk, mg "NO_SUCH_ARROW" = some (.int (-3) tk)
  c_NO_SUCH_MAPPING : ∃ tk, mg "NO_SUCH_MAPPING" = some (.int (-3) tk)
  c_TOO_MANY_ARROWS : ∃ tk, mg "TOO_MANY_ARROWS" = some (.int (-5) tk)
  c_NO_CATEGORY : ∃ tk, mg "NO_CATEGORY" = some (.int (-6) tk)
  c_TOO_MANY_MAPPINGS : ∃ tk, mg "TOO_MANY_MAPPINGS" = some (.int (-7) tk)
  c_MOST_THINGS : ∃ tk, mg "MOST_THINGS" = some (.int (4) tk)
  c_MOST_ARROWS : ∃ tk, mg "MOST_ARROWS" = some (.int (9) tk)
  c_MOST_MAPPINGS_BACK : ∃ tk, mg "MOST_MAPPINGS_BACK" = some (.int (2000) tk)
  c_LENGTHS : mg "LENGTHS" = some (.ref A.a_LENGTHS)
  s_LENGTHS : ∀ H : Hp, SqT K H A.a_LENGTHS [.int 2, .int 3, .int 4, .int 1, .int 2, .int 3, .int 1, .int 1, .int 3, .int 3, .int 3, .int 1, .int 2, .int 3, .int 3, .int 2, .int 0]
  c_ANSWERS : mg "ANSWERS" = some (.ref A.a_ANSWERS)
  s_ANSWERS : ∀ H : Hp, SqT K H A.a_ANSWERS [.ref A.f_answer_start, .ref A.f_answer_arrow, .ref A.f_answer_make, .ref A.f_answer_check, .ref A.f_answer_kinds, .ref A.f_answer_hom, .ref A.f_answer_turn, .ref A.f_answer_last, .ref A.f_answer_product, .ref A.f_answer_pullback, .ref A.f_answer_equalizer, .ref A.f_answer_maps, .ref A.f_answer_nth, .ref A.f_answer_changes, .ref A.f_answer_alike, .ref A.f_answer_partner, .ref A.f_answer_swap]
  F___init__ : Fun K "__init__" "Category.__init__" s___init__ A.f___init__ A.d___init__
  F_arrow_count : Fun K "arrow_count" "Category.arrow_count" s_arrow_count A.f_arrow_count A.d_arrow_count
  m_arrow_count : Meth K A.C "arrow_count" A.f_arrow_count
  F_has_thing : Fun K "has_thing" "Category.has_thing" s_has_thing A.f_has_thing A.d_has_thing
  m_has_thing : Meth K A.C "has_thing" A.f_has_thing
  F_has_arrow : Fun K "has_arrow" "Category.has_arrow" s_has_arrow A.f_has_arrow A.d_has_arrow
  m_has_arrow : Meth K A.C "has_arrow" A.f_has_arrow
  F_is_own : Fun K "is_own" "Category.is_own" s_is_own A.f_is_own A.d_is_own
  m_is_own : Meth K A.C "is_own" A.f_is_own
  F_add_arrow : Fun K "add_arrow" "Category.add_arrow" s_add_arrow A.f_add_arrow A.d_add_arrow
  m_add_arrow : Meth K A.C "add_arrow" A.f_add_arrow
  F_tell : Fun K "tell" "Category.tell" s_tell A.f_tell A.d_tell
  m_tell : Meth K A.C "tell" A.f_tell
  F_leads : Fun K "leads" "Category.leads" s_leads A.f_leads A.d_leads
  m_leads : Meth K A.C "leads" A.f_leads
  F_meet : Fun K "meet" "Category.meet" s_meet A.f_meet A.d_meet
  m_meet : Meth K A.C "meet" A.f_meet
  F_made : Fun K "made" "Category.made" s_made A.f_made A.d_made
  m_made : Meth K A.C "made" A.f_made
  F_hom : Fun K "hom" "Category.hom" s_hom A.f_hom A.d_hom
  m_hom : Meth K A.C "hom" A.f_hom
  F_turned : Fun K "turned" "Category.turned" s_turned A.f_turned A.d_turned
  m_turned : Meth K A.C "turned" A.f_turned
  F_keeps_apart : Fun K "keeps_apart" "keeps_apart" s_keeps_apart A.f_keeps_apart A.d_keeps_apart
  g_keeps_apart : mg "keeps_apart" = some (.ref A.f_keeps_apart)
  F_arrows_back : Fun K "arrows_back" "arrows_back" s_arrows_back A.f_arrows_back A.d_arrows_back
  g_arrows_back : mg "arrows_back" = some (.ref A.f_arrows_back)
  F_undone_by : Fun K "undone_by" "undone_by" s_undone_by A.f_undone_by A.d_undone_by
  g_undone_by : mg "undone_by" = some (.ref A.f_undone_by)
  F_can_be_undone : Fun K "can_be_undone" "can_be_undone" s_can_be_undone A.f_can_be_undone A.d_can_be_undone
  g_can_be_undone : mg "can_be_undone" = some (.ref A.f_can_be_undone)
  F_can_be_undone_both_ways : Fun K "can_be_undone_both_ways" "can_be_undone_both_ways" s_can_be_undone_both_ways A.f_can_be_undone_both_ways A.d_can_be_undone_both_ways
  g_can_be_undone_both_ways : mg "can_be_undone_both_ways" = some (.ref A.f_can_be_undone_both_ways)
  F_makes_itself : Fun K "makes_itself" "makes_itself" s_makes_itself A.f_makes_itself A.d_makes_itself
  g_makes_itself : mg "makes_itself" = some (.ref A.f_makes_itself)
  F_kinds_of : Fun K "kinds_of" "kinds_of" s_kinds_of A.f_kinds_of A.d_kinds_of
  g_kinds_of : mg "kinds_of" = some (.ref A.f_kinds_of)
  F_fits : Fun K "fits" "fits" s_fits A.f_fits A.d_fits
  g_fits : mg "fits" = some (.ref A.f_fits)
  F_arrows_up_to : Fun K "arrows_up_to" "arrows_up_to" s_arrows_up_to A.f_arrows_up_to A.d_arrows_up_to
  g_arrows_up_to : mg "arrows_up_to" = some (.ref A.f_arrows_up_to)
  F_longer_changes : Fun K "longer_changes" "longer_changes" s_longer_changes A.f_longer_changes A.d_longer_changes
  g_longer_changes : mg "longer_changes" = some (.ref A.f_longer_changes)
  F_changes_among : Fun K "changes_among" "changes_among" s_changes_among A.f_changes_among A.d_changes_among
  g_changes_among : mg "changes_among" = some (.ref A.f_changes_among)
  F_arrows_between : Fun K "arrows_between" "arrows_between" s_arrows_between A.f_arrows_between A.d_arrows_between
  g_arrows_between : mg "arrows_between" = some (.ref A.f_arrows_between)
  F_all_changes : Fun K "all_changes" "all_changes" s_all_changes A.f_all_changes A.d_all_changes
  g_all_changes : mg "all_changes" = some (.ref A.f_all_changes)
  F_undone_both_ways : Fun K "undone_both_ways" "undone_both_ways" s_undone_both_ways A.f_undone_both_ways A.d_undone_both_ways
  g_undone_both_ways : mg "undone_both_ways" = some (.ref A.f_undone_both_ways)
  F_are_alike : Fun K "are_alike" "are_alike" s_are_alike A.f_are_alike A.d_are_alike
  g_are_alike : mg "are_alike" = some (.ref A.f_are_alike)
  F_comes_from_one : Fun K "comes_from_one" "comes_from_one" s_comes_from_one A.f_comes_from_one A.d_comes_from_one
  g_comes_from_one : mg "comes_from_one" = some (.ref A.f_comes_from_one)
  F_all_come_from_one : Fun K "all_come_from_one" "all_come_from_one" s_all_come_from_one A.f_all_come_from_one A.d_all_come_from_one
  g_all_come_from_one : mg "all_come_from_one" = some (.ref A.f_all_come_from_one)
  F_partner_arrows : Fun K "partner_arrows" "partner_arrows" s_partner_arrows A.f_partner_arrows A.d_partner_arrows
  g_partner_arrows : mg "partner_arrows" = some (.ref A.f_partner_arrows)
  F_partner_choices : Fun K "partner_choices" "partner_choices" s_partner_choices A.f_partner_choices A.d_partner_choices
  g_partner_choices : mg "partner_choices" = some (.ref A.f_partner_choices)
  F_partner_changes : Fun K "partner_changes" "partner_changes" s_partner_changes A.f_partner_changes A.d_partner_changes
  g_partner_changes : mg "partner_changes" = some (.ref A.f_partner_changes)
  F_first_partner : Fun K "first_partner" "first_partner" s_first_partner A.f_first_partner A.d_first_partner
  g_first_partner : mg "first_partner" = some (.ref A.f_first_partner)
  F_is_last : Fun K "is_last" "is_last" s_is_last A.f_is_last A.d_is_last
  g_is_last : mg "is_last" = some (.ref A.f_is_last)
  F_last_thing : Fun K "last_thing" "last_thing" s_last_thing A.f_last_thing A.d_last_thing
  g_last_thing : mg "last_thing" = some (.ref A.f_last_thing)
  F_comes_by_one : Fun K "comes_by_one" "comes_by_one" s_comes_by_one A.f_comes_by_one A.d_comes_by_one
  g_comes_by_one : mg "comes_by_one" = some (.ref A.f_comes_by_one)
  F_all_come_by : Fun K "all_come_by" "all_come_by" s_all_come_by A.f_all_come_by A.d_all_come_by
  g_all_come_by : mg "all_come_by" = some (.ref A.f_all_come_by)
  F_first_pair : Fun K "first_pair" "first_pair" s_first_pair A.f_first_pair A.d_first_pair
  g_first_pair : mg "first_pair" = some (.ref A.f_first_pair)
  F_first_product : Fun K "first_product" "first_product" s_first_product A.f_first_product A.d_first_product
  g_first_product : mg "first_product" = some (.ref A.f_first_product)
  F_first_pullback : Fun K "first_pullback" "first_pullback" s_first_pullback A.f_first_pullback A.d_first_pullback
  g_first_pullback : mg "first_pullback" = some (.ref A.f_first_pullback)
  F_first_equalizer : Fun K "first_equalizer" "first_equalizer" s_first_equalizer A.f_first_equalizer A.d_first_equalizer
  g_first_equalizer : mg "first_equalizer" = some (.ref A.f_first_equalizer)
  F_made_threes : Fun K "made_threes" "made_threes" s_made_threes A.f_made_threes A.d_made_threes
  g_made_threes : mg "made_threes" = some (.ref A.f_made_threes)
  F_tied_arrows : Fun K "tied_arrows" "tied_arrows" s_tied_arrows A.f_tied_arrows A.d_tied_arrows
  g_tied_arrows : mg "tied_arrows" = some (.ref A.f_tied_arrows)
  F_most_tied : Fun K "most_tied" "most_tied" s_most_tied A.f_most_tied A.d_most_tied
  g_most_tied : mg "most_tied" = some (.ref A.f_most_tied)
  F_settled_first : Fun K "settled_first" "settled_first" s_settled_first A.f_settled_first A.d_settled_first
  g_settled_first : mg "settled_first" = some (.ref A.f_settled_first)
  F_side_by_side : Fun K "side_by_side" "side_by_side" s_side_by_side A.f_side_by_side A.d_side_by_side
  g_side_by_side : mg "side_by_side" = some (.ref A.f_side_by_side)
  F_holds : Fun K "holds" "holds" s_holds A.f_holds A.d_holds
  g_holds : mg "holds" = some (.ref A.f_holds)
  F_with_settled : Fun K "with_settled" "with_settled" s_with_settled A.f_with_settled A.d_with_settled
  g_with_settled : mg "with_settled" = some (.ref A.f_with_settled)
  F_choices : Fun K "choices" "choices" s_choices A.f_choices A.d_choices
  g_choices : mg "choices" = some (.ref A.f_choices)
  F_settle : Fun K "settle" "settle" s_settle A.f_settle A.d_settle
  g_settle : mg "settle" = some (.ref A.f_settle)
  F_box_of : Fun K "box_of" "box_of" s_box_of A.f_box_of A.d_box_of
  g_box_of : mg "box_of" = some (.ref A.f_box_of)
  F_boxes_of : Fun K "boxes_of" "boxes_of" s_boxes_of A.f_boxes_of A.d_boxes_of
  g_boxes_of : mg "boxes_of" = some (.ref A.f_boxes_of)
  F_ways_from : Fun K "ways_from" "ways_from" s_ways_from A.f_ways_from A.d_ways_from
  g_ways_from : mg "ways_from" = some (.ref A.f_ways_from)
  F_mapping_count : Fun K "mapping_count" "mapping_count" s_mapping_count A.f_mapping_count A.d_mapping_count
  g_mapping_count : mg "mapping_count" = some (.ref A.f_mapping_count)
  F_boxes_with : Fun K "boxes_with" "boxes_with" s_boxes_with A.f_boxes_with A.d_boxes_with
  g_boxes_with : mg "boxes_with" = some (.ref A.f_boxes_with)
  F_mapping_at : Fun K "mapping_at" "mapping_at" s_mapping_at A.f_mapping_at A.d_mapping_at
  g_mapping_at : mg "mapping_at" = some (.ref A.f_mapping_at)
  F_mappings_in : Fun K "mappings_in" "mappings_in" s_mappings_in A.f_mappings_in A.d_mappings_in
  g_mappings_in : mg "mappings_in" = some (.ref A.f_mappings_in)
  F_all_mappings : Fun K "all_mappings" "all_mappings" s_all_mappings A.f_all_mappings A.d_all_mappings
  g_all_mappings : mg "all_mappings" = some (.ref A.f_all_mappings)
  F_fault_of_pair : Fun K "fault_of_pair" "fault_of_pair" s_fault_of_pair A.f_fault_of_pair A.d_fault_of_pair
  g_fault_of_pair : mg "fault_of_pair" = some (.ref A.f_fault_of_pair)
  F_first_fault_of_pairs : Fun K "first_fault_of_pairs" "first_fault_of_pairs" s_first_fault_of_pairs A.f_first_fault_of_pairs A.d_first_fault_of_pairs
  g_first_fault_of_pairs : mg "first_fault_of_pairs" = some (.ref A.f_first_fault_of_pairs)
  F_same_both_ways : Fun K "same_both_ways" "same_both_ways" s_same_both_ways A.f_same_both_ways A.d_same_both_ways
  g_same_both_ways : mg "same_both_ways" = some (.ref A.f_same_both_ways)
  F_first_fault_of_threes : Fun K "first_fault_of_threes" "first_fault_of_threes" s_first_fault_of_threes A.f_first_fault_of_threes A.d_first_fault_of_threes
  g_first_fault_of_threes : mg "first_fault_of_threes" = some (.ref A.f_first_fault_of_threes)
  F_first_fault : Fun K "first_fault" "first_fault" s_first_fault A.f_first_fault A.d_first_fault
  g_first_fault : mg "first_fault" = some (.ref A.f_first_fault)
  F_is_category : Fun K "is_category" "is_category" s_is_category A.f_is_category A.d_is_category
  g_is_category : mg "is_category" = some (.ref A.f_is_category)
  F_answer_start : Fun K "answer_start" "answer_start" s_answer_start A.f_answer_start A.d_answer_start
  g_answer_start : mg "answer_start" = some (.ref A.f_answer_start)
  F_answer_arrow : Fun K "answer_arrow" "answer_arrow" s_answer_arrow A.f_answer_arrow A.d_answer_arrow
  g_answer_arrow : mg "answer_arrow" = some (.ref A.f_answer_arrow)
  F_answer_make : Fun K "answer_make" "answer_make" s_answer_make A.f_answer_make A.d_answer_make
  g_answer_make : mg "answer_make" = some (.ref A.f_answer_make)
  F_answer_check : Fun K "answer_check" "answer_check" s_answer_check A.f_answer_check A.d_answer_check
  g_answer_check : mg "answer_check" = some (.ref A.f_answer_check)
  F_refusal_of_arrows : Fun K "refusal_of_arrows" "refusal_of_arrows" s_refusal_of_arrows A.f_refusal_of_arrows A.d_refusal_of_arrows
  g_refusal_of_arrows : mg "refusal_of_arrows" = some (.ref A.f_refusal_of_arrows)
  F_refusal_of_things : Fun K "refusal_of_things" "refusal_of_things" s_refusal_of_things A.f_refusal_of_things A.d_refusal_of_things
  g_refusal_of_things : mg "refusal_of_things" = some (.ref A.f_refusal_of_things)
  F_answer_kinds : Fun K "answer_kinds" "answer_kinds" s_answer_kinds A.f_answer_kinds A.d_answer_kinds
  g_answer_kinds : mg "answer_kinds" = some (.ref A.f_answer_kinds)
  F_answer_hom : Fun K "answer_hom" "answer_hom" s_answer_hom A.f_answer_hom A.d_answer_hom
  g_answer_hom : mg "answer_hom" = some (.ref A.f_answer_hom)
  F_answer_turn : Fun K "answer_turn" "answer_turn" s_answer_turn A.f_answer_turn A.d_answer_turn
  g_answer_turn : mg "answer_turn" = some (.ref A.f_answer_turn)
  F_answer_last : Fun K "answer_last" "answer_last" s_answer_last A.f_answer_last A.d_answer_last
  g_answer_last : mg "answer_last" = some (.ref A.f_answer_last)
  F_answer_product : Fun K "answer_product" "answer_product" s_answer_product A.f_answer_product A.d_answer_product
  g_answer_product : mg "answer_product" = some (.ref A.f_answer_product)
  F_answer_pullback : Fun K "answer_pullback" "answer_pullback" s_answer_pullback A.f_answer_pullback A.d_answer_pullback
  g_answer_pullback : mg "answer_pullback" = some (.ref A.f_answer_pullback)
  F_answer_equalizer : Fun K "answer_equalizer" "answer_equalizer" s_answer_equalizer A.f_answer_equalizer A.d_answer_equalizer
  g_answer_equalizer : mg "answer_equalizer" = some (.ref A.f_answer_equalizer)
  F_both_are_categories : Fun K "both_are_categories" "both_are_categories" s_both_are_categories A.f_both_are_categories A.d_both_are_categories
  g_both_are_categories : mg "both_are_categories" = some (.ref A.f_both_are_categories)
  F_answer_maps : Fun K "answer_maps" "answer_maps" s_answer_maps A.f_answer_maps A.d_answer_maps
  g_answer_maps : mg "answer_maps" = some (.ref A.f_answer_maps)
  F_answer_of_mappings : Fun K "answer_of_mappings" "answer_of_mappings" s_answer_of_mappings A.f_answer_of_mappings A.d_answer_of_mappings
  g_answer_of_mappings : mg "answer_of_mappings" = some (.ref A.f_answer_of_mappings)
  F_tell_mapping : Fun K "tell_mapping" "tell_mapping" s_tell_mapping A.f_tell_mapping A.d_tell_mapping
  g_tell_mapping : mg "tell_mapping" = some (.ref A.f_tell_mapping)
  F_tell_changes : Fun K "tell_changes" "tell_changes" s_tell_changes A.f_tell_changes A.d_tell_changes
  g_tell_changes : mg "tell_changes" = some (.ref A.f_tell_changes)
  F_tell_alike : Fun K "tell_alike" "tell_alike" s_tell_alike A.f_tell_alike A.d_tell_alike
  g_tell_alike : mg "tell_alike" = some (.ref A.f_tell_alike)
  F_tell_partner : Fun K "tell_partner" "tell_partner" s_tell_partner A.f_tell_partner A.d_tell_partner
  g_tell_partner : mg "tell_partner" = some (.ref A.f_tell_partner)
  F_answer_nth : Fun K "answer_nth" "answer_nth" s_answer_nth A.f_answer_nth A.d_answer_nth
  g_answer_nth : mg "answer_nth" = some (.ref A.f_answer_nth)
  F_answer_changes : Fun K "answer_changes" "answer_changes" s_answer_changes A.f_answer_changes A.d_answer_changes
  g_answer_changes : mg "answer_changes" = some (.ref A.f_answer_changes)
  F_answer_alike : Fun K "answer_alike" "answer_alike" s_answer_alike A.f_answer_alike A.d_answer_alike
  g_answer_alike : mg "answer_alike" = some (.ref A.f_answer_alike)
  F_answer_partner : Fun K "answer_partner" "answer_partner" s_answer_partner A.f_answer_partner A.d_answer_partner
  g_answer_partner : mg "answer_partner" = some (.ref A.f_answer_partner)
  F_answer_swap : Fun K "answer_swap" "answer_swap" s_answer_swap A.f_answer_swap A.d_answer_swap
  g_answer_swap : mg "answer_swap" = some (.ref A.f_answer_swap)
  F_answer_call : Fun K "answer_call" "answer_call" s_answer_call A.f_answer_call A.d_answer_call
  g_answer_call : mg "answer_call" = some (.ref A.f_answer_call)
  F_answers : Fun K "answers" "answers" s_answers A.f_answers A.d_answers
  g_answers : mg "answers" = some (.ref A.f_answers)
  k_first_product : A.d_first_product.code = .ref A.c_first_product
  k_first_pullback : A.d_first_pullback.code = .ref A.c_first_pullback
  k_most_tied : A.d_most_tied.code = .ref A.c_most_tied
/-- the tables of code objects -/
structure Tbs (base : Heap) (mg : Str → Option Value) (A : Ads) : Prop where
  first_product : LamX.TabB base mg A.c_first_product A.p_first_product
  first_pullback : LamX.TabB base mg A.c_first_pullback A.p_first_pullback
  most_tied : LamX.TabB base mg A.c_most_tied A.p_most_tied
  ne_first_product_first_pullback : A.p_first_product ≠ A.p_first_pullback
  ne_first_product_most_tied : A.p_first_product ≠ A.p_most_tied
  ne_first_pullback_most_tied : A.p_first_pullback ≠ A.p_most_tied
section
variable {K : PySem.W.Frag} {mg : Str → Option Value} {A : Ads}
theorem Txt.bd___init__ (T : Txt K mg A) : Binds K A.d___init__ ["self", "thing_count"] [] := T.F___init__.binds fun _ _ _ _ _ _ us hl => match us, hl with | [_, _], _ => rfl
theorem Txt.bd_arrow_count (T : Txt K mg A) : Binds K A.d_arrow_count ["self"] [] := T.F_arrow_count.binds fun _ _ _ _ _ _ us hl => match us, hl with | [_], _ => rfl
theorem Txt.bd_has_thing (T : Txt K mg A) : Binds K A.d_has_thing ["self", "x"] [] := T.F_has_thing.binds fun _ _ _ _ _ _ us hl => match us, hl with | [_, _], _ => rfl
theorem Txt.bd_has_arrow (T : Txt K mg A) : Binds K A.d_has_arrow ["self", "f"] [] := T.F_has_arrow.binds fun _ _ _ _ _ _ us hl => match us, hl with | [_, _], _ => rfl
theorem Txt.bd_is_own (T : Txt K mg A) : Binds K A.d_is_own ["self", "f"] [] := T.F_is_own.binds fun _ _ _ _ _ _ us hl => match us, hl with | [_, _], _ => rfl
theorem Txt.bd_add_arrow (T : Txt K mg A) : Binds K A.d_add_arrow ["self", "x", "y"] [] := T.F_add_arrow.binds fun _ _ _ _ _ _ us hl => match us, hl with | [_, _, _], _ => rfl
theorem Txt.bd_tell (T : Txt K mg A) : Binds K A.d_tell ["self", "f", "g", "h"] [] := T.F_tell.binds fun _ _ _ _ _ _ us hl => match us, hl with | [_, _, _, _], _ => rfl
theorem Txt.bd_leads (T : Txt K mg A) : Binds K A.d_leads ["self", "f", "x", "y"] [] := T.F_leads.binds fun _ _ _ _ _ _ us hl => match us, hl with | [_, _, _, _], _ => rfl
theorem Txt.bd_meet (T : Txt K mg A) : Binds K A.d_meet ["self", "f", "g"] [] := T.F_meet.binds fun _ _ _ _ _ _ us hl => match us, hl with | [_, _, _], _ => rfl
theorem Txt.bd_made (T : Txt K mg A) : Binds K A.d_made ["self", "f", "g"] [] := T.F_made.binds fun _ _ _ _ _ _ us hl => match us, hl with | [_, _, _], _ => rfl
theorem Txt.bd_hom (T : Txt K mg A) : Binds K A.d_hom ["self", "x", "y"] [] := T.F_hom.binds fun _ _ _ _ _ _ us hl => match us, hl with | [_, _, _], _ => rfl
theorem Txt.bd_turned (T : Txt K mg A) : Binds K A.d_turned ["self"] [] := T.F_turned.binds fun _ _ _ _ _ _ us hl => match us, hl with | [_], _ => rfl
theorem Txt.bd_keeps_apart (T : Txt K mg A) : Binds K A.d_keeps_apart ["category", "f"] [] := T.F_keeps_apart.binds fun _ _ _ _ _ _ us hl => match us, hl with | [_, _], _ => rfl
theorem Txt.bd_arrows_back (T : Txt K mg A) : Binds K A.d_arrows_back ["category", "f"] [] := T.F_arrows_back.binds fun _ _ _ _ _ _ us hl => match us, hl with | [_, _], _ => rfl
theorem Txt.bd_undone_by (T : Txt K mg A) : Binds K A.d_undone_by ["category", "f", "g"] [] := T.F_undone_by.binds fun _ _ _ _ _ _ us hl => match us, hl with | [_, _, _], _ => rfl
theorem Txt.bd_can_be_undone (T : Txt K mg A) : Binds K A.d_can_be_undone ["category", "f"] [] := T.F_can_be_undone.binds fun _ _ _ _ _ _ us hl => match us, hl with | [_, _], _ => rfl
theorem Txt.bd_can_be_undone_both_ways (T : Txt K mg A) : Binds K A.d_can_be_undone_both_ways ["category", "f"] [] := T.F_can_be_undone_both_ways.binds fun _ _ _ _ _ _ us hl => match us, hl with | [_, _], _ => rfl
theorem Txt.bd_makes_itself (T : Txt K mg A) : Binds K A.d_makes_itself ["category", "f"] [] := T.F_makes_itself.binds fun _ _ _ _ _ _ us hl => match us, hl with | [_, _], _ => rfl
theorem Txt.bd_kinds_of (T : Txt K mg A) : Binds K A.d_kinds_of ["category", "f"] [] := T.F_kinds_of.binds fun _ _ _ _ _ _ us hl => match us, hl with | [_, _], _ => rfl
theorem Txt.bd_fits (T : Txt K mg A) : Binds K A.d_fits ["source", "target", "first", "second", "change", "f"] [] := T.F_fits.binds fun _ _ _ _ _ _ us hl => match us, hl with | [_, _, _, _, _, _], _ => rfl
theorem Txt.bd_arrows_up_to (T : Txt K mg A) : Binds K A.d_arrows_up_to ["source", "x"] [] := T.F_arrows_up_to.binds fun _ _ _ _ _ _ us hl => match us, hl with | [_, _], _ => rfl
theorem Txt.bd_longer_changes (T : Txt K mg A) : Binds K A.d_longer_changes ["source", "target", "first", "second", "change", "possible"] [] := T.F_longer_changes.binds fun _ _ _ _ _ _ us hl => match us, hl with | [_, _, _, _, _, _], _ => rfl
theorem Txt.bd_changes_among (T : Txt K mg A) : Binds K A.d_changes_among ["source", "target", "first", "second", "choices"] [] := T.F_changes_among.binds fun _ _ _ _ _ _ us hl => match us, hl with | [_, _, _, _, _], _ => rfl
theorem Txt.bd_arrows_between (T : Txt K mg A) : Binds K A.d_arrows_between ["source", "target", "first", "second"] [] := T.F_arrows_between.binds fun _ _ _ _ _ _ us hl => match us, hl with | [_, _, _, _], _ => rfl
theorem Txt.bd_all_changes (T : Txt K mg A) : Binds K A.d_all_changes ["source", "target", "first", "second"] [] := T.F_all_changes.binds fun _ _ _ _ _ _ us hl => match us, hl with | [_, _, _, _], _ => rfl
theorem Txt.bd_undone_both_ways (T : Txt K mg A) : Binds K A.d_undone_both_ways ["category", "arrows"] [] := T.F_undone_both_ways.binds fun _ _ _ _ _ _ us hl => match us, hl with | [_, _], _ => rfl
theorem Txt.bd_are_alike (T : Txt K mg A) : Binds K A.d_are_alike ["source", "target", "first", "second"] [] := T.F_are_alike.binds fun _ _ _ _ _ _ us hl => match us, hl with | [_, _, _, _], _ => rfl
theorem Txt.bd_comes_from_one (T : Txt K mg A) : Binds K A.d_comes_from_one ["source", "back", "arrow", "u", "there"] [] := T.F_comes_from_one.binds fun _ _ _ _ _ _ us hl => match us, hl with | [_, _, _, _, _], _ => rfl
theorem Txt.bd_all_come_from_one (T : Txt K mg A) : Binds K A.d_all_come_from_one ["source", "target", "mapping", "back", "x", "arrow"] [] := T.F_all_come_from_one.binds fun _ _ _ _ _ _ us hl => match us, hl with | [_, _, _, _, _, _], _ => rfl
theorem Txt.bd_partner_arrows (T : Txt K mg A) : Binds K A.d_partner_arrows ["source", "target", "mapping", "back", "x"] [] := T.F_partner_arrows.binds fun _ _ _ _ _ _ us hl => match us, hl with | [_, _, _, _, _], _ => rfl
theorem Txt.bd_partner_choices (T : Txt K mg A) : Binds K A.d_partner_choices ["source", "target", "mapping", "back"] [] := T.F_partner_choices.binds fun _ _ _ _ _ _ us hl => match us, hl with | [_, _, _, _], _ => rfl
theorem Txt.bd_partner_changes (T : Txt K mg A) : Binds K A.d_partner_changes ["source", "target", "mapping", "back"] [] := T.F_partner_changes.binds fun _ _ _ _ _ _ us hl => match us, hl with | [_, _, _, _], _ => rfl
theorem Txt.bd_first_partner (T : Txt K mg A) : Binds K A.d_first_partner ["source", "target", "mapping", "backs"] [] := T.F_first_partner.binds fun _ _ _ _ _ _ us hl => match us, hl with | [_, _, _, _], _ => rfl
theorem Txt.bd_is_last (T : Txt K mg A) : Binds K A.d_is_last ["category", "y"] [] := T.F_is_last.binds fun _ _ _ _ _ _ us hl => match us, hl with | [_, _], _ => rfl
theorem Txt.bd_last_thing (T : Txt K mg A) : Binds K A.d_last_thing ["category"] [] := T.F_last_thing.binds fun _ _ _ _ _ _ us hl => match us, hl with | [_], _ => rfl
theorem Txt.bd_comes_by_one (T : Txt K mg A) : Binds K A.d_comes_by_one ["category", "first", "second", "u", "v"] [] := T.F_comes_by_one.binds fun _ _ _ _ _ _ us hl => match us, hl with | [_, _, _, _, _], _ => rfl
theorem Txt.bd_all_come_by (T : Txt K mg A) : Binds K A.d_all_come_by ["category", "first", "second", "agree"] [] := T.F_all_come_by.binds fun _ _ _ _ _ _ us hl => match us, hl with | [_, _, _, _], _ => rfl
theorem Txt.bd_first_pair (T : Txt K mg A) : Binds K A.d_first_pair ["category", "x", "y", "agree"] [] := T.F_first_pair.binds fun _ _ _ _ _ _ us hl => match us, hl with | [_, _, _, _], _ => rfl
theorem Txt.bd_first_product (T : Txt K mg A) : Binds K A.d_first_product ["category", "x", "y"] [] := T.F_first_product.binds fun _ _ _ _ _ _ us hl => match us, hl with | [_, _, _], _ => rfl
theorem Txt.bd_first_pullback (T : Txt K mg A) : Binds K A.d_first_pullback ["category", "f", "g"] [] := T.F_first_pullback.binds fun _ _ _ _ _ _ us hl => match us, hl with | [_, _, _], _ => rfl
theorem Txt.bd_first_equalizer (T : Txt K mg A) : Binds K A.d_first_equalizer ["category", "f", "g"] [] := T.F_first_equalizer.binds fun _ _ _ _ _ _ us hl => match us, hl with | [_, _, _], _ => rfl
theorem Txt.bd_made_threes (T : Txt K mg A) : Binds K A.d_made_threes ["source"] [] := T.F_made_threes.binds fun _ _ _ _ _ _ us hl => match us, hl with | [_], _ => rfl
theorem Txt.bd_tied_arrows (T : Txt K mg A) : Binds K A.d_tied_arrows ["threes", "settled"] [] := T.F_tied_arrows.binds fun _ _ _ _ _ _ us hl => match us, hl with | [_, _], _ => rfl
theorem Txt.bd_most_tied (T : Txt K mg A) : Binds K A.d_most_tied ["tied"] [] := T.F_most_tied.binds fun _ _ _ _ _ _ us hl => match us, hl with | [_], _ => rfl
theorem Txt.bd_settled_first (T : Txt K mg A) : Binds K A.d_settled_first ["source", "threes"] [] := T.F_settled_first.binds fun _ _ _ _ _ _ us hl => match us, hl with | [_, _], _ => rfl
theorem Txt.bd_side_by_side (T : Txt K mg A) : Binds K A.d_side_by_side ["source", "target", "where", "f"] [] := T.F_side_by_side.binds fun _ _ _ _ _ _ us hl => match us, hl with | [_, _, _, _], _ => rfl
theorem Txt.bd_holds (T : Txt K mg A) : Binds K A.d_holds ["target", "where", "three"] [] := T.F_holds.binds fun _ _ _ _ _ _ us hl => match us, hl with | [_, _, _], _ => rfl
theorem Txt.bd_with_settled (T : Txt K mg A) : Binds K A.d_with_settled ["where", "f", "goes"] [] := T.F_with_settled.binds fun _ _ _ _ _ _ us hl => match us, hl with | [_, _, _], _ => rfl
theorem Txt.bd_choices (T : Txt K mg A) : Binds K A.d_choices ["source", "target", "threes", "where", "f"] [] := T.F_choices.binds fun _ _ _ _ _ _ us hl => match us, hl with | [_, _, _, _, _], _ => rfl
theorem Txt.bd_settle (T : Txt K mg A) : Binds K A.d_settle ["source", "target", "threes", "f", "rows"] [] := T.F_settle.binds fun _ _ _ _ _ _ us hl => match us, hl with | [_, _, _, _, _], _ => rfl
theorem Txt.bd_box_of (T : Txt K mg A) : Binds K A.d_box_of ["source", "target", "threes", "where"] [] := T.F_box_of.binds fun _ _ _ _ _ _ us hl => match us, hl with | [_, _, _, _], _ => rfl
theorem Txt.bd_boxes_of (T : Txt K mg A) : Binds K A.d_boxes_of ["source", "target"] [] := T.F_boxes_of.binds fun _ _ _ _ _ _ us hl => match us, hl with | [_, _], _ => rfl
theorem Txt.bd_ways_from (T : Txt K mg A) : Binds K A.d_ways_from ["boxes", "f"] [] := T.F_ways_from.binds fun _ _ _ _ _ _ us hl => match us, hl with | [_, _], _ => rfl
theorem Txt.bd_mapping_count (T : Txt K mg A) : Binds K A.d_mapping_count ["boxes"] [] := T.F_mapping_count.binds fun _ _ _ _ _ _ us hl => match us, hl with | [_], _ => rfl
theorem Txt.bd_boxes_with (T : Txt K mg A) : Binds K A.d_boxes_with ["boxes", "f", "goes"] [] := T.F_boxes_with.binds fun _ _ _ _ _ _ us hl => match us, hl with | [_, _, _], _ => rfl
theorem Txt.bd_mapping_at (T : Txt K mg A) : Binds K A.d_mapping_at ["boxes", "k"] [] := T.F_mapping_at.binds fun _ _ _ _ _ _ us hl => match us, hl with | [_, _], _ => rfl
theorem Txt.bd_mappings_in (T : Txt K mg A) : Binds K A.d_mappings_in ["box"] [] := T.F_mappings_in.binds fun _ _ _ _ _ _ us hl => match us, hl with | [_], _ => rfl
theorem Txt.bd_all_mappings (T : Txt K mg A) : Binds K A.d_all_mappings ["boxes"] [] := T.F_all_mappings.binds fun _ _ _ _ _ _ us hl => match us, hl with | [_], _ => rfl
theorem Txt.bd_fault_of_pair (T : Txt K mg A) : Binds K A.d_fault_of_pair ["category", "f", "g"] [] := T.F_fault_of_pair.binds fun _ _ _ _ _ _ us hl => match us, hl with | [_, _, _], _ => rfl
theorem Txt.bd_first_fault_of_pairs (T : Txt K mg A) : Binds K A.d_first_fault_of_pairs ["category"] [] := T.F_first_fault_of_pairs.binds fun _ _ _ _ _ _ us hl => match us, hl with | [_], _ => rfl
theorem Txt.bd_same_both_ways (T : Txt K mg A) : Binds K A.d_same_both_ways ["category", "f", "g", "h"] [] := T.F_same_both_ways.binds fun _ _ _ _ _ _ us hl => match us, hl with | [_, _, _, _], _ => rfl
theorem Txt.bd_first_fault_of_threes (T : Txt K mg A) : Binds K A.d_first_fault_of_threes ["category"] [] := T.F_first_fault_of_threes.binds fun _ _ _ _ _ _ us hl => match us, hl with | [_], _ => rfl
theorem Txt.bd_first_fault (T : Txt K mg A) : Binds K A.d_first_fault ["category"] [] := T.F_first_fault.binds fun _ _ _ _ _ _ us hl => match us, hl with | [_], _ => rfl
theorem Txt.bd_is_category (T : Txt K mg A) : Binds K A.d_is_category ["category"] [] := T.F_is_category.binds fun _ _ _ _ _ _ us hl => match us, hl with | [_], _ => rfl
theorem Txt.bd_answer_start (T : Txt K mg A) : Binds K A.d_answer_start ["pair", "numbers"] [] := T.F_answer_start.binds fun _ _ _ _ _ _ us hl => match us, hl with | [_, _], _ => rfl
theorem Txt.bd_answer_arrow (T : Txt K mg A) : Binds K A.d_answer_arrow ["pair", "numbers"] [] := T.F_answer_arrow.binds fun _ _ _ _ _ _ us hl => match us, hl with | [_, _], _ => rfl
theorem Txt.bd_answer_make (T : Txt K mg A) : Binds K A.d_answer_make ["pair", "numbers"] [] := T.F_answer_make.binds fun _ _ _ _ _ _ us hl => match us, hl with | [_, _], _ => rfl
theorem Txt.bd_answer_check (T : Txt K mg A) : Binds K A.d_answer_check ["pair", "numbers"] [] := T.F_answer_check.binds fun _ _ _ _ _ _ us hl => match us, hl with | [_, _], _ => rfl
theorem Txt.bd_refusal_of_arrows (T : Txt K mg A) : Binds K A.d_refusal_of_arrows ["category", "arrows"] [] := T.F_refusal_of_arrows.binds fun _ _ _ _ _ _ us hl => match us, hl with | [_, _], _ => rfl
theorem Txt.bd_refusal_of_things (T : Txt K mg A) : Binds K A.d_refusal_of_things ["category", "things"] [] := T.F_refusal_of_things.binds fun _ _ _ _ _ _ us hl => match us, hl with | [_, _], _ => rfl
theorem Txt.bd_answer_kinds (T : Txt K mg A) : Binds K A.d_answer_kinds ["pair", "numbers"] [] := T.F_answer_kinds.binds fun _ _ _ _ _ _ us hl => match us, hl with | [_, _], _ => rfl
theorem Txt.bd_answer_hom (T : Txt K mg A) : Binds K A.d_answer_hom ["pair", "numbers"] [] := T.F_answer_hom.binds fun _ _ _ _ _ _ us hl => match us, hl with | [_, _], _ => rfl
theorem Txt.bd_answer_turn (T : Txt K mg A) : Binds K A.d_answer_turn ["pair", "numbers"] [] := T.F_answer_turn.binds fun _ _ _ _ _ _ us hl => match us, hl with | [_, _], _ => rfl
theorem Txt.bd_answer_last (T : Txt K mg A) : Binds K A.d_answer_last ["pair", "numbers"] [] := T.F_answer_last.binds fun _ _ _ _ _ _ us hl => match us, hl with | [_, _], _ => rfl
theorem Txt.bd_answer_product (T : Txt K mg A) : Binds K A.d_answer_product ["pair", "numbers"] [] := T.F_answer_product.binds fun _ _ _ _ _ _ us hl => match us, hl with | [_, _], _ => rfl
theorem Txt.bd_answer_pullback (T : Txt K mg A) : Binds K A.d_answer_pullback ["pair", "numbers"] [] := T.F_answer_pullback.binds fun _ _ _ _ _ _ us hl => match us, hl with | [_, _], _ => rfl
theorem Txt.bd_answer_equalizer (T : Txt K mg A) : Binds K A.d_answer_equalizer ["pair", "numbers"] [] := T.F_answer_equalizer.binds fun _ _ _ _ _ _ us hl => match us, hl with | [_, _], _ => rfl
theorem Txt.bd_both_are_categories (T : Txt K mg A) : Binds K A.d_both_are_categories ["pair"] [] := T.F_both_are_categories.binds fun _ _ _ _ _ _ us hl => match us, hl with | [_], _ => rfl
theorem Txt.bd_answer_maps (T : Txt K mg A) : Binds K A.d_answer_maps ["pair", "numbers"] [] := T.F_answer_maps.binds fun _ _ _ _ _ _ us hl => match us, hl with | [_, _], _ => rfl
theorem Txt.bd_answer_of_mappings (T : Txt K mg A) : Binds K A.d_answer_of_mappings ["pair", "numbers", "tell"] [] := T.F_answer_of_mappings.binds fun _ _ _ _ _ _ us hl => match us, hl with | [_, _, _], _ => rfl
theorem Txt.bd_tell_mapping (T : Txt K mg A) : Binds K A.d_tell_mapping ["source", "target", "asked"] [] := T.F_tell_mapping.binds fun _ _ _ _ _ _ us hl => match us, hl with | [_, _, _], _ => rfl
theorem Txt.bd_tell_changes (T : Txt K mg A) : Binds K A.d_tell_changes ["source", "target", "asked"] [] := T.F_tell_changes.binds fun _ _ _ _ _ _ us hl => match us, hl with | [_, _, _], _ => rfl
theorem Txt.bd_tell_alike (T : Txt K mg A) : Binds K A.d_tell_alike ["source", "target", "asked"] [] := T.F_tell_alike.binds fun _ _ _ _ _ _ us hl => match us, hl with | [_, _, _], _ => rfl
theorem Txt.bd_tell_partner (T : Txt K mg A) : Binds K A.d_tell_partner ["source", "target", "asked"] [] := T.F_tell_partner.binds fun _ _ _ _ _ _ us hl => match us, hl with | [_, _, _], _ => rfl
theorem Txt.bd_answer_nth (T : Txt K mg A) : Binds K A.d_answer_nth ["pair", "numbers"] [] := T.F_answer_nth.binds fun _ _ _ _ _ _ us hl => match us, hl with | [_, _], _ => rfl
theorem Txt.bd_answer_changes (T : Txt K mg A) : Binds K A.d_answer_changes ["pair", "numbers"] [] := T.F_answer_changes.binds fun _ _ _ _ _ _ us hl => match us, hl with | [_, _], _ => rfl
theorem Txt.bd_answer_alike (T : Txt K mg A) : Binds K A.d_answer_alike ["pair", "numbers"] [] := T.F_answer_alike.binds fun _ _ _ _ _ _ us hl => match us, hl with | [_, _], _ => rfl
theorem Txt.bd_answer_partner (T : Txt K mg A) : Binds K A.d_answer_partner ["pair", "numbers"] [] := T.F_answer_partner.binds fun _ _ _ _ _ _ us hl => match us, hl with | [_, _], _ => rfl
theorem Txt.bd_answer_swap (T : Txt K mg A) : Binds K A.d_answer_swap ["pair", "numbers"] [] := T.F_answer_swap.binds fun _ _ _ _ _ _ us hl => match us, hl with | [_, _], _ => rfl
theorem Txt.bd_answer_call (T : Txt K mg A) : Binds K A.d_answer_call ["pair", "call", "numbers"] [] := T.F_answer_call.binds fun _ _ _ _ _ _ us hl => match us, hl with | [_, _, _], _ => rfl
theorem Txt.bd_answers (T : Txt K mg A) : Binds K A.d_answers ["calls"] [] := T.F_answers.binds fun _ _ _ _ _ _ us hl => match us, hl with | [_], _ => rfl
end
end Arr
-- text A3
set_option Elab.async false
set_option linter.unusedVariables false
set_option maxRecDepth 100000
set_option maxHeartbeats 4000000
/-! # how a category lies in the heap -/
namespace Arr
open PySem L2 Evl
abbrev Cat := Fc01.Cat
abbrev Mm := List ((Nat × Nat) × Nat)
def key (f g : Nat) : List Key := [Sum.inl (f : Int), Sum.inl (g : Int)]
theorem key_inj {f g f' g' : Nat} : key f g = key f' g' ↔ f = f' ∧ g = g' := by
  unfold key
  constructor
  · intro h
    simp only [List.cons.injEq, Sum.inl.injEq, and_true] at h
    omega
  · rintro ⟨rfl, rfl⟩
    rfl
def encM (m : Mm) : List (List Key × V) := m.map fun x => (key x.1.1 x.1.2, V.int (x.2 : Int))
def look (m : Mm) (f g : Nat) : Option Nat := (m.find? fun x => x.1 == (f, g)).map fun x => x.2
def optV : Option Nat → V
  | none => .non
  | some h => .int (h : Int)
theorem look_nil {f g : Nat} : look [] f g = none := rfl
theorem look_pos {p : (Nat × Nat) × Nat} {r : Mm} {f g : Nat} (e : p.1 = (f, g)) : look (p :: r) f g = some p.2 := by
  unfold look
  rw [List.find?_cons]
  simp [e]
theorem look_neg {p : (Nat × Nat) × Nat} {r : Mm} {f g : Nat} (e : ¬ p.1 = (f, g)) : look (p :: r) f g = look r f g := by
  have q : (p.1 == (f, g)) = false := by
    rw [beq_eq_false_iff_ne]
    exact e
  unfold look
  rw [List.find?_cons, q]
theorem look_enc : ∀ (m : Mm) (f g : Nat), valV (encM m) (key f g) = (look m f g).map fun (h : Nat) => V.int (h : Int)
  | [], f, g => rfl
  | p :: r, f, g => by
    show valV ((key p.1.1 p.1.2, V.int (p.2 : Int)) :: encM r) (key f g) = _
    by_cases e : p.1 = (f, g)
    · rw [look_pos e, valV_pos (by show key p.1.1 p.1.2 = key f g; rw [e])]
      rfl
    · rw [look_neg e, valV_neg (by show ¬ key p.1.1 p.1.2 = key f g; rw [key_inj]; rintro ⟨h1, h2⟩; exact e (by rw [← h1, ← h2])), look_enc r f g]
theorem look_getD (m : Mm) (f g : Nat) : (valV (encM m) (key f g)).getD .non = optV (look m f g) := by
  rw [look_enc]
  cases look m f g <;> rfl
/-- well formed: what the calls keep -/
structure Wf (c : Cat) : Prop where
  n1 : 1 ≤ c.n
  n4 : c.n ≤ 4
  len : c.n ≤ c.arrows.length
  l9 : c.arrows.length ≤ 9
  own : ∀ x : Nat, x < c.n → c.arrows[x]? = some (x, x)
  ends : ∀ (f : Nat) (p : Nat × Nat), c.arrows[f]? = some p → p.1 < c.n ∧ p.2 < c.n
  mks : ∀ f g h : Nat, look c.makes f g = some h → h < c.arrows.length
def cF (n : Nat) (ab ae at_ : Addr) : List (Str × V) := [("thing_count", .int (n : Int)), ("begins", .ref ab), ("ends", .ref ae), ("told", .ref at_)]
def begV (c : Cat) : List V := c.arrows.map fun p => V.int (p.1 : Int)
def endV (c : Cat) : List V := c.arrows.map fun p => V.int (p.2 : Int)
structure CatF (C : Addr) (H : Hp) (a dx ab ae at_ : Addr) (c : Cat) (m : Mm) : Prop where
  obj : H a = some (.ins C dx (cF c.n ab ae at_))
  beg : H ab = some (.lst (begV c))
  en : H ae = some (.lst (endV c))
  tol : H at_ = some (.dT (encM m))
  ne : ab ≠ ae
/-- the category at a, k entries told at most -/
def CatK (C : Addr) (k : Nat) (H : Hp) (a : Addr) (c : Cat) : Prop := ∃ dx ab ae at_ m, CatF C H a dx ab ae at_ c m ∧ (m.map (·.1)).Nodup ∧ (∀ f g, look m f g = look c.makes f g) ∧ m.length ≤ k ∧ Wf c
def CatAt (C : Addr) (H : Hp) (a : Addr) (c : Cat) : Prop := CatK C 100 H a c
theorem CatF.mono {C : Addr} {H H' : Hp} {a dx ab ae at_ : Addr} {c : Cat} {m : Mm} (e : Ex H H') (h : CatF C H a dx ab ae at_ c m) : CatF C H' a dx ab ae at_ c m := ⟨e _ _ h.obj, e _ _ h.beg, e _ _ h.en, e _ _ h.tol, h.ne⟩
theorem CatK.mono {C : Addr} {k : Nat} {H H' : Hp} {a : Addr} {c : Cat} (e : Ex H H') (h : CatK C k H a c) : CatK C k H' a c := by
  obtain ⟨dx, ab, ae, at_, m, hF, r⟩ := h
  exact ⟨dx, ab, ae, at_, m, hF.mono e, r⟩
theorem CatK.more {C : Addr} {k j : Nat} {H : Hp} {a : Addr} {c : Cat} (h : CatK C k H a c) (l : k ≤ j) : CatK C j H a c := by
  obtain ⟨dx, ab, ae, at_, m, hF, r1, r2, r3, r4⟩ := h
  exact ⟨dx, ab, ae, at_, m, hF, r1, r2, Nat.le_trans r3 l, r4⟩
theorem CatAt.mono {C : Addr} {H H' : Hp} {a : Addr} {c : Cat} (e : Ex H H') (h : CatAt C H a c) : CatAt C H' a c := CatK.mono e h
theorem CatAt.wf {C : Addr} {H : Hp} {a : Addr} {c : Cat} (h : CatAt C H a c) : Wf c := by
  obtain ⟨_, _, _, _, _, _, _, _, _, r⟩ := h
  exact r
/-! fields -/
theorem lk_here {k : Str} {v : V} {r : List (Str × V)} : List.lookup k ((k, v) :: r) = some v := by
  have e : (k == k) = true := beq_self_eq_true k
  simp only [List.lookup, e]
theorem lk_past {k g : Str} {v : V} {r : List (Str × V)} (h : (k == g) = false) : List.lookup k ((g, v) :: r) = List.lookup k r := by
  simp only [List.lookup, h]
section
variable {n : Nat} {ab ae at_ : Addr}
theorem cF_thing : (cF n ab ae at_).lookup ("thing_count" : Str) = some (.int (n : Int)) := lk_here
theorem cF_begins : (cF n ab ae at_).lookup ("begins" : Str) = some (.ref ab) := (lk_past (by decide +kernel)).trans lk_here
theorem cF_ends : (cF n ab ae at_).lookup ("ends" : Str) = some (.ref ae) := (lk_past (by decide +kernel)).trans ((lk_past (by decide +kernel)).trans lk_here)
theorem cF_told : (cF n ab ae at_).lookup ("told" : Str) = some (.ref at_) := (lk_past (by decide +kernel)).trans ((lk_past (by decide +kernel)).trans ((lk_past (by decide +kernel)).trans lk_here))
theorem cF_no {m : Str} (h1 : (m == ("thing_count" : Str)) = false) (h2 : (m == ("begins" : Str)) = false) (h3 : (m == ("ends" : Str)) = false) (h4 : (m == ("told" : Str)) = false) : (cF n ab ae at_).lookup m = none :=
  (lk_past h1).trans ((lk_past h2).trans ((lk_past h3).trans ((lk_past h4).trans rfl)))
end
/-! the specification's words -/
open Fc01 (from_ to_ after hom)
theorem begV_at {c : Cat} {f : Nat} (h : f < c.arrows.length) : (begV c)[f]? = some (V.int (from_ c f : Int)) := by
  unfold begV from_
  rw [List.getElem?_map, List.getElem?_eq_getElem h, List.getD_eq_getElem?_getD, List.getElem?_eq_getElem h]
  rfl
theorem endV_at {c : Cat} {f : Nat} (h : f < c.arrows.length) : (endV c)[f]? = some (V.int (to_ c f : Int)) := by
  unfold endV to_
  rw [List.getElem?_map, List.getElem?_eq_getElem h, List.getD_eq_getElem?_getD, List.getElem?_eq_getElem h]
  rfl
theorem begV_len (c : Cat) : (begV c).length = c.arrows.length := by unfold begV; rw [List.length_map]
theorem arrows_at {c : Cat} {f : Nat} (h : f < c.arrows.length) : c.arrows[f]? = some (from_ c f, to_ c f) := by
  unfold from_ to_
  rw [List.getD_eq_getElem?_getD, List.getElem?_eq_getElem h]
  rfl
theorem after_eq {c : Cat} {f g : Nat} (h : to_ c f = from_ c g) : after c f g = if f < c.n then some g else if g < c.n then some f else look c.makes f g := by
  unfold after look
  rw [if_neg (by simp [h])]
end Arr
-- text B1
set_option Elab.async false
set_option linter.unusedVariables false
set_option maxRecDepth 100000
set_option maxHeartbeats 4000000
/-! # the methods that only read -/
namespace Arr
open PySem PySem.Spec PyProof.Rows L2 Evl
open Fc01 (from_ to_ after hom)
/-! promises: R args heap value -/
def R_arrow_count (C : Addr) : List V → Hp → V → Prop := fun vs H v => ∃ a c, vs = [.ref a] ∧ CatAt C H a c ∧ v = .int (c.arrows.length : Int)
def R_has_thing (C : Addr) : List V → Hp → V → Prop := fun vs H v => ∃ a c x, vs = [.ref a, .int x] ∧ CatAt C H a c ∧ v = .bl (decide (x < (c.n : Int)))
def R_has_arrow (C : Addr) : List V → Hp → V → Prop := fun vs H v => ∃ a c x, vs = [.ref a, .int x] ∧ CatAt C H a c ∧ v = .bl (decide (x < (c.arrows.length : Int)))
def R_leads (C : Addr) : List V → Hp → V → Prop := fun vs H v => ∃ a c, ∃ f x y : Nat, vs = [.ref a, .int (f : Int), .int (x : Int), .int (y : Int)] ∧ CatAt C H a c ∧ f < c.arrows.length ∧ v = .bl (c.arrows[f]? == some (x, y))
def R_meet (C : Addr) : List V → Hp → V → Prop := fun vs H v => ∃ a c, ∃ f g : Nat, vs = [.ref a, .int (f : Int), .int (g : Int)] ∧ CatAt C H a c ∧ f < c.arrows.length ∧ g < c.arrows.length ∧ v = .bl (to_ c f == from_ c g)
def R_made (C : Addr) : List V → Hp → V → Prop := fun vs H v => ∃ a c, ∃ f g : Nat, vs = [.ref a, .int (f : Int), .int (g : Int)] ∧ CatAt C H a c ∧ to_ c f = from_ c g ∧ v = optV (after c f g)
def R_hom (C : Addr) : List V → Hp → List V → Prop := fun vs H xs => ∃ a c, ∃ x y : Nat, vs = [.ref a, .int (x : Int), .int (y : Int)] ∧ CatAt C H a c ∧ xs = (hom c x y).map fun (f : Nat) => V.int (f : Int)
section
variable {P : Program} {w : World} {K : PySem.W.Frag} {mg : Str → Option Value} {base : Heap} {A : Ads} {σ : L2.St} {H : Hp} {ta tb td te tf tg : TE} {a : Addr} {c : Cat} {E : XK}
/-! ### the fields of a category -/
theorem ev_thing (T : Txt K mg A) (hc : CatAt A.C H a c) (h : Ev ta σ H (.ref a)) : Ev (tFld K ta "thing_count") σ H (.int (c.n : Int)) := by
  obtain ⟨dx, ab, ae, at_, m, hF, _⟩ := hc
  exact ev_fld h hF.obj T.cl T.n_thing_count cF_thing
theorem ev_beg (T : Txt K mg A) (hc : CatAt A.C H a c) {f : Nat} (h : Ev ta σ H (.ref a)) (hi : Ev tb σ H (.int (f : Int))) (hl : f < c.arrows.length) : Ev (tOp (rIxL K) (tFld K ta "begins") tb) σ H (.int (from_ c f : Int)) := by
  obtain ⟨dx, ab, ae, at_, m, hF, _⟩ := hc
  exact ev_op (ev_fld h hF.obj T.cl T.n_begins cF_begins) hi (rv_ixL (sq_of hF.beg) (atI_nat (begV_at hl)))
theorem ev_end (T : Txt K mg A) (hc : CatAt A.C H a c) {f : Nat} (h : Ev ta σ H (.ref a)) (hi : Ev tb σ H (.int (f : Int))) (hl : f < c.arrows.length) : Ev (tOp (rIxL K) (tFld K ta "ends") tb) σ H (.int (to_ c f : Int)) := by
  obtain ⟨dx, ab, ae, at_, m, hF, _⟩ := hc
  exact ev_op (ev_fld h hF.obj T.cl T.n_ends cF_ends) hi (rv_ixL (sq_of hF.en) (atI_nat (endV_at hl)))
theorem dec_nat {i j : Nat} : decide (V.int (i : Int) = V.int (j : Int)) = (i == j) := by
  by_cases e : i = j
  · subst e
    simp
  · have : ¬ V.int (i : Int) = V.int (j : Int) := fun h => e (by injection h with h; omega)
    rw [decide_eq_false this]
    simp [e]
theorem ev_eqN {i j : Nat} (ha : Ev ta σ H (.int (i : Int))) (hb : Ev tb σ H (.int (j : Int))) : Ev (tOp rEq ta tb) σ H (.bl (i == j)) := ev_is (ev_op ha hb (rv_eq rfl)) (by rw [dec_nat])
/-! ### the methods -/
theorem ok_arrow_count (T : Txt K mg A) : FnOk P w K mg base CX0 1 A.f_arrow_count A.d_arrow_count ["self"] (spV (R_arrow_count A.C)) := by
  refine T.F_arrow_count.ok sc_arrow_count (fun vs H Q E h => ?_) (fun cdv B outer s H vs Q E hr h => ⟨_, (pss_one (ps_ret (pe_callB (lenK (K := K) rfl) (by rfl) T.b_len PySem.boot_len (pa_cons (fldK (K := K) rfl (pv 0) rfl) pa_nil)))), ?_⟩)
  · obtain ⟨_, _, _, ⟨a, c, rfl, _⟩, _⟩ := h
    rfl
  · obtain ⟨H0, v, e, ⟨a, c, rfl, hc, rfl⟩, k⟩ := h
    obtain ⟨dx, ab, ae, at_, m, hF, _⟩ := hc.mono e
    exact s_ret (ev_is (ev_len (ev_fld (ev_var rfl) hF.obj T.cl T.n_begins cF_begins) (sq_of hF.beg)) (by rw [begV_len])) k
theorem ev_arrow_count (hc : CatAt A.C H a c) (h : Ev ta σ H (.ref a)) : Ev (tMeth A.C "arrow_count" (spV (R_arrow_count A.C)) [] E ta tNil) σ H (.int (c.arrows.length : Int)) := by
  obtain ⟨dx, ab, ae, at_, m, hF, _⟩ := id hc
  exact ev_meth h hF.obj (cF_no (by decide +kernel) (by decide +kernel) (by decide +kernel) (by decide +kernel)) ea_nil (spV_go ⟨a, c, rfl, hc, rfl⟩)
theorem ok_has_thing (T : Txt K mg A) : FnOk P w K mg base CX0 1 A.f_has_thing A.d_has_thing ["self", "x"] (spV (R_has_thing A.C)) := by
  refine T.F_has_thing.ok sc_has_thing (fun vs H Q E h => ?_) (fun cdv B outer s H vs Q E hr h => ⟨_, (pss_one (ps_ret (pe_cmpR op_lt (pv 1) (fldK (K := K) rfl (pv 0) rfl) (nomark _)))), ?_⟩)
  · obtain ⟨_, _, _, ⟨a, c, x, rfl, _⟩, _⟩ := h
    rfl
  · obtain ⟨H0, v, e, ⟨a, c, x, rfl, hc, rfl⟩, k⟩ := h
    exact s_ret (ev_op (ev_var rfl) (ev_thing T (hc.mono e) (ev_var rfl)) rv_I0) k
theorem ev_has_thing (hc : CatAt A.C H a c) {x : Int} (h : Ev ta σ H (.ref a)) (hx : Ev tb σ H (.int x)) : Ev (tMeth A.C "has_thing" (spV (R_has_thing A.C)) [] E ta (tCons tb tNil)) σ H (.bl (decide (x < (c.n : Int)))) := by
  obtain ⟨dx, ab, ae, at_, m, hF, _⟩ := id hc
  exact ev_meth h hF.obj (cF_no (by decide +kernel) (by decide +kernel) (by decide +kernel) (by decide +kernel)) (ea_cons hx ea_nil) (spV_go ⟨a, c, x, rfl, hc, rfl⟩)
theorem ok_is_own (T : Txt K mg A) : FnOk P w K mg base CX0 1 A.f_is_own A.d_is_own ["self", "f"] (spV (R_has_thing A.C)) := by
  refine T.F_is_own.ok sc_is_own (fun vs H Q E h => ?_) (fun cdv B outer s H vs Q E hr h => ⟨_, (pss_one (ps_ret (pe_cmpR op_lt (pv 1) (fldK (K := K) rfl (pv 0) rfl) (nomark _)))), ?_⟩)
  · obtain ⟨_, _, _, ⟨a, c, x, rfl, _⟩, _⟩ := h
    rfl
  · obtain ⟨H0, v, e, ⟨a, c, x, rfl, hc, rfl⟩, k⟩ := h
    exact s_ret (ev_op (ev_var rfl) (ev_thing T (hc.mono e) (ev_var rfl)) rv_I0) k
theorem ev_is_own (hc : CatAt A.C H a c) {x : Int} (h : Ev ta σ H (.ref a)) (hx : Ev tb σ H (.int x)) : Ev (tMeth A.C "is_own" (spV (R_has_thing A.C)) [] E ta (tCons tb tNil)) σ H (.bl (decide (x < (c.n : Int)))) := by
  obtain ⟨dx, ab, ae, at_, m, hF, _⟩ := id hc
  exact ev_meth h hF.obj (cF_no (by decide +kernel) (by decide +kernel) (by decide +kernel) (by decide +kernel)) (ea_cons hx ea_nil) (spV_go ⟨a, c, x, rfl, hc, rfl⟩)
theorem ok_has_arrow (T : Txt K mg A) : FnOk P w K mg base CX0 2 A.f_has_arrow A.d_has_arrow ["self", "f"] (spV (R_has_arrow A.C)) := by
  refine T.F_has_arrow.ok sc_has_arrow (fun vs H Q E h => ?_) (fun cdv B outer s H vs Q E hr h => ⟨_, (pss_one (ps_ret (pe_cmpR op_lt (pv 1) (pe_meth0 (pv 0) T.cl T.m_arrow_count (ok_arrow_count T) (hr.mono (by decide)) T.bd_arrow_count .nil pass0) (nomark _)))), ?_⟩)
  · obtain ⟨_, _, _, ⟨a, c, x, rfl, _⟩, _⟩ := h
    rfl
  · obtain ⟨H0, v, e, ⟨a, c, x, rfl, hc, rfl⟩, k⟩ := h
    exact s_ret (ev_op (ev_var rfl) (ev_arrow_count (hc.mono e) (ev_var rfl)) rv_I0) k
theorem ev_has_arrow (hc : CatAt A.C H a c) {x : Int} (h : Ev ta σ H (.ref a)) (hx : Ev tb σ H (.int x)) : Ev (tMeth A.C "has_arrow" (spV (R_has_arrow A.C)) [] E ta (tCons tb tNil)) σ H (.bl (decide (x < (c.arrows.length : Int)))) := by
  obtain ⟨dx, ab, ae, at_, m, hF, _⟩ := id hc
  exact ev_meth h hF.obj (cF_no (by decide +kernel) (by decide +kernel) (by decide +kernel) (by decide +kernel)) (ea_cons hx ea_nil) (spV_go ⟨a, c, x, rfl, hc, rfl⟩)
theorem ok_leads (T : Txt K mg A) : FnOk P w K mg base CX0 1 A.f_leads A.d_leads ["self", "f", "x", "y"] (spV (R_leads A.C)) := by
  refine T.F_leads.ok sc_leads (fun vs H Q E h => ?_) (fun cdv B outer s H vs Q E hr h => ⟨_, (pss_one (ps_ret (pe_and (pe_cmpR op_eq (pe_ix (ixListK (K := K) rfl) (fldK (K := K) rfl (pv 0) rfl) (pv 1) (fun _ _ => rfl)) (pv 2) (nomark _)) (pe_one (pe_cmpR op_eq (pe_ix (ixListK (K := K) rfl) (fldK (K := K) rfl (pv 0) rfl) (pv 1) (fun _ _ => rfl)) (pv 3) (nomark _)))))), ?_⟩)
  · obtain ⟨_, _, _, ⟨a, c, f, x, y, rfl, _⟩, _⟩ := h
    rfl
  · obtain ⟨H0, v, e, ⟨a, c, f, x, y, rfl, hc, hf, rfl⟩, k⟩ := h
    refine s_ret (ev_is (ev_andV (ev_eqN (ev_beg T (hc.mono e) (ev_var rfl) (ev_var rfl) hf) (ev_var rfl)) (fun _ => ev_eqN (ev_end T (hc.mono e) (ev_var rfl) (ev_var rfl) hf) (ev_var rfl))) ?_) k
    rw [arrows_at hf]
    rfl
theorem ev_leads (hc : CatAt A.C H a c) {f x y : Nat} (h : Ev ta σ H (.ref a)) (hf : Ev tb σ H (.int (f : Int))) (hx : Ev td σ H (.int (x : Int))) (hy : Ev te σ H (.int (y : Int))) (hl : f < c.arrows.length) :
    Ev (tMeth A.C "leads" (spV (R_leads A.C)) [] E ta (tCons tb (tCons td (tCons te tNil)))) σ H (.bl (c.arrows[f]? == some (x, y))) := by
  obtain ⟨dx, ab, ae, at_, m, hF, _⟩ := id hc
  exact ev_meth h hF.obj (cF_no (by decide +kernel) (by decide +kernel) (by decide +kernel) (by decide +kernel)) (ea_cons hf (ea_cons hx (ea_cons hy ea_nil))) (spV_go ⟨a, c, f, x, y, rfl, hc, hl, rfl⟩)
theorem ok_meet (T : Txt K mg A) : FnOk P w K mg base CX0 1 A.f_meet A.d_meet ["self", "f", "g"] (spV (R_meet A.C)) := by
  refine T.F_meet.ok sc_meet (fun vs H Q E h => ?_) (fun cdv B outer s H vs Q E hr h => ⟨_, (pss_one (ps_ret (pe_cmpR op_eq (pe_ix (ixListK (K := K) rfl) (fldK (K := K) rfl (pv 0) rfl) (pv 1) (fun _ _ => rfl)) (pe_ix (ixListK (K := K) rfl) (fldK (K := K) rfl (pv 0) rfl) (pv 2) (fun _ _ => rfl)) (nomark _)))), ?_⟩)
  · obtain ⟨_, _, _, ⟨a, c, f, g, rfl, _⟩, _⟩ := h
    rfl
  · obtain ⟨H0, v, e, ⟨a, c, f, g, rfl, hc, hf, hg, rfl⟩, k⟩ := h
    exact s_ret (ev_eqN (ev_end T (hc.mono e) (ev_var rfl) (ev_var rfl) hf) (ev_beg T (hc.mono e) (ev_var rfl) (ev_var rfl) hg)) k
theorem ev_meet (hc : CatAt A.C H a c) {f g : Nat} (h : Ev ta σ H (.ref a)) (hf : Ev tb σ H (.int (f : Int))) (hg : Ev td σ H (.int (g : Int))) (lf : f < c.arrows.length) (lg : g < c.arrows.length) :
    Ev (tMeth A.C "meet" (spV (R_meet A.C)) [] E ta (tCons tb (tCons td tNil))) σ H (.bl (to_ c f == from_ c g)) := by
  obtain ⟨dx, ab, ae, at_, m, hF, _⟩ := id hc
  exact ev_meth h hF.obj (cF_no (by decide +kernel) (by decide +kernel) (by decide +kernel) (by decide +kernel)) (ea_cons hf (ea_cons hg ea_nil)) (spV_go ⟨a, c, f, g, rfl, hc, lf, lg, rfl⟩)
theorem dec_lt {i j : Nat} : decide ((i : Int) < (j : Int)) = decide (i < j) := by
  by_cases e : i < j
  · rw [decide_eq_true e, decide_eq_true (by omega)]
  · rw [decide_eq_false e, decide_eq_false (by omega)]
theorem ok_made (T : Txt K mg A) : FnOk P w K mg base CX0 2 A.f_made A.d_made ["self", "f", "g"] (spV (R_made A.C)) := by
  refine T.F_made.ok sc_made (fun vs H Q E h => ?_) (fun cdv B outer s H vs Q E hr h => ⟨_, (pss_cons (ps_if (pt_val (pe_meth (pv 0) T.cl T.m_is_own (ok_is_own T) (hr.mono (by decide)) T.bd_is_own .nil pass0 (pa_cons (pv 1) pa_nil))) (pss_one (ps_ret (pv 2))) pss_nil)
    (pss_cons (ps_if (pt_val (pe_meth (pv 0) T.cl T.m_is_own (ok_is_own T) (hr.mono (by decide)) T.bd_is_own .nil pass0 (pa_cons (pv 2) pa_nil))) (pss_one (ps_ret (pv 1))) pss_nil)
    (pss_one (ps_ret (pe_dget1 (hu_of hr) (fldK (K := K) rfl (pv 0) rfl) (pe_tup (pa_cons (pv 1) (pa_cons (pv 2) pa_nil))) ⟨rfl, rfl, rfl, rfl⟩))))), ?_⟩)
  · obtain ⟨_, _, _, ⟨a, c, f, g, rfl, _⟩, _⟩ := h
    rfl
  · obtain ⟨H0, v, e, ⟨a, c, f, g, rfl, hc, hm, rfl⟩, k⟩ := h
    have hc := hc.mono e
    rw [after_eq hm] at k
    refine q_when (et_B (ev_is_own hc (ev_var rfl) (ev_var rfl))) (fun b H1 e1 => ?_) (fun b H1 e1 => ?_)
    · rw [dec_lt, decide_eq_true_eq] at b
      rw [if_pos b] at k
      exact s_ret (ev_var rfl) fun H2 e2 => k H2 (e1.trans e2)
    rw [dec_lt, decide_eq_false_iff_not] at b
    rw [if_neg b] at k
    refine q_when (et_B (ev_is_own (hc.mono e1) (ev_var rfl) (ev_var rfl))) (fun b2 H2 e2 => ?_) (fun b2 H2 e2 => ?_)
    · rw [dec_lt, decide_eq_true_eq] at b2
      rw [if_pos b2] at k
      exact s_ret (ev_var rfl) fun H3 e3 => k H3 ((e1.trans e2).trans e3)
    rw [dec_lt, decide_eq_false_iff_not] at b2
    rw [if_neg b2] at k
    obtain ⟨dx, ab, ae, at_, m, hF, _, hk, _⟩ := hc.mono (e1.trans e2)
    rw [← hk f g, ← look_getD] at k
    exact s_ret (ev_dget1 (ev_fld (ev_var rfl) hF.obj T.cl T.n_told cF_told) hF.tol (k := key f g) (eu_tup (ea_cons (ev_var rfl) (ea_cons (ev_var rfl) ea_nil)) (by show 2 ≤ 100000; decide))) fun H3 e3 => k H3 ((e1.trans e2).trans e3)
theorem ev_made (hc : CatAt A.C H a c) {f g : Nat} (h : Ev ta σ H (.ref a)) (hf : Ev tb σ H (.int (f : Int))) (hg : Ev td σ H (.int (g : Int))) (hm : to_ c f = from_ c g) :
    Ev (tMeth A.C "made" (spV (R_made A.C)) [] E ta (tCons tb (tCons td tNil))) σ H (optV (after c f g)) := by
  obtain ⟨dx, ab, ae, at_, m, hF, _⟩ := id hc
  exact ev_meth h hF.obj (cF_no (by decide +kernel) (by decide +kernel) (by decide +kernel) (by decide +kernel)) (ea_cons hf (ea_cons hg ea_nil)) (spV_go ⟨a, c, f, g, rfl, hc, hm, rfl⟩)
theorem ok_hom (T : Txt K mg A) : FnOk P w K mg base CX0 2 A.f_hom A.d_hom ["self", "x", "y"] (spL (R_hom A.C)) := by
  refine T.F_hom.ok sc_hom (fun vs H Q E h => ?_) (fun cdv B outer s H vs Q E hr h => ⟨_, (pss_one (ps_ret (pe_lc (own := [("f", 3)]) (g := gName 3)  rfl sc_hom.nd (pi_range1 rfl T.b_range (pa_cons (pe_meth0 (pv 0) T.cl T.m_arrow_count (ok_arrow_count T) (hr.mono (by decide)) T.bd_arrow_count .nil pass0) pa_nil)) (blkOk_by (own := [("f", 3)]) (N := ["self", "x", "y", "f"]) (sc := defScope s_hom) (by decide +kernel)) (fun _ _ _ _ _ => pg_name (i := 3) sc_hom.nd rfl (Or.inl rfl)) (fun _ _ _ _ _ => (pts_one (pt_val (pe_meth (pv 0) T.cl T.m_leads (ok_leads T) (hr.mono (by decide)) T.bd_leads .nil pass0 (pa_cons (pv 3) (pa_cons (pv 1) (pa_cons (pv 2) pa_nil))))))) (fun _ _ _ _ _ => (pv 3))))), ?_⟩)
  · obtain ⟨_, _, _, ⟨a, c, x, y, rfl, _⟩, _⟩ := h
    rfl
  · obtain ⟨H0, v, e, ⟨a, c, x, y, rfl, hc, rfl⟩, k⟩ := h
    have hc := hc.mono e
    have q := el_lcR1 (te := tVar 3) (fun i => c.arrows[i]? == some (x, y)) (fun i => V.int (i : Int)) (ea_cons (ev_arrow_count (E := E0) (σ := start ["self", "x", "y", "f"] [.ref a, .int (x : Int), .int (y : Int)]) hc (ev_var (i := 0) rfl)) ea_nil) (by have := hc.wf.l9; omega) (vs := [3]) (j := 3) (fun _ => rfl)
      (fun i H1 e1 hi => et_B (ev_leads (E := E0) (hc.mono e1) (ev_var (i := 0) rfl) (ev_var (i := 3) rfl) (ev_var (i := 1) rfl) (ev_var (i := 2) rfl) (by omega))) (fun i H1 e1 hi _ => ev_var rfl)
    exact s_retL q k
theorem el_hom (hc : CatAt A.C H a c) {x y : Nat} (h : Ev ta σ H (.ref a)) (hx : Ev tb σ H (.int (x : Int))) (hy : Ev td σ H (.int (y : Int))) :
    EvL (tMeth A.C "hom" (spL (R_hom A.C)) [] E ta (tCons tb (tCons td tNil))) σ H ((hom c x y).map fun (f : Nat) => V.int (f : Int)) := by
  obtain ⟨dx, ab, ae, at_, m, hF, _⟩ := id hc
  exact el_meth h hF.obj (cF_no (by decide +kernel) (by decide +kernel) (by decide +kernel) (by decide +kernel)) (ea_cons hx (ea_cons hy ea_nil)) (spL_go ⟨a, c, x, y, rfl, hc, rfl⟩)
end
end Arr
-- text A4
set_option Elab.async false
set_option linter.unusedVariables false
set_option maxRecDepth 100000
set_option maxHeartbeats 4000000
/-! # loops that look for the first; lists of numbers compared -/
namespace Arr
open PySem L2 Evl
theorem find_first {α β : Type} {r : α → Option β} {x : α} {z : β} : ∀ {pre post : List α}, (∀ y ∈ pre, r y = none) → r x = some z → (pre ++ x :: post).findSome? r = some z
  | [], post, _, h => by
    show (x :: post).findSome? r = some z
    rw [List.findSome?_cons, h]
  | y :: pre, post, hp, h => by
    show (y :: (pre ++ x :: post)).findSome? r = some z
    rw [List.findSome?_cons, hp y (List.mem_cons_self ..)]
    exact find_first (fun u hu => hp u (List.mem_cons_of_mem _ hu)) h
theorem find_none {α β : Type} {r : α → Option β} : ∀ {l : List α}, (∀ y ∈ l, r y = none) → l.findSome? r = none
  | [], _ => rfl
  | y :: l, h => by
    rw [List.findSome?_cons, h y (List.mem_cons_self ..)]
    exact find_none fun u hu => h u (List.mem_cons_of_mem _ hu)
theorem take_split {α : Type} : ∀ {l : List α} {i : Nat} {x : α}, l[i]? = some x → l = l.take i ++ x :: l.drop (i + 1)
  | [], i, x, h => by simp at h
  | a :: l, 0, x, h => by
    have e : a = x := Option.some.inj h
    subst e
    rfl
  | a :: l, i + 1, x, h => congrArg (a :: ·) (take_split (l := l) (i := i) h)
theorem take_succ' {α : Type} {l : List α} {i : Nat} {x : α} (h : l[i]? = some x) : l.take (i + 1) = l.take i ++ [x] := by
  rw [List.take_add_one, h]
  rfl
theorem map_at {α : Type} {e : α → V} {l : List α} {i : Nat} {y : V} (h : (l.map e)[i]? = some y) : ∃ x, l[i]? = some x ∧ y = e x := by
  rw [List.getElem?_map] at h
  cases q : l[i]? with
  | none =>
    rw [q] at h
    cases h
  | some z =>
    rw [q] at h
    exact ⟨z, rfl, (Option.some.inj h).symm⟩
def rngV (n : Nat) : List V := (List.range n).map fun (i : Nat) => V.int (i : Int)
section
variable {K : PySem.W.Frag} {σ : L2.St} {H H' : Hp} {ta : TA} {te tl : TE} {D : Ends} {tu tz : TS} {j : Nat}
/-- for i in range(n): either it returns (r i is there) or goes on; N is what the next turn wants -/
theorem s_findR {β : Type} {n : Nat} (r : Nat → Option β) (I : L2.St → Prop) (h : EvA ta σ H [.int (n : Int)]) (hn : n ≤ 100000) (hI : I σ)
    (hs : ∀ i σ' H' (N : L2.St → Hp → Prop), i < n → I σ' → Ex H H' → (∀ z, r i = some z → (List.range n).findSome? r = some z) → (∀ σ2 H2, I σ2 → Ex H' H2 → r i = none → N σ2 H2) → tu { D with nx := N, ct := N, bk := D.nx } (σ'.set j (some (.int (i : Int)))) H')
    (hd : ∀ σ' H', I σ' → Ex H H' → (List.range n).findSome? r = none → D.nx σ' H') : tFor (iRng1 ta) (gName j) tu D σ H := by
  refine s_forR1 h (by omega) (fun i σ' H' => I σ' ∧ Ex H H' ∧ ∀ y ∈ List.range i, r y = none) (fun H1 e => ⟨hI, e, by simp⟩) (fun i σ' H' hi p => ?_) (fun σ' H' p => ?_)
  · obtain ⟨p1, p2, p3⟩ := p
    have hi : i < n := by omega
    have split : List.range n = List.range i ++ i :: (List.range n).drop (i + 1) := by
      have e1 := take_split (l := List.range n) (i := i) (x := i) (by rw [List.getElem?_range hi])
      rw [List.take_range, Nat.min_eq_left (Nat.le_of_lt hi)] at e1
      exact e1
    refine hs i σ' H' _ hi p1 p2 (fun z hz => by rw [split]; exact find_first p3 hz) fun σ2 H2 q1 q2 q3 => ⟨q1, p2.trans q2, fun y hy => ?_⟩
    rw [List.range_succ, List.mem_append, List.mem_singleton] at hy
    rcases hy with hy | rfl
    · exact p3 y hy
    · exact q3
  · obtain ⟨p1, p2, p3⟩ := p
    exact hd σ' H' p1 p2 (find_none (by simpa using p3))
/-- for x in l, l a list that stands -/
theorem s_findL {α β : Type} {a : Addr} {en : α → V} {l : List α} (r : α → Option β) (I : L2.St → Prop) (h : Ev tl σ H (.ref a)) (hx : SqL K H a (l.map en)) (hI : I σ)
    (hs : ∀ x σ' H' (N : L2.St → Hp → Prop), x ∈ l → I σ' → Ex H H' → (∀ z, r x = some z → l.findSome? r = some z) → (∀ σ2 H2, I σ2 → Ex H' H2 → r x = none → N σ2 H2) → tu { D with nx := N, ct := N, bk := D.nx } (σ'.set j (some (en x))) H')
    (hd : ∀ σ' H', I σ' → Ex H H' → l.findSome? r = none → D.nx σ' H') : tFor (iList K tl) (gName j) tu D σ H := by
  refine s_forLn h hx (fun i σ' H' => I σ' ∧ Ex H H' ∧ ∀ y ∈ l.take i, r y = none) (fun H1 e => ⟨hI, e, by simp⟩) (fun i σ' H' _ p => ex_l p.2.1 hx) (fun i y σ' H' hi p => ?_) (fun σ' H' p => ?_)
  · obtain ⟨p1, p2, p3⟩ := p
    obtain ⟨x, hxi, rfl⟩ := map_at hi
    refine hs x σ' H' _ (List.mem_of_getElem? hxi) p1 p2 (fun z hz => by rw [take_split hxi]; exact find_first p3 hz) fun σ2 H2 q1 q2 q3 => ⟨q1, p2.trans q2, fun y hy => ?_⟩
    rw [take_succ' hxi, List.mem_append, List.mem_singleton] at hy
    rcases hy with hy | rfl
    · exact p3 y hy
    · exact q3
  · obtain ⟨p1, p2, p3⟩ := p
    rw [List.length_map, List.take_length] at p3
    exact hd σ' H' p1 p2 (find_none p3)
/-- for x in l, l a new list -/
theorem s_findNL {α β : Type} {en : α → V} {l : List α} (r : α → Option β) (I : L2.St → Prop) (h : EvL tl σ H (l.map en)) (hI : I σ)
    (hs : ∀ x σ' H' (N : L2.St → Hp → Prop), x ∈ l → I σ' → Ex H H' → (∀ z, r x = some z → l.findSome? r = some z) → (∀ σ2 H2, I σ2 → Ex H' H2 → r x = none → N σ2 H2) → tu { D with nx := N, ct := N, bk := D.nx } (σ'.set j (some (en x))) H')
    (hd : ∀ σ' H', I σ' → Ex H H' → l.findSome? r = none → D.nx σ' H') : tFor (iList K tl) (gName j) tu D σ H := by
  refine s_forNL (g := gName j) h (fun a i σ' H' => I σ' ∧ Ex H H' ∧ (∀ y ∈ l.take i, r y = none) ∧ H' a = some (.lst (l.map en)) ∧ H a = none) (fun a H1 hn e h1 => ⟨hI, e, by simp, h1, hn⟩) (fun a i σ' H' _ p => sq_of p.2.2.2.1) (fun a i y σ' H' hi p => ?_) (fun a σ' H' p => ?_)
  · obtain ⟨p1, p2, p3, p4, p5⟩ := p
    obtain ⟨x, hxi, rfl⟩ := map_at hi
    refine hs x σ' H' _ (List.mem_of_getElem? hxi) p1 p2 (fun z hz => by rw [take_split hxi]; exact find_first p3 hz) fun σ2 H2 q1 q2 q3 => ⟨q1, p2.trans q2, fun y hy => ?_, q2 a _ p4, p5⟩
    rw [take_succ' hxi, List.mem_append, List.mem_singleton] at hy
    rcases hy with hy | rfl
    · exact p3 y hy
    · exact q3
  · obtain ⟨p1, p2, p3, p4, p5⟩ := p
    rw [List.length_map, List.take_length] at p3
    exact hd σ' H' p1 p2 (find_none p3)
/-! the same, something behind -/
theorem q_findR {β : Type} {n : Nat} (r : Nat → Option β) (I : L2.St → Prop) (h : EvA ta σ H [.int (n : Int)]) (hn : n ≤ 100000) (hI : I σ)
    (hs : ∀ i σ' H' (N : L2.St → Hp → Prop), i < n → I σ' → Ex H H' → (∀ z, r i = some z → (List.range n).findSome? r = some z) → (∀ σ2 H2, I σ2 → Ex H' H2 → r i = none → N σ2 H2) → tu { D with nx := N, ct := N, bk := tz D } (σ'.set j (some (.int (i : Int)))) H')
    (hd : ∀ σ' H', I σ' → Ex H H' → (List.range n).findSome? r = none → tz D σ' H') : tSeq (tFor (iRng1 ta) (gName j) tu) tz D σ H := s_findR (D := { D with nx := tz D }) r I h hn hI hs hd
theorem q_findNL {α β : Type} {en : α → V} {l : List α} (r : α → Option β) (I : L2.St → Prop) (h : EvL tl σ H (l.map en)) (hI : I σ)
    (hs : ∀ x σ' H' (N : L2.St → Hp → Prop), x ∈ l → I σ' → Ex H H' → (∀ z, r x = some z → l.findSome? r = some z) → (∀ σ2 H2, I σ2 → Ex H' H2 → r x = none → N σ2 H2) → tu { D with nx := N, ct := N, bk := tz D } (σ'.set j (some (en x))) H')
    (hd : ∀ σ' H', I σ' → Ex H H' → l.findSome? r = none → tz D σ' H') : tSeq (tFor (iList K tl) (gName j) tu) tz D σ H := s_findNL (D := { D with nx := tz D }) r I h hI hs hd
theorem q_findL {α β : Type} {a : Addr} {en : α → V} {l : List α} (r : α → Option β) (I : L2.St → Prop) (h : Ev tl σ H (.ref a)) (hx : SqL K H a (l.map en)) (hI : I σ)
    (hs : ∀ x σ' H' (N : L2.St → Hp → Prop), x ∈ l → I σ' → Ex H H' → (∀ z, r x = some z → l.findSome? r = some z) → (∀ σ2 H2, I σ2 → Ex H' H2 → r x = none → N σ2 H2) → tu { D with nx := N, ct := N, bk := tz D } (σ'.set j (some (en x))) H')
    (hd : ∀ σ' H', I σ' → Ex H H' → l.findSome? r = none → tz D σ' H') : tSeq (tFor (iList K tl) (gName j) tu) tz D σ H := s_findL (D := { D with nx := tz D }) r I h hx hI hs hd
/-- a fold over a list: for x in l (new) with a state z -/
theorem s_foldNL {α S : Type} {en : α → V} {l : List α} (st : S → α → S) (z0 : S) (I : S → L2.St → Prop) (h : EvL tl σ H (l.map en)) (hI : I z0 σ)
    (hs : ∀ x z σ' H' (N : L2.St → Hp → Prop), x ∈ l → I z σ' → Ex H H' → (∀ σ2 H2, I (st z x) σ2 → Ex H' H2 → N σ2 H2) → tu { D with nx := N, ct := N, bk := D.nx } (σ'.set j (some (en x))) H')
    (hd : ∀ σ' H', I (l.foldl st z0) σ' → Ex H H' → D.nx σ' H') : tFor (iList K tl) (gName j) tu D σ H := by
  refine s_forNL (g := gName j) h (fun a i σ' H' => I ((l.take i).foldl st z0) σ' ∧ Ex H H' ∧ H' a = some (.lst (l.map en))) (fun a H1 hn e h1 => ⟨hI, e, h1⟩) (fun a i σ' H' _ p => sq_of p.2.2) (fun a i y σ' H' hi p => ?_) (fun a σ' H' p => ?_)
  · obtain ⟨p1, p2, p4⟩ := p
    obtain ⟨x, hxi, rfl⟩ := map_at hi
    refine hs x _ σ' H' _ (List.mem_of_getElem? hxi) p1 p2 fun σ2 H2 q1 q2 => ⟨?_, p2.trans q2, q2 a _ p4⟩
    rw [take_succ' hxi, List.foldl_append]
    exact q1
  · obtain ⟨p1, p2, p4⟩ := p
    rw [List.length_map, List.take_length] at p1
    exact hd σ' H' p1 p2
theorem q_foldNL {α S : Type} {en : α → V} {l : List α} (st : S → α → S) (z0 : S) (I : S → L2.St → Prop) (h : EvL tl σ H (l.map en)) (hI : I z0 σ)
    (hs : ∀ x z σ' H' (N : L2.St → Hp → Prop), x ∈ l → I z σ' → Ex H H' → (∀ σ2 H2, I (st z x) σ2 → Ex H' H2 → N σ2 H2) → tu { D with nx := N, ct := N, bk := tz D } (σ'.set j (some (en x))) H')
    (hd : ∀ σ' H', I (l.foldl st z0) σ' → Ex H H' → tz D σ' H') : tSeq (tFor (iList K tl) (gName j) tu) tz D σ H := s_foldNL (D := { D with nx := tz D }) st z0 I h hI hs hd
/-! lists of whole numbers compared -/
def natV (l : List Nat) : List V := l.map fun (n : Nat) => V.int (n : Int)
def natD (l : List Nat) : List PyData := l.map fun (n : Nat) => PyData.int (n : Int)
theorem dp_nats : ∀ {l : List Nat}, DpAll K H (natV l) (natD l)
  | [] => DpAll.nil
  | n :: r => DpAll.cons (Dp.int (n : Int)) dp_nats
theorem shaped_nats (l : List Nat) : SeqAt.shaped (.list (natD l)) = true := by
  have h1 : ∀ l : List Nat, PyData.canLayAll0 (natD l) = true := by
    intro l
    induction l with
    | nil => rfl
    | cons n r ih =>
      show (PyData.canLay0 (.int (n : Int)) && PyData.canLayAll0 (natD r)) = true
      rw [ih]
      rfl
  have h2 : ∀ l : List Nat, PyData.depthAll (natD l) = 0 := by
    intro l
    induction l with
    | nil => rfl
    | cons n r ih =>
      show max (PyData.depth (.int (n : Int))) (PyData.depthAll (natD r)) = 0
      rw [ih]
      rfl
  unfold SeqAt.shaped
  show (PyData.canLayAll0 (natD l) && decide (PyData.depthAll (natD l) + 1 ≤ 64)) = true
  rw [h1, h2]
  rfl
theorem eqv_nats : ∀ l r : List Nat, PyData.eqvAll (natD l) (natD r) = decide (l = r)
  | [], [] => rfl
  | [], n :: r => rfl
  | n :: l, [] => rfl
  | n :: l, m :: r => by
    show (((n : Int) == (m : Int)) && PyData.eqvAll (natD l) (natD r)) = _
    rw [eqv_nats l r]
    by_cases e : n = m
    · subst e
      simp
    · have : ((n : Int) == (m : Int)) = false := by
        rw [beq_eq_false_iff_ne]
        omega
      rw [this]
      simp [e]
/-- a list of numbers against a written one -/
theorem rv_neNats {p q : Addr} {l r : List Nat} (hp : H p = some (.lst (natV l))) (hq : H q = some (.lst (natV r))) : RV (rNeD K) (.ref p) (.ref q) H (.bl (!decide (l = r))) := fun H1 e Q k =>
  ⟨.list (natD l), .list (natD r), Dp.lst (sq_of (e p _ hp)) dp_nats, Dp.lst (sq_of (e q _ hq)) dp_nats, shaped_nats l, shaped_nats r, by
    show Q (.bl (!PyData.eqvAll (natD l) (natD r))) H1
    rw [eqv_nats]
    exact k H1 (Ex.refl H1)⟩
theorem rv_eqNats {p q : Addr} {l r : List Nat} (hp : H p = some (.lst (natV l))) (hq : H q = some (.lst (natV r))) : RV (rEqD K) (.ref p) (.ref q) H (.bl (decide (l = r))) := fun H1 e Q k =>
  ⟨.list (natD l), .list (natD r), Dp.lst (sq_of (e p _ hp)) dp_nats, Dp.lst (sq_of (e q _ hq)) dp_nats, shaped_nats l, shaped_nats r, by
    show Q (.bl (PyData.eqvAll (natD l) (natD r))) H1
    rw [eqv_nats]
    exact k H1 (Ex.refl H1)⟩
end
end Arr
-- text S1
set_option Elab.async false
set_option linter.unusedVariables false
/-! # the specification's own side: faults -/
namespace Arr
open Fc01 (from_ to_ after hom)
theorem find_flatMap {α β γ : Type} (f : α → List β) (r : β → Option γ) : ∀ l : List α, (l.flatMap f).findSome? r = l.findSome? fun x => (f x).findSome? r
  | [] => rfl
  | x :: l => by
    rw [List.flatMap_cons, List.findSome?_append, List.findSome?_cons, find_flatMap f r l]
    cases (f x).findSome? r <;> rfl
theorem find_filter {α β : Type} (p : α → Bool) (r : α → Option β) : ∀ l : List α, (l.filter p).findSome? r = l.findSome? fun x => if p x = true then r x else none
  | [] => rfl
  | x :: l => by
    rw [List.filter_cons, List.findSome?_cons]
    by_cases h : p x = true
    · rw [if_pos h, if_pos h, List.findSome?_cons, find_filter p r l]
    · rw [if_neg h, if_neg h, find_filter p r l]
theorem find_map {α β γ : Type} (f : α → β) (r : β → Option γ) : ∀ l : List α, (l.map f).findSome? r = l.findSome? fun x => r (f x)
  | [] => rfl
  | x :: l => by
    rw [List.map_cons, List.findSome?_cons, List.findSome?_cons, find_map f r l]
/-- the fault of a pair that meets: its number, or 0 -/
def pf (c : Cat) (f g : Nat) : Nat := match after c f g with
  | none => 1
  | some h => if from_ c h = from_ c f ∧ to_ c h = to_ c g then 0 else 2
def fp (c : Cat) : Option (List Nat) := (List.range c.arrows.length).findSome? fun f => (List.range c.arrows.length).findSome? fun g => if (to_ c f == from_ c g) = true then (if pf c f g = 0 then none else some [pf c f g, f, g]) else none
def same3 (c : Cat) (f g h : Nat) : Bool := decide ((after c f g).bind (fun p => after c p h) = (after c g h).bind (fun q => after c f q))
def ft (c : Cat) : Option (List Nat) := (List.range c.arrows.length).findSome? fun f => (List.range c.arrows.length).findSome? fun g => (List.range c.arrows.length).findSome? fun h =>
  if (to_ c f == from_ c g) = true ∧ (to_ c g == from_ c h) = true then (if same3 c f g h = true then none else some [3, f, g, h]) else none
def two (c : Cat) : List (Nat × Nat) := (Fc01.all c).flatMap fun f => ((Fc01.all c).filter fun g => to_ c f == from_ c g).map fun g => (f, g)
def F1 (c : Cat) (x : Nat × Nat) : Option (List Nat) := match after c x.1 x.2 with
    | none => some [1, x.1, x.2]
    | some h => if from_ c h = from_ c x.1 ∧ to_ c h = to_ c x.2 then none else some [2, x.1, x.2]
def F2 (c : Cat) (x : Nat × Nat) : Option (List Nat) := ((Fc01.all c).filter fun h => to_ c x.2 == from_ c h).findSome? fun h =>
      if (after c x.1 x.2).bind (fun p => after c p h) = (after c x.2 h).bind (fun q => after c x.1 q) then none else some [3, x.1, x.2, h]
def orElse (a b : Option (List Nat)) : Option (List Nat) := match a with
    | some l => some l
    | none => b
theorem fault_eq0 (c : Cat) : Fc01.fault c = orElse ((two c).findSome? (F1 c)) ((two c).findSome? (F2 c)) := rfl
theorem fault_eq (c : Cat) : Fc01.fault c = orElse (fp c) (ft c) := by
  have e1 : (two c).findSome? (F1 c) = fp c := by
    unfold two
    rw [find_flatMap]
    unfold fp
    show (List.range c.arrows.length).findSome? _ = _
    congr 1
    funext f
    rw [find_map, find_filter]
    show (List.range c.arrows.length).findSome? _ = _
    congr 1
    funext g
    by_cases m : (to_ c f == from_ c g) = true
    · rw [if_pos m, if_pos m]
      unfold pf F1
      dsimp only
      cases after c f g with
      | none => rfl
      | some h =>
        by_cases q : from_ c h = from_ c f ∧ to_ c h = to_ c g
        · simp only [if_pos q]
          rfl
        · simp only [if_neg q]
          rfl
    · rw [if_neg m, if_neg m]
  have e2 : (two c).findSome? (F2 c) = ft c := by
    unfold two
    rw [find_flatMap]
    unfold ft
    show (List.range c.arrows.length).findSome? _ = _
    congr 1
    funext f
    rw [find_map, find_filter]
    show (List.range c.arrows.length).findSome? _ = _
    congr 1
    funext g
    by_cases m : (to_ c f == from_ c g) = true
    · rw [if_pos m]
      unfold F2
      rw [find_filter]
      show (List.range c.arrows.length).findSome? _ = _
      congr 1
      funext h
      dsimp only
      by_cases m2 : (to_ c g == from_ c h) = true
      · rw [if_pos m2, if_pos (show (to_ c f == from_ c g) = true ∧ (to_ c g == from_ c h) = true from ⟨m, m2⟩)]
        unfold same3
        by_cases q : (after c f g).bind (fun p => after c p h) = (after c g h).bind (fun q => after c f q)
        · rw [if_pos q, if_pos (decide_eq_true q)]
        · rw [if_neg q, if_neg (by rw [decide_eq_true_eq]; exact q)]
      · rw [if_neg m2, if_neg fun z => m2 z.2]
    · rw [if_neg m]
      refine (find_none fun h _ => ?_).symm
      rw [if_neg fun z => m z.1]
  rw [fault_eq0, e1, e2]
theorem after_lt {c : Cat} (wf : Wf c) {f g h : Nat} (lf : f < c.arrows.length) (lg : g < c.arrows.length) (e : after c f g = some h) : h < c.arrows.length := by
  by_cases m : to_ c f = from_ c g
  · rw [after_eq m] at e
    by_cases a : f < c.n
    · rw [if_pos a] at e
      cases e
      exact lg
    · rw [if_neg a] at e
      by_cases b : g < c.n
      · rw [if_pos b] at e
        cases e
        exact lf
      · rw [if_neg b] at e
        exact wf.mks f g h e
  · unfold after at e
    rw [if_pos m] at e
    cases e
/-- no pair has a fault -/
def NoP (c : Cat) : Prop := ∀ f g, f < c.arrows.length → g < c.arrows.length → to_ c f = from_ c g → ∃ h, after c f g = some h ∧ h < c.arrows.length ∧ from_ c h = from_ c f ∧ to_ c h = to_ c g
theorem find_none_iff {α β : Type} {r : α → Option β} : ∀ {l : List α}, l.findSome? r = none → ∀ y ∈ l, r y = none
  | [], _, y, hy => by cases hy
  | x :: l, h, y, hy => by
    rw [List.findSome?_cons] at h
    cases e : r x with
    | some z =>
      rw [e] at h
      cases h
    | none =>
      rw [e] at h
      rcases List.mem_cons.mp hy with rfl | hy
      · exact e
      · exact find_none_iff h y hy
theorem noP_of {c : Cat} (wf : Wf c) (h : fp c = none) : NoP c := by
  intro f g lf lg m
  have h1 := find_none_iff (find_none_iff h f (List.mem_range.mpr lf)) g (List.mem_range.mpr lg)
  rw [if_pos (beq_iff_eq.mpr m)] at h1
  have h2 : pf c f g = 0 := by
    by_cases q : pf c f g = 0
    · exact q
    · rw [if_neg q] at h1
      cases h1
  unfold pf at h2
  cases e : after c f g with
  | none =>
    rw [e] at h2
    cases h2
  | some k =>
    rw [e] at h2
    by_cases q : from_ c k = from_ c f ∧ to_ c k = to_ c g
    · exact ⟨k, rfl, after_lt wf lf lg e, q.1, q.2⟩
    · simp only [if_neg q] at h2
      cases h2
theorem find_some_ex {α β : Type} {r : α → Option β} {z : β} : ∀ {l : List α}, l.findSome? r = some z → ∃ y ∈ l, r y = some z
  | [], h => by cases h
  | x :: l, h => by
    rw [List.findSome?_cons] at h
    cases e : r x with
    | some u =>
      rw [e] at h
      cases h
      exact ⟨x, List.mem_cons_self .., e⟩
    | none =>
      rw [e] at h
      obtain ⟨y, hy, q⟩ := find_some_ex h
      exact ⟨y, List.mem_cons_of_mem _ hy, q⟩
theorem fp_ne {c : Cat} {l : List Nat} (h : fp c = some l) : ¬ l = [0] := by
  obtain ⟨f, _, h⟩ := find_some_ex h
  obtain ⟨g, _, h⟩ := find_some_ex h
  by_cases m : (to_ c f == from_ c g) = true
  · rw [if_pos m] at h
    by_cases q : pf c f g = 0
    · rw [if_pos q] at h
      cases h
    · rw [if_neg q] at h
      cases h
      simp
  · rw [if_neg m] at h
    cases h
theorem ft_ne {c : Cat} {l : List Nat} (h : ft c = some l) : ¬ l = [0] := by
  obtain ⟨f, _, h⟩ := find_some_ex h
  obtain ⟨g, _, h⟩ := find_some_ex h
  obtain ⟨k, _, h⟩ := find_some_ex h
  by_cases m : (to_ c f == from_ c g) = true ∧ (to_ c g == from_ c k) = true
  · rw [if_pos m] at h
    by_cases q : same3 c f g k = true
    · rw [if_pos q] at h
      cases h
    · rw [if_neg q] at h
      cases h
      simp
  · rw [if_neg m] at h
    cases h
theorem fault_is (c : Cat) : decide ((Fc01.fault c).getD [0] = [0]) = (Fc01.fault c).isNone := by
  rw [fault_eq]
  cases e1 : fp c with
  | some l =>
    show decide (l = [0]) = false
    exact decide_eq_false (fp_ne e1)
  | none =>
    show decide ((ft c).getD [0] = [0]) = (ft c).isNone
    cases e2 : ft c with
    | some l => exact decide_eq_false (ft_ne e2)
    | none => rfl
end Arr
-- text B2
set_option Elab.async false
set_option linter.unusedVariables false
set_option maxRecDepth 100000
set_option maxHeartbeats 4000000
/-! # faults -/
namespace Arr
open PySem PySem.Spec PyProof.Rows L2 Evl
open Fc01 (from_ to_ after hom)
def R_fault_of_pair (C : Addr) : List V → Hp → V → Prop := fun vs H v => ∃ a c, ∃ f g : Nat, vs = [.ref a, .int (f : Int), .int (g : Int)] ∧ CatAt C H a c ∧ f < c.arrows.length ∧ g < c.arrows.length ∧ to_ c f = from_ c g ∧ v = .int (pf c f g : Int)
def R_pairs (C : Addr) : List V → Hp → List V → Prop := fun vs H xs => ∃ a c, vs = [.ref a] ∧ CatAt C H a c ∧ xs = natV ((fp c).getD [0])
def R_same (C : Addr) : List V → Hp → V → Prop := fun vs H v => ∃ a c, ∃ f g h : Nat, vs = [.ref a, .int (f : Int), .int (g : Int), .int (h : Int)] ∧ CatAt C H a c ∧ NoP c ∧ f < c.arrows.length ∧ g < c.arrows.length ∧ h < c.arrows.length ∧ to_ c f = from_ c g ∧ to_ c g = from_ c h ∧ v = .bl (same3 c f g h)
def R_threes (C : Addr) : List V → Hp → List V → Prop := fun vs H xs => ∃ a c, vs = [.ref a] ∧ CatAt C H a c ∧ NoP c ∧ xs = natV ((ft c).getD [0])
def R_first_fault (C : Addr) : List V → Hp → List V → Prop := fun vs H xs => ∃ a c, vs = [.ref a] ∧ CatAt C H a c ∧ xs = natV ((Fc01.fault c).getD [0])
def R_is_category (C : Addr) : List V → Hp → V → Prop := fun vs H v => ∃ a c, vs = [.ref a] ∧ CatAt C H a c ∧ v = .bl (Fc01.fault c).isNone
section
variable {P : Program} {w : World} {K : PySem.W.Frag} {mg : Str → Option Value} {base : Heap} {A : Ads} {σ : L2.St} {H : Hp} {ta tb td te tf tg : TE} {a : Addr} {c : Cat} {E : XK}
theorem ev_neN {i j : Nat} (ha : Ev ta σ H (.int (i : Int))) (hb : Ev tb σ H (.int (j : Int))) : Ev (tOp rNe ta tb) σ H (.bl (!(i == j))) := ev_is (ev_op ha hb (rv_ne rfl)) (by rw [dec_nat])
theorem ok_fault_of_pair (T : Txt K mg A) : FnOk P w K mg base CX0 3 A.f_fault_of_pair A.d_fault_of_pair ["category", "f", "g"] (spV (R_fault_of_pair A.C)) := by
  refine T.F_fault_of_pair.ok sc_fault_of_pair (fun vs H Q E h => ?_) (fun cdv B outer s H vs Q E hr h => ⟨_, (pss_cons (ps_set (i := 3) sc_fault_of_pair.nd rfl (Or.inl rfl) (pe_meth (pv 0) T.cl T.m_made (ok_made T) (hr.mono (by decide)) T.bd_made .nil pass0 (pa_cons (pv 1) (pa_cons (pv 2) pa_nil))))
    (pss_cons (ps_if (pt_cmpR op_isN (pv 3) pe_non (nomark _)) (pss_one (ps_ret (pe_glob (v := .int (1)) rfl T.c_NOT_TOLD.choose_spec ⟨_, rfl⟩))) pss_nil)
    (pss_cons (ps_if (pt_not (pt_val (pe_meth (pv 0) T.cl T.m_leads (ok_leads T) (hr.mono (by decide)) T.bd_leads .nil pass0 (pa_cons (pv 3) (pa_cons (pe_ix (ixListK (K := K) rfl) (fldK (K := K) rfl (pv 0) rfl) (pv 1) (fun _ _ => rfl)) (pa_cons (pe_ix (ixListK (K := K) rfl) (fldK (K := K) rfl (pv 0) rfl) (pv 2) (fun _ _ => rfl)) pa_nil)))))) (pss_one (ps_ret (pe_glob (v := .int (2)) rfl T.c_LEADS_ELSEWHERE.choose_spec ⟨_, rfl⟩))) pss_nil)
    (pss_one (ps_ret pe_int))))), ?_⟩)
  · obtain ⟨_, _, _, ⟨a, c, f, g, rfl, _⟩, _⟩ := h
    rfl
  · obtain ⟨H0, v, e, ⟨a, c, f, g, rfl, hc, lf, lg, m, rfl⟩, k⟩ := h
    have hc := hc.mono e
    unfold pf at k
    refine q_asg (ev_made hc (ev_var rfl) (ev_var rfl) (ev_var rfl) m) fun H1 e1 => ?_
    cases q : after c f g with
    | none =>
      rw [q] at k
      exact q_when (b := true) (et_test (ev_is (ev_op (ev_var rfl) ev_c rv_isN) rfl)) (fun _ H2 e2 => s_ret ev_c fun H3 e3 => k H3 ((e1.trans e2).trans e3)) (fun z => nomatch z)
    | some h =>
      rw [q] at k
      have lh := after_lt hc.wf lf lg q
      refine q_when (b := false) (et_test (ev_is (ev_op (ev_var rfl) ev_c rv_isN) (by simp [optV]))) (fun z => nomatch z) (fun _ H2 e2 => ?_)
      have hc2 := hc.mono (e1.trans e2)
      refine q_when (et_not (et_B (ev_leads hc2 (ev_var rfl) (ev_var rfl) (ev_beg T hc2 (ev_var rfl) (ev_var rfl) lf) (ev_end T hc2 (ev_var rfl) (ev_var rfl) lg) lh))) (fun b H3 e3 => ?_) (fun b H3 e3 => ?_)
      · have n : ¬ (from_ c h = from_ c f ∧ to_ c h = to_ c g) := by
          rw [arrows_at lh] at b
          intro z
          rw [z.1, z.2] at b
          simp at b
        simp only [if_neg n] at k
        exact s_ret ev_c fun H4 e4 => k H4 (((e1.trans e2).trans e3).trans e4)
      · have n : from_ c h = from_ c f ∧ to_ c h = to_ c g := by
          rw [arrows_at lh] at b
          simpa using b
        simp only [if_pos n] at k
        exact s_ret ev_c fun H4 e4 => k H4 (((e1.trans e2).trans e3).trans e4)
theorem ok_first_fault_of_pairs (T : Txt K mg A) : FnOk P w K mg base CX0 4 A.f_first_fault_of_pairs A.d_first_fault_of_pairs ["category"] (spL (R_pairs A.C)) := by
  refine T.F_first_fault_of_pairs.ok sc_first_fault_of_pairs (fun vs H Q E h => ?_) (fun cdv B outer s H vs Q E hr h => ⟨_, (pss_cons (ps_for PassesOwn.never rfl (pi_range1 rfl T.b_range (pa_cons (pe_meth0 (pv 0) T.cl T.m_arrow_count (ok_arrow_count T) (hr.mono (by decide)) T.bd_arrow_count .nil pass0) pa_nil)) (pg_name (i := 1) sc_first_fault_of_pairs.nd rfl (Or.inl rfl))
    (pss_one (ps_for PassesOwn.never rfl (pi_range1 rfl T.b_range (pa_cons (pe_meth0 (pv 0) T.cl T.m_arrow_count (ok_arrow_count T) (hr.mono (by decide)) T.bd_arrow_count .nil pass0) pa_nil)) (pg_name (i := 2) sc_first_fault_of_pairs.nd rfl (Or.inl rfl))
    (pss_one (ps_if (pt_val (pe_meth (pv 0) T.cl T.m_meet (ok_meet T) (hr.mono (by decide)) T.bd_meet .nil pass0 (pa_cons (pv 1) (pa_cons (pv 2) pa_nil)))) (pss_cons (ps_set (i := 3) sc_first_fault_of_pairs.nd rfl (Or.inl rfl) (pe_call (ok_fault_of_pair T) (hr.mono (by decide)) rfl T.g_fault_of_pair T.F_fault_of_pair.kp T.bd_fault_of_pair .nil pass0 (pa_cons (pv 0) (pa_cons (pv 1) (pa_cons (pv 2) pa_nil)))))
    (pss_one (ps_if (pt_cmpR op_ne (pv 3) pe_int (nomark _)) (pss_one (ps_ret (pe_lst (pa_cons (pv 3) (pa_cons (pv 1) (pa_cons (pv 2) pa_nil)))))) pss_nil))) pss_nil)))))
    (pss_one (ps_ret (pe_lst (pa_cons pe_int pa_nil))))), ?_⟩)
  · obtain ⟨_, _, _, ⟨a, c, rfl, _⟩, _⟩ := h
    rfl
  · obtain ⟨H0, v, e, ⟨a, c, rfl, hc, rfl⟩, k⟩ := h
    have hc := hc.mono e
    have l9 := hc.wf.l9
    refine q_findR (fun f => (List.range c.arrows.length).findSome? fun g => if (to_ c f == from_ c g) = true then (if pf c f g = 0 then none else some [pf c f g, f, g]) else none)
      (fun σ => ∃ v1 v2 v3, σ = [some (.ref a), v1, v2, v3]) (ea_cons (ev_arrow_count hc (ev_var rfl)) ea_nil) (by omega) ⟨_, _, _, rfl⟩ ?_ ?_
    · rintro f σ' H1 N lf ⟨v1, v2, v3, rfl⟩ e1 hz hN
      have hc1 := hc.mono e1
      refine s_findR (fun g => if (to_ c f == from_ c g) = true then (if pf c f g = 0 then none else some [pf c f g, f, g]) else none)
        (fun σ => ∃ v2 v3, σ = [some (.ref a), some (.int (f : Int)), v2, v3]) (ea_cons (ev_arrow_count hc1 (ev_var rfl)) ea_nil) (by omega) ⟨_, _, rfl⟩ ?_ ?_
      · rintro g σ' H2 N2 lg ⟨v2, v3, rfl⟩ e2 hz2 hN2
        have hc2 := hc1.mono e2
        refine s_when (et_B (ev_meet hc2 (ev_var rfl) (ev_var rfl) (ev_var rfl) lf lg)) (fun b H3 e3 => ?_) (fun b H3 e3 => ?_)
        · refine q_asg (ev_fn (ea_cons (ev_var rfl) (ea_cons (ev_var rfl) (ea_cons (ev_var rfl) ea_nil))) (spV_go ⟨a, c, f, g, rfl, hc2.mono e3, lf, lg, beq_iff_eq.mp b, rfl⟩)) fun H4 e4 => ?_
          refine s_when (et_test (ev_neN (j := 0) (ev_var rfl) ev_c)) (fun b2 H5 e5 => ?_) (fun b2 H5 e5 => ?_)
          · have n : ¬ pf c f g = 0 := by simpa using b2
            have r1 := hz _ (hz2 [pf c f g, f, g] (by rw [if_pos b, if_neg n]))
            refine s_retL (el_lst (ea_cons (ev_var rfl) (ea_cons (ev_var rfl) (ea_cons (ev_var rfl) ea_nil))) (by show 3 ≤ 100000; decide)) fun p H6 hp e6 h6 => ?_
            exact k.go ((((e1.trans e2).trans e3).trans e4).trans e5) hp e6 (by rw [show fp c = some [pf c f g, f, g] from r1]; exact h6)
          · have n : pf c f g = 0 := by simpa using b2
            exact hN2 _ _ ⟨_, _, rfl⟩ ((e3.trans e4).trans e5) (by rw [if_pos b, if_pos n])
        · exact hN2 _ _ ⟨_, _, rfl⟩ e3 (if_neg (by rw [b]; decide))
      · rintro σ' H2 ⟨v2, v3, rfl⟩ e2 hn
        exact hN _ _ ⟨_, _, _, rfl⟩ e2 hn
    · rintro σ' H1 ⟨v1, v2, v3, rfl⟩ e1 hn
      refine s_retL (el_lst (ea_cons ev_c ea_nil) (by show 1 ≤ 100000; decide)) fun p H6 hp e6 h6 => ?_
      exact k.go e1 hp e6 (by rw [show fp c = none from hn]; exact h6)
theorem ok_same_both_ways (T : Txt K mg A) : FnOk P w K mg base CX0 3 A.f_same_both_ways A.d_same_both_ways ["category", "f", "g", "h"] (spV (R_same A.C)) := by
  refine T.F_same_both_ways.ok sc_same_both_ways (fun vs H Q E h => ?_) (fun cdv B outer s H vs Q E hr h => ⟨_, (pss_cons (ps_set (i := 4) sc_same_both_ways.nd rfl (Or.inl rfl) (pe_meth (pv 0) T.cl T.m_made (ok_made T) (hr.mono (by decide)) T.bd_made .nil pass0 (pa_cons (pv 1) (pa_cons (pv 2) pa_nil))))
    (pss_cons (ps_set (i := 5) sc_same_both_ways.nd rfl (Or.inl rfl) (pe_meth (pv 0) T.cl T.m_made (ok_made T) (hr.mono (by decide)) T.bd_made .nil pass0 (pa_cons (pv 2) (pa_cons (pv 3) pa_nil))))
    (pss_one (ps_ret (pe_cmpR op_eq (pe_meth (pv 0) T.cl T.m_made (ok_made T) (hr.mono (by decide)) T.bd_made .nil pass0 (pa_cons (pv 4) (pa_cons (pv 3) pa_nil))) (pe_meth (pv 0) T.cl T.m_made (ok_made T) (hr.mono (by decide)) T.bd_made .nil pass0 (pa_cons (pv 1) (pa_cons (pv 5) pa_nil))) (nomark _)))))), ?_⟩)
  · obtain ⟨_, _, _, ⟨a, c, f, g, h, rfl, _⟩, _⟩ := h
    rfl
  · obtain ⟨H0, v, e, ⟨a, c, f, g, h, rfl, hc, np, lf, lg, lh, m1, m2, rfl⟩, k⟩ := h
    have hc := hc.mono e
    obtain ⟨p, ep, lp, fp1, tp1⟩ := np f g lf lg m1
    obtain ⟨q, eq, lq, fq1, tq1⟩ := np g h lg lh m2
    refine q_asg (ev_is (ev_made hc (ev_var rfl) (ev_var rfl) (ev_var rfl) m1) (congrArg optV ep)) fun H1 e1 => ?_
    refine q_asg (ev_is (ev_made (hc.mono e1) (ev_var rfl) (ev_var rfl) (ev_var rfl) m2) (congrArg optV eq)) fun H2 e2 => ?_
    have hc2 := hc.mono (e1.trans e2)
    refine s_ret (ev_is (ev_op (ev_made hc2 (ev_var rfl) (ev_var rfl) (ev_var rfl) (tp1.trans m2)) (ev_made hc2 (ev_var rfl) (ev_var rfl) (ev_var rfl) (m1.trans fq1.symm)) (rv_eq ?_)) ?_) fun H3 e3 => k H3 ((e1.trans e2).trans e3)
    · cases after c p h <;> cases after c f q <;> rfl
    · unfold same3
      rw [ep, eq]
      show _ = V.bl (decide (after c p h = after c f q))
      congr 1
      have inj : ∀ x y : Option Nat, (optV x = optV y) = (x = y) := by
        intro x y
        cases x <;> cases y <;> simp [optV] <;> omega
      simp only [inj]
theorem ok_first_fault_of_threes (T : Txt K mg A) : FnOk P w K mg base CX0 4 A.f_first_fault_of_threes A.d_first_fault_of_threes ["category"] (spL (R_threes A.C)) := by
  refine T.F_first_fault_of_threes.ok sc_first_fault_of_threes (fun vs H Q E h => ?_) (fun cdv B outer s H vs Q E hr h => ⟨_, (pss_cons (ps_for PassesOwn.never rfl (pi_range1 rfl T.b_range (pa_cons (pe_meth0 (pv 0) T.cl T.m_arrow_count (ok_arrow_count T) (hr.mono (by decide)) T.bd_arrow_count .nil pass0) pa_nil)) (pg_name (i := 1) sc_first_fault_of_threes.nd rfl (Or.inl rfl))
    (pss_one (ps_for PassesOwn.never rfl (pi_range1 rfl T.b_range (pa_cons (pe_meth0 (pv 0) T.cl T.m_arrow_count (ok_arrow_count T) (hr.mono (by decide)) T.bd_arrow_count .nil pass0) pa_nil)) (pg_name (i := 2) sc_first_fault_of_threes.nd rfl (Or.inl rfl))
    (pss_one (ps_for PassesOwn.never rfl (pi_range1 rfl T.b_range (pa_cons (pe_meth0 (pv 0) T.cl T.m_arrow_count (ok_arrow_count T) (hr.mono (by decide)) T.bd_arrow_count .nil pass0) pa_nil)) (pg_name (i := 3) sc_first_fault_of_threes.nd rfl (Or.inl rfl))
    (pss_one (ps_if (PW.pt (pw_and (pt_val (pe_meth (pv 0) T.cl T.m_meet (ok_meet T) (hr.mono (by decide)) T.bd_meet .nil pass0 (pa_cons (pv 1) (pa_cons (pv 2) pa_nil)))) (pw_and1 (pt_val (pe_meth (pv 0) T.cl T.m_meet (ok_meet T) (hr.mono (by decide)) T.bd_meet .nil pass0 (pa_cons (pv 2) (pa_cons (pv 3) pa_nil))))))) (pss_one (ps_if (pt_not (pt_val (pe_call (ok_same_both_ways T) (hr.mono (by decide)) rfl T.g_same_both_ways T.F_same_both_ways.kp T.bd_same_both_ways .nil pass0 (pa_cons (pv 0) (pa_cons (pv 1) (pa_cons (pv 2) (pa_cons (pv 3) pa_nil))))))) (pss_one (ps_ret (pe_lst (pa_cons (pe_glob (v := .int (3)) rfl T.c_NOT_THE_SAME.choose_spec ⟨_, rfl⟩) (pa_cons (pv 1) (pa_cons (pv 2) (pa_cons (pv 3) pa_nil))))))) pss_nil)) pss_nil)))))))
    (pss_one (ps_ret (pe_lst (pa_cons pe_int pa_nil))))), ?_⟩)
  · obtain ⟨_, _, _, ⟨a, c, rfl, _⟩, _⟩ := h
    rfl
  · obtain ⟨H0, v, e, ⟨a, c, rfl, hc, np, rfl⟩, k⟩ := h
    have hc := hc.mono e
    have l9 := hc.wf.l9
    refine q_findR (fun f => (List.range c.arrows.length).findSome? fun g => (List.range c.arrows.length).findSome? fun h =>
        if (to_ c f == from_ c g) = true ∧ (to_ c g == from_ c h) = true then (if same3 c f g h = true then none else some [3, f, g, h]) else none)
      (fun σ => ∃ v1 v2 v3, σ = [some (.ref a), v1, v2, v3]) (ea_cons (ev_arrow_count hc (ev_var rfl)) ea_nil) (by omega) ⟨_, _, _, rfl⟩ ?_ ?_
    · rintro f σ' H1 N lf ⟨v1, v2, v3, rfl⟩ e1 hz hN
      have hc1 := hc.mono e1
      refine s_findR (fun g => (List.range c.arrows.length).findSome? fun h =>
        if (to_ c f == from_ c g) = true ∧ (to_ c g == from_ c h) = true then (if same3 c f g h = true then none else some [3, f, g, h]) else none)
        (fun σ => ∃ v2 v3, σ = [some (.ref a), some (.int (f : Int)), v2, v3]) (ea_cons (ev_arrow_count hc1 (ev_var rfl)) ea_nil) (by omega) ⟨_, _, rfl⟩ ?_ ?_
      · rintro g σ' H2 N2 lg ⟨v2, v3, rfl⟩ e2 hz2 hN2
        have hc2 := hc1.mono e2
        refine s_findR (fun h => if (to_ c f == from_ c g) = true ∧ (to_ c g == from_ c h) = true then (if same3 c f g h = true then none else some [3, f, g, h]) else none)
          (fun σ => ∃ v3, σ = [some (.ref a), some (.int (f : Int)), some (.int (g : Int)), v3]) (ea_cons (ev_arrow_count hc2 (ev_var rfl)) ea_nil) (by omega) ⟨_, rfl⟩ ?_ ?_
        · rintro h σ' H3 N3 lh ⟨v3, rfl⟩ e3 hz3 hN3
          have hc3 := hc2.mono e3
          refine s_when (et_and (et_B (ev_meet hc3 (ev_var rfl) (ev_var rfl) (ev_var rfl) lf lg)) (fun _ => et_B (ev_meet hc3 (ev_var rfl) (ev_var rfl) (ev_var rfl) lg lh))) (fun b H4 e4 => ?_) (fun b H4 e4 => ?_)
          · rw [Bool.and_eq_true] at b
            refine s_when (et_not (et_B (ev_fn (ea_cons (ev_var rfl) (ea_cons (ev_var rfl) (ea_cons (ev_var rfl) (ea_cons (ev_var rfl) ea_nil)))) (spV_go ⟨a, c, f, g, h, rfl, hc3.mono e4, np, lf, lg, lh, beq_iff_eq.mp b.1, beq_iff_eq.mp b.2, rfl⟩)))) (fun b2 H5 e5 => ?_) (fun b2 H5 e5 => ?_)
            · have n : ¬ same3 c f g h = true := by simpa using b2
              have r1 := hz _ (hz2 _ (hz3 [3, f, g, h] (by rw [if_pos b, if_neg n])))
              refine s_retL (el_lst (ea_cons ev_c (ea_cons (ev_var rfl) (ea_cons (ev_var rfl) (ea_cons (ev_var rfl) ea_nil)))) (by show 4 ≤ 100000; decide)) fun p H6 hp e6 h6 => ?_
              exact k.go ((((e1.trans e2).trans e3).trans e4).trans e5) hp e6 (by rw [show ft c = some [3, f, g, h] from r1]; exact h6)
            · have n : same3 c f g h = true := by simpa using b2
              exact hN3 _ _ ⟨_, rfl⟩ (e4.trans e5) (by rw [if_pos b, if_pos n])
          · exact hN3 _ _ ⟨_, rfl⟩ e4 (if_neg fun z => by rw [z.1, z.2] at b; cases b)
        · rintro σ' H3 ⟨v3, rfl⟩ e3 hn
          exact hN2 _ _ ⟨_, _, rfl⟩ e3 hn
      · rintro σ' H2 ⟨v2, v3, rfl⟩ e2 hn
        exact hN _ _ ⟨_, _, _, rfl⟩ e2 hn
    · rintro σ' H1 ⟨v1, v2, v3, rfl⟩ e1 hn
      refine s_retL (el_lst (ea_cons ev_c ea_nil) (by show 1 ≤ 100000; decide)) fun p H6 hp e6 h6 => ?_
      exact k.go e1 hp e6 (by rw [show ft c = none from hn]; exact h6)
theorem ok_first_fault (T : Txt K mg A) : FnOk P w K mg base CX0 5 A.f_first_fault A.d_first_fault ["category"] (spL (R_first_fault A.C)) := by
  refine T.F_first_fault.ok sc_first_fault (fun vs H Q E h => ?_) (fun cdv B outer s H vs Q E hr h => ⟨_, (pss_cons (ps_set (i := 1) sc_first_fault.nd rfl (Or.inl rfl) (pe_call (ok_first_fault_of_pairs T) (hr.mono (by decide)) rfl T.g_first_fault_of_pairs T.F_first_fault_of_pairs.kp T.bd_first_fault_of_pairs .nil pass0 (pa_cons (pv 0) pa_nil)))
    (pss_cons (ps_if (pt_cmpR (neDK (K := K) rfl hr.units) (pv 1) (pe_lst (pa_cons pe_int pa_nil)) (nomark _)) (pss_one (ps_ret (pv 1))) pss_nil)
    (pss_one (ps_ret (pe_call (ok_first_fault_of_threes T) (hr.mono (by decide)) rfl T.g_first_fault_of_threes T.F_first_fault_of_threes.kp T.bd_first_fault_of_threes .nil pass0 (pa_cons (pv 0) pa_nil)))))), ?_⟩)
  · obtain ⟨_, _, _, ⟨a, c, rfl, _⟩, _⟩ := h
    rfl
  · obtain ⟨H0, v, e, ⟨a, c, rfl, hc, rfl⟩, k⟩ := h
    have hc := hc.mono e
    rw [fault_eq] at k
    refine q_asgL (el_fn (ea_cons (ev_var rfl) ea_nil) (spL_go ⟨a, c, rfl, hc, rfl⟩)) fun p H1 hp e1 h1 => ?_
    refine q_when (et_test (ev_opL (ev_var rfl) (el_lst (ea_cons ev_c ea_nil) (by show 1 ≤ 100000; decide)) fun q H2 h2 e2 => rv_neNats (r := [0]) (e2 p _ h1) h2)) (fun b H2 e2 => ?_) (fun b H2 e2 => ?_)
    · have n : ¬ (fp c).getD [0] = [0] := by simpa using b
      cases q : fp c with
      | none => exact (n (by rw [q]; rfl)).elim
      | some l =>
        rw [q] at k h1
        exact s_ret (ev_var rfl) fun H3 e3 => k p H3 hp ((e1.trans e2).trans e3) ((e2.trans e3) p _ h1)
    · have n : (fp c).getD [0] = [0] := by simpa using b
      cases q : fp c with
      | some l => exact (fp_ne q (by rw [q] at n; exact n)).elim
      | none =>
        rw [q] at k
        refine s_retL (el_fn (ea_cons (ev_var rfl) ea_nil) (spL_go ⟨a, c, rfl, hc.mono (e1.trans e2), noP_of hc.wf q, rfl⟩)) fun p2 H3 hp2 e3 h3 => ?_
        exact k.go (e1.trans e2) hp2 e3 h3
theorem ok_is_category (T : Txt K mg A) : FnOk P w K mg base CX0 6 A.f_is_category A.d_is_category ["category"] (spV (R_is_category A.C)) := by
  refine T.F_is_category.ok sc_is_category (fun vs H Q E h => ?_) (fun cdv B outer s H vs Q E hr h => ⟨_, (pss_one (ps_ret (pe_cmpR (eqDK (K := K) rfl hr.units) (pe_call (ok_first_fault T) (hr.mono (by decide)) rfl T.g_first_fault T.F_first_fault.kp T.bd_first_fault .nil pass0 (pa_cons (pv 0) pa_nil)) (pe_lst (pa_cons pe_int pa_nil)) (nomark _)))), ?_⟩)
  · obtain ⟨_, _, _, ⟨a, c, rfl, _⟩, _⟩ := h
    rfl
  · obtain ⟨H0, v, e, ⟨a, c, rfl, hc, rfl⟩, k⟩ := h
    exact s_ret (ev_is (ev_opLL (el_fn (ea_cons (ev_var rfl) ea_nil) (spL_go ⟨a, c, rfl, hc.mono e, rfl⟩)) (el_lst (ea_cons ev_c ea_nil) (by show 1 ≤ 100000; decide)) fun p q H2 h1 h2 e2 => rv_eqNats (r := [0]) h1 h2) (by rw [fault_is])) k
theorem ev_is_category (hc : CatAt A.C H a c) (h : Ev ta σ H (.ref a)) : Ev (tCall (spV (R_is_category A.C)) [] E (tCons ta tNil)) σ H (.bl (Fc01.fault c).isNone) := ev_fn (ea_cons h ea_nil) (spV_go ⟨a, c, rfl, hc, rfl⟩)
end
end Arr
-- text B3
set_option Elab.async false
set_option linter.unusedVariables false
set_option maxRecDepth 100000
set_option maxHeartbeats 4000000
/-! # what makes and changes a category -/
namespace Arr
open PySem PySem.Spec PyProof.Rows L2 Evl
open Fc01 (from_ to_ after hom)
def Fr (H H' : Hp) (xs : List Addr) : Prop := ∀ b o, H b = some o → ¬ b ∈ xs → H' b = some o
/-- what the entries told are to the category -/
def MOk (k : Nat) (c : Cat) (m : Mm) : Prop := (m.map (·.1)).Nodup ∧ (∀ f g, look m f g = look c.makes f g) ∧ m.length ≤ k ∧ Wf c
theorem catAt_of {C : Addr} {H : Hp} {a dx ab ae at_ : Addr} {c : Cat} {m : Mm} {k : Nat} (hF : CatF C H a dx ab ae at_ c m) (hm : MOk k c m) (hk : k ≤ 100) : CatAt C H a c := ⟨dx, ab, ae, at_, m, hF, hm.1, hm.2.1, Nat.le_trans hm.2.2.1 hk, hm.2.2.2⟩
theorem ne1 : ¬ ("thing_count" : Str) = "begins" := by decide +kernel
theorem ne2 : ¬ ("thing_count" : Str) = "ends" := by decide +kernel
theorem ne3 : ¬ ("thing_count" : Str) = "told" := by decide +kernel
theorem ne4 : ¬ ("begins" : Str) = "ends" := by decide +kernel
theorem ne5 : ¬ ("begins" : Str) = "told" := by decide +kernel
theorem ne6 : ¬ ("ends" : Str) = "told" := by decide +kernel
theorem putF_new {n : Nat} {ab ae at_ : Addr} : putF "told" (.ref at_) (putF "ends" (.ref ae) (putF "begins" (.ref ab) (putF "thing_count" (.int (n : Int)) []))) = cF n ab ae at_ := by
  simp only [putF, if_neg ne1, if_neg ne2, if_neg ne3, if_neg ne4, if_neg ne5, if_neg ne6]
  rfl
theorem putF_begins {n : Nat} {ab ae at_ p : Addr} : putF "begins" (.ref p) (cF n ab ae at_) = cF n p ae at_ := by
  simp only [cF, putF, if_neg ne1, if_true]
theorem putF_ends {n : Nat} {ab ae at_ p : Addr} : putF "ends" (.ref p) (cF n ab ae at_) = cF n ab p at_ := by
  simp only [cF, putF, if_neg ne2, if_neg ne4, if_true]
theorem wf_begin {n : Nat} (h1 : 1 ≤ n) (h4 : n ≤ 4) : Wf (Fc01.begin_ n) := by
  refine ⟨h1, h4, by simp [Fc01.begin_], by simp [Fc01.begin_]; omega, fun x hx => ?_, fun f p hp => ?_, fun f g h e => ?_⟩
  · have hx : x < n := hx
    simp [Fc01.begin_, hx]
  · show p.1 < n ∧ p.2 < n
    have hp : ((List.range n).map fun x => (x, x))[f]? = some p := hp
    rw [List.getElem?_map] at hp
    by_cases q : f < n
    · rw [List.getElem?_range q] at hp
      cases hp
      exact ⟨q, q⟩
    · rw [List.getElem?_eq_none (by simpa using q)] at hp
      cases hp
  · cases e
theorem mok_begin {n : Nat} (h1 : 1 ≤ n) (h4 : n ≤ 4) : MOk 0 (Fc01.begin_ n) [] := ⟨by simp, fun _ _ => rfl, Nat.le_refl _, wf_begin h1 h4⟩
theorem rgV_beg (n : Nat) : rgV 0 (n : Int) = begV (Fc01.begin_ n) := by
  unfold rgV begV Fc01.begin_
  rw [List.map_map]
  have e : ((n : Int) - 0).toNat = n := by omega
  rw [e]
  congr 1
  funext i
  show V.int (0 + (i : Int)) = V.int (i : Int)
  rw [Int.zero_add]
theorem rgV_end (n : Nat) : rgV 0 (n : Int) = endV (Fc01.begin_ n) := by
  rw [rgV_beg]
  unfold begV endV Fc01.begin_
  rw [List.map_map, List.map_map]
  rfl
/-! promises -/
def spInit (C : Addr) : Sp := fun vs H Q _ => ∃ (p dx : Addr) (n : Nat), vs = [.ref p, .int (n : Int)] ∧ n ≤ 4 ∧ H p = some (.ins C dx []) ∧
  ∀ H' ab ae at_, H ab = none → H ae = none → H at_ = none → CatF C H' p dx ab ae at_ (Fc01.begin_ n) [] → Fr H H' [p] → Q .non H'
def spAdd (C : Addr) : Sp := fun vs H Q _ => ∃ (a dx ab ae at_ : Addr) (c : Cat) (m : Mm) (k x y : Nat), vs = [.ref a, .int (x : Int), .int (y : Int)] ∧ CatF C H a dx ab ae at_ c m ∧ MOk k c m ∧ k ≤ 100 ∧ x < c.n ∧ y < c.n ∧ c.arrows.length < 9 ∧
  ∀ H', CatF C H' a dx ab ae at_ ⟨c.n, c.arrows ++ [(x, y)], c.makes⟩ m → Fr H H' [ab, ae] → Q (.int (c.arrows.length : Int)) H'
/-- the dict's own store -/
def putM (m : Mm) (f g h : Nat) : Mm := if (m.any fun x => decide (x.1 = (f, g))) = true then m.map (fun x => if x.1 = (f, g) then (x.1, h) else x) else m ++ [((f, g), h)]
def spTell (C : Addr) : Sp := fun vs H Q _ => ∃ (a dx ab ae at_ : Addr) (c : Cat) (m : Mm) (f g h : Nat), vs = [.ref a, .int (f : Int), .int (g : Int), .int (h : Int)] ∧ CatF C H a dx ab ae at_ c m ∧ m.length < 1000 ∧
  ∀ H', CatF C H' a dx ab ae at_ c (putM m f g h) → Fr H H' [at_] → Q .non H'
def revM (m : Mm) : Mm := m.map fun x => ((x.1.2, x.1.1), x.2)
def spTurned (C : Addr) : Sp := fun vs H Q _ => ∃ (a dx ab ae at_ : Addr) (c : Cat) (m : Mm) (k : Nat), vs = [.ref a] ∧ CatF C H a dx ab ae at_ c m ∧ MOk k c m ∧ k ≤ 100 ∧
  ∀ H' a' dx' ab' ae' at', H a' = none → H ab' = none → H ae' = none → H at' = none → CatF C H' a' dx' ab' ae' at' (Fc01.turned c) (revM m) → Ex H H' → Q (.ref a') H'
theorem putK_enc (m : Mm) (f g h : Nat) : putK (encM m) (key f g) (.int (h : Int)) = encM (putM m f g h) := by
  have e1 : ((encM m).any fun kv => decide (kv.1 = key f g)) = m.any fun x => decide (x.1 = (f, g)) := by
    unfold encM
    rw [List.any_map]
    congr 1
    funext x
    show decide (key x.1.1 x.1.2 = key f g) = decide (x.1 = (f, g))
    congr 1
    rw [key_inj]
    exact propext ⟨fun z => by rw [← z.1, ← z.2], fun z => by rw [z]; exact ⟨rfl, rfl⟩⟩
  unfold putK putM
  rw [e1]
  by_cases q : (m.any fun x => decide (x.1 = (f, g))) = true
  · rw [if_pos q, if_pos q]
    unfold encM
    rw [List.map_map, List.map_map]
    congr 1
    funext x
    show (if key x.1.1 x.1.2 = key f g then (key x.1.1 x.1.2, V.int (h : Int)) else (key x.1.1 x.1.2, V.int (x.2 : Int))) = _
    by_cases z : x.1 = (f, g)
    · rw [if_pos (by rw [z])]
      show _ = (fun y : (Nat × Nat) × Nat => (key y.1.1 y.1.2, V.int (y.2 : Int))) (if x.1 = (f, g) then (x.1, h) else x)
      rw [if_pos z]
    · rw [if_neg (by rw [key_inj]; exact fun w => z (by rw [← w.1, ← w.2]))]
      show _ = (fun y : (Nat × Nat) × Nat => (key y.1.1 y.1.2, V.int (y.2 : Int))) (if x.1 = (f, g) then (x.1, h) else x)
      rw [if_neg z]
  · rw [if_neg q, if_neg q]
    unfold encM
    rw [List.map_append]
    rfl
theorem putM_new {m : Mm} {f g h : Nat} (n : ¬ (f, g) ∈ m.map (·.1)) : putM m f g h = m ++ [((f, g), h)] := by
  unfold putM
  refine if_neg fun z => n ?_
  obtain ⟨x, hx, e⟩ := List.any_eq_true.mp z
  exact List.mem_map.mpr ⟨x, hx, of_decide_eq_true e⟩
theorem encM_len (m : Mm) : (encM m).length = m.length := by
  unfold encM
  rw [List.length_map]
section
variable {P : Program} {w : World} {K : PySem.W.Frag} {mg : Str → Option Value} {base : Heap} {A : Ads} {σ : L2.St} {H : Hp} {ta tb td te tf tg : TE} {a : Addr} {c : Cat} {E : XK}
theorem ok___init__ (T : Txt K mg A) : FnOk P w K mg base CX0 1 A.f___init__ A.d___init__ ["self", "thing_count"] (spInit A.C) := by
  refine T.F___init__.ok sc___init__ (fun vs H Q E h => ?_) (fun cdv B outer s H vs Q E hr h => ⟨_, (pss_cons (setfldK (K := K) rfl (pv 0) (pv 1) rfl)
    (pss_cons (setfldK (K := K) rfl (pv 0) (pe_listRg rfl (by rfl) T.b_list (prg_1 (by rfl) T.b_range (pv 1))) rfl)
    (pss_cons (setfldK (K := K) rfl (pv 0) (pe_listRg rfl (by rfl) T.b_list (prg_1 (by rfl) T.b_range (pv 1))) rfl)
    (pss_one (setfldK (K := K) rfl (pv 0) pe_dnewT rfl))))), ?_⟩)
  · obtain ⟨_, _, _, rfl, _⟩ := h
    rfl
  · obtain ⟨p, dx, n, rfl, hn, hp, k⟩ := h
    refine ⟨_, rfl, _, rfl, p, A.C, dx, [], rfl, hp, T.cl, T.n_thing_count, (by show 0 < 1000; decide), ?_⟩
    refine ⟨_, rfl, (n : Int), rfl, RgOk.of_le (by omega) (by omega) (by omega) (by omega), fun ab hab => ?_⟩
    have n1 : p ≠ ab := fun z => by rw [z, ← z, upd_same] at hab; cases hab
    refine ⟨_, rfl, p, A.C, dx, _, rfl, (upd_ne n1).trans upd_same, T.cl, T.n_begins, (by show 1 < 1000; decide), ?_⟩
    refine ⟨_, rfl, (n : Int), rfl, RgOk.of_le (by omega) (by omega) (by omega) (by omega), fun ae hae => ?_⟩
    have n2 : p ≠ ae := fun z => by rw [z, ← z, upd_same] at hae; cases hae
    rw [upd_ne n2.symm] at hae
    have n3 : ab ≠ ae := fun z => by rw [z, ← z, upd_same] at hae; cases hae
    refine ⟨_, rfl, p, A.C, dx, _, rfl, (upd_ne n2).trans upd_same, T.cl, T.n_ends, ?_, ?_⟩
    · show (putF "begins" (V.ref ab) (putF "thing_count" (V.int (n : Int)) [])).length < 1000
      simp only [putF, if_neg ne1]
      show 2 < 1000
      decide
    intro at_ hat
    have n4 : p ≠ at_ := fun z => by rw [z, ← z, upd_same] at hat; cases hat
    rw [upd_ne n4.symm] at hat
    have n5 : ae ≠ at_ := fun z => by rw [z, ← z, upd_same] at hat; cases hat
    rw [upd_ne n5.symm, upd_ne n4.symm] at hat
    have n6 : ab ≠ at_ := fun z => by rw [z, ← z, upd_same] at hat; cases hat
    refine ⟨_, rfl, p, A.C, dx, _, rfl, (upd_ne n4).trans upd_same, T.cl, T.n_told, ?_, ?_⟩
    · show (putF "ends" (V.ref ae) (putF "begins" (V.ref ab) (putF "thing_count" (V.int (n : Int)) []))).length < 1000
      simp only [putF, if_neg ne1, if_neg ne2, if_neg ne4]
      show 3 < 1000
      decide
    rw [upd_ne n6.symm, upd_ne n4.symm] at hat
    rw [upd_ne n3.symm, upd_ne n2.symm] at hae
    rw [upd_ne n1.symm] at hab
    refine k _ ab ae at_ hab hae hat ⟨?_, ?_, ?_, ?_, n3⟩ fun b o e nb => ?_
    · rw [upd_same]
      exact congrArg (fun q => some (HO.ins A.C dx q)) putF_new
    · rw [upd_ne n1.symm, upd_ne n6, upd_ne n1.symm, upd_ne n3, upd_ne n1.symm, upd_same, rgV_beg]
    · rw [upd_ne n2.symm, upd_ne n5, upd_ne n2.symm, upd_same, rgV_end]
    · rw [upd_ne n4.symm, upd_same]
      rfl
    · have nb : b ≠ p := fun z => nb (by rw [z]; exact List.mem_singleton.mpr rfl)
      rw [upd_ne nb, upd_ne (ne_of_none e hat), upd_ne nb, upd_ne (ne_of_none e hae), upd_ne nb, upd_ne (ne_of_none e hab), upd_ne nb]
      exact e
theorem wf_add {c : Cat} (wf : Wf c) {x y : Nat} (hx : x < c.n) (hy : y < c.n) (hl : c.arrows.length < 9) : Wf ⟨c.n, c.arrows ++ [(x, y)], c.makes⟩ := by
  refine ⟨wf.n1, wf.n4, ?_, ?_, fun z hz => ?_, fun f p hp => ?_, fun f g h e => ?_⟩
  · show c.n ≤ (c.arrows ++ [(x, y)]).length
    rw [List.length_append]
    have := wf.len
    omega
  · show (c.arrows ++ [(x, y)]).length ≤ 9
    rw [List.length_append]
    show c.arrows.length + 1 ≤ 9
    omega
  · have hz : z < c.n := hz
    have := wf.len
    show (c.arrows ++ [(x, y)])[z]? = some (z, z)
    rw [List.getElem?_append_left (by omega)]
    exact wf.own z hz
  · have hp : (c.arrows ++ [(x, y)])[f]? = some p := hp
    by_cases q : f < c.arrows.length
    · rw [List.getElem?_append_left q] at hp
      exact wf.ends f p hp
    · rw [List.getElem?_append_right (by omega)] at hp
      have q2 : f - c.arrows.length = 0 := by
        by_cases z : f - c.arrows.length = 0
        · exact z
        · rw [List.getElem?_eq_none (by simp; omega)] at hp
          cases hp
      rw [q2] at hp
      cases hp
      exact ⟨hx, hy⟩
  · have := wf.mks f g h e
    show h < (c.arrows ++ [(x, y)]).length
    rw [List.length_append]
    omega
theorem mok_add {k : Nat} {c : Cat} {m : Mm} (h : MOk k c m) {x y : Nat} (hx : x < c.n) (hy : y < c.n) (hl : c.arrows.length < 9) : MOk k ⟨c.n, c.arrows ++ [(x, y)], c.makes⟩ m := ⟨h.1, h.2.1, h.2.2.1, wf_add h.2.2.2 hx hy hl⟩
theorem ok_add_arrow (T : Txt K mg A) : FnOk P w K mg base CX0 2 A.f_add_arrow A.d_add_arrow ["self", "x", "y"] (spAdd A.C) := by
  refine T.F_add_arrow.ok sc_add_arrow (fun vs H Q E h => ?_) (fun cdv B outer s H vs Q E hr h => ⟨_, (pss_cons (ps_expr (pe_bm PySem.F.plainAttrs_list PySem.F.slot_list_append PySem.F.type_list_append mt_append (fldK (K := K) rfl (pv 0) rfl) (pa_cons (pv 1) pa_nil)))
    (pss_cons (ps_expr (pe_bm PySem.F.plainAttrs_list PySem.F.slot_list_append PySem.F.type_list_append mt_append (fldK (K := K) rfl (pv 0) rfl) (pa_cons (pv 2) pa_nil)))
    (pss_one (ps_ret (pe_op op_sub (pe_meth0 (pv 0) T.cl T.m_arrow_count (ok_arrow_count T) (hr.mono (by decide)) T.bd_arrow_count .nil pass0) pe_int))))), ?_⟩)
  · obtain ⟨_, _, _, _, _, _, _, _, _, _, rfl, _⟩ := h
    rfl
  · obtain ⟨a, dx, ab, ae, at_, c, m, k, x, y, rfl, hF, hm, hk, hx, hy, hl, kk⟩ := h
    have lb : (begV c).length < 100000 := by rw [begV_len]; omega
    have le : (endV c).length < 100000 := by unfold endV; rw [List.length_map]; omega
    refine q_app (K := K) hF.beg (ev_fld (ev_var rfl) hF.obj T.cl T.n_begins cF_begins) (ev_var rfl) lb fun H1 e1 => ?_
    have na : a ≠ ab := ne_of hF.obj hF.beg (fun z => nomatch z)
    have nt : at_ ≠ ab := ne_of hF.tol hF.beg (fun z => nomatch z)
    have ho : upd H1 ab (.lst (begV c ++ [V.int (x : Int)])) a = some (.ins A.C dx (cF c.n ab ae at_)) := by rw [upd_ne na]; exact e1 _ _ hF.obj
    have he : upd H1 ab (.lst (begV c ++ [V.int (x : Int)])) ae = some (.lst (endV c)) := by rw [upd_ne hF.ne.symm]; exact e1 _ _ hF.en
    refine q_app (K := K) he (ev_fld (ev_var rfl) ho T.cl T.n_ends cF_ends) (ev_var rfl) le fun H2 e2 => ?_
    have na2 : a ≠ ae := ne_of hF.obj hF.en (fun z => nomatch z)
    have nt2 : at_ ≠ ae := ne_of hF.tol hF.en (fun z => nomatch z)
    have F2 : CatF A.C (upd H2 ae (.lst (endV c ++ [V.int (y : Int)]))) a dx ab ae at_ ⟨c.n, c.arrows ++ [(x, y)], c.makes⟩ m := by
      refine ⟨?_, ?_, ?_, ?_, hF.ne⟩
      · rw [upd_ne na2]
        exact e2 _ _ ho
      · rw [upd_ne hF.ne]
        refine (e2 _ _ upd_same).trans ?_
        unfold begV
        rw [List.map_append]
        rfl
      · rw [upd_same]
        unfold endV
        rw [List.map_append]
        rfl
      · rw [upd_ne nt2]
        refine e2 _ _ ?_
        rw [upd_ne nt]
        exact e1 _ _ hF.tol
    have hc := catAt_of F2 (mok_add hm hx hy hl) hk
    refine s_ret (ev_is (ev_op (ev_arrow_count hc (ev_var rfl)) ev_c rv_I0) ?_) fun H3 e3 => kk H3 (F2.mono e3) fun b o e nb => ?_
    · show V.int ((((c.arrows ++ [(x, y)]).length : Nat) : Int) - 1) = V.int (c.arrows.length : Int)
      rw [List.length_append]
      congr 1
      show ((c.arrows.length + 1 : Nat) : Int) - 1 = _
      omega
    · have n1 : b ≠ ab := fun z => nb (by rw [z]; simp)
      have n2 : b ≠ ae := fun z => nb (by rw [z]; simp)
      refine e3 _ _ ?_
      rw [upd_ne n2]
      refine e2 _ _ ?_
      rw [upd_ne n1]
      exact e1 _ _ e
theorem ok_tell (T : Txt K mg A) : FnOk P w K mg base CX0 1 A.f_tell A.d_tell ["self", "f", "g", "h"] (spTell A.C) := by
  refine T.F_tell.ok sc_tell (fun vs H Q E h => ?_) (fun cdv B outer s H vs Q E hr h => ⟨_, (pss_one (ps_dput (hu_of hr) (fldK (K := K) rfl (pv 0) rfl) (pe_tup (pa_cons (pv 1) (pa_cons (pv 2) pa_nil))) (pv 3) rfl)), ?_⟩)
  · obtain ⟨_, _, _, _, _, _, _, _, _, _, rfl, _⟩ := h
    rfl
  · obtain ⟨a, dx, ab, ae, at_, c, m, f, g, h, rfl, hF, hl, kk⟩ := h
    have sz : (encM m).length < sizeLine := by rw [encM_len]; exact Nat.lt_of_lt_of_le hl (by decide)
    refine ⟨_, rfl, ?_⟩
    refine ev_fld (ev_var rfl) hF.obj T.cl T.n_told cF_told H (Ex.refl H) _ fun H1 e1 => ?_
    refine eu_tup (ea_cons (ev_var rfl) (ea_cons (ev_var rfl) ea_nil)) (by show 2 ≤ 100000; decide) H1 (Ex.refl H1) _ fun p H2 hp e2 h2 => ?_
    have F2 := hF.mono (e1.trans e2)
    refine ⟨at_, _, rfl, DPut.t (k := key f g) F2.tol h2 sz, ?_⟩
    rw [putK_enc]
    refine kk _ ⟨?_, ?_, ?_, upd_same, hF.ne⟩ fun b o e nb => ?_
    · rw [upd_ne (ne_of F2.obj F2.tol (fun z => nomatch z))]
      exact F2.obj
    · rw [upd_ne (ne_of F2.beg F2.tol (fun z => nomatch z))]
      exact F2.beg
    · rw [upd_ne (ne_of F2.en F2.tol (fun z => nomatch z))]
      exact F2.en
    · rw [upd_ne (fun z => nb (by rw [z]; simp))]
      exact (e1.trans e2) _ _ e
end
end Arr
-- text B4
set_option Elab.async false
set_option linter.unusedVariables false
set_option maxRecDepth 100000
set_option maxHeartbeats 4000000
/-! # all arrows turned round -/
namespace Arr
open PySem PySem.Spec PyProof.Rows L2 Evl
open Fc01 (from_ to_ after hom turned)
theorem upd_nn {H : Hp} {a b : Addr} {o : HO} (e : upd H a o b = none) : b ≠ a ∧ H b = none := by
  by_cases q : b = a
  · rw [q, upd_same] at e
    cases e
  · rw [upd_ne q] at e
    exact ⟨q, e⟩
theorem look_revM : ∀ (m : Mm) (f g : Nat), look (revM m) f g = look m g f
  | [], f, g => rfl
  | p :: r, f, g => by
    show look (((p.1.2, p.1.1), p.2) :: revM r) f g = _
    by_cases e : p.1 = (g, f)
    · rw [look_pos e, look_pos (show (p.1.2, p.1.1) = (f, g) by rw [e])]
    · rw [look_neg e, look_neg (show ¬ (p.1.2, p.1.1) = (f, g) from fun z => e (by
        have z1 : p.1.2 = f := congrArg Prod.fst z
        have z2 : p.1.1 = g := congrArg Prod.snd z
        rw [← z1, ← z2])), look_revM r f g]
theorem from_turned (c : Cat) (f : Nat) : from_ (turned c) f = to_ c f := by
  unfold from_ to_ turned
  rw [List.getD_eq_getElem?_getD, List.getD_eq_getElem?_getD, List.getElem?_map]
  cases c.arrows[f]? <;> rfl
theorem to_turned (c : Cat) (f : Nat) : to_ (turned c) f = from_ c f := by
  unfold from_ to_ turned
  rw [List.getD_eq_getElem?_getD, List.getD_eq_getElem?_getD, List.getElem?_map]
  cases c.arrows[f]? <;> rfl
theorem len_turned (c : Cat) : (turned c).arrows.length = c.arrows.length := by
  unfold turned
  rw [List.length_map]
theorem look_turned (c : Cat) (f g : Nat) : look (turned c).makes f g = look c.makes g f := look_revM c.makes f g
theorem at_turned (c : Cat) (f : Nat) : (turned c).arrows[f]? = (c.arrows[f]?).map fun x => (x.2, x.1) := by
  unfold turned
  rw [List.getElem?_map]
theorem wf_turned {c : Cat} (wf : Wf c) : Wf (turned c) := by
  refine ⟨wf.n1, wf.n4, by rw [len_turned]; exact wf.len, by rw [len_turned]; exact wf.l9, fun x hx => ?_, fun f p hp => ?_, fun f g h e => ?_⟩
  · rw [at_turned, wf.own x hx]
    rfl
  · rw [at_turned] at hp
    cases q : c.arrows[f]? with
    | none =>
      rw [q] at hp
      cases hp
    | some u =>
      rw [q] at hp
      cases hp
      exact ⟨(wf.ends f u q).2, (wf.ends f u q).1⟩
  · rw [look_turned] at e
    rw [len_turned]
    exact wf.mks g f h e
theorem nodup_rev {m : Mm} (h : (m.map (·.1)).Nodup) : ((revM m).map (·.1)).Nodup := by
  unfold revM
  rw [List.map_map]
  have e : ((fun x : (Nat × Nat) × Nat => x.1) ∘ fun x => ((x.1.2, x.1.1), x.2)) = (fun p : Nat × Nat => (p.2, p.1)) ∘ fun x : (Nat × Nat) × Nat => x.1 := rfl
  rw [e, ← List.map_map]
  generalize m.map (fun x => x.1) = l at h
  induction l with
  | nil => exact List.nodup_nil
  | cons p r ih =>
    obtain ⟨h1, h2⟩ := List.nodup_cons.mp h
    refine List.nodup_cons.mpr ⟨fun z => h1 ?_, ih h2⟩
    obtain ⟨q, hq, e⟩ := List.mem_map.mp z
    have e1 : q.2 = p.2 := congrArg Prod.fst e
    have e2 : q.1 = p.1 := congrArg Prod.snd e
    have : q = p := Prod.ext e2 e1
    rw [← this]
    exact hq
theorem mok_turned {k : Nat} {c : Cat} {m : Mm} (h : MOk k c m) : MOk k (turned c) (revM m) := by
  refine ⟨nodup_rev h.1, fun f g => ?_, ?_, wf_turned h.2.2.2⟩
  · rw [look_revM, look_turned, h.2.1]
  · unfold revM
    rw [List.length_map]
    exact h.2.2.1
theorem look_at : ∀ {m : Mm}, (m.map (·.1)).Nodup → ∀ {i : Nat} {f g h : Nat}, m[i]? = some ((f, g), h) → look m f g = some h
  | [], _, i, f, g, h, e => by simp at e
  | p :: r, hn, 0, f, g, h, e => by
    have e : p = ((f, g), h) := Option.some.inj e
    rw [e]
    exact look_pos rfl
  | p :: r, hn, i + 1, f, g, h, e => by
    have hn : (p.1 :: r.map (·.1)).Nodup := hn
    obtain ⟨h1, h2⟩ := List.nodup_cons.mp hn
    have e : r[i]? = some ((f, g), h) := e
    rw [look_neg fun z => h1 (by rw [z]; exact List.mem_map.mpr ⟨_, List.mem_of_getElem? e, rfl⟩)]
    exact look_at h2 e
theorem notin_take : ∀ {l : List (Nat × Nat)}, l.Nodup → ∀ {i : Nat} {x : Nat × Nat}, l[i]? = some x → ¬ x ∈ l.take i
  | [], _, i, x, e => by simp at e
  | a :: l, hn, 0, x, e => by simp
  | a :: l, hn, i + 1, x, e => by
    obtain ⟨h1, h2⟩ := List.nodup_cons.mp hn
    have e : l[i]? = some x := e
    intro z
    have z : x ∈ a :: l.take i := z
    rcases List.mem_cons.mp z with rfl | z
    · exact h1 (List.mem_of_getElem? e)
    · exact notin_take h2 e z
section
variable {P : Program} {w : World} {K : PySem.W.Frag} {mg : Str → Option Value} {base : Heap} {A : Ads} {σ : L2.St} {H : Hp} {ta tb td te tf tg : TE} {a : Addr} {c : Cat} {E : XK}
theorem ev_dgetT {d o : Addr} {ob : Obj} {kvs : List (List Key × V)} {k : List Key} {q : Addr} {v : V} (h : Ev ta σ H (.ref d)) (hd : H d = some (.frz ob (.dT kvs))) (hk : Ev tb σ H (.ref q)) (hq : H q = some (.tup (k.map kV))) (hv : valV kvs k = some v) : Ev (tDGet ta tb) σ H v := fun H1 e Q r =>
  h H1 e _ fun H2 e2 => hk H2 (e.trans e2) _ fun H3 e3 => ⟨d, v, rfl, Or.inr ⟨kvs, k, q, Or.inr ⟨ob, ((e.trans e2).trans e3) d _ hd⟩, rfl, ((e.trans e2).trans e3) q _ hq, hv.symm⟩, r H3 (e2.trans e3)⟩
theorem q_fldL {C x dx : Addr} {fs : List (Str × V)} {f : Str} {xs : List V} {D : Ends} {tz : TS} (h : EvL tb σ H xs) (ha : Ev ta σ H (.ref x)) (ho : H x = some (.ins C dx fs)) (hc : Cls K C) (hn : NoAttr K C f) (hl : fs.length < 1000)
    (k : ∀ p H1, H p = none → Ex H H1 → H1 p = some (.lst xs) → tz D σ (upd H1 x (.ins C dx (putF f (.ref p) fs)))) : tSeq (sFld K ta tb f) tz D σ H :=
  h H (Ex.refl H) _ fun p H1 hp e1 h1 => ha H1 e1 _ fun H2 e2 => ⟨x, C, dx, fs, rfl, (e1.trans e2) x _ ho, hc, hn, hl, k p H2 hp (e1.trans e2) (e2 p _ h1)⟩
theorem s_forKT {d : Addr} {ob : Obj} {kvs : List (List Key × V)} {j : Nat} {D : Ends} {tu : TS} (h : Ev td σ H (.ref d)) (hd : H d = some (.frz ob (.dT kvs))) (Pv : Nat → L2.St → Hp → Prop) (h0 : ∀ H1, Ex H H1 → Pv 0 σ H1) (hG : ∀ i σ' H', i ≤ kvs.length → Pv i σ' H' → H' d = some (.frz ob (.dT kvs)))
    (hs : ∀ i k v q σ' H', kvs[i]? = some (k, v) → H' q = some (.tup (k.map kV)) → Pv i σ' H' → tu { D with nx := Pv (i + 1), ct := Pv (i + 1), bk := D.nx } (σ'.set j (some (.ref q))) H') (he : ∀ σ' H', Pv kvs.length σ' H' → D.nx σ' H') : tFor (iKeys td) (gName j) tu D σ H :=
  h H (Ex.refl H) _ fun H1 e => ⟨d, ob, rfl, Or.inr ⟨kvs, e d _ hd, for_it walk_keysT Pv (h0 H1 e) hG (fun i x σ' H' H'' hi p y => by
    obtain ⟨rfl, k, v, q, h1, rfl, h2⟩ := y
    exact hs i k v q σ' _ h1 h2 p) he⟩⟩
/-- a method's call alone, by its promise -/
theorem s_meth {C b dx : Addr} {fs : List (Str × V)} {m : Str} {sp : Sp} {vs : List V} {tr : TA} {D : Ends} (h : Ev ta σ H (.ref b)) (ho : H b = some (.ins C dx fs)) (l : fs.lookup m = none) (ha : EvA tr σ H vs) (k : ∀ H1, Ex H H1 → sp (.ref b :: vs) H1 (fun _ H2 => D.nx σ H2) E) : tDrop (tMeth C m sp [] E ta tr) D σ H :=
  h H (Ex.refl H) _ fun H1 e1 => ⟨b, dx, fs, rfl, e1 b _ ho, l, ha H1 e1 _ fun H2 e2 => by
    rw [List.append_nil]
    exact k H2 (e1.trans e2)⟩
/-- x = C(n) -/
theorem q_mk {C : Addr} {n i : Nat} {D : Ends} {tz : TS} (h : Ev ta σ H (.int (n : Int))) (hn : n ≤ 4)
    (k : ∀ H2 x dx ab ae at_, H x = none → H ab = none → H ae = none → H at_ = none → CatF C H2 x dx ab ae at_ (Fc01.begin_ n) [] → Ex H H2 → tz D (σ.set i (some (.ref x))) H2) : tSeq (tAsg (tMake C (spInit C) [] E (tCons ta tNil)) (gName i)) tz D σ H :=
  h H (Ex.refl H) _ fun H1 e1 => by
    intro x dxx nx ndx nex
    refine ⟨x, dxx, n, rfl, hn, upd_same, fun H2 ab2 ae2 at2 f1 f2 f3 F2 fr => ⟨rfl, ?_⟩⟩
    obtain ⟨_, f1⟩ := upd_nn f1
    obtain ⟨_, f1⟩ := upd_nn f1
    obtain ⟨_, f2⟩ := upd_nn f2
    obtain ⟨_, f2⟩ := upd_nn f2
    obtain ⟨_, f3⟩ := upd_nn f3
    obtain ⟨_, f3⟩ := upd_nn f3
    have e2 : Ex H1 H2 := fun b o e => fr b o (by rw [upd_ne (ne_of_none e nx), upd_ne (ne_of_none e ndx)]; exact e) (fun z => ne_of_none e nx (List.mem_singleton.mp z))
    exact k H2 x dxx ab2 ae2 at2 (fresh_back e1 nx) (fresh_back e1 f1) (fresh_back e1 f2) (fresh_back e1 f3) F2 (e1.trans e2)
theorem ok_turned (T : Txt K mg A) : FnOk P w K mg base CX0 3 A.f_turned A.d_turned ["self"] (spTurned A.C) := by
  refine T.F_turned.ok sc_turned (fun vs H Q E h => ?_) (fun cdv B outer s H vs Q E hr h => ⟨_, (pss_cons (ps_set (i := 1) sc_turned.nd rfl (Or.inl rfl) (pe_make T.mkC (ok___init__ T) (hr.mono (by decide)) rfl T.gC T.bd___init__ .nil pass0 (pa_cons (fldK (K := K) rfl (pv 0) rfl) pa_nil)))
    (pss_cons (setfldK (K := K) rfl (pv 1) (pe_callTy (listK (K := K) rfl) (by rfl) T.b_list (by decide +kernel) (pa_cons (fldK (K := K) rfl (pv 0) rfl) pa_nil)) rfl)
    (pss_cons (setfldK (K := K) rfl (pv 1) (pe_callTy (listK (K := K) rfl) (by rfl) T.b_list (by decide +kernel) (pa_cons (fldK (K := K) rfl (pv 0) rfl) pa_nil)) rfl)
    (pss_cons (ps_lock (ps_for PassesOwn.never rfl (pi_keys (fldK (K := K) rfl (pv 0) rfl)) (pg_name (i := 2) sc_turned.nd rfl (Or.inl rfl))
    (pss_one (ps_expr (pe_meth (pv 1) T.cl T.m_tell (ok_tell T) (hr.mono (by decide)) T.bd_tell .nil pass0 (pa_cons (pe_ix (ixTupK (K := K) rfl) (pv 2) pe_int (fun _ _ => rfl)) (pa_cons (pe_ix (ixTupK (K := K) rfl) (pv 2) pe_int (fun _ _ => rfl)) (pa_cons (pe_dget (hu_of hr) (fldK (K := K) rfl (pv 0) rfl) (pv 2) (fun _ _ => rfl)) pa_nil))))))))
    (pss_one (ps_ret (pv 1))))))), ?_⟩)
  · obtain ⟨_, _, _, _, _, _, _, _, rfl, _⟩ := h
    rfl
  · obtain ⟨a, dx, ab, ae, at_, c, m, k, rfl, hF, hm, hk, kk⟩ := h
    have hc := catAt_of hF hm hk
    -- other = Category(self.thing_count)
    refine q_mk (ev_thing T hc (ev_var rfl)) hc.wf.n4 fun H2 x dxx ab2 ae2 at2 nx f1 f2 f3 F2 e2 => ?_
    have s2 := hF.mono e2
    -- other.begins = list(self.ends)
    refine q_fldL (el_list (K := K) (ev_fld (ev_var rfl) s2.obj T.cl T.n_ends cF_ends) (sq_of s2.en)) (ev_var rfl) F2.obj T.cl T.n_begins (by show 4 < 1000; decide) fun p1 H3 hp1 e3 h3 => ?_
    rw [putF_begins]
    have nxa : a ≠ x := ne_of_none hF.obj nx
    have nxb : ab ≠ x := ne_of_none hF.beg nx
    have nxe : ae ≠ x := ne_of_none hF.en nx
    have nxt : at_ ≠ x := ne_of_none hF.tol nx
    have s3 := s2.mono e3
    have n31 : p1 ≠ x := fun z => by rw [z, F2.obj] at hp1; cases hp1
    have ob4 : ∀ o : HO, upd H3 x o a = some (.ins A.C dx (cF c.n ab ae at_)) := fun o => (upd_ne nxa).trans s3.obj
    have bg4 : ∀ o : HO, upd H3 x o ab = some (.lst (begV c)) := fun o => (upd_ne nxb).trans s3.beg
    -- other.ends = list(self.begins)
    refine q_fldL (el_list (K := K) (ev_fld (ev_var rfl) (ob4 _) T.cl T.n_begins cF_begins) (sq_of (bg4 _))) (ev_var rfl) upd_same T.cl T.n_ends (by show 4 < 1000; decide) fun p2 H5 hp2 e5 h5 => ?_
    obtain ⟨n52, hp2⟩ := upd_nn hp2
    rw [putF_ends]
    have n12 : p1 ≠ p2 := fun z => by rw [← z, h3] at hp2; cases hp2
    have hp1H : H p1 = none := fresh_back e2 hp1
    have hp2H : H p2 = none := fresh_back (e2.trans e3) hp2
    have at2H : H at2 = none := f3
    have xH : H x = none := nx
    have keep : ∀ b o, H b = some o → upd H5 x (.ins A.C dxx (cF (Fc01.begin_ c.n).n p1 p2 at2)) b = some o := fun b o e => by
      rw [upd_ne (ne_of_none e xH)]
      refine e5 _ _ ?_
      rw [upd_ne (ne_of_none e xH)]
      exact (e2.trans e3) _ _ e
    have F6 : CatF A.C (upd H5 x (.ins A.C dxx (cF (Fc01.begin_ c.n).n p1 p2 at2))) x dxx p1 p2 at2 (turned c) (revM (m.take 0)) := by
      refine ⟨upd_same, ?_, ?_, ?_, n12⟩
      · rw [upd_ne n31]
        refine (e5 _ _ ((upd_ne n31).trans h3)).trans ?_
        unfold begV endV turned
        rw [List.map_map]
        rfl
      · rw [upd_ne n52]
        refine h5.trans ?_
        unfold begV endV turned
        rw [List.map_map]
        rfl
      · have nt : at2 ≠ x := ne_of F2.tol F2.obj (fun z => nomatch z)
        rw [upd_ne nt]
        exact e5 _ _ ((upd_ne nt).trans (e3 _ _ F2.tol))
    -- for met in self.told
    have hat := keep _ _ hF.tol
    refine ⟨at_, .dT (encM m), hat, trivial, fun od => ?_⟩
    have n1 : a ≠ at_ := ne_of hF.obj hF.tol (fun z => nomatch z)
    have t2 : at_ ≠ at2 := ne_of_none hF.tol at2H
    refine s_forKT (ev_fld (ev_var rfl) (show upd _ at_ (.frz od (.dT (encM m))) a = _ from (upd_ne n1).trans (keep _ _ hF.obj)) T.cl T.n_told cF_told) upd_same (fun i σ' H' => ∃ v, σ' = [some (.ref a), some (.ref x), v] ∧ CatF A.C H' x dxx p1 p2 at2 (turned c) (revM (m.take i)) ∧ H' at_ = some (.frz od (.dT (encM m))) ∧ ∀ b o, H b = some o → b ≠ at_ → H' b = some o) (fun H7 e7 => ⟨_, rfl, ?_, e7 _ _ upd_same, fun b o e nb => e7 _ _ ((upd_ne nb).trans (keep _ _ e))⟩) ?_ ?_ ?_
    · refine CatF.mono e7 ⟨?_, ?_, ?_, ?_, n12⟩
      · rw [upd_ne nxt.symm]
        exact F6.obj
      · rw [upd_ne (ne_of_none hF.tol hp1H).symm]
        exact F6.beg
      · rw [upd_ne (ne_of_none hF.tol hp2H).symm]
        exact F6.en
      · rw [upd_ne t2.symm]
        exact F6.tol
    · rintro i σ' H' _ ⟨v, _, _, h, _⟩
      exact h
    · rintro i kq vq q σ' H' hq1 hq2 ⟨v, rfl, Fo, hz, kp⟩
      obtain ⟨⟨⟨f, g⟩, h⟩, hmi, he⟩ : ∃ x, m[i]? = some x ∧ (kq, vq) = (key x.1.1 x.1.2, V.int (x.2 : Int)) := by
        unfold encM at hq1
        rw [List.getElem?_map] at hq1
        cases q2 : m[i]? with
        | none =>
          rw [q2] at hq1
          cases hq1
        | some u =>
          rw [q2] at hq1
          exact ⟨u, rfl, (Option.some.inj hq1).symm⟩
      obtain ⟨rfl, rfl⟩ := Prod.mk.inj he
      have lk : valV (encM m) (key f g) = some (.int (h : Int)) := by
        rw [look_enc, look_at hm.1 hmi]
        rfl
      have sa := kp _ _ hF.obj n1
      have hq3 : H' q = some (.tup [V.int (f : Int), V.int (g : Int)]) := hq2
      refine s_meth (ev_var rfl) Fo.obj (cF_no (by decide +kernel) (by decide +kernel) (by decide +kernel) (by decide +kernel)) (ea_cons (ev_op (ev_var rfl) ev_c (rv_ixT (st_of hq3) (atI_nat (xs := [V.int (f : Int), V.int (g : Int)]) (j := 1) (v := V.int (g : Int)) rfl))) (ea_cons (ev_op (ev_var rfl) ev_c (rv_ixT (st_of hq3) (atI_nat (xs := [V.int (f : Int), V.int (g : Int)]) (j := 0) (v := V.int (f : Int)) rfl)))
        (ea_cons (ev_dgetT (o := 0) (ev_fld (ev_var rfl) sa T.cl T.n_told cF_told) hz (ev_var rfl) hq2 lk) ea_nil))) fun H9 e9 => ?_
      refine ⟨x, dxx, p1, p2, at2, turned c, revM (m.take i), g, f, h, rfl, Fo.mono e9, ?_, fun H10 F10 fr10 => ⟨_, rfl, ?_, ?_, ?_⟩⟩
      · unfold revM
        rw [List.length_map, List.length_take]
        have := hm.2.2.1
        omega
      · rw [putM_new] at F10
        · have ee : revM (m.take (i + 1)) = revM (m.take i) ++ [((g, f), h)] := by
            rw [take_succ' hmi]
            unfold revM
            rw [List.map_append]
            rfl
          rw [ee]
          exact F10
        · intro z
          unfold revM at z
          rw [List.map_map] at z
          obtain ⟨u, hu, eu⟩ := List.mem_map.mp z
          have e1 : u.1.2 = g := congrArg Prod.fst eu
          have e2 : u.1.1 = f := congrArg Prod.snd eu
          refine notin_take hm.1 (i := i) (x := (f, g)) (by rw [List.getElem?_map, hmi]; rfl) ?_
          rw [← List.map_take]
          refine List.mem_map.mpr ⟨u, hu, ?_⟩
          show u.1 = (f, g)
          rw [← e1, ← e2]
      · exact fr10 _ _ (e9 _ _ hz) (fun z => t2 (List.mem_singleton.mp z))
      · intro b o e nb
        exact fr10 _ _ (e9 _ _ (kp b o e nb)) (fun z => ne_of_none e at2H (List.mem_singleton.mp z))
    · rintro σ' H' ⟨v, rfl, Fo, hz, kp⟩
      rw [encM_len, List.take_length] at Fo
      refine ⟨hz, ?_⟩
      have F9 : CatF A.C (upd H' at_ (.dT (encM m))) x dxx p1 p2 at2 (turned c) (revM m) := by
        refine ⟨?_, ?_, ?_, ?_, n12⟩
        · rw [upd_ne nxt.symm]
          exact Fo.obj
        · rw [upd_ne (ne_of_none hF.tol hp1H).symm]
          exact Fo.beg
        · rw [upd_ne (ne_of_none hF.tol hp2H).symm]
          exact Fo.en
        · rw [upd_ne t2.symm]
          exact Fo.tol
      refine s_ret (ev_var rfl) fun H10 e10 => kk H10 x dxx p1 p2 at2 xH hp1H hp2H at2H (F9.mono e10) fun b o e => e10 _ _ ?_
      by_cases z : b = at_
      · rw [z, upd_same]
        rw [z, hF.tol] at e
        exact e
      · rw [upd_ne z]
        exact kp b o e z
end
end Arr
-- text A5
set_option Elab.async false
set_option linter.unusedVariables false
set_option maxRecDepth 100000
set_option maxHeartbeats 4000000
/-! # comprehensions over lists of anything -/
namespace Arr
open PySem L2 Evl
section
variable {α : Type}
def atF (l : List α) (p : α → Bool) (i : Nat) : Bool := match l[i]? with
  | some x => p x
  | none => false
def atV (l : List α) (fv : α → V) (i : Nat) : V := match l[i]? with
  | some x => fv x
  | none => .non
theorem given_take (l : List α) (p : α → Bool) (fv : α → V) : ∀ n, n ≤ l.length → given n (atF l p) (atV l fv) = ((l.take n).filter p).map fv
  | 0, _ => rfl
  | n + 1, h => by
    obtain ⟨x, hx⟩ : ∃ x, l[n]? = some x := ⟨l[n], List.getElem?_eq_getElem (by omega)⟩
    have ih := given_take l p fv n (by omega)
    rw [take_succ' hx, List.filter_append, List.map_append]
    by_cases q : p x = true
    · rw [given_yes (by unfold atF; rw [hx]; exact q), ih, List.filter_cons, if_pos q]
      congr 1
      unfold atV
      rw [hx]
      rfl
    · have q' : p x = false := by simpa using q
      rw [given_no (by unfold atF; rw [hx]; exact q'), ih, List.filter_cons, if_neg q]
      simp
theorem given_all (l : List α) (p : α → Bool) (fv : α → V) : given l.length (atF l p) (atV l fv) = (l.filter p).map fv := by
  rw [given_take l p fv l.length (Nat.le_refl _), List.take_length]
theorem filter_yes (l : List α) : l.filter (fun _ => true) = l := by
  induction l with
  | nil => rfl
  | cons a r ih => rw [List.filter_cons, if_pos rfl, ih]
end
section
variable {α : Type} {K : PySem.W.Frag} {σ : L2.St} {H : Hp} {te tl : TE} {t : TT} {j : Nat} {vs : List Nat} {en : α → V} {l : List α}
theorem et_yes : EvT tYes σ H true := fun H1 _ _ q => q H1 (Ex.refl H1)
/-- [te for x in tl if t], tl a new list -/
theorem el_compNL (p : α → Bool) (fv : α → V) (h : EvL tl σ H (l.map en)) (hz : l.length ≤ 40000) (hw : ∀ x, wipe ((wipe σ vs).set j (some x)) vs = wipe σ vs)
    (ht : ∀ x ∈ l, ∀ H1, Ex H H1 → EvT t ((wipe σ vs).set j (some (en x))) H1 (p x)) (he : ∀ x ∈ l, ∀ H1, Ex H H1 → p x = true → Ev te ((wipe σ vs).set j (some (en x))) H1 (fv x)) :
    EvL (tLc (iList K tl) (gName j) t te vs) σ H ((l.filter p).map fv) := by
  rw [← given_all, ← List.length_map (f := en)]
  refine el_lcNL (K := K) (atF l p) (atV l fv) h (by rw [List.length_map]; exact hz) hw (fun i y H1 e1 hi => ?_) (fun i y H1 e1 hi hp => ?_)
  · obtain ⟨x, hx, rfl⟩ := map_at hi
    unfold atF
    rw [hx]
    exact ht x (List.mem_of_getElem? hx) H1 e1
  · obtain ⟨x, hx, rfl⟩ := map_at hi
    unfold atF at hp
    rw [hx] at hp
    unfold atV
    rw [hx]
    exact he x (List.mem_of_getElem? hx) H1 e1 hp
/-- [te for x in tl], tl a new list -/
theorem el_mapNL (fv : α → V) (h : EvL tl σ H (l.map en)) (hz : l.length ≤ 40000) (hw : ∀ x, wipe ((wipe σ vs).set j (some x)) vs = wipe σ vs)
    (he : ∀ x ∈ l, ∀ H1, Ex H H1 → Ev te ((wipe σ vs).set j (some (en x))) H1 (fv x)) : EvL (tLc (iList K tl) (gName j) tYes te vs) σ H (l.map fv) := by
  have q := el_compNL (K := K) (t := tYes) (fun _ => true) fv h hz hw (fun _ _ _ _ => et_yes) (fun x hx H1 e1 _ => he x hx H1 e1)
  rw [filter_yes] at q
  exact q
/-- tl a list that stands -/
theorem el_compL {a : Addr} (p : α → Bool) (fv : α → V) (h : Ev tl σ H (.ref a)) (hx : SqL K H a (l.map en)) (hz : l.length ≤ 40000) (hw : ∀ x, wipe ((wipe σ vs).set j (some x)) vs = wipe σ vs)
    (ht : ∀ x ∈ l, ∀ H1, Ex H H1 → EvT t ((wipe σ vs).set j (some (en x))) H1 (p x)) (he : ∀ x ∈ l, ∀ H1, Ex H H1 → p x = true → Ev te ((wipe σ vs).set j (some (en x))) H1 (fv x)) :
    EvL (tLc (iList K tl) (gName j) t te vs) σ H ((l.filter p).map fv) := by
  rw [← given_all, ← List.length_map (f := en)]
  refine el_lcL (K := K) (atF l p) (atV l fv) h hx (by rw [List.length_map]; exact hz) hw (fun i y H1 e1 hi => ?_) (fun i y H1 e1 hi hp => ?_)
  · obtain ⟨x, hx, rfl⟩ := map_at hi
    unfold atF
    rw [hx]
    exact ht x (List.mem_of_getElem? hx) H1 e1
  · obtain ⟨x, hx, rfl⟩ := map_at hi
    unfold atF at hp
    rw [hx] at hp
    unfold atV
    rw [hx]
    exact he x (List.mem_of_getElem? hx) H1 e1 hp
theorem el_mapL {a : Addr} (fv : α → V) (h : Ev tl σ H (.ref a)) (hx : SqL K H a (l.map en)) (hz : l.length ≤ 40000) (hw : ∀ x, wipe ((wipe σ vs).set j (some x)) vs = wipe σ vs)
    (he : ∀ x ∈ l, ∀ H1, Ex H H1 → Ev te ((wipe σ vs).set j (some (en x))) H1 (fv x)) : EvL (tLc (iList K tl) (gName j) tYes te vs) σ H (l.map fv) := by
  have q := el_compL (K := K) (t := tYes) (fun _ => true) fv h hx hz hw (fun _ _ _ _ => et_yes) (fun x hx H1 e1 _ => he x hx H1 e1)
  rw [filter_yes] at q
  exact q
/-- over range(n) -/
theorem el_compR {ta : TA} {n : Nat} (p : Nat → Bool) (fv : Nat → V) (h : EvA ta σ H [.int (n : Int)]) (hz : n ≤ 40000) (hw : ∀ x, wipe ((wipe σ vs).set j (some x)) vs = wipe σ vs)
    (ht : ∀ i, i < n → ∀ H1, Ex H H1 → EvT t ((wipe σ vs).set j (some (.int (i : Int)))) H1 (p i)) (he : ∀ i, i < n → ∀ H1, Ex H H1 → p i = true → Ev te ((wipe σ vs).set j (some (.int (i : Int)))) H1 (fv i)) :
    EvL (tLc (iRng1 ta) (gName j) t te vs) σ H (((List.range n).filter p).map fv) :=
  el_lcR1 p fv h (by omega) hw (fun i H1 e1 hi => ht i (by omega) H1 e1) (fun i H1 e1 hi hp => he i (by omega) H1 e1 hp)
theorem el_mapR {ta : TA} {n : Nat} (fv : Nat → V) (h : EvA ta σ H [.int (n : Int)]) (hz : n ≤ 40000) (hw : ∀ x, wipe ((wipe σ vs).set j (some x)) vs = wipe σ vs)
    (he : ∀ i, i < n → ∀ H1, Ex H H1 → Ev te ((wipe σ vs).set j (some (.int (i : Int)))) H1 (fv i)) : EvL (tLc (iRng1 ta) (gName j) tYes te vs) σ H ((List.range n).map fv) := by
  have q := el_compR (t := tYes) (fun _ => true) fv h hz hw (fun _ _ _ _ => et_yes) (fun x hx H1 e1 _ => he x hx H1 e1)
  rw [filter_yes] at q
  exact q
/-- over a new tuple -/
theorem el_mapNU (fv : α → V) (h : EvU tl σ H (l.map en)) (hz : l.length ≤ 40000) (hw : ∀ x, wipe ((wipe σ vs).set j (some x)) vs = wipe σ vs)
    (he : ∀ x ∈ l, ∀ H1, Ex H H1 → Ev te ((wipe σ vs).set j (some (en x))) H1 (fv x)) : EvL (tLc (iTup K tl) (gName j) tYes te vs) σ H (l.map fv) := by
  have g1 := given_all l (fun _ => true) fv
  rw [filter_yes] at g1
  rw [← g1]
  intro H0 e Q q
  refine h H0 e _ fun a H1 ha e1 hx => ⟨a, rfl, ⟨_, st_of hx⟩, fun Dl hD => ?_⟩
  refine lc_tup (xs := l.map en) (Cw H1 (atF l fun _ => true) (atV l fv) Dl) ⟨hD, Ex.new hD, upd_same⟩ (fun i H' _ p => st_of (p.2.1 a _ hx)) (fun i y H' hi p => ⟨hw y, ?_⟩) (fun H' p => q Dl H' (fresh_back e1 p.1) (e1.trans p.2.1) (by have := p.2.2; rw [List.length_map] at this; exact this))
  have il := (List.getElem?_eq_some_iff.mp hi).1
  obtain ⟨x, hx2, rfl⟩ := map_at hi
  rw [List.length_map] at il
  refine cw_turn p (by omega) ?_ fun _ => ?_
  · unfold atF
    rw [hx2]
    exact et_yes
  · unfold atV
    rw [hx2]
    exact he x (List.mem_of_getElem? hx2) H1 (e.trans e1)
end
end Arr
-- text S2
set_option Elab.async false
set_option linter.unusedVariables false
/-! # the specification's own side: kinds -/
namespace Arr
open Fc01 (from_ to_ after hom)
theorem mem_hom {c : Cat} {x y f : Nat} : f ∈ hom c x y ↔ f < c.arrows.length ∧ c.arrows[f]? = some (x, y) := by
  unfold hom Fc01.all
  rw [List.mem_filter, List.mem_range, beq_iff_eq]
theorem hom_from {c : Cat} {x y f : Nat} (h : f ∈ hom c x y) : f < c.arrows.length ∧ from_ c f = x ∧ to_ c f = y := by
  obtain ⟨h1, h2⟩ := mem_hom.mp h
  rw [arrows_at h1] at h2
  have h2 := Option.some.inj h2
  exact ⟨h1, congrArg Prod.fst h2, congrArg Prod.snd h2⟩
theorem hom_of {c : Cat} {f : Nat} (h : f < c.arrows.length) : f ∈ hom c (from_ c f) (to_ c f) := mem_hom.mpr ⟨h, arrows_at h⟩
theorem hom_len (c : Cat) (x y : Nat) : (hom c x y).length ≤ c.arrows.length := by
  unfold hom Fc01.all
  have := List.length_filter_le (fun f => c.arrows[f]? == some (x, y)) (List.range c.arrows.length)
  rw [List.length_range] at this
  exact this
theorem from_lt {c : Cat} (wf : Wf c) {f : Nat} (h : f < c.arrows.length) : from_ c f < c.n := (wf.ends f _ (arrows_at h)).1
theorem to_lt {c : Cat} (wf : Wf c) {f : Nat} (h : f < c.arrows.length) : to_ c f < c.n := (wf.ends f _ (arrows_at h)).2
/-- keeps apart, as a search -/
def ka3 (c : Cat) (f u v : Nat) : Option Unit := if (!(u == v) && after c u f == after c v f) = true then some () else none
def ka2 (c : Cat) (f x u : Nat) : Option Unit := (hom c x (from_ c f)).findSome? (ka3 c f u)
def ka1 (c : Cat) (f x : Nat) : Option Unit := (hom c x (from_ c f)).findSome? (ka2 c f x)
def ka (c : Cat) (f : Nat) : Option Unit := (List.range c.n).findSome? (ka1 c f)
theorem ka_some {c : Cat} (wf : Wf c) {f : Nat} (h : ka c f = some ()) : Fc01.keepsApart c f = false := by
  obtain ⟨x, _, h⟩ := find_some_ex h
  obtain ⟨u, hu, h⟩ := find_some_ex h
  obtain ⟨v, hv, h⟩ := find_some_ex h
  unfold ka3 at h
  by_cases q : (!(u == v) && after c u f == after c v f) = true
  · rw [Bool.and_eq_true] at q
    have hu' := mem_hom.mp hu
    have hv' := mem_hom.mp hv
    have fu := hom_from hu
    rw [← Bool.not_eq_true]
    intro z
    unfold Fc01.keepsApart Fc01.all at z
    rw [List.all_eq_true] at z
    have z1 := z u (List.mem_range.mpr hu'.1)
    rw [List.all_eq_true] at z1
    have z2 := z1 v (List.mem_range.mpr hv'.1)
    rw [hu'.2, hv'.2, fu.2.2] at z2
    have q1 : (u == v) = false := by simpa using q.1
    rw [q1, bne_self_eq_false, bne_self_eq_false, bne, q.2] at z2
    simp at z2
  · rw [if_neg q] at h
    cases h
theorem ka_none {c : Cat} (wf : Wf c) {f : Nat} (h : ka c f = none) : Fc01.keepsApart c f = true := by
  unfold Fc01.keepsApart Fc01.all
  rw [List.all_eq_true]
  intro u hu
  rw [List.all_eq_true]
  intro v hv
  have lu := List.mem_range.mp hu
  have lv := List.mem_range.mp hv
  by_cases e1 : u = v
  · simp [e1]
  by_cases e2 : c.arrows[u]? = c.arrows[v]?
  · by_cases e3 : to_ c u = from_ c f
    · by_cases e4 : after c u f = after c v f
      · exfalso
        have hu2 : u ∈ hom c (from_ c u) (from_ c f) := by rw [← e3]; exact hom_of lu
        have hv2 : v ∈ hom c (from_ c u) (from_ c f) := mem_hom.mpr ⟨lv, by rw [← e2]; exact (mem_hom.mp hu2).2⟩
        have h1 := find_none_iff (find_none_iff (find_none_iff h _ (List.mem_range.mpr (from_lt wf lu))) u hu2) v hv2
        unfold ka3 at h1
        rw [if_pos (by rw [Bool.and_eq_true]; exact ⟨by simp [e1], by rw [e4]; exact beq_self_eq_true _⟩)] at h1
        cases h1
      · simp [e4]
    · simp [e3]
  · simp [e2]
theorem undone_any (c : Cat) (f : Nat) : (!(Fc01.undone c f).isEmpty) = (hom c (to_ c f) (from_ c f)).any fun g => after c f g == some (from_ c f) := by
  unfold Fc01.undone
  induction hom c (to_ c f) (from_ c f) with
  | nil => rfl
  | cons g r ih =>
    rw [List.filter_cons, List.any_cons]
    by_cases q : (after c f g == some (from_ c f)) = true
    · rw [if_pos q, q]
      rfl
    · rw [if_neg q, ih]
      simp [Bool.not_eq_true _ ▸ q]
theorem isTurn_any (c : Cat) (f : Nat) : Fc01.isTurn c f = (hom c (to_ c f) (from_ c f)).any fun g => (after c f g == some (from_ c f)) && (after c g f == some (from_ c g)) := by
  unfold Fc01.isTurn Fc01.undone
  have : ∀ g ∈ hom c (to_ c f) (from_ c f), from_ c g = to_ c f := fun g hg => (hom_from hg).2.1
  revert this
  induction hom c (to_ c f) (from_ c f) with
  | nil => intro _; rfl
  | cons g r ih =>
    intro h
    have ih := ih fun u hu => h u (List.mem_cons_of_mem _ hu)
    rw [List.filter_cons, List.any_cons, h g (List.mem_cons_self ..)]
    by_cases q : (after c f g == some (from_ c f)) = true
    · rw [if_pos q, q, List.any_cons, ih]
      rfl
    · rw [if_neg q, ih]
      simp [Bool.not_eq_true _ ▸ q]
theorem self_meet (c : Cat) (f : Nat) : (after c f f == some f) = ((to_ c f == from_ c f) && (after c f f == some f)) := by
  by_cases q : to_ c f = from_ c f
  · simp [q]
  · have e : after c f f = none := by
      unfold after
      rw [if_pos q]
    rw [e]
    simp
end Arr
-- text B5
set_option Elab.async false
set_option linter.unusedVariables false
set_option maxRecDepth 100000
set_option maxHeartbeats 4000000
/-! # kinds -/
namespace Arr
open PySem PySem.Spec PyProof.Rows L2 Evl
open Fc01 (from_ to_ after hom turned)
def natE (f : Nat) : V := V.int (f : Int)
def R_cat1 (C : Addr) (g : Cat → Nat → V) : List V → Hp → V → Prop := fun vs H v => ∃ a c, ∃ f : Nat, vs = [.ref a, .int (f : Int)] ∧ CatAt C H a c ∧ f < c.arrows.length ∧ v = g c f
def R_arrows_back (C : Addr) : List V → Hp → List V → Prop := fun vs H xs => ∃ a c, ∃ f : Nat, vs = [.ref a, .int (f : Int)] ∧ CatAt C H a c ∧ f < c.arrows.length ∧ xs = (hom c (to_ c f) (from_ c f)).map natE
def R_undone_by (C : Addr) : List V → Hp → V → Prop := fun vs H v => ∃ a c, ∃ f g : Nat, vs = [.ref a, .int (f : Int), .int (g : Int)] ∧ CatAt C H a c ∧ f < c.arrows.length ∧ to_ c f = from_ c g ∧ v = .bl (after c f g == some (from_ c f))
def spKinds (C : Addr) : Sp := spV fun vs H v => ∃ (a dx ab ae at_ : Addr) (c : Cat) (m : Mm) (k f : Nat), vs = [.ref a, .int (f : Int)] ∧ CatF C H a dx ab ae at_ c m ∧ MOk k c m ∧ k ≤ 100 ∧ f < c.arrows.length ∧ v = .int (Fc01.kinds c f : Int)
theorem opt_dec (o : Option Nat) (n : Nat) : decide (optV o = V.int (n : Int)) = (o == some n) := by
  cases o with
  | none => rfl
  | some h =>
    show decide (V.int (h : Int) = V.int (n : Int)) = (some h == some n)
    rw [dec_nat]
    rfl
theorem opt_opt (o p : Option Nat) : decide (optV o = optV p) = (o == p) := by
  cases p with
  | some n => exact opt_dec o n
  | none => cases o <;> rfl
theorem scal_opt (o : Option Nat) (n : Int) : scal (optV o) (.int n) = true := by cases o <;> rfl
theorem scal_opt2 (o p : Option Nat) : scal (optV o) (optV p) = true := by cases o <;> cases p <;> rfl
section
variable {P : Program} {w : World} {K : PySem.W.Frag} {mg : Str → Option Value} {base : Heap} {A : Ads} {σ : L2.St} {H : Hp} {ta tb td te tf tg : TE} {a : Addr} {c : Cat} {E : XK}
theorem ev_eqO {o : Option Nat} {n : Nat} (ha : Ev ta σ H (optV o)) (hb : Ev tb σ H (.int (n : Int))) : Ev (tOp rEq ta tb) σ H (.bl (o == some n)) := ev_is (ev_op ha hb (rv_eq (scal_opt o _))) (by rw [opt_dec])
theorem ev_eqOO {o p : Option Nat} (ha : Ev ta σ H (optV o)) (hb : Ev tb σ H (optV p)) : Ev (tOp rEq ta tb) σ H (.bl (o == p)) := ev_is (ev_op ha hb (rv_eq (scal_opt2 o p))) (by rw [opt_opt])
theorem ok_keeps_apart (T : Txt K mg A) : FnOk P w K mg base CX0 3 A.f_keeps_apart A.d_keeps_apart ["category", "f"] (spV (R_cat1 A.C fun c f => .bl (Fc01.keepsApart c f))) := by
  refine T.F_keeps_apart.ok sc_keeps_apart (fun vs H Q E h => ?_) (fun cdv B outer s H vs Q E hr h => ⟨_, (pss_cons (ps_for PassesOwn.never rfl (pi_range1 rfl T.b_range (pa_cons (fldK (K := K) rfl (pv 0) rfl) pa_nil)) (pg_name (i := 2) sc_keeps_apart.nd rfl (Or.inl rfl))
    (pss_cons (ps_set (i := 3) sc_keeps_apart.nd rfl (Or.inl rfl) (pe_meth (pv 0) T.cl T.m_hom (ok_hom T) (hr.mono (by decide)) T.bd_hom .nil pass0 (pa_cons (pv 2) (pa_cons (pe_ix (ixListK (K := K) rfl) (fldK (K := K) rfl (pv 0) rfl) (pv 1) (fun _ _ => rfl)) pa_nil))))
    (pss_one (ps_for PassesOwn.never rfl (piListK (K := K) rfl (pv 3)) (pg_name (i := 4) sc_keeps_apart.nd rfl (Or.inl rfl))
    (pss_one (ps_for PassesOwn.never rfl (piListK (K := K) rfl (pv 3)) (pg_name (i := 5) sc_keeps_apart.nd rfl (Or.inl rfl))
    (pss_one (ps_if (PW.pt (pw_and (pt_cmpR op_ne (pv 4) (pv 5) (nomark _)) (pw_and1 (pt_cmpR op_eq (pe_meth (pv 0) T.cl T.m_made (ok_made T) (hr.mono (by decide)) T.bd_made .nil pass0 (pa_cons (pv 4) (pa_cons (pv 1) pa_nil))) (pe_meth (pv 0) T.cl T.m_made (ok_made T) (hr.mono (by decide)) T.bd_made .nil pass0 (pa_cons (pv 5) (pa_cons (pv 1) pa_nil))) (nomark _))))) (pss_one (ps_ret pe_bl)) pss_nil))))))))
    (pss_one (ps_ret pe_bl))), ?_⟩)
  · obtain ⟨_, _, _, ⟨a, c, f, rfl, _⟩, _⟩ := h
    rfl
  · obtain ⟨H0, v, e, ⟨a, c, f, rfl, hc, lf, rfl⟩, k⟩ := h
    have hc := hc.mono e
    try dsimp only at k
    have n4 := hc.wf.n4
    refine q_findR (ka1 c f) (fun σ => ∃ v1 v2 v3 v4, σ = [some (.ref a), some (.int (f : Int)), v1, v2, v3, v4]) (ea_cons (ev_thing T hc (ev_var rfl)) ea_nil) (by omega) ⟨_, _, _, _, rfl⟩ ?_ ?_
    · rintro x σ' H1 N lx ⟨v1, v2, v3, v4, rfl⟩ e1 hz hN
      have hc1 := hc.mono e1
      refine q_asgL (el_hom hc1 (ev_var rfl) (ev_var rfl) (ev_beg T hc1 (ev_var rfl) (ev_var rfl) lf)) fun p H2 hp e2 h2 => ?_
      refine s_findL (en := natE) (ka2 c f x) (fun σ => ∃ v3 v4, σ = [some (.ref a), some (.int (f : Int)), some (.int (x : Int)), some (.ref p), v3, v4]) (ev_var rfl) (sq_of h2) ⟨_, _, rfl⟩ ?_ ?_
      · rintro u σ' H3 N3 hu ⟨v3, v4, rfl⟩ e3 hz3 hN3
        refine s_findL (en := natE) (ka3 c f u) (fun σ => ∃ v4, σ = [some (.ref a), some (.int (f : Int)), some (.int (x : Int)), some (.ref p), some (.int (u : Int)), v4]) (ev_var rfl) (sq_of (e3 _ _ h2)) ⟨_, rfl⟩ ?_ ?_
        · rintro v σ' H4 N4 hv ⟨v4, rfl⟩ e4 hz4 hN4
          have hc4 := hc1.mono ((e2.trans e3).trans e4)
          refine s_when (et_and (et_test (ev_neN (ev_var rfl) (ev_var rfl))) (fun _ => et_test (ev_eqOO (ev_made hc4 (ev_var rfl) (ev_var rfl) (ev_var rfl) (hom_from hu).2.2) (ev_made hc4 (ev_var rfl) (ev_var rfl) (ev_var rfl) (hom_from hv).2.2)))) (fun b H5 e5 => ?_) (fun b H5 e5 => ?_)
          · have r1 := hz _ (hz3 _ (hz4 () (if_pos b)))
            rw [ka_some hc.wf r1] at k
            exact s_ret ev_c fun H6 e6 => k H6 (((((e1.trans e2).trans e3).trans e4).trans e5).trans e6)
          · exact hN4 _ _ ⟨_, rfl⟩ e5 (if_neg (by rw [b]; decide))
        · rintro σ' H4 ⟨v4, rfl⟩ e4 hn
          exact hN3 _ _ ⟨_, _, rfl⟩ e4 hn
      · rintro σ' H3 ⟨v3, v4, rfl⟩ e3 hn
        exact hN _ _ ⟨_, _, _, _, rfl⟩ (e2.trans e3) hn
    · rintro σ' H1 ⟨v1, v2, v3, v4, rfl⟩ e1 hn
      rw [ka_none hc.wf hn] at k
      exact s_ret ev_c fun H6 e6 => k H6 (e1.trans e6)
theorem ok_arrows_back (T : Txt K mg A) : FnOk P w K mg base CX0 3 A.f_arrows_back A.d_arrows_back ["category", "f"] (spL (R_arrows_back A.C)) := by
  refine T.F_arrows_back.ok sc_arrows_back (fun vs H Q E h => ?_) (fun cdv B outer s H vs Q E hr h => ⟨_, (pss_one (ps_ret (pe_meth (pv 0) T.cl T.m_hom (ok_hom T) (hr.mono (by decide)) T.bd_hom .nil pass0 (pa_cons (pe_ix (ixListK (K := K) rfl) (fldK (K := K) rfl (pv 0) rfl) (pv 1) (fun _ _ => rfl)) (pa_cons (pe_ix (ixListK (K := K) rfl) (fldK (K := K) rfl (pv 0) rfl) (pv 1) (fun _ _ => rfl)) pa_nil))))), ?_⟩)
  · obtain ⟨_, _, _, ⟨a, c, f, rfl, _⟩, _⟩ := h
    rfl
  · obtain ⟨H0, v, e, ⟨a, c, f, rfl, hc, lf, rfl⟩, k⟩ := h
    have hc := hc.mono e
    try dsimp only at k
    exact s_retL (el_hom hc (ev_var rfl) (ev_end T hc (ev_var rfl) (ev_var rfl) lf) (ev_beg T hc (ev_var rfl) (ev_var rfl) lf)) k
theorem el_back (hc : CatAt A.C H a c) {f : Nat} (lf : f < c.arrows.length) (h : Ev ta σ H (.ref a)) (hf : Ev tb σ H (.int (f : Int))) : EvL (tCall (spL (R_arrows_back A.C)) [] E (tCons ta (tCons tb tNil))) σ H ((hom c (to_ c f) (from_ c f)).map natE) :=
  el_fn (ea_cons h (ea_cons hf ea_nil)) (spL_go ⟨a, c, f, rfl, hc, lf, rfl⟩)
theorem ok_undone_by (T : Txt K mg A) : FnOk P w K mg base CX0 3 A.f_undone_by A.d_undone_by ["category", "f", "g"] (spV (R_undone_by A.C)) := by
  refine T.F_undone_by.ok sc_undone_by (fun vs H Q E h => ?_) (fun cdv B outer s H vs Q E hr h => ⟨_, (pss_one (ps_ret (pe_cmpR op_eq (pe_meth (pv 0) T.cl T.m_made (ok_made T) (hr.mono (by decide)) T.bd_made .nil pass0 (pa_cons (pv 1) (pa_cons (pv 2) pa_nil))) (pe_ix (ixListK (K := K) rfl) (fldK (K := K) rfl (pv 0) rfl) (pv 1) (fun _ _ => rfl)) (nomark _)))), ?_⟩)
  · obtain ⟨_, _, _, ⟨a, c, f, g, rfl, _⟩, _⟩ := h
    rfl
  · obtain ⟨H0, v, e, ⟨a, c, f, g, rfl, hc, lf, m, rfl⟩, k⟩ := h
    have hc := hc.mono e
    exact s_ret (ev_eqO (ev_made hc (ev_var rfl) (ev_var rfl) (ev_var rfl) m) (ev_beg T hc (ev_var rfl) (ev_var rfl) lf)) k
theorem ev_undone (hc : CatAt A.C H a c) {f g : Nat} (lf : f < c.arrows.length) (m : to_ c f = from_ c g) (h : Ev ta σ H (.ref a)) (hf : Ev tb σ H (.int (f : Int))) (hg : Ev td σ H (.int (g : Int))) :
    Ev (tCall (spV (R_undone_by A.C)) [] E (tCons ta (tCons tb (tCons td tNil)))) σ H (.bl (after c f g == some (from_ c f))) := ev_fn (ea_cons h (ea_cons hf (ea_cons hg ea_nil))) (spV_go ⟨a, c, f, g, rfl, hc, lf, m, rfl⟩)
theorem map_bl {α : Type} (l : List α) (p : α → Bool) : l.map (fun x => V.bl (p x)) = (l.map p).map V.bl := by rw [List.map_map]; rfl
theorem any_id {α : Type} (l : List α) (p : α → Bool) : (l.map p).any id = l.any p := by rw [List.any_map]; rfl
theorem all_id {α : Type} (l : List α) (p : α → Bool) : (l.map p).all id = l.all p := by rw [List.all_map]; rfl
theorem ok_can_be_undone (T : Txt K mg A) : FnOk P w K mg base CX0 4 A.f_can_be_undone A.d_can_be_undone ["category", "f"] (spV (R_cat1 A.C fun c f => .bl (!(Fc01.undone c f).isEmpty))) := by
  refine T.F_can_be_undone.ok sc_can_be_undone (fun vs H Q E h => ?_) (fun cdv B outer s H vs Q E hr h => ⟨_, (pss_one (ps_ret (pe_callB (anyK (K := K) rfl rfl) (by rfl) T.b_any (by decide +kernel) (pa_cons (pe_lc (own := [("g", 2)]) (g := gName 2) (tt := tYes) rfl sc_can_be_undone.nd (piListK (K := K) rfl (pe_call (ok_arrows_back T) (hr.mono (by decide)) rfl T.g_arrows_back T.F_arrows_back.kp T.bd_arrows_back .nil pass0 (pa_cons (pv 0) (pa_cons (pv 1) pa_nil)))) (blkOk_by (own := [("g", 2)]) (N := ["category", "f", "g"]) (sc := defScope s_can_be_undone) (by decide +kernel)) (fun _ _ _ _ _ => pg_name (i := 2) sc_can_be_undone.nd rfl (Or.inl rfl)) (fun _ _ _ _ _ => pts_nil) (fun _ _ _ _ _ => (pe_call (ok_undone_by T) (hr.mono (by decide)) rfl T.g_undone_by T.F_undone_by.kp T.bd_undone_by .nil pass0 (pa_cons (pv 0) (pa_cons (pv 1) (pa_cons (pv 2) pa_nil)))))) pa_nil)))), ?_⟩)
  · obtain ⟨_, _, _, ⟨a, c, f, rfl, _⟩, _⟩ := h
    rfl
  · obtain ⟨H0, v, e, ⟨a, c, f, rfl, hc, lf, rfl⟩, k⟩ := h
    have hc := hc.mono e
    try dsimp only at k
    have l9 := hc.wf.l9
    have hl := hom_len c (to_ c f) (from_ c f)
    rw [undone_any, ← any_id] at k
    refine s_ret (ev_anyL ?_) k
    rw [← map_bl]
    exact el_mapNL (en := natE) _ (el_back hc lf (ev_var rfl) (ev_var rfl)) (by omega) (fun _ => rfl) fun g hg H1 e1 => ev_undone (hc.mono e1) lf (hom_from hg).2.1.symm (ev_var rfl) (ev_var rfl) (ev_var rfl)
theorem ok_can_be_undone_both_ways (T : Txt K mg A) : FnOk P w K mg base CX0 4 A.f_can_be_undone_both_ways A.d_can_be_undone_both_ways ["category", "f"] (spV (R_cat1 A.C fun c f => .bl (Fc01.isTurn c f))) := by
  refine T.F_can_be_undone_both_ways.ok sc_can_be_undone_both_ways (fun vs H Q E h => ?_) (fun cdv B outer s H vs Q E hr h => ⟨_, (pss_cons (ps_set (i := 2) sc_can_be_undone_both_ways.nd rfl (Or.inl rfl) (pe_call (ok_arrows_back T) (hr.mono (by decide)) rfl T.g_arrows_back T.F_arrows_back.kp T.bd_arrows_back .nil pass0 (pa_cons (pv 0) (pa_cons (pv 1) pa_nil))))
    (pss_one (ps_ret (pe_callB (anyK (K := K) rfl rfl) (by rfl) T.b_any (by decide +kernel) (pa_cons (pe_lc (own := [("g", 3)]) (g := gName 3) (tt := tYes) rfl sc_can_be_undone_both_ways.nd (piListK (K := K) rfl (pv 2)) (blkOk_by (own := [("g", 3)]) (N := ["category", "f", "back", "g"]) (sc := defScope s_can_be_undone_both_ways) (by decide +kernel)) (fun _ _ _ _ _ => pg_name (i := 3) sc_can_be_undone_both_ways.nd rfl (Or.inl rfl)) (fun _ _ _ _ _ => pts_nil) (fun _ _ _ _ _ => (pe_and (pe_call (ok_undone_by T) (hr.mono (by decide)) rfl T.g_undone_by T.F_undone_by.kp T.bd_undone_by .nil pass0 (pa_cons (pv 0) (pa_cons (pv 1) (pa_cons (pv 3) pa_nil)))) (pe_one (pe_call (ok_undone_by T) (hr.mono (by decide)) rfl T.g_undone_by T.F_undone_by.kp T.bd_undone_by .nil pass0 (pa_cons (pv 0) (pa_cons (pv 3) (pa_cons (pv 1) pa_nil)))))))) pa_nil))))), ?_⟩)
  · obtain ⟨_, _, _, ⟨a, c, f, rfl, _⟩, _⟩ := h
    rfl
  · obtain ⟨H0, v, e, ⟨a, c, f, rfl, hc, lf, rfl⟩, k⟩ := h
    have hc := hc.mono e
    try dsimp only at k
    have l9 := hc.wf.l9
    have hl := hom_len c (to_ c f) (from_ c f)
    rw [isTurn_any, ← any_id] at k
    refine q_asgL (el_back hc lf (ev_var rfl) (ev_var rfl)) fun p H1 hp e1 h1 => ?_
    refine s_ret (ev_anyL ?_) fun H2 e2 => k H2 (e1.trans e2)
    rw [← map_bl]
    refine el_mapL (en := natE) _ (ev_var rfl) (sq_of h1) (by omega) (fun _ => rfl) fun g hg H2 e2 => ?_
    have hc2 := hc.mono (e1.trans e2)
    exact ev_andV (ev_undone hc2 lf (hom_from hg).2.1.symm (ev_var rfl) (ev_var rfl) (ev_var rfl)) fun _ => ev_undone hc2 (hom_from hg).1 (hom_from hg).2.2 (ev_var rfl) (ev_var rfl) (ev_var rfl)
theorem ok_makes_itself (T : Txt K mg A) : FnOk P w K mg base CX0 3 A.f_makes_itself A.d_makes_itself ["category", "f"] (spV (R_cat1 A.C fun c f => .bl (after c f f == some f))) := by
  refine T.F_makes_itself.ok sc_makes_itself (fun vs H Q E h => ?_) (fun cdv B outer s H vs Q E hr h => ⟨_, (pss_one (ps_ret (pe_and (pe_meth (pv 0) T.cl T.m_meet (ok_meet T) (hr.mono (by decide)) T.bd_meet .nil pass0 (pa_cons (pv 1) (pa_cons (pv 1) pa_nil))) (pe_one (pe_cmpR op_eq (pe_meth (pv 0) T.cl T.m_made (ok_made T) (hr.mono (by decide)) T.bd_made .nil pass0 (pa_cons (pv 1) (pa_cons (pv 1) pa_nil))) (pv 1) (nomark _)))))), ?_⟩)
  · obtain ⟨_, _, _, ⟨a, c, f, rfl, _⟩, _⟩ := h
    rfl
  · obtain ⟨H0, v, e, ⟨a, c, f, rfl, hc, lf, rfl⟩, k⟩ := h
    have hc := hc.mono e
    try dsimp only at k
    rw [self_meet] at k
    exact s_ret (ev_andV (ev_meet hc (ev_var rfl) (ev_var rfl) (ev_var rfl) lf lf) fun b => ev_eqO (ev_made hc (ev_var rfl) (ev_var rfl) (ev_var rfl) (beq_iff_eq.mp b)) (ev_var rfl)) k
theorem ev_c1 {g : Cat → Nat → V} (hc : CatAt A.C H a c) {f : Nat} (lf : f < c.arrows.length) (h : Ev ta σ H (.ref a)) (hf : Ev tb σ H (.int (f : Int))) : Ev (tCall (spV (R_cat1 A.C g)) [] E (tCons ta (tCons tb tNil))) σ H (g c f) :=
  ev_fn (ea_cons h (ea_cons hf ea_nil)) (spV_go ⟨a, c, f, rfl, hc, lf, rfl⟩)
/-- if b: total += n, told by the value behind it -/
theorem q_addIf {t : TT} {b : Bool} {i : Nat} {x n : Nat} {D : Ends} {tz : TS} (h : EvT t σ H b) (hx : σ[i]? = some (some (.int (x : Int)))) (k : ∀ H1, Ex H H1 → tz D (σ.set i (some (.int ((x + if b = true then n else 0 : Nat) : Int)))) H1) :
    tSeq (tIfS t (tAug i (tC (.int (n : Int))) (ipI fun i j => i + j)) tNext) tz D σ H := by
  refine q_when h (fun hb H1 e1 => ?_) (fun hb H1 e1 => ?_)
  · refine s_aug (D := { D with nx := tz D }) hx ev_c fun H2 e2 => ?_
    have q := k H2 (e1.trans e2)
    rw [if_pos hb] at q
    have e3 : ((x + n : Nat) : Int) = (x : Int) + (n : Int) := by omega
    rw [e3] at q
    exact q
  · have q := k H1 e1
    rw [hb, if_neg (by decide)] at q
    have e4 : σ.set i (some (.int ((x + 0 : Nat) : Int))) = σ := by
      obtain ⟨hi, he⟩ := List.getElem?_eq_some_iff.mp hx
      rw [Nat.add_zero, ← he]
      exact List.set_getElem_self hi
    rw [e4] at q
    exact q
/-- x = o.turned() -/
theorem q_turn {dx ab ae at_ : Addr} {m : Mm} {k i : Nat} {D : Ends} {tz : TS} (h : Ev ta σ H (.ref a)) (hF : CatF A.C H a dx ab ae at_ c m) (hm : MOk k c m) (hk : k ≤ 100)
    (kk : ∀ H2 a' dx' ab' ae' at', H a' = none → H ab' = none → H ae' = none → H at' = none → CatF A.C H2 a' dx' ab' ae' at' (turned c) (revM m) → Ex H H2 → tz D (σ.set i (some (.ref a'))) H2) :
    tSeq (tAsg (tMeth A.C "turned" (spTurned A.C) [] E ta tNil) (gName i)) tz D σ H :=
  h H (Ex.refl H) _ fun H1 e1 => ⟨a, dx, _, rfl, e1 _ _ hF.obj, cF_no (by decide +kernel) (by decide +kernel) (by decide +kernel) (by decide +kernel),
    ⟨a, dx, ab, ae, at_, c, m, k, rfl, hF.mono e1, hm, hk, fun H2 a' dx' ab' ae' at' h1 h2 h3 h4 F2 e2 => kk H2 a' dx' ab' ae' at' (fresh_back e1 h1) (fresh_back e1 h2) (fresh_back e1 h3) (fresh_back e1 h4) F2 (e1.trans e2)⟩⟩
theorem ok_kinds_of (T : Txt K mg A) : FnOk P w K mg base CX0 5 A.f_kinds_of A.d_kinds_of ["category", "f"] (spKinds A.C) := by
  refine T.F_kinds_of.ok sc_kinds_of (fun vs H Q E h => ?_) (fun cdv B outer s H vs Q E hr h => ⟨_, (pss_cons (ps_set (i := 2) sc_kinds_of.nd rfl (Or.inl rfl) (pe_meth0 (pv 0) T.cl T.m_turned (ok_turned T) (hr.mono (by decide)) T.bd_turned .nil pass0))
    (pss_cons (ps_set (i := 3) sc_kinds_of.nd rfl (Or.inl rfl) pe_int)
    (pss_cons (ps_if (pt_val (pe_call (ok_keeps_apart T) (hr.mono (by decide)) rfl T.g_keeps_apart T.F_keeps_apart.kp T.bd_keeps_apart .nil pass0 (pa_cons (pv 0) (pa_cons (pv 1) pa_nil)))) (pss_one (ps_aug (i := 3) sc_kinds_of.nd rfl (Or.inl rfl) pe_int ip_add)) pss_nil)
    (pss_cons (ps_if (pt_val (pe_call (ok_keeps_apart T) (hr.mono (by decide)) rfl T.g_keeps_apart T.F_keeps_apart.kp T.bd_keeps_apart .nil pass0 (pa_cons (pv 2) (pa_cons (pv 1) pa_nil)))) (pss_one (ps_aug (i := 3) sc_kinds_of.nd rfl (Or.inl rfl) pe_int ip_add)) pss_nil)
    (pss_cons (ps_if (pt_val (pe_call (ok_can_be_undone T) (hr.mono (by decide)) rfl T.g_can_be_undone T.F_can_be_undone.kp T.bd_can_be_undone .nil pass0 (pa_cons (pv 0) (pa_cons (pv 1) pa_nil)))) (pss_one (ps_aug (i := 3) sc_kinds_of.nd rfl (Or.inl rfl) pe_int ip_add)) pss_nil)
    (pss_cons (ps_if (pt_val (pe_call (ok_can_be_undone T) (hr.mono (by decide)) rfl T.g_can_be_undone T.F_can_be_undone.kp T.bd_can_be_undone .nil pass0 (pa_cons (pv 2) (pa_cons (pv 1) pa_nil)))) (pss_one (ps_aug (i := 3) sc_kinds_of.nd rfl (Or.inl rfl) pe_int ip_add)) pss_nil)
    (pss_cons (ps_if (pt_val (pe_call (ok_can_be_undone_both_ways T) (hr.mono (by decide)) rfl T.g_can_be_undone_both_ways T.F_can_be_undone_both_ways.kp T.bd_can_be_undone_both_ways .nil pass0 (pa_cons (pv 0) (pa_cons (pv 1) pa_nil)))) (pss_one (ps_aug (i := 3) sc_kinds_of.nd rfl (Or.inl rfl) pe_int ip_add)) pss_nil)
    (pss_cons (ps_if (pt_val (pe_call (ok_makes_itself T) (hr.mono (by decide)) rfl T.g_makes_itself T.F_makes_itself.kp T.bd_makes_itself .nil pass0 (pa_cons (pv 0) (pa_cons (pv 1) pa_nil)))) (pss_one (ps_aug (i := 3) sc_kinds_of.nd rfl (Or.inl rfl) pe_int ip_add)) pss_nil)
    (pss_one (ps_ret (pv 3))))))))))), ?_⟩)
  · obtain ⟨_, _, _, ⟨_, _, _, _, _, _, _, _, _, rfl, _⟩, _⟩ := h
    rfl
  · obtain ⟨H0, v, e, ⟨a, dx, ab, ae, at_, c, m, k, f, rfl, hF, hm, hk, lf, rfl⟩, kk⟩ := h
    have hF := hF.mono e
    refine q_turn (ev_var rfl) hF hm hk fun H1 a' dx' ab' ae' at' _ _ _ _ F1 e1 => ?_
    have hc := catAt_of (hF.mono e1) hm hk
    have ht := catAt_of F1 (mok_turned hm) hk
    have lt : f < (turned c).arrows.length := by rw [len_turned]; exact lf
    refine q_asg ev_c fun H2 e2 => ?_
    refine q_addIf (x := 0) (n := 1) (et_B (ev_c1 (hc.mono e2) lf (ev_var rfl) (ev_var rfl))) rfl fun H3 e3 => ?_
    have e3 := e2.trans e3
    refine q_addIf (n := 2) (et_B (ev_c1 (ht.mono e3) lt (ev_var rfl) (ev_var rfl))) rfl fun H4 e4 => ?_
    have e4 := e3.trans e4
    refine q_addIf (n := 4) (et_B (ev_c1 (hc.mono e4) lf (ev_var rfl) (ev_var rfl))) rfl fun H5 e5 => ?_
    have e5 := e4.trans e5
    refine q_addIf (n := 8) (et_B (ev_c1 (ht.mono e5) lt (ev_var rfl) (ev_var rfl))) rfl fun H6 e6 => ?_
    have e6 := e5.trans e6
    refine q_addIf (n := 16) (et_B (ev_c1 (hc.mono e6) lf (ev_var rfl) (ev_var rfl))) rfl fun H7 e7 => ?_
    have e7 := e6.trans e7
    refine q_addIf (n := 32) (et_B (ev_c1 (hc.mono e7) lf (ev_var rfl) (ev_var rfl))) rfl fun H8 e8 => ?_
    have e8 := e7.trans e8
    refine s_ret (ev_is (ev_var rfl) ?_) fun H9 e9 => kk H9 ((e1.trans e8).trans e9)
    unfold Fc01.kinds
    rw [Nat.zero_add]
theorem ev_kinds {dx ab ae at_ : Addr} {m : Mm} {k f : Nat} (hF : CatF A.C H a dx ab ae at_ c m) (hm : MOk k c m) (hk : k ≤ 100) (lf : f < c.arrows.length) (h : Ev ta σ H (.ref a)) (hf : Ev tb σ H (.int (f : Int))) :
    Ev (tCall (spKinds A.C) [] E (tCons ta (tCons tb tNil))) σ H (.int (Fc01.kinds c f : Int)) := ev_fn (ea_cons h (ea_cons hf ea_nil)) (spV_go ⟨a, dx, ab, ae, at_, c, m, k, f, rfl, hF, hm, hk, lf, rfl⟩)
end
end Arr
-- text S5
set_option Elab.async false
set_option linter.unusedVariables false
/-! # the specification's own side: the last thing, products and their like -/
namespace Arr
open Fc01 (from_ to_ after hom)
theorem find_is {α : Type} (p : α → Bool) : ∀ l : List α, l.find? p = l.findSome? fun x => if p x = true then some x else none
  | [] => rfl
  | x :: l => by
    rw [List.find?_cons, List.findSome?_cons]
    cases q : p x with
    | true => rfl
    | false => exact find_is p l
theorem last_is (c : Cat) : Fc01.last c = (List.range c.n).findSome? fun y => if Fc01.isLast c y = true then some y else none := find_is _ _
/-- the first pair of arrows from one thing to x and to y that is good -/
def firstPair (c : Cat) (x y : Nat) (good : Nat → Nat → Bool) : Option (Nat × Nat) := (List.range c.n).findSome? fun p => (hom c p x).findSome? fun f => (hom c p y).findSome? fun g => if good f g = true then some (f, g) else none
theorem pairs_is (c : Cat) (x y : Nat) (good : Nat → Nat → Bool) : (Fc01.pairsTo c x y).find? (fun a => good a.1 a.2) = firstPair c x y good := by
  rw [find_is]
  unfold Fc01.pairsTo firstPair Fc01.things
  rw [find_flatMap]
  congr 1
  funext p
  rw [find_flatMap]
  congr 1
  funext f
  rw [find_map]
theorem product_is (c : Cat) (x y : Nat) : Fc01.product c x y = firstPair c x y (Fc01.isBest c fun _ _ => true) := pairs_is c x y _
theorem pullback_is (c : Cat) (f g : Nat) : Fc01.pullback c f g = firstPair c (from_ c f) (from_ c g) (Fc01.isBest c fun u v => after c u f == after c v g) := pairs_is c _ _ _
/-- how many arrows make u with f, v with g -/
def byOne (c : Cat) (f g u v : Nat) : Bool := ((hom c (from_ c u) (from_ c f)).filter fun h => after c h f == some u && after c h g == some v).length == 1
/-- a search for a pair that doesn't come by just one -/
def bad1 (c : Cat) (ok : Nat → Nat → Bool) (f g u v : Nat) : Option Unit := if (ok u v && !byOne c f g u v) = true then some () else none
def badU (c : Cat) (ok : Nat → Nat → Bool) (f g q u : Nat) : Option Unit := (hom c q (to_ c g)).findSome? (bad1 c ok f g u)
def badQ (c : Cat) (ok : Nat → Nat → Bool) (f g q : Nat) : Option Unit := (hom c q (to_ c f)).findSome? (badU c ok f g q)
def bad (c : Cat) (ok : Nat → Nat → Bool) (f g : Nat) : Option Unit := (List.range c.n).findSome? (badQ c ok f g)
theorem best_is (c : Cat) (ok : Nat → Nat → Bool) (f g : Nat) : Fc01.isBest c ok f g = (ok f g && (bad c ok f g).isNone) := by
  unfold Fc01.isBest
  congr 1
  cases e : bad c ok f g with
  | none =>
    show _ = true
    rw [List.all_eq_true]
    intro q hq
    rw [List.all_eq_true]
    intro u hu
    rw [List.all_eq_true]
    intro v hv
    have h := find_none_iff (find_none_iff (find_none_iff e q hq) u hu) v hv
    unfold bad1 byOne at h
    rw [(hom_from hu).2.1] at h
    cases z : ok u v with
    | false => rfl
    | true =>
      rw [z] at h
      cases z2 : ((hom c q (from_ c f)).filter fun h => after c h f == some u && after c h g == some v).length == 1 with
      | true => rfl
      | false =>
        rw [z2] at h
        cases h
  | some w =>
    show _ = false
    obtain ⟨q, hq, h⟩ := find_some_ex e
    obtain ⟨u, hu, h⟩ := find_some_ex h
    obtain ⟨v, hv, h⟩ := find_some_ex h
    rw [← Bool.not_eq_true]
    intro z
    rw [List.all_eq_true] at z
    have z := z q hq
    rw [List.all_eq_true] at z
    have z := z u hu
    rw [List.all_eq_true] at z
    have z := z v hv
    unfold bad1 byOne at h
    rw [(hom_from hu).2.1] at h
    rw [Bool.or_eq_true, Bool.not_eq_true'] at z
    by_cases y : (ok u v && !(((hom c q (from_ c f)).filter fun h => after c h f == some u && after c h g == some v).length == 1)) = true
    · rw [Bool.and_eq_true, Bool.not_eq_true'] at y
      rcases z with z | z
      · rw [y.1] at z
        cases z
      · rw [y.2] at z
        cases z
    · rw [if_neg y] at h
      cases h
end Arr
-- text A6
set_option Elab.async false
set_option linter.unusedVariables false
set_option maxRecDepth 100000
set_option maxHeartbeats 4000000
/-! # functions made on the way: lambdas with parameters, defs that are handed on; tables of code objects -/
namespace Arr
open PySem PySem.Spec PyProof.Rows L2 Evl LamX NdefX
/-! ### heaps without their tables -/
def strip (H : Hp) : Hp := fun a => match H a with
  | some (.tbl _) => none
  | o => o
theorem strip_some {H : Hp} {a : Addr} {o : HO} (h : strip H a = some o) : H a = some o ∧ ∀ ps, o ≠ .tbl ps := by
  unfold strip at h
  cases q : H a with
  | none =>
    rw [q] at h
    cases h
  | some u =>
    rw [q] at h
    cases u <;> first | (cases h; done) | (cases h; exact ⟨rfl, fun ps z => nomatch z⟩)
theorem strip_of {H : Hp} {a : Addr} {o : HO} (h : H a = some o) (n : ∀ ps, o ≠ .tbl ps) : strip H a = some o := by
  unfold strip
  rw [h]
  cases o <;> first | rfl | exact (n _ rfl).elim
theorem ex_strip (H : Hp) : Ex (strip H) H := fun a o h => (strip_some h).1
theorem exN_of {H H' : Hp} (e : ExtN H H') : Ex (strip H) H' := fun a o h => e a o (strip_some h).1 (strip_some h).2
theorem exN_to {H H' : Hp} (e : Ex (strip H) H') : ExtN H H' := fun a o h n => e a o (strip_of h n)
theorem strip_ex {H H' : Hp} (e : Ex H H') : Ex (strip H) (strip H') := fun a o h => strip_of (e a o (strip_some h).1) (strip_some h).2
/-- known of all but the tables -/
theorem Ex.N {H H' : Hp} (e : Ex H H') : Ex (strip H) H' := (ex_strip H).trans e
theorem exN_trans {H H1 H2 : Hp} (a : Ex (strip H) H1) (b : Ex (strip H1) H2) : Ex (strip H) H2 := fun x o h => b x o (strip_of (a x o h) (strip_some h).2)
/-! ### a lambda's object -/
structure LF where
  qual : Str
  params : Arguments
  body : Expr
  scope : Scope
  cl : List (Str × Addr)
  c : Addr
abbrev LF.fd (F : LF) (pm ctv : Value) : FuncData := PySem.W.kla_fn "<lambda>" F.qual F.params F.body F.scope F.cl pm (.ref F.c) ctv
abbrev LF.nf (F : LF) : NF := ⟨"<lambda>", F.qual, F.params, [], F.scope, F.cl, F.c⟩
def LamO (f : Addr) (F : LF) : HO := .ext fun h => ∃ (od : Option Addr) (sl : Array (Option Value)) (pm ctv : Value), h.get? f = some (⟨.type "function", od, .func (F.fd pm ctv), sl⟩ : Obj)
theorem lamO_ne {f : Addr} {F : LF} (ps : Array Value) : LamO f F ≠ .tbl ps := fun z => by
  unfold LamO at z
  cases z
theorem lamO_at {P : Program} {w : World} {H : Hp} {h : Heap} {f : Addr} {F : LF} (hok : HOk P w H h) (e : H f = some (LamO f F)) : ∃ (od : Option Addr) (sl : Array (Option Value)) (pm ctv : Value), h.get? f = some (⟨.type "function", od, .func (F.fd pm ctv), sl⟩ : Obj) := (hok f _ e).1
section
variable {X : Cx} {pins : List (Addr × Obj)} {σ : L2.St} {H : Hp} {s : Shared}
theorem inv_lam {F : LF} {o : Obj} {tk : Nat} {pm ctv : Value} (I : Inv X pins σ H s) (ho : o = { cls := .type "function", data := .func (F.fd pm ctv) }) :
    Inv X pins σ (upd H s.heap.objs.size (LamO s.heap.objs.size F)) { s with heap := s.heap.push o, toks := tk } := by
  subst ho
  have e : (s.heap.push ({ cls := .type "function", data := .func (F.fd pm ctv) } : Obj)).get? s.heap.objs.size = some ({ cls := .type "function", data := .func (F.fd pm ctv) } : Obj) := Heap.get?_push_size _ rfl
  exact I.laid (a := s.heap.objs.size) (fun b u q => Heap.get?_push_of_some _ q) (Nat.le_refl _) ⟨⟨_, _, pm, ctv, e⟩, ⟨_, e⟩, fun h1 h2 ⟨od, sl, p, t, z⟩ st => ⟨od, sl, p, t, st _ z⟩⟩
/-- a lambda evaluated: its object is known from now on -/
theorem lam_new {T : List (Addr × Str)} {c P : Addr} {q : Str} {params : Arguments} {body : Expr} {scope : Scope} {pos : Pos} {E : Value → Shared → Prop} {Q : Value → Shared → Prop} (I : Inv X pins σ H s) (TB : TabB X.base X.mg c P) (hcode : X.env.code = .ref c)
    (hq : X.env.qual ++ "<lambda>" = q) (hm : (P, q) ∈ T) (hu : ∀ p ∈ T, p.1 = P → p.2 = q) (hT : Tabs T H) (hdef : defaultsOf params X.env = ([], [])) (hfree : ∀ y ∈ scope.names, y.2 = .free → ∃ c, X.env.cells.lookup y.1 = some c)
    (k : ∀ (f c' : Addr) (H1 : Hp) (s' : Shared), Inv X pins σ H1 s' → ExtN H H1 → (∀ b, H1 b = none → H b = none) → Tabs T H1 → H f = none → H1 f = some (LamO f ⟨q, params, body, scope, cloFrom X.env.cells scope.names [], c'⟩) → H1 c' = some (CodeO c' q) → Q (.ref f) s') :
    wpAny (model X.prog X.w) X.A (eval (.Lambda params body scope pos) X.env) Q E s := by
  subst hq
  obtain ⟨ps, hP, ht, ha⟩ := hT _ hm
  have bP := TB.bm.keeps I.bk; have hP' : s.heap.get? P = some { cls := .none, data := .fields ps } := I.hok P _ hP
  refine PySem.W.kla_eval hdef ?_
  cases hc : codeAmong pos ps.toList with
  | some cv =>
    obtain ⟨c1, e, hco⟩ := ha pos cv hc
    subst e
    refine PySem.W.kla_makeFunctionHit (closure_ok hfree) I.ok.glob (I.mod.glob.keeps I.bk) hcode (TB.code.keeps I.bk) hP' ht hc bP fun ctv hh tk hx hsz => ?_
    have J : Inv X pins σ H { s with heap := hh, toks := tk } := I.kept hx
    have nF : H hh.objs.size = none := J.hok.fresh (Nat.le_refl _)
    have J2 := inv_lam (F := ⟨X.env.qual ++ "<lambda>", params, body, scope, cloFrom X.env.cells scope.names [], c1⟩) (tk := tk) (pm := (X.mg "__name__").getD .none) (ctv := ctv) J rfl
    have up : ∀ b o, H b = some o → upd H hh.objs.size (LamO hh.objs.size ⟨X.env.qual ++ "<lambda>", params, body, scope, cloFrom X.env.cells scope.names [], c1⟩) b = some o := fun b o e => (upd_ne (ne_of_none e nF)).trans e
    exact k _ c1 _ _ J2 (ExtN.of up) (fun b e => upd_none e) (hT.ext up) nF upd_same (up _ _ hco)
  | none =>
    refine PySem.W.kla_makeFunction (closure_ok hfree) I.ok.glob (I.mod.glob.keeps I.bk) hcode (TB.code.keeps I.bk) hP' ht hc TB.gP bP fun c1 ctv hh tk hx hge hlt hrec htb => ?_
    obtain ⟨c2, oc, vs, t, e2, hoc, hd, hv⟩ := hrec
    cases e2
    have nC : H c1 = none := I.hok.fresh hge
    have J := inv_table (t' := tk) (more := #[rawInt pos.line, rawInt pos.col, .ref c1]) (h' := hh) I hP (fun b o hb e => hx b o hb e) htb hge ⟨oc, vs, t, hoc, hd, hv⟩
    have eL : (ps ++ #[rawInt pos.line, rawInt pos.col, .ref c1]).toList = ps.toList ++ [rawInt pos.line, rawInt pos.col, .ref c1] := by simp
    have hE : ExtN H (upd (upd H P (.tbl (ps ++ #[rawInt pos.line, rawInt pos.col, .ref c1]))) c1 (CodeO c1 (X.env.qual ++ "<lambda>"))) := fun b o e n =>
      (upd_ne (ne_of_none e nC)).trans ((upd_ne fun z => n ps (Option.some.inj (e.symm.trans (by rw [z]; exact hP)))).trans e)
    have hT1 : Tabs T (upd (upd H P (.tbl (ps ++ #[rawInt pos.line, rawInt pos.col, .ref c1]))) c1 (CodeO c1 (X.env.qual ++ "<lambda>"))) := fun p hp => by
      by_cases hb : p.1 = P
      · rw [hu p hp hb, hb]
        refine ⟨_, (upd_ne (ne_of_none hP nC)).trans upd_same, by rw [eL]; exact PySem.TriplesOk_snoc _ _ _ _ ht, fun p' cv hcv => ?_⟩
        rw [eL] at hcv
        rcases among_app _ ht hcv with z | z
        · obtain ⟨c0, a1, a2⟩ := ha p' cv z
          exact ⟨c0, a1, hE _ _ a2 codeO_ne⟩
        · exact ⟨c1, z, upd_same⟩
      · obtain ⟨ps', a1, a2, a3⟩ := hT p hp
        refine ⟨ps', (upd_ne (ne_of_none a1 nC)).trans ((upd_ne hb).trans a1), a2, fun p' cv hcv => ?_⟩
        obtain ⟨c0, b1, b2⟩ := a3 p' cv hcv
        exact ⟨c0, b1, hE _ _ b2 codeO_ne⟩
    have nF := J.hok.fresh (Nat.le_refl hh.objs.size)
    have J2 := inv_lam (F := ⟨X.env.qual ++ "<lambda>", params, body, scope, cloFrom X.env.cells scope.names [], c1⟩) (tk := tk) (pm := (X.mg "__name__").getD .none) (ctv := ctv) J rfl
    refine k _ c1 _ _ J2 (fun b o e n => ?_) (fun b e => upd_none (upd_none (upd_none e))) (hT1.ext fun b o e => (upd_ne (ne_of_none e nF)).trans e) (I.hok.fresh (Nat.le_trans hge (Nat.le_of_lt hlt))) upd_same ((upd_ne (Nat.ne_of_lt hlt)).trans upd_same)
    have e1 := hE b o e n
    exact (upd_ne (ne_of_none e1 nF)).trans e1
end
/-- the reading of a lambda: a function object is new, the table may have grown -/
def tLamN (T : List (Addr × Str)) (q : Str) (mk : Addr → LF) : TE := fun σ H Q => Tabs T H ∧ ∀ (f c' : Addr) (H1 : Hp), ExtN H H1 → (∀ b, H1 b = none → H b = none) → Tabs T H1 → H f = none → H1 f = some (LamO f (mk c')) → H1 c' = some (CodeO c' q) → Q (.ref f) H1
theorem pe_lamN {X : Cx} {T : List (Addr × Str)} {c P : Addr} {q : Str} {params : Arguments} {body : Expr} {scope : Scope} {pos : Pos} (TB : TabB X.base X.mg c P) (hcode : X.env.code = .ref c) (hq : X.env.qual ++ "<lambda>" = q) (hm : (P, q) ∈ T) (hu : ∀ p ∈ T, p.1 = P → p.2 = q)
    (hdef : defaultsOf params X.env = ([], [])) (hfree : ∀ y ∈ scope.names, y.2 = .free → X.env.scope.names.lookup y.1 = some .cell ∨ X.env.scope.names.lookup y.1 = some .free) :
    PE X (.Lambda params body scope pos) (tLamN T q fun c' => ⟨q, params, body, scope, cloFrom X.env.cells scope.names [], c'⟩) := ⟨fun pins s σ H Q I h => by
  obtain ⟨hT, h⟩ := h
  have hf : ∀ y ∈ scope.names, y.2 = .free → ∃ c, X.env.cells.lookup y.1 = some c := fun y hy e => (hfree y hy e).elim (fun z => I.ok.has _ (.inl z)) fun z => I.ok.has _ (.inr z)
  exact lam_new I TB hcode hq hm hu hT hdef hf fun f c' H1 s' I1 e1 nn t1 f0 f1 c1 => ⟨.ref f, H1, I1, rfl, h f c' H1 e1 nn t1 f0 f1 c1⟩⟩
/-! ### a lambda called -/
structure LOk (P : Program) (w : World) (K : PySem.W.Frag) (mg : Str → Option Value) (base : Heap) (k : Nat) (f : Addr) (F : LF) (fr : List Str) (sp : List (Option V) → Sp) : Prop where
  run : ∀ (A : Around) (outer : List Env) (s : Shared) (H : Hp) (us : List Value) (vs : List V) (ws : List (Option V)) (Q : VK), Room k A → Env0 P w K mg base A outer s H → H f = some (LamO f F) → H F.c = some (CodeO F.c F.qual) →
    CellsAt F.cl fr ws s.heap H → Vals vs us → sp ws vs H Q E0 → codeAny (model P w) A (.call (.ref f) ⟨us, []⟩) (CR CX0 outer P w H s Q E0) s
theorem lok_of {P : Program} {w : World} {K : PySem.W.Frag} {mg : Str → Option Value} {base : Heap} {k : Nat} {f : Addr} {F : LF} {N ps fr : List Str} {sp : List (Option V) → Sp} (S : NScope N ps fr F.scope)
    (hb : ∀ (pm ctv : Value) (us : List Value), us.length = ps.length → bindArgs (F.fd pm ctv) ⟨us, []⟩ = pure (ps.zip us)) (len : ∀ ws vs H Q, sp ws vs H Q E0 → vs.length = ps.length)
    (hbody : ∀ (A : Around) (outer : List Env) (s : Shared) (H : Hp) (vs : List V) (ws : List (Option V)) (Q : VK), Room k (A.deeper (envF F.nf f s.heap.objs.size)) → ws.length = fr.length → sp ws vs H Q E0 →
      ∃ t, PE (ncx CX0 P w K mg base N F.nf f A outer s H E0) F.body t ∧ t (startF N vs ws) H Q) : LOk P w K mg base (k + 1) f F fr sp := ⟨fun A outer s H us vs ws Q hr e0 hf hc C r hsp => by
  have hl := len _ _ _ _ hsp
  have lim := e0.mod.nolimit.keeps fun b o e => (e0.bs b o e).1
  obtain ⟨od, sl, pm, ctv, ho⟩ := lamO_at e0.hok hf
  refine PySem.W.kla_callFunE hr.depth ho rfl S.co S.gen rfl (codeO_at e0.hok hc) ?_
  rw [hb pm ctv us (by rw [← r.length]; exact hl)]
  refine wpAny_pure (wpAny_newFunctionEnv S.nocell (fun ⟨n, _⟩ hy => S.par n (List.of_mem_zip hy).1) (fun h1 hns hsb => ⟨lim.fresh _ hsb, ?_⟩) S.kind)
  have kp : ∀ b o, s.heap.get? b = some o → h1.get? b = some o := fun b o e => hsb.extBut b o (Nat.ne_of_lt (Heap.lt_size e)) (Heap.get?_push_of_some _ e)
  obtain ⟨t, ht, hq⟩ := hbody A outer s H vs ws Q (hr.deeper _) C.len hsp
  have J : Inv (ncx CX0 P w K mg base N F.nf f A outer s H E0) [] (startF N vs ws) H { s with heap := h1, toks := s.toks + (ps.zip us).length } := inv_startN S hr.hd e0 hl r C hns kp
  refine PySem.W.kla_codeExpr (e := F.body) (env := envF F.nf f s.heap.objs.size) (wpAny_mono (ht.run [] _ _ H Q J hq) (fun v s' hz => ?_) fun e s' hz => hz)
  obtain ⟨v', H', J', rv, q⟩ := hz
  exact ⟨v', H', J'.os, J'.bare, J'.base, J'.hok, rv, q⟩⟩
/-! ### functions handed on -/
structure Clo where
  ag : Addr
  cl : List (Str × Addr)
  fr : List Str
  ws : List (Option V)
  o : HO
  c : Addr
  q : Str
/-- its objects are known -/
def Clo.Known (C : Clo) (H : Hp) : Prop := H C.ag = some C.o ∧ H C.c = some (CodeO C.c C.q)
theorem Clo.Known.mono {C : Clo} {H H' : Hp} (e : Ex H H') (h : C.Known H) : C.Known H' := ⟨e _ _ h.1, e _ _ h.2⟩
/-- its cells stand, apart from the frames -/
def Clo.Cells (C : Clo) (s : Shared) (H : Hp) (outer : List Env) : Prop := CellsAt C.cl C.fr C.ws s.heap H ∧ ∀ y c, C.cl.lookup y = some c → c ∉ frs outer
structure Clo.Ok (C : Clo) (P : Program) (w : World) (K : PySem.W.Frag) (mg : Str → Option Value) (base : Heap) (k : Nat) (sp : Sp) : Prop where
  fn : ∀ (H : Hp) (h : Heap), HOk P w H h → H C.ag = some C.o → PySem.W.FnAt C.ag h
  run : ∀ (A : Around) (outer : List Env) (s : Shared) (H : Hp) (us : List Value) (vs : List V) (Q : VK), Room k A → Env0 P w K mg base A outer s H → C.Known H → CellsAt C.cl C.fr C.ws s.heap H → Vals vs us → sp vs H Q E0 →
    codeAny (model P w) A (.call (.ref C.ag) ⟨us, []⟩) (CR CX0 outer P w H s Q E0) s
theorem Clo.Cells.later {C : Clo} {X : Cx} {pins : List (Addr × Obj)} {σ : L2.St} {H : Hp} {s : Shared} (hx : X.ex = []) (hl : X.s_0.heap.objs.size ≤ X.env.locals) (c : C.Cells X.s_0 X.H_0 X.outer) (I : Inv X pins σ H s) : C.Cells s H X.stack := by
  refine ⟨c.1.later c.2 (fun y a e => by rw [hx]; simp) I, fun y a e z => ?_⟩
  rcases List.mem_cons.mp (I.stkSub _ z) with h | h
  · obtain ⟨_, v, o, ho, _⟩ := c.1.all y a e
    have lt := Heap.lt_size ho
    rw [h] at lt
    exact absurd lt (Nat.not_lt.mpr hl)
  · exact c.2 y a e h
/-- a def that is told more of the state than its promise can say -/
structure FnS (P : Program) (w : World) (K : PySem.W.Frag) (mg : Str → Option Value) (base : Heap) (C : Clo) (k : Nat) (f : Addr) (fd : FuncData) (ps : List Str) (sp : Sp) : Prop where
  len : ∀ vs H Q E, sp vs H Q E → vs.length = ps.length
  run : ∀ (A : Around) (outer : List Env) (s : Shared) (H : Hp) (args : Args) (us : List Value) (vs : List V) (Q : VK) (E : XK), Room k A → Env0 P w K mg base A outer s H → C.Cells s H outer → BindsTo s fd args (ps.zip us) → Vals vs us → sp vs H Q E →
    codeAny (model P w) A (.call (.ref f) args) (CR CX0 outer P w H s Q E) s
theorem okS {P : Program} {w : World} {K : PySem.W.Frag} {mg : Str → Option Value} {base : Heap} {C : Clo} {x qual : Str} {st : Stmt} {f : Addr} {fd : FuncData} {N ps : List Str} {k : Nat} {sp : Sp} (F : Fun K x qual st f fd) (S : FnScope N ps (defScope st))
    (len : ∀ vs H Q E, sp vs H Q E → vs.length = ps.length)
    (hbody : ∀ (cdv : Value) (A : Around) (outer : List Env) (s : Shared) (H : Hp) (vs : List V) (Q : VK) (E : XK), Room k (A.deeper (envOfC qual (defScope st) s.heap.objs.size f cdv)) → C.Cells s H outer → sp vs H Q E →
      ∃ t, PSs (cxOf CX0 P w K mg base N qual (defScope st) f cdv A outer s H E).nox (defBody st) t ∧ t { nx := fun _ H' => Q .non H', rt := Q } (start N vs) H) : FnS P w K mg base C (k + 1) f fd ps sp := by
  obtain ⟨oc, od, kV, doc, pm, an, cdv, ct, osl, rfl, lk, hcd⟩ := F.ex
  refine ⟨len, fun A outer s H args us vs Q E hr e0 hC hb r hsp => run_ofS lk hcd S hr e0 hb r (len _ _ _ _ hsp) fun hr' => ?_⟩
  obtain ⟨t, h, q⟩ := hbody cdv A outer s H vs Q E hr' hC hsp
  exact ⟨t, h.nox, q⟩
/-- a def whose code object is told -/
theorem okC {P : Program} {w : World} {K : PySem.W.Frag} {mg : Str → Option Value} {base : Heap} {x qual : Str} {st : Stmt} {f : Addr} {fd : FuncData} {N ps : List Str} {k : Nat} {sp : Sp} (F : Fun K x qual st f fd) (S : FnScope N ps (defScope st))
    (len : ∀ vs H Q E, sp vs H Q E → vs.length = ps.length)
    (hbody : ∀ (A : Around) (outer : List Env) (s : Shared) (H : Hp) (vs : List V) (Q : VK) (E : XK), Room k (A.deeper (envOfC qual (defScope st) s.heap.objs.size f fd.code)) → sp vs H Q E →
      ∃ t, PSs (cxOf CX0 P w K mg base N qual (defScope st) f fd.code A outer s H E).nox (defBody st) t ∧ t { nx := fun _ H' => Q .non H', rt := Q } (start N vs) H) : FnOk P w K mg base CX0 (k + 1) f fd ps sp := by
  obtain ⟨oc, od, kV, doc, pm, an, cdv, ct, osl, rfl, lk, hcd⟩ := F.ex
  refine fn_of lk hcd S len fun A outer s H vs Q E hr hsp => ?_
  obtain ⟨t, h, q⟩ := hbody A outer s H vs Q E hr hsp
  exact ⟨t, h.nox, q⟩
theorem clo_lam {P : Program} {w : World} {K : PySem.W.Frag} {mg : Str → Option Value} {base : Heap} {k : Nat} {f : Addr} {F : LF} {fr : List Str} {sp : List (Option V) → Sp} {ws : List (Option V)} (L : LOk P w K mg base k f F fr sp) : Clo.Ok ⟨f, F.cl, fr, ws, LamO f F, F.c, F.qual⟩ P w K mg base k (sp ws) :=
  ⟨fun H h hok e => by
    obtain ⟨od, sl, pm, ctv, ho⟩ := lamO_at hok e
    exact ⟨_, od, _, sl, ho⟩, fun A outer s H us vs Q hr e0 hk C r q => L.run A outer s H us vs ws Q hr e0 hk.1 hk.2 C r q⟩
theorem clo_def {P : Program} {w : World} {K : PySem.W.Frag} {mg : Str → Option Value} {base : Heap} {k : Nat} {f : Addr} {F : NF} {ps fr : List Str} {sp : List (Option V) → Sp} {ws : List (Option V)} (L : NOk P w K mg base CX0 k f F ps fr sp) : Clo.Ok ⟨f, F.cl, fr, ws, FnO f F, F.c, F.qual⟩ P w K mg base k (sp ws) :=
  ⟨fun H h hok e => by
    obtain ⟨od, sl, doc, pm, ctv, ho⟩ := fnO_at hok e
    exact ⟨_, od, _, sl, ho⟩, fun A outer s H us vs Q hr e0 hk C r q => L.run A outer s H us vs ws Q E0 hr e0 hk.1 hk.2 C r q⟩
section
variable {X : Cx} {C : Clo} {k i : Nat} {f : Addr} {fd : FuncData} {ps : List Str} {sp : Sp} {x : Str} {p pos : Pos} {e : Expr} {es : List Expr} {t : TA}
/-- f(..), f such a def -/
theorem pe_callS (F : FnS X.prog X.w X.K X.mg X.base C k f fd ps sp) (hx : X.ex = []) (hl : X.s_0.heap.objs.size ≤ X.env.locals) (hC : C.Cells X.s_0 X.H_0 X.outer) (hr : Room k X.A) (hg : Gl X x) (hm : X.mg x = some (.ref f)) (hk : PySem.W.keepIn X.K (.ref f) = true)
    (hb : Binds X.K fd ps []) (ha : PA X (e :: es) t) (hdb : (x == ("__debug__" : Str)) = false := by decide) (he : starEach (e :: es) X.env = (false, eval e X.env) :: starEach es X.env := by rfl)
    (hpl : (backTo pos (starEach es X.env)).any (·.1) = false := by rfl) : PE X (.Call (.Name x p) (e :: es) [] pos) (tCall sp [] E0 t) := ⟨fun pins s σ H Q I h => by
  refine wpAny_Call_Name_kw (ld_glob I hg hm ?_ hdb)
  refine PySem.W.callWith_K (h₀ := X.base) I.ok.mod.kin hk (thn (ha.run pos pins s σ H _ I h) fun us s1 ⟨vs, H1, J, r, q⟩ => ⟨J.kIn, ?_⟩) he hpl
  have q : sp vs H1 Q E0 := by rw [← List.append_nil vs]; exact q
  have lu : us.length = ps.length := by rw [← r.length]; exact F.len _ _ _ _ q
  have hb2 := hb s1 us J.kIn (by rw [List.append_nil]; exact lu)
  rw [List.append_nil] at hb2
  refine wpAny_call (codeAny_mono (F.run X.A X.stack s1 H1 ⟨us, []⟩ us vs Q E0 hr J.env0 (hC.later hx hl J) hb2 r q) fun res s' hq => ?_)
  match res, hq with
  | .ok (.ret u), hq => exact J.after hq⟩
/-- a(..), a a parameter that holds the function handed on -/
def tAg (C : Clo) (i : Nat) (sp : Sp) (t : TA) : TE := fun σ H Q => σ[i]? = some (some (.ref C.ag)) ∧ C.Known H ∧ t σ H fun vs H1 => C.Known H1 ∧ sp vs H1 Q E0
theorem pe_ag (O : C.Ok X.prog X.w X.K X.mg X.base k sp) (hx : X.ex = []) (hl : X.s_0.heap.objs.size ≤ X.env.locals) (hC : C.Cells X.s_0 X.H_0 X.outer) (hr : Room k X.A) (hN : X.N[i]? = some x) (hv : Vis X.env.scope x) (ha : PA X (e :: es) t)
    (hd : (x == ("__debug__" : Str)) = false := by decide) (hcd : (x == ("__classdict__" : Str)) = false := by decide)
    (he : starEach (e :: es) X.env = (false, eval e X.env) :: starEach es X.env := by rfl) (hpl : (backTo pos (starEach es X.env)).any (·.1) = false := by rfl) : PE X (.Call (.Name x p) (e :: es) [] pos) (tAg C i sp t) := ⟨fun pins s σ H Q I h => by
  obtain ⟨hs, hkn, ht⟩ := h
  refine wpAny_Call_Name_kw (thn ((pe_var (pos := p) hN hv hd hcd).run pins s σ H (fun v H1 => v = .ref C.ag ∧ H1 = H) I ⟨.ref C.ag, hs, rfl, rfl⟩) fun u s1 ⟨v, H1, I1, r1, q1⟩ => ?_)
  obtain ⟨rfl, rfl⟩ := q1
  obtain rfl : u = Value.ref C.ag := r1
  refine PySem.W.callWith_F (first := []) (O.fn _ _ I1.hok hkn.1) (thn (ha.run pos pins s1 σ _ _ I1 ht) fun us s2 ⟨vs, H2, J, r, h1, q⟩ => ⟨O.fn _ _ J.hok h1.1, ?_⟩) he hpl
  show wpAny _ _ (call (.ref C.ag) us) _ _ _
  refine wpAny_call (codeAny_mono (O.run X.A X.stack s2 H2 us vs Q hr J.env0 h1 (hC.later hx hl J).1 r q) fun res s' hq => ?_)
  match res, hq with
  | .ok (.ret u), hq => exact J.after hq⟩
end
end Arr
-- text A7
set_option Elab.async false
set_option linter.unusedVariables false
set_option maxRecDepth 100000
set_option maxHeartbeats 4000000
/-! # sets of a list of ints; the greatest by a key -/
namespace Arr
open PySem PySem.Spec PyProof.Rows L2 Evl LamX NdefX
/-! ### set(l), l a list of ints -/
abbrev set0 (w : World) : Obj := { cls := .type "set", dict := none, data := .set #[] 0 (.fresh 0 0 (!w.params.followText "set-order")) }
section
variable {P : Program} {w : World} {A : Around} {E : Value → Shared → Prop} {s : Shared}
theorem set_of_list {l : Addr} {its : Array Value} (ns : List Int) {Q : Value → Shared → Prop} (hh : A.handled = none) (hl : s.heap.IsList l its) (hit : IntsAre its.toList ns) (hb : ns.length + 1 < scanBound)
    (k : ∀ (h1 : Heap) (tk c : Nat), SetR w h1 s.heap.objs.size (fun j => decide (j ∈ ns)) c → c ≤ ns.length → (∀ b o, s.heap.get? b = some o → h1.get? b = some o) → Q (.ref s.heap.objs.size) { s with heap := h1, toks := tk }) :
    wpAny (model P w) A (call (.type "set") [.ref l]) Q E s := by
  have hsz : its.size = ns.length := by
    have q := hit.length
    rw [Array.length_toList] at q
    exact q
  obtain ⟨c, tl, hmro⟩ := F.called_set.mro
  have hmade := F.called_set.made; have hsub := F.called_set.sub
  refine wpAny_call (codeAny_of_tree ?_)
  show wpAny _ _ (callAny (.type "set") _) _ _ _
  refine wpAny_pure ⟨Code.quiet_builtin _ (by decide +kernel), codeAny_builtin F.entry_type_call ?_⟩
  rw [Around.under_plain (weight_type_call_type "set" [.ref l] []) rfl]
  have h1 := F.called_set.notType; have h2 := F.called_set.canCreate; have hct := F.typeCall_set_1 (.ref l)
  repeat (any_goals (first | assumption | wp_step))
  refine codeAny_mono (code_set_led1 (.ref l) (E := E) (Q₁ := fun obj s1 => obj = .ref s.heap.objs.size ∧ s1 = { s with heap := s.heap.push (set0 w) }) ⟨rfl, rfl⟩) fun r s1 hr => ?_
  match r, hr with
  | .error e, hr => exact hr
  | .ok (.ret obj), hr =>
    obtain ⟨rfl, rfl⟩ := hr
    have hS : (s.heap.push (set0 w)).get? s.heap.objs.size = some (set0 w) := Heap.get?_push_size _ rfl
    have hT : Shared.TypeIs { s with heap := s.heap.push (set0 w) } (.ref s.heap.objs.size) "set" := ⟨_, hS, rfl⟩
    have hli := F.called_set.init.lookup; have hbi := F.called_set.init.bind (.ref s.heap.objs.size)
    repeat (any_goals (first | assumption | wp_step))
    refine codeAny_mono (codeAny_call_builtin (R := wants (fun r s2 => r = .none ∧ ∃ h1 tk c, s2 = { s with heap := h1, toks := tk } ∧ SetR w h1 s.heap.objs.size (fun j => decide (j ∈ ns)) c ∧ c ≤ ns.length ∧ (∀ b o, s.heap.get? b = some o → h1.get? b = some o)) E)
        F.called_set.init.plain F.entry_set_init (check_set_init_1 hT ?_)) fun r2 s2 hr2 => ?_
    · obtain ⟨ol, hol, hcl, nl, hdl⟩ := hl
      obtain ⟨ocls, odict, odata, oslots⟩ := ol
      simp only at hcl hdl
      subst hcl; subst hdl
      have hol' : (s.heap.push (set0 w)).get? l = some { cls := .type "list", dict := odict, data := .seq its nl, slots := oslots } := Heap.get?_push_of_some _ hol
      have hsls := F.sub_list_set; have hslf := F.sub_list_frozenset; have hne : (Value.type "list" == Value.type "dict") = false := by decide
      have hl1 : (s.heap.push (set0 w)).IsList l its := ⟨_, hol', rfl, nl, rfl⟩
      unfold Builtin.«set.__init__» noKeywords Builtin.Frozenset.updateFrom
      generalize hPI : pyIter = PI
      wp_walk
      subst hPI
      refine wpAny_pyIter_list hl1 (wpAny_bind (wpAny_runValue ?_))
      have lS : l < s.heap.objs.size := Heap.lt_size hol
      have hh3 : A.in1.in1.in1.handled = none := by simp [hh]
      have lI : l ≠ (s.heap.push (set0 w)).objs.size := by rw [Heap.size_push]; exact Nat.ne_of_lt (Nat.lt_succ_of_lt lS)
      have nin : s.heap.objs.size ∉ [(s.heap.push (set0 w)).objs.size, l] := by
        rw [Heap.size_push]
        intro z
        rcases List.mem_cons.mp z with z | z
        · exact absurd z (Nat.ne_of_lt (Nat.lt_succ_self _))
        · exact absurd (List.mem_singleton.mp z) (Nat.ne_of_gt lS)
      have hval : ∀ (i : Nat) (v : Value), its[i]? = some v → ∃ k t, ns[i]? = some k ∧ v = .int k t := fun i v hv => by
        have hi : i < ns.length := by rw [← hsz]; exact (Array.getElem?_eq_some_iff.mp hv).1
        obtain ⟨t, e⟩ := hit.int_at i v (by rw [Array.getElem?_toList]; exact hv)
        exact ⟨ns[i], t, List.getElem?_eq_getElem hi, by rw [e, List.getD_eq_getElem?_getD, List.getElem?_eq_getElem hi] <;> rfl⟩
      refine set_update_ints ((Walks.list hh3 _ l lI its).toS) s.heap.objs.size nin ns hsz hb hval (its.size - 0) 0 _ (by omega) (Nat.zero_le _) ⟨⟨_, Heap.get?_push_size _ rfl, rfl, rfl⟩, (hl1.push _)⟩
        ⟨0, Nat.le_refl 0, setR_new_at (Heap.get?_push_of_some _ hS)⟩ fun s' c' hm hc' hS' => ?_
      obtain ⟨h3, g3, d3, tk3, os3⟩ := s'
      have eg : g3 = s.gens := hm.gens
      have ed : d3 = s.drawn := hm.drawn
      have eo : os3 = s.os := hm.os
      subst eg; subst ed; subst eo
      show wpAny _ _ _ _ _ _
      refine wpAny_pure ?_
      show wpAny _ _ (ret Value.none) _ _ _
      rw [hsz] at hc'
      refine wpAny_pure ⟨rfl, h3, tk3, c', rfl, hS', hc', fun b o e => ?_⟩
      have lb : b < s.heap.objs.size := Heap.lt_size e
      refine hm.heap b o (fun z => ?_) (Heap.get?_push_of_some _ (Heap.get?_push_of_some _ e))
      rcases List.mem_cons.mp z with z | z
      · exact absurd z (Nat.ne_of_lt lb)
      · refine absurd (List.mem_singleton.mp z) ?_
        rw [Heap.size_push]
        exact Nat.ne_of_lt (Nat.lt_succ_of_lt lb)
    · match r2, hr2 with
      | .error e, hr2 => exact hr2
      | .ok (.ret r), hr2 =>
        obtain ⟨rfl, h3, tk, c', rfl, hS', hc', hk'⟩ := hr2
        repeat (any_goals (first | assumption | wp_step))
        exact k _ _ _ hS' hc' hk'
end
end Arr
-- text A7b
set_option Elab.async false
set_option linter.unusedVariables false
set_option maxRecDepth 100000
set_option maxHeartbeats 4000000
/-! # sets, the greatest by a key, lists of lists sorted: as rules -/
namespace Arr
open PySem PySem.Spec PyProof.Rows L2 Evl LamX NdefX
def rSetL (K : PySem.W.Frag) (w : World) : List V → Hp → VK → Prop := fun vs H Q => ∃ (l : Addr) (ns : List Int), vs = [.ref l] ∧ SqL K H l (ns.map V.int) ∧ ns.length + 1 < scanBound ∧ ∀ p c, c ≤ ns.length → H p = none → Q (.ref p) (upd H p (SetO w p (fun j => decide (j ∈ ns)) c))
theorem cr_setL {X : Cx} {K : PySem.W.Frag} (hK : X.K = K) (hc : X.calm = true) : CallR X (.type "set") (rSetL K X.w) := by
  subst hK
  intro pins s σ H vs us Q I r h
  obtain ⟨l, ns, rfl, hs, hb, q⟩ := h
  obtain ⟨its, rv, hl, _⟩ := I.list hs
  rw [Vals.ref1 r]
  exact set_of_list ns (I.ok.hd hc) hl.isList (by simpa using rv.ints) hb fun h1 tk c R hcn kp => ⟨.ref _, _, I.laid (t' := tk) kp (Nat.le_refl _) (setO_new R), rfl, q _ c hcn (I.hok.fresh (Nat.le_refl _))⟩
/-- sorted(set(l)) -/
theorem el_sortset {K : PySem.W.Frag} {w : World} {σ : L2.St} {H : Hp} {te : TE} {ns ms : List Int} (h : EvL te σ H (ns.map V.int)) (hb : ns.length + 1 < scanBound) (h64 : ns.length < 64) (hs : ms.Pairwise (· < ·)) (hm : ∀ k : Int, k ∈ ms ↔ k ∈ ns) :
    EvL (tCB (rSortedSet w) (tCons (tCB (rSetL K w) (tCons te tNil)) tNil)) σ H (ms.map V.int) := fun H1 e Q q =>
  h H1 e _ fun l H2 hl e2 h2 => by
    refine ⟨l, ns, rfl, sq_of h2, hb, fun p c hc hp => ⟨p, _, c, rfl, upd_same, by omega, fun ns' p' hs' hm' hl' hp' => ?_⟩⟩
    have e0 : ns' = ms := by
      have mem : ∀ x, x ∈ ns' ↔ x ∈ ms := fun x => by rw [hm' x, hm x]; simp
      clear hm' hm q h hb h64 hl' hp' h2 hc
      induction ms generalizing ns' with
      | nil => exact List.eq_nil_iff_forall_not_mem.mpr fun x hx => absurd ((mem x).mp hx) (by simp)
      | cons x r ih =>
        cases ns' with
        | nil => exact absurd ((mem x).mpr (List.mem_cons_self ..)) (by simp)
        | cons y t =>
          obtain ⟨a1, a2⟩ := List.pairwise_cons.mp hs
          obtain ⟨b1, b2⟩ := List.pairwise_cons.mp hs'
          have exy : x = y := by
            rcases List.mem_cons.mp ((mem x).mpr (List.mem_cons_self ..)) with z | z
            · exact z
            · rcases List.mem_cons.mp ((mem y).mp (List.mem_cons_self ..)) with z2 | z2
              · exact z2.symm
              · have := b1 x z
                have := a1 y z2
                omega
          subst exy
          congr 1
          refine ih a2 t b2 fun z => ?_
          have mz := mem z
          rw [List.mem_cons, List.mem_cons] at mz
          constructor
          · intro hz
            rcases mz.mp (Or.inr hz) with e | e
            · subst e
              have := b1 z hz
              omega
            · exact e
          · intro hz
            rcases mz.mpr (Or.inr hz) with e | e
            · subst e
              have := a1 z hz
              omega
            · exact e
    rw [e0]
    have n2 : H2 p' = none := by
      have := hp'
      unfold upd at this
      by_cases z : p' = p
      · rw [if_pos z] at this
        cases this
      · rw [if_neg z] at this
        exact this
    exact q p' _ (fresh_back e2 n2) ((e2.trans (Ex.new hp)).trans (Ex.new hp')) upd_same
/-! ### max(l, key=f), l a list of ints: one of them -/
abbrev pair2 (v : Value) (n : Int) (t : Tok) (c : Nat) : Obj := seqObj "list" #[v, .int n t] c
section
variable {X : Cx} {pins : List (Addr × Obj)} {σ : L2.St} {H : Hp} {C : Clo} {k : Nat} {sp : Sp} {l I S : Addr} {ns : List Int} {Q : VK}
/-- what the two helpers' places are not -/
structure Apart (X : Cx) (pins : List (Addr × Obj)) (b : Addr) : Prop where
  loc : b ≠ X.env.locals
  fs : b ∉ X.fs
  yng : X.s_0.heap.objs.size ≤ b
  cel : ∀ x c, X.env.cells.lookup x = some c → c ≠ b
  pin : ∀ p ∈ X.pn ++ pins, p.1 ≠ b
theorem not_cell_seq {a : Array Value} {n : Nat} : ∀ v, (seqObj "list" a n).data ≠ .cell v := fun v z => nomatch z
theorem iter_not_cell {h : Heap} {I l : Addr} {j : Nat} {o : Obj} (h1 : h.IsListIter I l j) (h2 : h.get? I = some o) : ∀ v, o.data ≠ .cell v := fun v z => by
  obtain ⟨o', e, _, d⟩ := h1
  rw [h2] at e
  cases e
  rw [d] at z
  cases z
theorem max_go (hc : X.calm = true) (O : C.Ok X.prog X.w X.K X.mg X.base k sp) (hr : Room (k + 1) X.A) (hcl : ∀ (pins : List (Addr × Obj)) (H : Hp) (s : Shared), Inv X pins σ H s → CellsAt C.cl C.fr C.ws s.heap H)
    (hk : C.Known H) (hs : SqL X.K H l (ns.map V.int)) (hkey : ∀ n ∈ ns, ∃ i : Int, SpV sp [.int n] H (.int i)) (aS : Apart X pins S) (aI : Apart X pins I) (hSI : S ≠ I) (hlI : l ≠ I) (hlS : l ≠ S) (hQ : ∀ m ∈ ns, ∀ H1, Ex H H1 → Q (.int m) H1) :
    ∀ (r j : Nat) (H1 : Hp) (s : Shared) (m kb : Int) (tm tb : Tok) (cc : Nat) (oI : Obj), ns.length - (j + 1) = r → j + 1 ≤ ns.length → m ∈ ns → Ex H H1 → Inv X (pins ++ [(S, pair2 (.int m tm) kb tb cc), (I, oI)]) σ H1 s → s.heap.IsListIter I l (j + 1) →
      codeAny (model X.prog X.w) X.A (.builtin "max.loop" ⟨[.ref I, .ref C.ag, .ref S], []⟩) (fun res s' => match res with | .ok (.ret v) => EP X pins σ Q v s' | .ok _ => False | .error e => X.xe e s') s := by
  have hname : (toString "max" ++ toString ".loop" : String) = "max.loop" := by decide
  have hh : X.A.in1.handled = none := hr.hd
  have repin : ∀ {H1 : Hp} {s : Shared} {oS oI : Obj}, Inv X pins σ H1 s → s.heap.get? S = some oS → s.heap.get? I = some oI → H1 S = none → H1 I = none → (∀ v, oS.data ≠ .cell v) → (∀ v, oI.data ≠ .cell v) → Inv X (pins ++ [(S, oS), (I, oI)]) σ H1 s := fun {H1 s oS oI} J g1 g2 n1 n2 d1 d2 =>
    J.pins_of fun p hp => by
      rcases List.mem_append.mp hp with z | z
      · exact J.pin p (List.mem_append_right _ z)
      · rcases List.mem_cons.mp z with rfl | z
        · exact ⟨g1, n1, aS.loc, aS.fs, d1⟩
        · rw [List.mem_singleton.mp z]
          exact ⟨g2, n2, aI.loc, aI.fs, d2⟩
  intro r
  induction r with
  | zero =>
    intro j H1 s m kb tm tb cc oI hr0 hj hm e1 J hit
    obtain ⟨its, rv, hl, _⟩ := J.list (ex_l e1 hs)
    have len : its.toArray.size = ns.length := by rw [List.size_toArray, ← rv.length, List.length_map]
    have W := Walks.list (prog := X.prog) (w := X.w) hh I l hlI its.toArray
    have pS := J.pin (S, pair2 (.int m tm) kb tb cc) (by simp)
    have pI := J.pin (I, oI) (by simp)
    refine codeAny_builtin PySem.F.entry_max_loop (by
      rw [Around.under_plainId PySem.F.plain_max_loop _]
      show wpAny _ X.A.in1 (seqItems? (.ref S) >>= _) _ _ _
      refine wpAny_bind (wpAny_seqItems pS.1 rfl ?_)
      show wpAny _ X.A.in1 (tryCatch (pyNext (.ref I)) _ >>= _) _ _ _
      refine wpAny_bind (wpAny_tryCatch (W.done _ _ _ ⟨by rw [len, show ns.length = j + 1 by omega]; exact hit, hl.isList⟩ fun h2 tk2 kp2 => ?_))
      have J0 : Inv X pins σ H1 s := J.unpinned
      have J1 : Inv X pins σ H1 { s with heap := h2, toks := tk2 } := J0.turned (fun b o hb e => kp2 b o (by simpa using hb) e) pI.2.1 aI.loc (.inr aI.yng) aI.cel aI.pin
      have gS := kp2 S _ (by simpa using hSI) pS.1
      show wpAny _ X.A.in1 (updateSeq S (fun _ => #[]) >>= _) _ _ _
      refine wpAny_bind (wpAny_updateSeq gS rfl (wpAny_bind (wpAny_letGo (wpAny_pure ?_))))
      have sb := Heap.SameBut.update h2 S (Obj.mapSeq fun _ => (#[] : Array Value))
      exact ⟨.int m, H1, J1.turned (h' := h2.update S (Obj.mapSeq fun _ => (#[] : Array Value))) (fun b o hb e => (sb.2 b hb).trans e) pS.2.1 aS.loc (.inr aS.yng) aS.cel aS.pin, ⟨_, rfl⟩, hQ m hm H1 e1⟩)
  | succ r ih =>
    intro j H1 s m kb tm tb cc oI hr0 hj hm e1 J hit
    obtain ⟨its, rv, hl, _⟩ := J.list (ex_l e1 hs)
    have len : its.toArray.size = ns.length := by rw [List.size_toArray, ← rv.length, List.length_map]
    have W := Walks.list (prog := X.prog) (w := X.w) hh I l hlI its.toArray
    have pS := J.pin (S, pair2 (.int m tm) kb tb cc) (by simp)
    have pI := J.pin (I, oI) (by simp)
    refine codeAny_builtin PySem.F.entry_max_loop (by
      rw [Around.under_plainId PySem.F.plain_max_loop _]
      show wpAny _ X.A.in1 (seqItems? (.ref S) >>= _) _ _ _
      refine wpAny_bind (wpAny_seqItems pS.1 rfl ?_)
      show wpAny _ X.A.in1 (tryCatch (pyNext (.ref I)) _ >>= _) _ _ _
      refine wpAny_bind (wpAny_tryCatch (W.item (j + 1) _ _ _ (by rw [len]; omega) ⟨hit, hl.isList⟩ fun v h2 tk2 hP st2 kp2 => ?_))
      have hP : its[j + 1]? = some v := by simpa using hP
      obtain ⟨n, hn⟩ : ∃ n, ns[j + 1]? = some n := ⟨ns[j + 1], List.getElem?_eq_getElem (by omega)⟩
      obtain ⟨u, hu, ru⟩ := rv.get (i := j + 1) (x := .int n) (by rw [List.getElem?_map, hn]; rfl)
      rw [hP] at hu
      cases hu
      obtain ⟨tn, rfl⟩ := ru
      have hnm : n ∈ ns := List.mem_of_getElem? hn
      have J0 : Inv X pins σ H1 s := J.unpinned
      have J1 : Inv X pins σ H1 { s with heap := h2, toks := tk2 } := J0.turned (fun b o hb e => kp2 b o (by simpa using hb) e) pI.2.1 aI.loc (.inr aI.yng) aI.cel aI.pin
      have gS := kp2 S _ (by simpa using hSI) pS.1
      obtain ⟨o2, ho2, hoc2, hod2⟩ := id st2.1
      have J2 : Inv X (pins ++ [(S, pair2 (.int m tm) kb tb cc), (I, o2)]) σ H1 { s with heap := h2, toks := tk2 } := repin J1 gS ho2 pS.2.1 pI.2.1 not_cell_seq (iter_not_cell st2.1 ho2)
      obtain ⟨i, hi⟩ := hkey n hnm
      show wpAny _ X.A.in1 (tryCatch (holding [.int n tn] (call (.ref C.ag) [.int n tn])) _ >>= _) _ _ _
      refine wpAny_bind (wpAny_tryCatch (wpAny_holding (wpAny_call (codeAny_mono (O.run X.A.in1 X.stack _ H1 [.int n tn] [.int n] (fun v H2 => v = .int i ∧ Ex H1 H2) hr.in1 J2.env0.in1 (hk.mono e1) (hcl _ _ _ J2) (.cons ⟨tn, rfl⟩ .nil) (hi H1 e1 _ (fun H2 e2 => ⟨rfl, e2⟩) E0)) fun res s3 hq => ?_))))
      match res, hq with
      | .ok (.ret u), hq =>
        obtain ⟨x, H2, J3, rx, rfl, e2⟩ := J2.after hq
        obtain ⟨t3, rfl⟩ := rx
        have pS3 := J3.pin (S, pair2 (.int m tm) kb tb cc) (by simp)
        have pI3 := J3.pin (I, o2) (by simp)
        show wpAny _ X.A.in1 (tryCatch (holding [.int n tn, .int i t3] (richCompare .Gt (.int i t3) (.int kb tb) >>= _)) _ >>= _) _ _ _
        refine wpAny_bind (wpAny_tryCatch (wpAny_holding (wpAny_bind (PyProof.Rows.gt_int ?_))))
        refine wpAny_bind (wpAny_holding (wpAny_truthy_bool ?_))
        refine wpAny_bind (wpAny_letGo (wpAny_pure ?_))
        by_cases big : i > kb
        · simp only [big, decide_true, if_true]
          have sb := Heap.SameBut.update s3.heap S (Obj.mapSeq fun _ => #[.int n tn, .int i t3])
          obtain ⟨c3, hc3⟩ : ∃ c3, (s3.heap.update S (Obj.mapSeq fun _ => #[.int n tn, .int i t3])).get? S = some (pair2 (.int n tn) i t3 c3) := ⟨_, get?_update_seq pS3.1 fun _ => #[.int n tn, .int i t3]⟩
          have J4 : Inv X pins σ H2 { s3 with heap := s3.heap.update S (Obj.mapSeq fun _ => #[.int n tn, .int i t3]), toks := s3.toks } := J3.unpinned.turned (fun b o hb e => (sb.2 b hb).trans e) pS3.2.1 aS.loc (.inr aS.yng) aS.cel aS.pin
          have gI : (s3.heap.update S (Obj.mapSeq fun _ => #[.int n tn, .int i t3])).get? I = some o2 := (sb.2 I hSI.symm).trans pI3.1
          refine wpAny_bind (wpAny_updateSeq pS3.1 rfl (wpAny_bind (wpAny_letGo ?_)))
          rw [hname]
          exact wpAny_pure ⟨plainId_quiet PySem.F.plain_max_loop _, ih (j + 1) H2 _ n i tn t3 c3 o2 (by omega) (by omega) hnm (e1.trans e2) (repin J4 hc3 gI pS3.2.1 pI3.2.1 not_cell_seq (iter_not_cell st2.1 ho2)) ⟨o2, gI, hoc2, hod2⟩⟩
        · simp only [big, decide_false, Bool.false_eq_true, if_false]
          refine wpAny_bind (wpAny_letGo ?_)
          rw [hname]
          exact wpAny_pure ⟨plainId_quiet PySem.F.plain_max_loop _, ih (j + 1) H2 _ m kb tm tb cc o2 (by omega) (by omega) hm (e1.trans e2) J3 ⟨o2, pI3.1, hoc2, hod2⟩⟩)
theorem max_key {s : Shared} (hc : X.calm = true) (O : C.Ok X.prog X.w X.K X.mg X.base k sp) (hr : Room (k + 1) X.A) (hcl : ∀ (pins : List (Addr × Obj)) (H : Hp) (s : Shared), Inv X pins σ H s → CellsAt C.cl C.fr C.ws s.heap H)
    (J : Inv X pins σ H s) (hk : C.Known H) (hs : SqL X.K H l (ns.map V.int)) (hne : 0 < ns.length) (hkey : ∀ n ∈ ns, ∃ i : Int, SpV sp [.int n] H (.int i)) (hQ : ∀ m ∈ ns, ∀ H1, Ex H H1 → Q (.int m) H1) :
    wpAny (model X.prog X.w) X.A (call (.builtin "max") [.ref l] [(Str.ofString "key", .ref C.ag)]) (EP X pins σ Q) X.xe s := by
  have hname : (toString "max" ++ toString ".loop" : String) = "max.loop" := by decide
  have hh : X.A.in1.handled = none := hr.hd
  obtain ⟨its, rv, hl, _⟩ := J.list hs
  have ll : l < s.heap.objs.size := hl.lt
  have len : its.toArray.size = ns.length := by rw [List.size_toArray, ← rv.length, List.length_map]
  let hI : Heap := s.heap.push { cls := .type "list_iterator", data := .fields #[.ref l, .int 0 0] }
  let hS : Heap := hI.push (seqObj "list" #[] 0)
  have zI : hI.objs.size = s.heap.objs.size + 1 := size_push' ..
  have nS : hI.objs.size ≠ s.heap.objs.size := by rw [zI]; exact Nat.ne_of_gt (Nat.lt_succ_self _)
  have kp : ∀ b o, s.heap.get? b = some o → hS.get? b = some o := fun b o e => Heap.get?_push_of_some _ (Heap.get?_push_of_some _ e)
  have gI : hS.get? s.heap.objs.size = some { cls := .type "list_iterator", data := .fields #[.ref l, .int 0 0] } := Heap.get?_push_of_some _ (Heap.get?_push_size _ rfl)
  have gS : hS.get? hI.objs.size = some (seqObj "list" #[] 0) := Heap.get?_push_size _ rfl
  have ap : ∀ b, s.heap.objs.size ≤ b → Apart X pins b := fun b hb => by
    obtain ⟨_, a1, a2, a3, a4, a5⟩ := J.fpOk (H' := H) hb (J.hok.fresh hb)
    exact ⟨a1, a2, Nat.le_trans J.sz hb, a4, a5⟩
  have aI := ap s.heap.objs.size (Nat.le_refl _)
  have aS := ap hI.objs.size (by rw [zI]; exact Nat.le_succ _)
  have J1 : Inv X pins σ H { s with heap := hS, toks := s.toks } := J.kept kp
  have W := Walks.list (prog := X.prog) (w := X.w) hh s.heap.objs.size l (Nat.ne_of_lt ll) its.toArray
  refine kmk_tree PySem.F.kind_max PySem.F.plain_max PySem.F.entry_max (kmk_max_key _ _) (by
    show wpAny _ X.A.in1 (Builtin.Builtins.bindParams "max" ["key", "default"] 0 ⟨[], [(Str.ofString "key", .ref C.ag)]⟩ >>= _) _ _ s
    refine wpAny_bind (wpAny_of_eq (show Builtin.Builtins.bindParams "max" ["key", "default"] 0 ⟨[], [(Str.ofString "key", .ref C.ag)]⟩ = pure [some (.ref C.ag), none] from rfl) ?_)
    refine wpAny_bind (wpAny_pure (wpAny_bind (wpAny_pyIter_list hl.isList (wpAny_bind (wpAny_newList ?_ (Nat.zero_le _))))))
    rw [hname]
    refine wpAny_pure ⟨plainId_quiet PySem.F.plain_max_loop _, codeAny_builtin PySem.F.entry_max_loop ?_⟩
    rw [Around.under_plainId PySem.F.plain_max_loop _]
    show wpAny _ X.A.in1 (seqItems? (.ref _) >>= _) _ _ _
    refine wpAny_bind (wpAny_seqItems gS rfl ?_)
    show wpAny _ X.A.in1 (tryCatch (pyNext (.ref s.heap.objs.size)) _ >>= _) _ _ _
    refine wpAny_bind (wpAny_tryCatch (W.item 0 _ _ _ (by rw [len]; exact hne) ⟨⟨_, gI, rfl, rfl⟩, (hl.isList.push _).push _⟩ fun v h2 tk2 hP st2 kp2 => ?_))
    have hP : its[0]? = some v := by simpa using hP
    obtain ⟨n, hn⟩ : ∃ n, ns[0]? = some n := ⟨ns[0], List.getElem?_eq_getElem hne⟩
    obtain ⟨u, hu, ru⟩ := rv.get (i := 0) (x := .int n) (by rw [List.getElem?_map, hn]; rfl)
    rw [hP] at hu
    cases hu
    obtain ⟨tn, rfl⟩ := ru
    have hnm : n ∈ ns := List.mem_of_getElem? hn
    have nI : H s.heap.objs.size = none := J.hok.fresh (Nat.le_refl _)
    have nSn : H hI.objs.size = none := J.hok.fresh (by rw [zI]; exact Nat.le_succ _)
    have J2 : Inv X pins σ H { s with heap := h2, toks := tk2 } := J1.turned (fun b o hb e => kp2 b o (by simpa using hb) e) nI aI.loc (.inr aI.yng) aI.cel aI.pin
    have gS2 := kp2 hI.objs.size _ (by simpa using nS) gS
    obtain ⟨o2, ho2, hoc2, hod2⟩ := id st2.1
    have J3 : Inv X (pins ++ [(hI.objs.size, seqObj "list" #[] 0), (s.heap.objs.size, o2)]) σ H { s with heap := h2, toks := tk2 } := J2.pins_of fun p hp => by
      rcases List.mem_append.mp hp with z | z
      · exact J2.pin p (List.mem_append_right _ z)
      · rcases List.mem_cons.mp z with rfl | z
        · exact ⟨gS2, nSn, aS.loc, aS.fs, not_cell_seq⟩
        · rw [List.mem_singleton.mp z]
          exact ⟨ho2, nI, aI.loc, aI.fs, iter_not_cell st2.1 ho2⟩
    obtain ⟨i, hi⟩ := hkey n hnm
    show wpAny _ X.A.in1 (tryCatch (holding [.int n tn] (call (.ref C.ag) [.int n tn])) _ >>= _) _ _ _
    refine wpAny_bind (wpAny_tryCatch (wpAny_holding (wpAny_call (codeAny_mono (O.run X.A.in1 X.stack _ H [.int n tn] [.int n] (fun v H2 => v = .int i ∧ Ex H H2) hr.in1 J3.env0.in1 hk (hcl _ _ _ J3) (.cons ⟨tn, rfl⟩ .nil) (hi H (Ex.refl H) _ (fun H2 e2 => ⟨rfl, e2⟩) E0)) fun res s3 hq => ?_))))
    match res, hq with
    | .ok (.ret u), hq =>
      obtain ⟨x, H2, J4, rx, rfl, e2⟩ := J3.after hq
      obtain ⟨t3, rfl⟩ := rx
      have pS := J4.pin (hI.objs.size, seqObj "list" #[] 0) (by simp)
      have pI := J4.pin (s.heap.objs.size, o2) (by simp)
      have sb := Heap.SameBut.update s3.heap hI.objs.size (Obj.mapSeq fun _ => #[.int n tn, .int i t3])
      obtain ⟨c3, hc3⟩ : ∃ c3, (s3.heap.update hI.objs.size (Obj.mapSeq fun _ => #[.int n tn, .int i t3])).get? hI.objs.size = some (pair2 (.int n tn) i t3 c3) := ⟨_, get?_update_seq pS.1 fun _ => #[.int n tn, .int i t3]⟩
      have J5 : Inv X pins σ H2 { s3 with heap := s3.heap.update hI.objs.size (Obj.mapSeq fun _ => #[.int n tn, .int i t3]), toks := s3.toks } := J4.unpinned.turned (fun b o hb e => (sb.2 b hb).trans e) pS.2.1 aS.loc (.inr aS.yng) aS.cel aS.pin
      have gI3 : (s3.heap.update hI.objs.size (Obj.mapSeq fun _ => #[.int n tn, .int i t3])).get? s.heap.objs.size = some o2 := (sb.2 _ nS.symm).trans pI.1
      show wpAny _ X.A.in1 (updateSeq hI.objs.size (fun _ => #[.int n tn, .int i t3]) >>= _) _ _ _
      refine wpAny_bind (wpAny_updateSeq pS.1 rfl ?_)
      rw [hname]
      refine wpAny_pure ⟨plainId_quiet PySem.F.plain_max_loop _, ?_⟩
      refine max_go hc O hr hcl hk hs hkey aS aI nS (Nat.ne_of_lt ll) (by rw [zI]; exact Nat.ne_of_lt (Nat.lt_succ_of_lt ll)) hQ (ns.length - 1) 0 H2 _ n i tn t3 c3 o2 rfl hne hnm e2 (J5.pins_of fun p hp => ?_) ⟨o2, gI3, hoc2, hod2⟩
      rcases List.mem_append.mp hp with z | z
      · exact J5.pin p (List.mem_append_right _ z)
      · rcases List.mem_cons.mp z with rfl | z
        · exact ⟨hc3, pS.2.1, aS.loc, aS.fs, not_cell_seq⟩
        · rw [List.mem_singleton.mp z]
          exact ⟨gI3, pI.2.1, aI.loc, aI.fs, iter_not_cell st2.1 ho2⟩)
end
end Arr
-- text A8
set_option Elab.async false
set_option linter.unusedVariables false
set_option maxRecDepth 100000
set_option maxHeartbeats 4000000
/-! # max by a key, lists of lists sorted, deep in: the rules -/
namespace Arr
open PySem PySem.Spec PyProof.Rows L2 Evl LamX NdefX
/-- the reading of max(e, key=..) where the key is a function made here: js, where its captured names stand -/
def tMaxK (P : Program) (w : World) (K : PySem.W.Frag) (mg : Str → Option Value) (base : Heap) (k : Nat) (cl : List (Str × Addr)) (fr : List Str) (js : List Nat) (t tk : TA) : TE := fun σ H Q => t σ H fun vs H1 => tk σ H1 fun zs H2 =>
  ∃ (l : Addr) (ns : List Int) (C : Clo) (sp : Sp), vs = [.ref l] ∧ zs = [.ref C.ag] ∧ C.cl = cl ∧ C.fr = fr ∧ C.ws = js.map (slotAt σ) ∧ C.Known H2 ∧ C.Ok P w K mg base k sp ∧ SqL K H2 l (ns.map V.int) ∧ 0 < ns.length ∧ (∀ n ∈ ns, ∃ i : Int, SpV sp [.int n] H2 (.int i)) ∧ ∀ m ∈ ns, ∀ H3, Ex H2 H3 → Q (.int m) H3
theorem pe_maxK {X : Cx} {P : Program} {w : World} {K : PySem.W.Frag} {mg : Str → Option Value} {base : Heap} {k : Nat} {cl : List (Str × Addr)} {fr : List Str} {js : List Nat} {e : Expr} {kws : List Keyword} {t tk : TA} {p pos : Pos}
    (hP : X.prog = P) (hw : X.w = w) (hK : X.K = K) (hmg : X.mg = mg) (hbs : X.base = base) (hc : X.calm = true) (hr : Room (k + 1) X.A) (cp : X.Ok → Caps X cl fr js) (hg : Gl X "max") (hm : X.mg "max" = none) (ha : PA X [e] t) (hk : PK X kws tk)
    (he : backTo pos (starEach [e] X.env) = (false, eval e X.env) :: backTo pos (starEach [] X.env) := by rfl) (hpl : (backTo pos (starEach [e] X.env)).any (·.1) = false := by rfl)
    (hall : (backToKw pos (keywordEach kws X.env)).all (·.1.isSome) = true := by rfl) (hnone : (backToKw pos (keywordEach kws X.env)).any (·.1.isNone) = false := by rfl) (hks : (backToKw pos (keywordEach kws X.env)).filterMap (·.1) = [Str.ofString "key"] := by rfl) :
    PE X (.Call (.Name "max" p) [e] kws pos) (tMaxK P w K mg base k cl fr js t tk) := by
  subst hP hw hK hmg hbs
  refine ⟨fun pins s σ H Q I h => ?_⟩
  refine wpAny_Call_Name_kw (ld_blt I hg hm (show bootBuiltins "max" = some (.builtin "max") by decide +kernel) ?_ (by decide) (by decide))
  refine PyProof.Rows.callWith_kw (thn (ha.run pos pins s σ H _ I h) fun us s1 ⟨vs, H1, I1, r1, q1⟩ => thn (hk.run pos pins s1 σ H1 _ I1 q1) fun ws s2 ⟨zs, H2, I2, r2, q2⟩ => ?_) he hpl hall hnone
  rw [hks]
  obtain ⟨l, ns, C, sp, rfl, rfl, c1, c2, c3, hkn, O, hs, hne, hkey, hQ⟩ := q2
  rw [Vals.ref1 r1, Vals.ref1 r2]
  refine max_key hc O hr (fun pins H s J => ?_) I2 hkn hs hne hkey hQ
  rw [c1, c2, c3]
  exact cells_of J (cp J.ok)
/-! ### sorted(l), l a list of lists of numbers -/
def encB (b : Addr × List Nat) : PyData := .list (natD b.2)
theorem alike_nats : ∀ l r : List Nat, PySem.W.alikeAll (natD l) (natD r) = true
  | [], r => by unfold natD; simp [PySem.W.alikeAll]
  | n :: l, [] => by unfold natD; simp [PySem.W.alikeAll]
  | n :: l, m :: r => by
    show PySem.W.alikeAll (.int n :: natD l) (.int m :: natD r) = true
    rw [PySem.W.alikeAll, alike_nats l r]
    simp [PySem.W.alike]
def sortedB (bs : List (Addr × List Nat)) : List (Addr × List Nat) := bs.mergeSort (PySem.W.dataLe false encB)
def refsB (bs : List (Addr × List Nat)) : List V := bs.map fun b => V.ref b.1
def rSortLL (K : PySem.W.Frag) : List V → Hp → VK → Prop := fun vs H Q => ∃ (a : Addr) (bs : List (Addr × List Nat)), vs = [.ref a] ∧ SqL K H a (refsB bs) ∧ (∀ b ∈ bs, SqL K H b.1 (natV b.2)) ∧ ∀ p, H p = none → Q (.ref p) (upd H p (.lst (refsB (sortedB bs))))
theorem each_refs : ∀ {bs : List (Addr × List Nat)} {us : List Value}, Vals (refsB bs) us → PySem.W.EachIs (fun v b => v = Value.ref b.1) us bs
  | [], us, h => by
    have h : Vals [] us := h
    cases h
    exact .nil
  | b :: bs, us, h => by
    have h : Vals (V.ref b.1 :: refsB bs) us := h
    cases h with
    | cons h1 h2 => exact .cons h1 (each_refs h2)
theorem refs_each : ∀ {bs : List (Addr × List Nat)} {us : List Value}, PySem.W.EachIs (fun v b => v = Value.ref b.1) us bs → Vals (refsB bs) us
  | _, _, .nil => .nil
  | _, _, .cons h t => .cons (show L2.RelV (V.ref _) _ from h) (refs_each t)
theorem each_and {α β : Type} {R R' : α → β → Prop} : ∀ {as : List α} {bs : List β}, PySem.W.EachIs R as bs → (∀ a b, R a b → b ∈ bs → R' a b) → PySem.W.EachIs R' as bs
  | _, _, .nil, _ => .nil
  | _, _, .cons h t, k => .cons (k _ _ h (List.mem_cons_self ..)) (each_and t fun a b r hb => k a b r (List.mem_cons_of_mem _ hb))
theorem cr_sortLL {X : Cx} {K : PySem.W.Frag} (hK : X.K = K) (hu : X.A.units + 64 < cLine) : CallR X (.builtin "sorted") (rSortLL K) := by
  subst hK
  intro pins s σ H vs us Q I r h
  obtain ⟨a, bs, rfl, hs, hb, q⟩ := h
  obtain ⟨its, rv, hl, hz⟩ := I.list hs
  rw [Vals.ref1 r]
  have e1 := each_refs rv
  have rd0 : ∀ v b, v = Value.ref b.1 → b ∈ bs → ∃ as, Reads s.heap v (encB b) as := fun v b hv hbm => by
    have d : Dp X.K H (.ref b.1) (encB b) := Dp.lst (hb b hbm) dp_nats
    exact Dp.reads I _ _ v d hv
  have kp : ∀ (d : PyData) (v : Value) as, Reads s.heap v d as → Reads (PySem.W.sortingHeap (PySem.W.copyHeap s.heap its) (s.heap.objs.size + 1) its) v d as := fun d v as rd => PyProof.Rows.Reads.keeps (fun b o e => PySem.W.sorting_copy_old e) rd
  have er := each_and (R' := fun v b => ∃ as, Reads (PySem.W.sortingHeap (PySem.W.copyHeap s.heap its) (s.heap.objs.size + 1) its) v (encB b) as) e1 fun v b hv hbm => by
    obtain ⟨as, rd⟩ := rd0 v b hv hbm
    exact ⟨as, kp _ _ _ rd⟩
  have hal : PySem.W.AllAlike (bs.map encB) := fun d hd d' hd' => by
    obtain ⟨b, _, rfl⟩ := List.mem_map.mp hd
    obtain ⟨b', _, rfl⟩ := List.mem_map.mp hd'
    show PySem.W.alike (.list _) (.list _) = true
    rw [PySem.W.alike]
    exact alike_nats _ _
  have dep : ∀ d ∈ bs.map encB, X.A.in1.in1.units + d.depth < cLine := fun d hd => by
    obtain ⟨b, _, rfl⟩ := List.mem_map.mp hd
    have h2 : ∀ l : List Nat, PyData.depthAll (natD l) = 0 := fun l => by
      induction l with
      | nil => rfl
      | cons n r ih =>
        show max (PyData.depth (.int (n : Int))) (PyData.depthAll (natD r)) = 0
        rw [ih]
        rfl
    show X.A.units + 1 + 1 + (PyData.depthAll (natD b.2) + 1) < cLine
    rw [h2]
    omega
  refine PySem.W.sorted_vals (κ := PySem.W.dataKind (PySem.W.sortingHeap (PySem.W.copyHeap s.heap its) (s.heap.objs.size + 1) its) (bs.map encB)) hl.isList (PySem.W.SortsAt.data (PySem.W.each_map (R := fun v d => ∃ as, Reads _ v d as) encB er) hal (Or.inr fun d hd => ?_) dep) (by rw [← rv.length]; exact hz) ?_
  · obtain ⟨b, _, rfl⟩ := List.mem_map.mp hd
    exact ⟨(by intro z; cases z), (by intro xs z; cases z)⟩
  · have e2 := PySem.W.sortVals_data false e1 er hal
    obtain ⟨ep, he⟩ := PyProof.Rows.sortedAll_at s.heap its (PySem.W.sortVals (PySem.W.dataKind (PySem.W.sortingHeap (PySem.W.copyHeap s.heap its) (s.heap.objs.size + 1) its) (bs.map encB)) false its its).toArray
    have ln : (refsB (sortedB bs)).length ≤ sizeLine := by
      unfold refsB sortedB at *
      rw [List.length_map, List.length_mergeSort]
      rw [List.length_map] at hz
      exact hz
    exact ⟨.ref _, upd H (s.heap.objs.size + 1) (.lst (refsB (sortedB bs))), I.laid (t' := s.toks) (fun _ _ => PyProof.Rows.sortedAll_old) (Nat.le_succ _) ⟨ln, _, ep, refs_each e2, he⟩, rfl, q _ (I.hok.fresh (Nat.le_succ _))⟩
/-- deep in, with the written part named -/
theorem notInDK {X : Cx} {K : PySem.W.Frag} (h : X.K = K) (hu : X.A.units + 65 < cLine) : OpR X (compareOp .NotIn) (rNotInD K) := by
  subst h
  exact op_notInD hu
theorem rMaxLK {X : Cx} {K : PySem.W.Frag} (h : X.K = K) (hc : X.calm = true) : CallR X (.builtin "max") (rMax K) := by
  subst h
  exact cr_max hc
theorem cntK {X : Cx} {K : PySem.W.Frag} (h : X.K = K) : MtR X "list.count" (rCntI K) := by
  subst h
  exact mt_lcount
theorem enumK {X : Cx} {K : PySem.W.Frag} {e : Expr} {ta : TA} {p pos tpos : Pos} {elts : List Expr} {kk : Nat} (h : X.K = K) (hg : Gl X "enumerate") (hm : X.mg "enumerate" = none) (ha : PA X [e] ta) (hs : starEach [e] X.env = [(false, eval e X.env)] := by rfl) :
    PI X (.Tuple elts kk tpos) (.Call (.Name "enumerate" p) [e] [] pos) (iEnum K ta) := by
  subst h
  exact pi_enum hg hm ha hs
end Arr
-- text A9
set_option Elab.async false
set_option linter.unusedVariables false
set_option maxRecDepth 100000
set_option maxHeartbeats 4000000
/-! # a function made here is handed on -/
namespace Arr
open PySem PySem.Spec PyProof.Rows L2 Evl LamX NdefX
section
variable {X : Cx} {k : Nat} {f : Addr} {fd : FuncData} {ps : List Str} {cl : List (Str × Addr)} {fr : List Str} {js : List Nat} {sp : Clo → Sp} {x : Str} {p pos : Pos} {e : Expr} {es : List Expr} {t : TA}
/-- g(.., a), a a function that was made here -/
def tCallM (Ok : Clo → Prop) (cl : List (Str × Addr)) (fr : List Str) (js : List Nat) (sp : Clo → Sp) (t : TA) : TE := fun σ H Q => t σ H fun vs H1 => ∃ C, C.cl = cl ∧ C.fr = fr ∧ C.ws = js.map (slotAt σ) ∧ Ok C ∧ sp C vs H1 Q E0
theorem pe_callM {Ok : Clo → Prop} (F : ∀ C, Ok C → FnS X.prog X.w X.K X.mg X.base C k f fd ps (sp C)) (cp : X.Ok → Caps X cl fr js) (hfn : ∀ y, X.fn y = true) (hr : Room k X.A) (hg : Gl X x) (hm : X.mg x = some (.ref f)) (hk : PySem.W.keepIn X.K (.ref f) = true)
    (hb : Binds X.K fd ps []) (ha : PA X (e :: es) t) (hdb : (x == ("__debug__" : Str)) = false := by decide) (he : starEach (e :: es) X.env = (false, eval e X.env) :: starEach es X.env := by rfl)
    (hpl : (backTo pos (starEach es X.env)).any (·.1) = false := by rfl) : PE X (.Call (.Name x p) (e :: es) [] pos) (tCallM Ok cl fr js sp t) := ⟨fun pins s σ H Q I h => by
  refine wpAny_Call_Name_kw (ld_glob I hg hm ?_ hdb)
  refine PySem.W.callWith_K (h₀ := X.base) I.ok.mod.kin hk (thn (ha.run pos pins s σ H _ I h) fun us s1 ⟨vs, H1, J, r, q⟩ => ⟨J.kIn, ?_⟩) he hpl
  obtain ⟨C, c1, c2, c3, ok, q⟩ := q
  have lu : us.length = ps.length := by rw [← r.length]; exact (F C ok).len _ _ _ _ q
  have hb2 := hb s1 us J.kIn (by rw [List.append_nil]; exact lu)
  rw [List.append_nil] at hb2
  have hC : C.Cells s1 H1 X.stack := by
    refine ⟨by rw [c1, c2, c3]; exact cells_of J (cp J.ok), fun y c e z => ?_⟩
    rw [c1] at e
    have e2 := (cp J.ok).sub y c e
    rcases List.mem_cons.mp (J.stkSub _ z) with h | h
    · exact J.cne y c e2 h
    · obtain ⟨_, o, ho, _⟩ := J.ok.funs.mem h
      exact absurd (Heap.lt_size ho) (Nat.not_lt.mpr (J.ok.cab y c (hfn y) e2))
  refine wpAny_call (codeAny_mono ((F C ok).run X.A X.stack s1 H1 ⟨us, []⟩ us vs Q E0 hr J.env0 hC hb2 r q) fun res s' hq => ?_)
  match res, hq with
  | .ok (.ret u), hq => exact J.after hq⟩
end
/-- of a function without cells nothing need be known of the state -/
theorem fnS_free {P : Program} {w : World} {K : PySem.W.Frag} {mg : Str → Option Value} {base : Heap} {k : Nat} {f : Addr} {fd : FuncData} {ps : List Str} {Ok : Clo → Prop} {sp : Clo → Sp} (F : ∀ C, Ok C → FnS P w K mg base C k f fd ps (sp C)) :
    FnOk P w K mg base CX0 k f fd ps (fun vs H Q E => ∃ C, Ok C ∧ C.cl = [] ∧ C.fr = [] ∧ C.ws = [] ∧ sp C vs H Q E) := by
  refine ⟨fun vs H Q E h => ?_, fun A outer s H args us vs Q E hr e0 hb r h => ?_⟩
  · obtain ⟨C, ok, _, _, _, q⟩ := h
    exact (F C ok).len _ _ _ _ q
  · obtain ⟨C, ok, c1, c2, c3, q⟩ := h
    refine (F C ok).run A outer s H args us vs Q E hr e0 ⟨⟨by rw [c2, c3]; rfl, fun y c e => ?_, fun y z c e => ?_, fun i y e => ?_⟩, fun y c e => ?_⟩ hb r q
    · rw [c1] at e
      cases e
    · rw [c1] at e
      cases e
    · rw [c2] at e
      simp at e
    · rw [c1] at e
      cases e
theorem pg_tupK {X : Cx} {K : PySem.W.Frag} {es : List Expr} {k : Nat} {t : TGs} {n : Nat} {pos : Pos} (hK : X.K = K) (hc : X.calm = true) (h : PGs X es t) (hn : (assignEach es X.env).length = n := by rfl) (hst : (assignEach es X.env).findIdx? (·.1) = none := by rfl) : PG X (.Tuple es k pos) (gTup K n t) := by
  subst hK
  exact pg_tup hc h hn hst
end Arr
-- text B6
set_option Elab.async false
set_option linter.unusedVariables false
set_option maxRecDepth 100000
set_option maxHeartbeats 4000000
/-! # the last thing, products -/
namespace Arr
open PySem PySem.Spec PyProof.Rows L2 Evl LamX NdefX
open Fc01 (from_ to_ after hom turned)
def optP : Option (Nat × Nat) → List Nat
  | none => [0]
  | some p => [1, p.1, p.2]
def opt1 : Option Nat → List Nat
  | none => [0]
  | some x => [1, x]
def R_is_last (C : Addr) : List V → Hp → V → Prop := fun vs H v => ∃ a c, ∃ y : Nat, vs = [.ref a, .int (y : Int)] ∧ CatAt C H a c ∧ v = .bl (Fc01.isLast c y)
def R_last_thing (C : Addr) : List V → Hp → List V → Prop := fun vs H xs => ∃ a c, vs = [.ref a] ∧ CatAt C H a c ∧ xs = natV (opt1 (Fc01.last c))
def R_comes (C : Addr) : List V → Hp → V → Prop := fun vs H v => ∃ a c, ∃ f g u z : Nat, vs = [.ref a, .int (f : Int), .int (g : Int), .int (u : Int), .int (z : Int)] ∧ CatAt C H a c ∧ f < c.arrows.length ∧ u < c.arrows.length ∧ from_ c f = from_ c g ∧ v = .bl (byOne c f g u z)
def R_first_product (C : Addr) : List V → Hp → List V → Prop := fun vs H xs => ∃ a c, ∃ x y : Nat, vs = [.ref a, .int (x : Int), .int (y : Int)] ∧ CatAt C H a c ∧ xs = natV (optP (Fc01.product c x y))
theorem fold_count {α : Type} (p : α → Bool) : ∀ (l : List α) (n : Nat), l.foldl (fun z x => if p x = true then z + 1 else z) n = n + (l.filter p).length
  | [], n => rfl
  | x :: l, n => by
    rw [List.foldl_cons, fold_count p l, List.filter_cons]
    by_cases q : p x = true
    · rw [if_pos q, if_pos q, List.length_cons]
      omega
    · rw [if_neg q, if_neg q]
/-! ### tables of code objects -/
def tabs (A : Ads) : List (Addr × Str) := [(A.p_first_product, "first_product.<locals>.<lambda>"), (A.p_first_pullback, "first_pullback.<locals>.make_the_same"), (A.p_most_tied, "most_tied.<locals>.<lambda>")]
def RetLT (A : Ads) (xs : List V) (H : Hp) (Q : VK) : Prop := ∀ p H2, H p = none → Ex (strip H) H2 → (∀ b, H2 b = none → H b = none) → Tabs (tabs A) H2 → H2 p = some (.lst xs) → Q (.ref p) H2
def spLT (A : Ads) (R : List V → Hp → List V → Prop) : Sp := fun vs H Q _ => ∃ H0 xs, Ex H0 H ∧ R vs H0 xs ∧ Tabs (tabs A) H ∧ RetLT A xs H Q
theorem CatK.strip {C : Addr} {k : Nat} {H : Hp} {a : Addr} {c : Cat} (h : CatK C k H a c) : CatK C k (strip H) a c := by
  obtain ⟨dx, ab, ae, at_, m, hF, r⟩ := h
  exact ⟨dx, ab, ae, at_, m, ⟨strip_of hF.obj (fun _ z => by cases z), strip_of hF.beg (fun _ z => by cases z), strip_of hF.en (fun _ z => by cases z), strip_of hF.tol (fun _ z => by cases z), hF.ne⟩, r⟩
theorem CatAt.strip {C : Addr} {H : Hp} {a : Addr} {c : Cat} (h : CatAt C H a c) : CatAt C (strip H) a c := CatK.strip h
/-! ### a function that says whether two arrows agree -/
def AgSp (C : Addr) (spA : Sp) (a : Addr) (c : Cat) (x y : Nat) (ok : Nat → Nat → Bool) : Prop := ∀ (u v : Nat) (H : Hp), CatAt C H a c → u < c.arrows.length → v < c.arrows.length → to_ c u = x → to_ c v = y → SpV spA [.int (u : Int), .int (v : Int)] H (.bl (ok u v))
def spAC (P : Program) (w : World) (K : PySem.W.Frag) (mg : Str → Option Value) (base : Heap) (C : Addr) (Cl : Clo) : Sp := fun vs H Q _ => ∃ (spA : Sp) (H0 : Hp) (a : Addr) (c : Cat) (f g : Nat) (ok : Nat → Nat → Bool), Cl.Ok P w K mg base 3 spA ∧ Ex H0 H ∧
  vs = [.ref a, .int (f : Int), .int (g : Int), .ref Cl.ag] ∧ CatAt C H0 a c ∧ Cl.Known H0 ∧ AgSp C spA a c (to_ c f) (to_ c g) ok ∧ f < c.arrows.length ∧ g < c.arrows.length ∧ from_ c f = from_ c g ∧ RetV (.bl (bad c ok f g).isNone) H Q
def spFP (P : Program) (w : World) (K : PySem.W.Frag) (mg : Str → Option Value) (base : Heap) (C : Addr) (Cl : Clo) : Sp := fun vs H Q _ => ∃ (spA : Sp) (H0 : Hp) (a : Addr) (c : Cat) (x y : Nat) (ok : Nat → Nat → Bool), Cl.Ok P w K mg base 3 spA ∧ Ex H0 H ∧
  vs = [.ref a, .int (x : Int), .int (y : Int), .ref Cl.ag] ∧ CatAt C H0 a c ∧ Cl.Known H0 ∧ AgSp C spA a c x y ok ∧ RetL (natV (optP (firstPair c x y (Fc01.isBest c ok)))) H Q
section
variable {P : Program} {w : World} {K : PySem.W.Frag} {mg : Str → Option Value} {base : Heap} {A : Ads} {σ : L2.St} {H : Hp} {ta tb td te tf tg : TE} {a : Addr} {c : Cat} {E : XK}
theorem ok_is_last (T : Txt K mg A) : FnOk P w K mg base CX0 3 A.f_is_last A.d_is_last ["category", "y"] (spV (R_is_last A.C)) := by
  refine T.F_is_last.ok sc_is_last (fun vs H Q E h => ?_) (fun cdv B outer s H vs Q E hr h => ⟨_, (pss_one (ps_ret (pe_callB (allK (K := K) rfl rfl) (by rfl) T.b_all (by decide +kernel) (pa_cons (pe_lc (own := [("x", 2)]) (g := gName 2) (tt := tYes) rfl sc_is_last.nd (pi_range1 rfl T.b_range (pa_cons (fldK (K := K) rfl (pv 0) rfl) pa_nil)) (blkOk_by (own := [("x", 2)]) (N := ["category", "y", "x"]) (sc := defScope s_is_last) (by decide +kernel)) (fun _ _ _ _ _ => pg_name (i := 2) sc_is_last.nd rfl (Or.inl rfl)) (fun _ _ _ _ _ => pts_nil) (fun _ _ _ _ _ => (pe_cmpR op_eq (pe_callB (lenK (K := K) rfl) (by rfl) T.b_len PySem.boot_len (pa_cons (pe_meth (pv 0) T.cl T.m_hom (ok_hom T) (hr.mono (by decide)) T.bd_hom .nil pass0 (pa_cons (pv 2) (pa_cons (pv 1) pa_nil))) pa_nil)) pe_int (nomark _)))) pa_nil)))), ?_⟩)
  · obtain ⟨_, _, _, ⟨a, c, y, rfl, _⟩, _⟩ := h
    rfl
  · obtain ⟨H0, v, e, ⟨a, c, y, rfl, hc, rfl⟩, k⟩ := h
    have hc := hc.mono e
    have n4 := hc.wf.n4
    unfold Fc01.isLast Fc01.things at k
    rw [← all_id] at k
    refine s_ret (ev_allL ?_) k
    rw [← map_bl]
    refine el_mapR _ (ea_cons (ev_thing T hc (ev_var rfl)) ea_nil) (by omega) (fun _ => rfl) fun x hx H1 e1 => ?_
    have q := ev_eqN (j := 1) (ev_lenN (K := K) (el_hom (E := E0) (σ := [some (.ref a), some (.int (y : Int)), some (.int (x : Int))]) (hc.mono e1) (ev_var (i := 0) rfl) (ev_var (i := 2) rfl) (ev_var (i := 1) rfl))) ev_c
    rw [List.length_map] at q
    exact q
theorem ok_last_thing (T : Txt K mg A) : FnOk P w K mg base CX0 4 A.f_last_thing A.d_last_thing ["category"] (spL (R_last_thing A.C)) := by
  refine T.F_last_thing.ok sc_last_thing (fun vs H Q E h => ?_) (fun cdv B outer s H vs Q E hr h => ⟨_, (pss_cons (ps_for PassesOwn.never rfl (pi_range1 rfl T.b_range (pa_cons (fldK (K := K) rfl (pv 0) rfl) pa_nil)) (pg_name (i := 1) sc_last_thing.nd rfl (Or.inl rfl))
    (pss_one (ps_if (pt_val (pe_call (ok_is_last T) (hr.mono (by decide)) rfl T.g_is_last T.F_is_last.kp T.bd_is_last .nil pass0 (pa_cons (pv 0) (pa_cons (pv 1) pa_nil)))) (pss_one (ps_ret (pe_lst (pa_cons pe_int (pa_cons (pv 1) pa_nil))))) pss_nil)))
    (pss_one (ps_ret (pe_lst (pa_cons pe_int pa_nil))))), ?_⟩)
  · obtain ⟨_, _, _, ⟨a, c, rfl, _⟩, _⟩ := h
    rfl
  · obtain ⟨H0, v, e, ⟨a, c, rfl, hc, rfl⟩, k⟩ := h
    have hc := hc.mono e
    have n4 := hc.wf.n4
    rw [last_is] at k
    refine q_findR (fun y => if Fc01.isLast c y = true then some y else none) (fun σ => ∃ v1, σ = [some (.ref a), v1]) (ea_cons (ev_thing T hc (ev_var rfl)) ea_nil) (by omega) ⟨_, rfl⟩ ?_ ?_
    · rintro y σ' H1 N ly ⟨v1, rfl⟩ e1 hz hN
      refine s_when (et_B (ev_fn (ea_cons (ev_var rfl) (ea_cons (ev_var rfl) ea_nil)) (spV_go ⟨a, c, y, rfl, hc.mono e1, rfl⟩))) (fun b H2 e2 => ?_) (fun b H2 e2 => ?_)
      · rw [hz y (if_pos b)] at k
        exact s_retL (el_lst (ea_cons ev_c (ea_cons (ev_var rfl) ea_nil)) (by show 2 ≤ 100000; decide)) fun p H3 hp e3 h3 => k.go (e1.trans e2) hp e3 h3
      · exact hN _ _ ⟨_, rfl⟩ e2 (if_neg (by rw [b]; decide))
    · rintro σ' H1 ⟨v1, rfl⟩ e1 hn
      rw [hn] at k
      exact s_retL (el_lst (ea_cons ev_c ea_nil) (by show 1 ≤ 100000; decide)) fun p H3 hp e3 h3 => k.go e1 hp e3 h3
theorem ok_comes_by_one (T : Txt K mg A) : FnOk P w K mg base CX0 3 A.f_comes_by_one A.d_comes_by_one ["category", "first", "second", "u", "v"] (spV (R_comes A.C)) := by
  refine T.F_comes_by_one.ok sc_comes_by_one (fun vs H Q E h => ?_) (fun cdv B outer s H vs Q E hr h => ⟨_, (pss_cons (ps_set (i := 5) sc_comes_by_one.nd rfl (Or.inl rfl) (pe_ix (ixListK (K := K) rfl) (fldK (K := K) rfl (pv 0) rfl) (pv 1) (fun _ _ => rfl)))
    (pss_cons (ps_set (i := 6) sc_comes_by_one.nd rfl (Or.inl rfl) pe_int)
    (pss_cons (ps_for PassesOwn.never rfl (piListK (K := K) rfl (pe_meth (pv 0) T.cl T.m_hom (ok_hom T) (hr.mono (by decide)) T.bd_hom .nil pass0 (pa_cons (pe_ix (ixListK (K := K) rfl) (fldK (K := K) rfl (pv 0) rfl) (pv 3) (fun _ _ => rfl)) (pa_cons (pv 5) pa_nil)))) (pg_name (i := 7) sc_comes_by_one.nd rfl (Or.inl rfl))
    (pss_one (ps_if (PW.pt (pw_and (pt_cmpR op_eq (pe_meth (pv 0) T.cl T.m_made (ok_made T) (hr.mono (by decide)) T.bd_made .nil pass0 (pa_cons (pv 7) (pa_cons (pv 1) pa_nil))) (pv 3) (nomark _)) (pw_and1 (pt_cmpR op_eq (pe_meth (pv 0) T.cl T.m_made (ok_made T) (hr.mono (by decide)) T.bd_made .nil pass0 (pa_cons (pv 7) (pa_cons (pv 2) pa_nil))) (pv 4) (nomark _))))) (pss_one (ps_aug (i := 6) sc_comes_by_one.nd rfl (Or.inl rfl) pe_int ip_add)) pss_nil)))
    (pss_one (ps_ret (pe_cmpR op_eq (pv 6) pe_int (nomark _))))))), ?_⟩)
  · obtain ⟨_, _, _, ⟨a, c, f, g, u, z, rfl, _⟩, _⟩ := h
    rfl
  · obtain ⟨H0, v, e, ⟨a, c, f, g, u, z, rfl, hc, lf, lu, hfg, rfl⟩, k⟩ := h
    have hc := hc.mono e
    refine q_asg (ev_beg T hc (ev_var rfl) (ev_var rfl) lf) fun H1 e1 => ?_
    refine q_asg ev_c fun H2 e2 => ?_
    have e2 := e1.trans e2
    have hc2 := hc.mono e2
    refine q_foldNL (en := natE) (fun (n : Nat) h => if (after c h f == some u && after c h g == some z) = true then n + 1 else n) 0
      (fun n σ => ∃ v7, σ = [some (.ref a), some (.int (f : Int)), some (.int (g : Int)), some (.int (u : Int)), some (.int (z : Int)), some (.int (from_ c f : Int)), some (.int (n : Int)), v7])
      (el_hom hc2 (ev_var rfl) (ev_beg T hc2 (ev_var rfl) (ev_var rfl) lu) (ev_var rfl)) ⟨_, rfl⟩ ?_ ?_
    · rintro h n σ' H3 N hh ⟨v7, rfl⟩ e3 hN
      have hc3 := hc2.mono e3
      have mt := (hom_from hh).2.2
      refine s_when (et_and (et_test (ev_eqO (ev_made hc3 (ev_var rfl) (ev_var rfl) (ev_var rfl) mt) (ev_var rfl))) fun _ => et_test (ev_eqO (ev_made hc3 (ev_var rfl) (ev_var rfl) (ev_var rfl) (mt.trans hfg)) (ev_var rfl))) (fun b H4 e4 => ?_) (fun b H4 e4 => ?_)
      · refine s_aug (f := fun i j => i + j) (a := (n : Int)) (b := 1) rfl ev_c fun H5 e5 => hN _ _ ⟨some (natE h), ?_⟩ (e4.trans e5)
        rw [if_pos b]
        rfl
      · refine hN _ _ ⟨some (natE h), ?_⟩ e4
        rw [if_neg (by rw [b]; decide)]
        rfl
    · rintro σ' H3 ⟨v7, rfl⟩ e3
      rw [fold_count, Nat.zero_add]
      exact s_ret (ev_eqN (j := 1) (ev_var rfl) ev_c) fun H4 e4 => k H4 ((e2.trans e3).trans e4)
theorem ev_ag {Cl : Clo} {spA : Sp} {i x y u v : Nat} {ok : Nat → Nat → Bool} (hs : σ[i]? = some (some (.ref Cl.ag))) (hk : Cl.Known H) (hc : CatAt A.C H a c) (sa : AgSp A.C spA a c x y ok) (hu : Ev ta σ H (.int (u : Int))) (hv : Ev tb σ H (.int (v : Int)))
    (lu : u < c.arrows.length) (lv : v < c.arrows.length) (tu : to_ c u = x) (tv : to_ c v = y) : Ev (tAg Cl i spA (tCons ta (tCons tb tNil))) σ H (.bl (ok u v)) := fun H1 e Q q =>
  ⟨hs, hk.mono e, hu H1 e _ fun H2 e2 => hv H2 (e.trans e2) _ fun H3 e3 => ⟨hk.mono ((e.trans e2).trans e3), sa u v H3 (hc.mono ((e.trans e2).trans e3)) lu lv tu tv H3 (Ex.refl H3) Q (fun H4 e4 => q H4 ((e2.trans e3).trans e4)) E0⟩⟩
theorem ok_all_come_by {Cl : Clo} (T : Txt K mg A) : FnS P w K mg base Cl 4 A.f_all_come_by A.d_all_come_by ["category", "first", "second", "agree"] (spAC P w K mg base A.C Cl) := by
  refine okS T.F_all_come_by sc_all_come_by (fun vs H Q E h => ?_) (fun cdv B outer s H vs Q E hr hC h => ?_)
  · obtain ⟨_, _, a, c, f, g, _, _, _, rfl, _⟩ := h
    rfl
  · obtain ⟨spA, H0, a, c, f, g, ok, O, e, rfl, hc, hkn, sa, lf, lg, hfg, k⟩ := h
    refine ⟨_, (pss_cons (ps_set (i := 4) sc_all_come_by.nd rfl (Or.inl rfl) (pe_ix (ixListK (K := K) rfl) (fldK (K := K) rfl (pv 0) rfl) (pv 1) (fun _ _ => rfl)))
    (pss_cons (ps_set (i := 5) sc_all_come_by.nd rfl (Or.inl rfl) (pe_ix (ixListK (K := K) rfl) (fldK (K := K) rfl (pv 0) rfl) (pv 2) (fun _ _ => rfl)))
    (pss_cons (ps_for PassesOwn.never rfl (pi_range1 rfl T.b_range (pa_cons (fldK (K := K) rfl (pv 0) rfl) pa_nil)) (pg_name (i := 6) sc_all_come_by.nd rfl (Or.inl rfl))
    (pss_one (ps_for PassesOwn.never rfl (piListK (K := K) rfl (pe_meth (pv 0) T.cl T.m_hom (ok_hom T) (hr.mono (by decide)) T.bd_hom .nil pass0 (pa_cons (pv 6) (pa_cons (pv 4) pa_nil)))) (pg_name (i := 7) sc_all_come_by.nd rfl (Or.inl rfl))
    (pss_one (ps_for PassesOwn.never rfl (piListK (K := K) rfl (pe_meth (pv 0) T.cl T.m_hom (ok_hom T) (hr.mono (by decide)) T.bd_hom .nil pass0 (pa_cons (pv 6) (pa_cons (pv 5) pa_nil)))) (pg_name (i := 8) sc_all_come_by.nd rfl (Or.inl rfl))
    (pss_one (ps_if (PW.pt (pw_and (pt_val (pe_ag (i := 3) O rfl (Nat.le_refl _) hC (hr.mono (by decide)) rfl (Or.inl rfl) (pa_cons (pv 7) (pa_cons (pv 8) pa_nil)))) (pw_and1 (pt_not (pt_val (pe_call (ok_comes_by_one T) (hr.mono (by decide)) rfl T.g_comes_by_one T.F_comes_by_one.kp T.bd_comes_by_one .nil pass0 (pa_cons (pv 0) (pa_cons (pv 1) (pa_cons (pv 2) (pa_cons (pv 7) (pa_cons (pv 8) pa_nil))))))))))) (pss_one (ps_ret pe_bl)) pss_nil)))))))
    (pss_one (ps_ret pe_bl))))), ?_⟩
    have hc := hc.mono e
    have hkn := hkn.mono e
    have n4 := hc.wf.n4
    refine q_asg (ev_end T hc (ev_var rfl) (ev_var rfl) lf) fun H1 e1 => ?_
    refine q_asg (ev_end T (hc.mono e1) (ev_var rfl) (ev_var rfl) lg) fun H2 e2 => ?_
    have e2 := e1.trans e2
    have hc2 := hc.mono e2
    refine q_findR (badQ c ok f g) (fun σ => ∃ v1 v2 v3, σ = [some (.ref a), some (.int (f : Int)), some (.int (g : Int)), some (.ref Cl.ag), some (.int (to_ c f : Int)), some (.int (to_ c g : Int)), v1, v2, v3]) (ea_cons (ev_thing T hc2 (ev_var rfl)) ea_nil) (by omega) ⟨_, _, _, rfl⟩ ?_ ?_
    · rintro q σ' H3 N lq ⟨v1, v2, v3, rfl⟩ e3 hz hN
      have hc3 := hc2.mono e3
      refine s_findNL (en := natE) (badU c ok f g q) (fun σ => ∃ v2 v3, σ = [some (.ref a), some (.int (f : Int)), some (.int (g : Int)), some (.ref Cl.ag), some (.int (to_ c f : Int)), some (.int (to_ c g : Int)), some (.int (q : Int)), v2, v3]) (el_hom hc3 (ev_var rfl) (ev_var rfl) (ev_var rfl)) ⟨_, _, rfl⟩ ?_ ?_
      · rintro u σ' H4 N4 hu ⟨v2, v3, rfl⟩ e4 hz4 hN4
        have hc4 := hc3.mono e4
        refine s_findNL (en := natE) (bad1 c ok f g u) (fun σ => ∃ v3, σ = [some (.ref a), some (.int (f : Int)), some (.int (g : Int)), some (.ref Cl.ag), some (.int (to_ c f : Int)), some (.int (to_ c g : Int)), some (.int (q : Int)), some (.int (u : Int)), v3]) (el_hom hc4 (ev_var rfl) (ev_var rfl) (ev_var rfl)) ⟨_, rfl⟩ ?_ ?_
        · rintro v σ' H5 N5 hv ⟨v3, rfl⟩ e5 hz5 hN5
          have u1 := hom_from hu
          have v1 := hom_from hv
          have hc5 := hc4.mono e5
          refine s_when (et_and (et_B (ev_ag rfl (hkn.mono (((e2.trans e3).trans e4).trans e5)) hc5 sa (ev_var rfl) (ev_var rfl) u1.1 v1.1 u1.2.2 v1.2.2)) fun _ => et_not (et_B (ev_fn (ea_cons (ev_var rfl) (ea_cons (ev_var rfl) (ea_cons (ev_var rfl) (ea_cons (ev_var rfl) (ea_cons (ev_var rfl) ea_nil))))) (spV_go ⟨a, c, f, g, u, v, rfl, hc5, lf, u1.1, hfg, rfl⟩)))) (fun b H6 e6 => ?_) (fun b H6 e6 => ?_)
          · have r1 := hz _ (hz4 _ (hz5 () (if_pos b)))
            rw [show bad c ok f g = some () from r1] at k
            exact s_ret ev_c fun H7 e7 => k H7 (((((e2.trans e3).trans e4).trans e5).trans e6).trans e7)
          · exact hN5 _ _ ⟨_, rfl⟩ e6 (if_neg (by rw [b]; decide))
        · rintro σ' H5 ⟨v3, rfl⟩ e5 hn
          exact hN4 _ _ ⟨_, _, rfl⟩ e5 hn
      · rintro σ' H4 ⟨v2, v3, rfl⟩ e4 hn
        exact hN _ _ ⟨_, _, _, rfl⟩ e4 hn
    · rintro σ' H3 ⟨v1, v2, v3, rfl⟩ e3 hn
      rw [show bad c ok f g = none from hn] at k
      exact s_ret ev_c fun H7 e7 => k H7 ((e2.trans e3).trans e7)
theorem ok_first_pair {Cl : Clo} (T : Txt K mg A) : FnS P w K mg base Cl 5 A.f_first_pair A.d_first_pair ["category", "x", "y", "agree"] (spFP P w K mg base A.C Cl) := by
  refine okS T.F_first_pair sc_first_pair (fun vs H Q E h => ?_) (fun cdv B outer s H vs Q E hr hC h => ?_)
  · obtain ⟨_, _, a, c, f, g, _, _, _, rfl, _⟩ := h
    rfl
  · obtain ⟨spA, H0, a, c, x, y, ok, O, e, rfl, hc, hkn, sa, k⟩ := h
    refine ⟨_, (pss_cons (ps_for PassesOwn.never rfl (pi_range1 rfl T.b_range (pa_cons (fldK (K := K) rfl (pv 0) rfl) pa_nil)) (pg_name (i := 4) sc_first_pair.nd rfl (Or.inl rfl))
    (pss_one (ps_for PassesOwn.never rfl (piListK (K := K) rfl (pe_meth (pv 0) T.cl T.m_hom (ok_hom T) (hr.mono (by decide)) T.bd_hom .nil pass0 (pa_cons (pv 4) (pa_cons (pv 1) pa_nil)))) (pg_name (i := 5) sc_first_pair.nd rfl (Or.inl rfl))
    (pss_one (ps_for PassesOwn.never rfl (piListK (K := K) rfl (pe_meth (pv 0) T.cl T.m_hom (ok_hom T) (hr.mono (by decide)) T.bd_hom .nil pass0 (pa_cons (pv 4) (pa_cons (pv 2) pa_nil)))) (pg_name (i := 6) sc_first_pair.nd rfl (Or.inl rfl))
    (pss_one (ps_if (PW.pt (pw_and (pt_val (pe_ag (i := 3) O rfl (Nat.le_refl _) hC (hr.mono (by decide)) rfl (Or.inl rfl) (pa_cons (pv 5) (pa_cons (pv 6) pa_nil)))) (pw_and1 (pt_val (pe_callS (ok_all_come_by T) rfl (Nat.le_refl _) hC (hr.mono (by decide)) rfl T.g_all_come_by T.F_all_come_by.kp T.bd_all_come_by (pa_cons (pv 0) (pa_cons (pv 5) (pa_cons (pv 6) (pa_cons (pv 3) pa_nil))))))))) (pss_one (ps_ret (pe_lst (pa_cons pe_int (pa_cons (pv 5) (pa_cons (pv 6) pa_nil)))))) pss_nil)))))))
    (pss_one (ps_ret (pe_lst (pa_cons pe_int pa_nil))))), ?_⟩
    have hc := hc.mono e
    have hkn := hkn.mono e
    have n4 := hc.wf.n4
    unfold firstPair at k
    refine q_findR (fun p => (hom c p x).findSome? fun f => (hom c p y).findSome? fun g => if Fc01.isBest c ok f g = true then some (f, g) else none) (fun σ => ∃ v1 v2 v3, σ = [some (.ref a), some (.int (x : Int)), some (.int (y : Int)), some (.ref Cl.ag), v1, v2, v3]) (ea_cons (ev_thing T hc (ev_var rfl)) ea_nil) (by omega) ⟨_, _, _, rfl⟩ ?_ ?_
    · rintro p σ' H1 N lp ⟨v1, v2, v3, rfl⟩ e1 hz hN
      have hc1 := hc.mono e1
      refine s_findNL (en := natE) (fun f => (hom c p y).findSome? fun g => if Fc01.isBest c ok f g = true then some (f, g) else none) (fun σ => ∃ v2 v3, σ = [some (.ref a), some (.int (x : Int)), some (.int (y : Int)), some (.ref Cl.ag), some (.int (p : Int)), v2, v3]) (el_hom hc1 (ev_var rfl) (ev_var rfl) (ev_var rfl)) ⟨_, _, rfl⟩ ?_ ?_
      · rintro f σ' H2 N2 hf ⟨v2, v3, rfl⟩ e2 hz2 hN2
        have hc2 := hc1.mono e2
        refine s_findNL (en := natE) (fun g => if Fc01.isBest c ok f g = true then some (f, g) else none) (fun σ => ∃ v3, σ = [some (.ref a), some (.int (x : Int)), some (.int (y : Int)), some (.ref Cl.ag), some (.int (p : Int)), some (.int (f : Int)), v3]) (el_hom hc2 (ev_var rfl) (ev_var rfl) (ev_var rfl)) ⟨_, rfl⟩ ?_ ?_
        · rintro g σ' H3 N3 hg ⟨v3, rfl⟩ e3 hz3 hN3
          have f1 := hom_from hf
          have g1 := hom_from hg
          have hc3 := hc2.mono e3
          have hk3 := hkn.mono ((e1.trans e2).trans e3)
          refine s_when (et_and (et_B (ev_ag rfl hk3 hc3 sa (ev_var rfl) (ev_var rfl) f1.1 g1.1 f1.2.2 g1.2.2)) fun _ => et_B (ev_fn (ea_cons (ev_var rfl) (ea_cons (ev_var rfl) (ea_cons (ev_var rfl) (ea_cons (ev_var rfl) ea_nil))))
            (fun H4 e4 Q4 q4 _ => ⟨spA, H3, a, c, f, g, ok, O, e4, rfl, hc3, hk3, by rw [f1.2.2, g1.2.2]; exact sa, f1.1, g1.1, f1.2.1.trans g1.2.1.symm, q4⟩))) (fun b H4 e4 => ?_) (fun b H4 e4 => ?_)
          · rw [← best_is] at b
            have r1 := hz _ (hz2 _ (hz3 (f, g) (if_pos b)))
            rw [r1] at k
            exact s_retL (el_lst (ea_cons ev_c (ea_cons (ev_var rfl) (ea_cons (ev_var rfl) ea_nil))) (by show 3 ≤ 100000; decide)) fun p2 H5 hp e5 h5 => k.go (((e1.trans e2).trans e3).trans e4) hp e5 h5
          · rw [← best_is] at b
            exact hN3 _ _ ⟨_, rfl⟩ e4 (if_neg (by rw [b]; decide))
        · rintro σ' H3 ⟨v3, rfl⟩ e3 hn
          exact hN2 _ _ ⟨_, _, rfl⟩ e3 hn
      · rintro σ' H2 ⟨v2, v3, rfl⟩ e2 hn
        exact hN _ _ ⟨_, _, _, rfl⟩ e2 hn
    · rintro σ' H1 ⟨v1, v2, v3, rfl⟩ e1 hn
      rw [hn] at k
      exact s_retL (el_lst (ea_cons ev_c ea_nil) (by show 1 ≤ 100000; decide)) fun p H3 hp e3 h3 => k.go e1 hp e3 h3
theorem ok_first_pair0 (T : Txt K mg A) : FnOk P w K mg base CX0 5 A.f_first_pair A.d_first_pair ["category", "x", "y", "agree"] (fun vs H Q E => ∃ C : Clo, True ∧ C.cl = [] ∧ C.fr = [] ∧ C.ws = [] ∧ spFP P w K mg base A.C C vs H Q E) :=
  fnS_free (Ok := fun _ => True) fun C _ => ok_first_pair T
end
end Arr
-- text S9
set_option Elab.async false
set_option linter.unusedVariables false
/-! # the specification's own side: equalizers -/
namespace Arr
open Fc01 (from_ to_ after hom)
theorem find_and {α : Type} (p r : α → Bool) : ∀ l : List α, l.find? (fun x => p x && r x) = (l.filter p).find? r
  | [] => rfl
  | x :: l => by
    rw [List.find?_cons, List.filter_cons]
    cases q : p x with
    | true =>
      rw [if_pos rfl, List.find?_cons, Bool.true_and, find_and p r l]
    | false =>
      rw [if_neg (by decide), Bool.false_and, find_and p r l]
theorem find_congr {α : Type} {p r : α → Bool} : ∀ {l : List α}, (∀ x ∈ l, p x = r x) → l.find? p = l.find? r
  | [], _ => rfl
  | x :: l, h => by
    rw [List.find?_cons, List.find?_cons, h x (List.mem_cons_self ..), find_congr (l := l) fun y hy => h y (List.mem_cons_of_mem _ hy)]
def eqA (c : Cat) (f : Nat) : List Nat := (List.range c.arrows.length).filter fun u => to_ c u == from_ c f
def eqs (c : Cat) (f g : Nat) : List Nat := (eqA c f).filter fun u => after c u f == after c u g
theorem mem_eqs {c : Cat} {f g u : Nat} : u ∈ eqs c f g ↔ u < c.arrows.length ∧ to_ c u = from_ c f ∧ after c u f = after c u g := by
  unfold eqs eqA
  rw [List.mem_filter, List.mem_filter, List.mem_range, beq_iff_eq, beq_iff_eq, and_assoc]
theorem equalizer_is {c : Cat} (wf : Wf c) (f g : Nat) : Fc01.equalizer c f g = (eqs c f g).findSome? fun e => if ((eqs c f g).all fun u => byOne c e e u u) = true then some e else none := by
  rw [← find_is]
  unfold Fc01.equalizer Fc01.all
  rw [find_and (fun e => to_ c e == from_ c f), find_and (fun e => after c e f == after c e g)]
  refine find_congr (l := eqs c f g) fun e he => ?_
  rw [Bool.eq_iff_iff, List.all_eq_true, List.all_eq_true]
  constructor
  · intro z u hu
    obtain ⟨lu, tu, au⟩ := mem_eqs.mp hu
    have z1 := z (from_ c u) (List.mem_range.mpr (from_lt wf lu))
    rw [List.all_eq_true] at z1
    have hm : u ∈ hom c (from_ c u) (from_ c f) := by
      rw [← tu]
      exact hom_of lu
    have z2 := z1 u hm
    rw [Bool.or_eq_true, bne_iff_ne] at z2
    unfold byOne
    simp only [Bool.and_self]
    exact z2.resolve_left fun q => q au
  · intro z q hq
    rw [List.all_eq_true]
    intro u hu
    have h := hom_from hu
    rw [Bool.or_eq_true, bne_iff_ne]
    by_cases au : after c u f = after c u g
    · have z1 := z u (mem_eqs.mpr ⟨h.1, h.2.2, au⟩)
      unfold byOne at z1
      simp only [Bool.and_self] at z1
      rw [h.2.1] at z1
      exact Or.inr z1
    · exact Or.inl au
end Arr
-- text B6b
set_option Elab.async false
set_option linter.unusedVariables false
set_option maxRecDepth 100000
set_option maxHeartbeats 4000000
/-! # products, pullbacks, equalizers -/
namespace Arr
open PySem PySem.Spec PyProof.Rows L2 Evl LamX NdefX
open Fc01 (from_ to_ after hom turned)
def R_first_pullback (C : Addr) : List V → Hp → List V → Prop := fun vs H xs => ∃ a c, ∃ f g : Nat, vs = [.ref a, .int (f : Int), .int (g : Int)] ∧ CatAt C H a c ∧ f < c.arrows.length ∧ g < c.arrows.length ∧ xs = natV (optP (Fc01.pullback c f g))
def R_first_equalizer (C : Addr) : List V → Hp → List V → Prop := fun vs H xs => ∃ a c, ∃ f g : Nat, vs = [.ref a, .int (f : Int), .int (g : Int)] ∧ CatAt C H a c ∧ f < c.arrows.length ∧ g < c.arrows.length ∧ from_ c f = from_ c g ∧ xs = natV (opt1 (Fc01.equalizer c f g))
theorem tab_product {base : Heap} {mg : Str → Option Value} {A : Ads} (B : Tbs base mg A) : ∀ p ∈ tabs A, p.1 = A.p_first_product → p.2 = "first_product.<locals>.<lambda>" := by
  intro p hp e
  unfold tabs at hp
  rcases List.mem_cons.mp hp with rfl | hp
  · rfl
  rcases List.mem_cons.mp hp with rfl | hp
  · exact absurd e.symm B.ne_first_product_first_pullback
  rw [List.mem_singleton.mp hp] at e
  exact absurd e.symm B.ne_first_product_most_tied
theorem tab_most {base : Heap} {mg : Str → Option Value} {A : Ads} (B : Tbs base mg A) : ∀ p ∈ tabs A, p.1 = A.p_most_tied → p.2 = "most_tied.<locals>.<lambda>" := by
  intro p hp e
  unfold tabs at hp
  rcases List.mem_cons.mp hp with rfl | hp
  · exact absurd e B.ne_first_product_most_tied
  rcases List.mem_cons.mp hp with rfl | hp
  · exact absurd e B.ne_first_pullback_most_tied
  rw [List.mem_singleton.mp hp]
def tabsN (A : Ads) : List NTab := (tabs A).map fun p => (p.1, fun _ _ => p.2)
theorem tabsN_of {A : Ads} {H : Hp} (h : Tabs (tabs A) H) : TabsN (tabsN A) H := fun p hp => by
  obtain ⟨q, hq, rfl⟩ := List.mem_map.mp hp
  exact h q hq
theorem tabs_of {A : Ads} {H : Hp} (h : TabsN (tabsN A) H) : Tabs (tabs A) H := fun q hq => h (q.1, fun _ _ => q.2) (List.mem_map.mpr ⟨q, hq, rfl⟩)
theorem tab_pullback {base : Heap} {mg : Str → Option Value} {A : Ads} (B : Tbs base mg A) : ∀ p ∈ tabsN A, p.1 = A.p_first_pullback → p.2 = fun _ _ => ("first_pullback.<locals>.make_the_same" : Str) := by
  intro p hp e
  unfold tabsN tabs at hp
  rcases List.mem_cons.mp hp with rfl | hp
  · exact absurd e B.ne_first_product_first_pullback
  rcases List.mem_cons.mp hp with rfl | hp
  · rfl
  rw [List.mem_singleton.mp hp] at e
  exact absurd e.symm B.ne_first_pullback_most_tied
def n_same : Stmt := (defBody s_first_pullback).getD 0 (.Pass ⟨0, 0, 0, 0⟩)
/-- what make_the_same promises: ws, what it captured -/
def spSame (C : Addr) : List (Option V) → Sp := fun ws vs H Q _ => ∃ (H0 : Hp) (a : Addr) (c : Cat) (f g u v : Nat), ws = [some (.ref a), some (.int (f : Int)), some (.int (g : Int))] ∧ vs = [.int (u : Int), .int (v : Int)] ∧ Ex H0 H ∧ CatAt C H0 a c ∧ to_ c u = from_ c f ∧ to_ c v = from_ c g ∧
  RetV (.bl (after c u f == after c v g)) H Q
def spTrue : List (Option V) → Sp := fun _ vs H Q _ => ∃ u v : V, vs = [u, v] ∧ RetV (.bl true) H Q
theorem q_ndefM {Tn : List NTab} {i : Nat} {mk : Addr → NF} {tz : TS} {D : Ends} {σ : L2.St} {H : Hp} (hT : TabsN Tn H) (k : ∀ (f c' : Addr) (H1 : Hp), ExtN H H1 → (∀ b, H1 b = none → H b = none) → TabsN Tn H1 → H f = none → H1 f = some (FnO f (mk c')) → H1 c' = some (CodeO c' (mk c').qual) → tz D (σ.set i (some (.ref f))) H1) :
    tSeq (tNdefM Tn i mk) tz D σ H := ⟨hT, k⟩
theorem s_callM {Ok : Clo → Prop} {cl : List (Str × Addr)} {fr : List Str} {js : List Nat} {sp : Clo → Sp} {t : TA} {D : Ends} {σ : L2.St} {H : Hp} {vs : List V} (h : EvA t σ H vs) (k : ∀ H2, Ex H H2 → ∃ C, C.cl = cl ∧ C.fr = fr ∧ C.ws = js.map (slotAt σ) ∧ Ok C ∧ sp C vs H2 D.rt E0) :
    tRet (tCallM Ok cl fr js sp t) D σ H := h H (Ex.refl H) _ k
section
variable {P : Program} {w : World} {K : PySem.W.Frag} {mg : Str → Option Value} {base : Heap} {A : Ads} {σ : L2.St} {H : Hp} {ta tb td te tf tg : TE} {a : Addr} {c : Cat} {E : XK}
theorem same_ok (T : Txt K mg A) (ag : Addr) (cl : List (Str × Addr)) (c' : Addr) : NOk P w K mg base CX0 3 ag (NF.of n_same "make_the_same" "first_pullback.<locals>.make_the_same" cl c') ["u", "v"] ["category", "f", "g"] (spSame A.C) := by
  refine nok_of (N := ["u", "v", "category", "f", "g"]) (nscope_by (sc := C8.fnScope n_same) (by decide +kernel)) (fun doc pm ctv us hl => match us, hl with | [_, _], _ => rfl) (fun ws vs H Q E h => ?_) (fun Ar outer s H vs ws Q E hr hf hc hw h => ⟨_,
    pss_one (ps_ret (pe_cmpR op_eq (pe_meth (pv 2) T.cl T.m_made (ok_made T) (hr.mono (by decide)) T.bd_made .nil pass0 (pa_cons (pv 0) (pa_cons (pv 3) pa_nil))) (pe_meth (pv 2) T.cl T.m_made (ok_made T) (hr.mono (by decide)) T.bd_made .nil pass0 (pa_cons (pv 1) (pa_cons (pv 4) pa_nil))) (nomark _))), ?_⟩)
  · obtain ⟨_, _, _, _, _, _, _, _, rfl, _⟩ := h
    rfl
  · obtain ⟨H0, a, c, f, g, u, v, rfl, rfl, e, hc, tu, tv, q⟩ := h
    exact s_ret (ev_eqOO (ev_made (hc.mono e) (ev_var rfl) (ev_var rfl) (ev_var rfl) tu) (ev_made (hc.mono e) (ev_var rfl) (ev_var rfl) (ev_var rfl) tv)) q
theorem ok_first_product (T : Txt K mg A) (B : Tbs base mg A) : FnOk P w K mg base CX0 6 A.f_first_product A.d_first_product ["category", "x", "y"] (spLT A (R_first_product A.C)) := by
  refine okC T.F_first_product sc_first_product (fun vs H Q E h => ?_) (fun Ar outer s H vs Q E hr h => ⟨_, (pss_one (ps_ret (pe_call (ok_first_pair0 T) (hr.mono (by decide)) rfl T.g_first_pair T.F_first_pair.kp T.bd_first_pair .nil pass0 (pa_cons (pv 0) (pa_cons (pv 1) (pa_cons (pv 2) (pa_cons (pe_lamN (T := tabs A) B.first_product T.k_first_product (show (("first_product" : Str) ++ ".<locals>.") ++ "<lambda>" = "first_product.<locals>.<lambda>" from by decide +kernel) (List.mem_cons_self ..) (tab_product B) rfl (ndef_free (fr := []) (sc := defScope s_first_product) (by decide +kernel))) pa_nil))))))), ?_⟩)
  · obtain ⟨_, _, _, ⟨a, c, x, y, rfl, _⟩, _⟩ := h
    rfl
  · obtain ⟨H0, v, e, ⟨a, c, x, y, rfl, hc, rfl⟩, hT, k⟩ := h
    have hc := (hc.mono e).strip
    refine ⟨_, rfl, _, rfl, _, rfl, hT, fun f c' H1 e1 nn t1 f0 hf hc1 => ?_⟩
    have cl0 : ∀ cs : List (Str × Addr), cloFrom cs [("u", NameKind.local), ("v", NameKind.local)] [] = [] := fun cs => rfl
    refine ⟨⟨f, [], [], [], _, c', _⟩, trivial, rfl, rfl, rfl, spTrue [], H1, a, c, x, y, fun _ _ => true, clo_lam (fr := []) (ws := []) (sp := spTrue) (k := 3) (F := ⟨_, _, _, _, [], c'⟩) (lok_of (N := ["u", "v"]) (ps := ["u", "v"]) (nscope_by (sc := { kind := .function, names := [("u", .local), ("v", .local)], isGenerator := false, isCoroutine := false }) (by decide +kernel)) (fun pm ctv us hl => match us, hl with | [_, _], _ => rfl) (fun ws vs H Q h => ?_) (fun Ar2 outer2 s2 H2 vs ws Q hr2 hw h => ⟨_, pe_bl, ?_⟩)), Ex.refl H1, rfl, hc.mono (exN_of e1), ⟨hf, hc1⟩, fun u v H2 _ _ _ _ _ H3 e3 Q q _ => ⟨_, _, rfl, q⟩, ?_⟩
    · obtain ⟨u, v, rfl, _⟩ := h
      rfl
    · obtain ⟨u, v, rfl, q⟩ := h
      exact q H2 (Ex.refl H2)
    · intro p H2 hp e2 h2
      rw [product_is] at k
      exact k p H2 (nn p hp) ((exN_of e1).trans e2) (fun b hb => nn b (fresh_back e2 hb)) (t1.ext e2) h2
theorem ok_first_pullback (T : Txt K mg A) (B : Tbs base mg A) : FnOk P w K mg base CX0 6 A.f_first_pullback A.d_first_pullback ["category", "f", "g"] (spLT A (R_first_pullback A.C)) := by
  refine okC T.F_first_pullback sc_first_pullback (fun vs H Q E h => ?_) (fun Ar outer s H vs Q E hr h => ⟨_, (pss_cons (ps_ndefMS (st := n_same) (T := tabsN A) (nm := fun _ _ => ("first_pullback.<locals>.make_the_same" : Str)) (i := 3) rfl B.first_pullback T.k_first_pullback (by unfold tabsN tabs; exact List.mem_cons_of_mem _ (List.mem_cons_self ..)) (show ("first_pullback.<locals>.make_the_same" : Str) = (("first_pullback" : Str) ++ ".<locals>.") ++ "make_the_same" from by decide +kernel) (tab_pullback B) (ndef_free (fr := []) (sc := defScope s_first_pullback) (nsc := C8.fnScope n_same) (by decide +kernel)) rfl rfl rfl sc_first_pullback.nd rfl (Or.inl rfl) (Or.inl rfl))
    (pss_one (ps_ret (pe_callM (Ok := fun _ => True) (cl := cloFrom _ (C8.fnScope n_same).names []) (fr := ["category", "f", "g"]) (js := [0, 1, 2]) (sp := spFP P w K mg base A.C) (fun C _ => ok_first_pair T) (fun ok => Caps.made ok (ndef_free (fr := ["category", "f", "g"]) (sc := defScope s_first_pullback) (nsc := C8.fnScope n_same) (by decide +kernel)) (ndef_fr (sc := defScope s_first_pullback) (by decide +kernel)) rfl) (fun _ => rfl) (hr.mono (by decide)) rfl T.g_first_pair T.F_first_pair.kp T.bd_first_pair (pa_cons (pv 0) (pa_cons (pe_ix (ixListK (K := K) rfl) (fldK (K := K) rfl (pv 0) rfl) (pv 1) (fun _ _ => rfl)) (pa_cons (pe_ix (ixListK (K := K) rfl) (fldK (K := K) rfl (pv 0) rfl) (pv 2) (fun _ _ => rfl)) (pa_cons (pv 3) pa_nil)))))))), ?_⟩)
  · obtain ⟨_, _, _, ⟨a, c, x, y, rfl, _⟩, _⟩ := h
    rfl
  · obtain ⟨H0, v, e, ⟨a, c, f, g, rfl, hc, lf, lg, rfl⟩, hT, k⟩ := h
    have hc := (hc.mono e).strip
    refine q_ndefM (tabsN_of hT) fun ag c' H1 e1 nn t1 f0 hf hc1 => ?_
    have hc1' := hc.mono (exN_of e1)
    have args := ea_cons (σ := [some (.ref a), some (.int (f : Int)), some (.int (g : Int)), some (.ref ag)]) (ev_var (i := 0) rfl) (ea_cons (ev_beg T hc1' (ev_var (i := 0) rfl) (ev_var (i := 1) rfl) lf) (ea_cons (ev_beg T hc1' (ev_var (i := 0) rfl) (ev_var (i := 2) rfl) lg) (ea_cons (ev_var (i := 3) rfl) ea_nil)))
    refine s_callM args fun H2 e2 => ?_
    refine ⟨⟨ag, _, _, _, _, c', _⟩, rfl, rfl, rfl, trivial, spSame A.C [some (.ref a), some (.int (f : Int)), some (.int (g : Int))], H2, a, c, from_ c f, from_ c g, fun u v => after c u f == after c v g, clo_def (same_ok T _ _ _), Ex.refl H2, rfl, hc1'.mono e2, ⟨e2 _ _ hf, e2 _ _ hc1⟩, fun u v H3 hc3 lu lv tu tv H4 e4 Q q _ => ⟨H3, a, c, f, g, u, v, rfl, rfl, e4, hc3, tu, tv, q⟩, ?_⟩
    intro p H3 hp e3 h3
    rw [pullback_is] at k
    have e23 := e2.trans e3
    exact k p H3 (nn p (fresh_back e2 hp)) ((exN_of e1).trans e23) (fun b hb => nn b (fresh_back e23 hb)) ((tabs_of t1).ext e23) h3
theorem ok_first_equalizer (T : Txt K mg A) : FnOk P w K mg base CX0 4 A.f_first_equalizer A.d_first_equalizer ["category", "f", "g"] (spL (R_first_equalizer A.C)) := by
  refine T.F_first_equalizer.ok sc_first_equalizer (fun vs H Q E h => ?_) (fun cdv B outer s H vs Q E hr h => ⟨_, (pss_cons (ps_set (i := 3) sc_first_equalizer.nd rfl (Or.inr rfl) (pe_ix (ixListK (K := K) rfl) (fldK (K := K) rfl (pv 0) rfl) (pv 1) (fun _ _ => rfl)))
    (pss_cons (ps_setLc (i := 4) (own := [("u", 7)]) (g := gName 7)  rfl sc_first_equalizer.nd rfl rfl (sw_true rfl rfl rfl (by decide +kernel)) (pi_range1 rfl T.b_range (pa_cons (pe_meth0 (pv 0) T.cl T.m_arrow_count (ok_arrow_count T) (hr.mono (by decide)) T.bd_arrow_count .nil pass0) pa_nil)) (blkOk_by (own := [("u", 7)]) (N := ["category", "f", "g", "x", "ahead", "equal", "arrow", "u"]) (sc := defScope s_first_equalizer) (by decide +kernel)) (fun _ _ _ _ _ => pg_name (i := 7) sc_first_equalizer.nd rfl (Or.inl rfl)) (fun _ _ _ _ _ => (pts_one (pt_cmpR op_eq (pe_ix (ixListK (K := K) rfl) (fldK (K := K) rfl (pv 0) rfl) (pv 7) (fun _ _ => rfl)) (pv 3) (nomark _)))) (fun _ _ _ _ _ => (pv 7)))
    (pss_cons (ps_setLc (i := 5) (own := [("u", 7)]) (g := gName 7)  rfl sc_first_equalizer.nd rfl rfl (sw_true rfl rfl rfl (by decide +kernel)) (piListK (K := K) rfl (pv 4)) (blkOk_by (own := [("u", 7)]) (N := ["category", "f", "g", "x", "ahead", "equal", "arrow", "u"]) (sc := defScope s_first_equalizer) (by decide +kernel)) (fun _ _ _ _ _ => pg_name (i := 7) sc_first_equalizer.nd rfl (Or.inl rfl)) (fun _ _ _ _ _ => (pts_one (pt_cmpR op_eq (pe_meth (pv 0) T.cl T.m_made (ok_made T) (hr.mono (by decide)) T.bd_made .nil pass0 (pa_cons (pv 7) (pa_cons (pv 1) pa_nil))) (pe_meth (pv 0) T.cl T.m_made (ok_made T) (hr.mono (by decide)) T.bd_made .nil pass0 (pa_cons (pv 7) (pa_cons (pv 2) pa_nil))) (nomark _)))) (fun _ _ _ _ _ => (pv 7)))
    (pss_cons (ps_for PassesOwn.never rfl (piListK (K := K) rfl (pv 5)) (pg_name (i := 6) sc_first_equalizer.nd rfl (Or.inr rfl))
    (pss_one (ps_if (pt_val (pe_callB (allK (K := K) rfl rfl) (by rfl) T.b_all (by decide +kernel) (pa_cons (pe_lc (own := [("u", 7)]) (g := gName 7) (tt := tYes) rfl sc_first_equalizer.nd (piListK (K := K) rfl (pv 5)) (blkOk_by (own := [("u", 7)]) (N := ["category", "f", "g", "x", "ahead", "equal", "arrow", "u"]) (sc := defScope s_first_equalizer) (by decide +kernel)) (fun _ _ _ _ _ => pg_name (i := 7) sc_first_equalizer.nd rfl (Or.inl rfl)) (fun _ _ _ _ _ => pts_nil) (fun _ _ _ _ _ => (pe_call (ok_comes_by_one T) (hr.mono (by decide)) rfl T.g_comes_by_one T.F_comes_by_one.kp T.bd_comes_by_one .nil pass0 (pa_cons (pv 0) (pa_cons (pv 6) (pa_cons (pv 6) (pa_cons (pv 7) (pa_cons (pv 7) pa_nil)))))))) pa_nil))) (pss_one (ps_ret (pe_lst (pa_cons pe_int (pa_cons (pv 6) pa_nil))))) pss_nil)))
    (pss_one (ps_ret (pe_lst (pa_cons pe_int pa_nil)))))))), ?_⟩)
  · obtain ⟨_, _, _, ⟨a, c, f, g, rfl, _⟩, _⟩ := h
    rfl
  · obtain ⟨H0, v, e, ⟨a, c, f, g, rfl, hc, lf, lg, hfg, rfl⟩, k⟩ := h
    have hc := hc.mono e
    have l9 := hc.wf.l9
    rw [equalizer_is hc.wf] at k
    refine q_asg (ev_beg T hc (ev_var rfl) (ev_var rfl) lf) fun H1 e1 => ?_
    have hc1 := hc.mono e1
    refine q_asgL (el_compR (fun u => to_ c u == from_ c f) natE (ea_cons (ev_arrow_count hc1 (ev_var rfl)) ea_nil) (by omega) (fun _ => rfl) (fun u lu H2 e2 => et_test (ev_eqN (ev_end T (hc1.mono e2) (ev_var rfl) (ev_var rfl) lu) (ev_var rfl))) (fun u lu H2 e2 _ => ev_var rfl)) fun pa H2 hpa e2 h2 => ?_
    have e2 := e1.trans e2
    have hc2 := hc.mono e2
    have lenA : (eqA c f).length ≤ 9 := Nat.le_trans (List.length_filter_le _ _) (by rw [List.length_range]; exact l9)
    refine q_asgL (el_compL (K := K) (en := natE) (l := eqA c f) (fun u => after c u f == after c u g) natE (ev_var rfl) (sq_of h2) (by omega) (fun _ => rfl)
      (fun u hu H3 e3 => et_test (ev_eqOO (ev_made (hc2.mono e3) (ev_var rfl) (ev_var rfl) (ev_var rfl) (beq_iff_eq.mp (List.mem_filter.mp hu).2)) (ev_made (hc2.mono e3) (ev_var rfl) (ev_var rfl) (ev_var rfl) ((beq_iff_eq.mp (List.mem_filter.mp hu).2).trans hfg)))) (fun u hu H3 e3 _ => ev_var rfl)) fun pb H3 hpb e3 h3 => ?_
    have h3 : H3 pb = some (.lst ((eqs c f g).map natE)) := h3
    have e3 := e2.trans e3
    have hc3 := hc.mono e3
    refine q_findL (en := natE) (l := eqs c f g) (fun e => if ((eqs c f g).all fun u => byOne c e e u u) = true then some e else none) (fun σ => ∃ v1, σ = [some (.ref a), some (.int (f : Int)), some (.int (g : Int)), some (.int (from_ c f : Int)), some (.ref pa), some (.ref pb), v1, none]) (ev_var rfl) (sq_of h3) ⟨_, rfl⟩ ?_ ?_
    · rintro x σ' H4 N hx ⟨v1, rfl⟩ e4 hz hN
      have hc4 := hc3.mono e4
      have lenE : (eqs c f g).length ≤ 9 := Nat.le_trans (List.length_filter_le _ _) lenA
      have q := ev_allL (K := K) (bs := (eqs c f g).map fun u => byOne c x x u u) (te := _) (σ := [some (.ref a), some (.int (f : Int)), some (.int (g : Int)), some (.int (from_ c f : Int)), some (.ref pa), some (.ref pb), some (natE x), none]) (H := H4) (by
        rw [← map_bl]
        exact el_mapL (K := K) (en := natE) (l := eqs c f g) (vs := [7]) (j := 7) _ (ev_var (i := 5) rfl) (sq_of (e4 _ _ h3)) (by omega) (fun _ => rfl) fun u hu H5 e5 => ev_fn (E := E0) (ea_cons (ev_var (i := 0) rfl) (ea_cons (ev_var (i := 6) rfl) (ea_cons (ev_var (i := 6) rfl) (ea_cons (ev_var (i := 7) rfl) (ea_cons (ev_var (i := 7) rfl) ea_nil))))) (spV_go (R := R_comes A.C) ⟨a, c, x, x, u, u, rfl, hc4.mono e5, (mem_eqs.mp hx).1, (mem_eqs.mp hu).1, rfl, rfl⟩))
      rw [all_id] at q
      refine s_when (et_B q) (fun b H5 e5 => ?_) (fun b H5 e5 => ?_)
      · rw [hz x (if_pos b)] at k
        exact s_retL (el_lst (ea_cons ev_c (ea_cons (ev_var rfl) ea_nil)) (by show 2 ≤ 100000; decide)) fun p H6 hp e6 h6 => k.go ((e3.trans e4).trans e5) hp e6 h6
      · exact hN _ _ ⟨_, rfl⟩ e5 (if_neg (by rw [b]; decide))
    · rintro σ' H4 ⟨v1, rfl⟩ e4 hn
      rw [hn] at k
      exact s_retL (el_lst (ea_cons ev_c ea_nil) (by show 1 ≤ 100000; decide)) fun p H6 hp e6 h6 => k.go (e3.trans e4) hp e6 h6
end
end Arr
-- text S4
set_option Elab.async false
set_option linter.unusedVariables false
/-! # how many mappings there can be -/
namespace Arr
open Fc01 (from_ to_ after hom)
theorem sub_len {α : Type} [DecidableEq α] : ∀ {l l' : List α}, l.Nodup → (∀ x ∈ l, x ∈ l') → l.length ≤ l'.length
  | [], _, _, _ => Nat.zero_le _
  | x :: r, l', hn, hs => by
    obtain ⟨h1, h2⟩ := List.nodup_cons.mp hn
    have hx := hs x (List.mem_cons_self ..)
    have ih := sub_len (l := r) (l' := l'.erase x) h2 fun y hy => (List.mem_erase_of_ne fun z => h1 (by rw [← z]; exact hy)).mpr (hs y (List.mem_cons_of_mem _ hy))
    rw [List.length_erase_of_mem hx] at ih
    have : 0 < l'.length := List.length_pos_of_mem hx
    rw [List.length_cons]
    omega
theorem nodup_map {α β : Type} {f : α → β} (inj : ∀ x y, f x = f y → x = y) : ∀ {l : List α}, l.Nodup → (l.map f).Nodup
  | [], _ => List.nodup_nil
  | x :: r, h => by
    obtain ⟨h1, h2⟩ := List.nodup_cons.mp h
    refine List.nodup_cons.mpr ⟨fun z => ?_, nodup_map inj h2⟩
    obtain ⟨y, hy, e⟩ := List.mem_map.mp z
    rw [← inj y x e] at h1
    exact h1 hy
theorem nodup_pairs {N : List Nat} (hN : N.Nodup) : ∀ {l : List Nat}, l.Nodup → (l.flatMap fun f => N.map fun g => (f, g)).Nodup
  | [], _ => List.nodup_nil
  | f :: r, h => by
    obtain ⟨h1, h2⟩ := List.nodup_cons.mp h
    rw [List.flatMap_cons]
    refine List.nodup_append.mpr ⟨nodup_map (fun x y e => congrArg Prod.snd e) hN, nodup_pairs hN h2, fun p hp q hq z => ?_⟩
    obtain ⟨g, _, rfl⟩ := List.mem_map.mp hp
    obtain ⟨f', hf', hq⟩ := List.mem_flatMap.mp hq
    obtain ⟨g', _, e⟩ := List.mem_map.mp hq
    rw [← z] at e
    have : f' = f := congrArg Prod.fst e
    rw [this] at hf'
    exact h1 hf'
theorem len_pairs (N : List Nat) : ∀ l : List Nat, (l.flatMap fun f => N.map fun g => (f, g)).length = l.length * N.length
  | [] => by simp
  | f :: r => by
    rw [List.flatMap_cons, List.length_append, List.length_map, len_pairs N r, List.length_cons, Nat.succ_mul, Nat.add_comm]
theorem nodup_filter {α : Type} {p : α → Bool} {l : List α} (h : l.Nodup) : (l.filter p).Nodup := List.Pairwise.filter p h
theorem hom_nodup (c : Cat) (x y : Nat) : (hom c x y).Nodup := by
  unfold hom Fc01.all
  exact nodup_filter List.nodup_range
theorem look_mem : ∀ {m : Mm} {f g h : Nat}, look m f g = some h → (f, g) ∈ m.map (·.1)
  | [], f, g, h, e => by cases e
  | p :: r, f, g, h, e => by
    by_cases q : p.1 = (f, g)
    · exact List.mem_map.mpr ⟨p, List.mem_cons_self .., q⟩
    · rw [look_neg q] at e
      exact List.mem_cons_of_mem _ (look_mem e)
/-- the arrows of a thing to itself that aren't its own -/
theorem loops_le {c : Cat} {m : Mm} {k : Nat} (hm : MOk k c m) (hk : k ≤ 40) (np : NoP c) (x : Nat) : ((hom c x x).filter fun f => decide (c.n ≤ f)).length ≤ 6 := by
  have hN : ((hom c x x).filter fun f => decide (c.n ≤ f)).Nodup := nodup_filter (hom_nodup c x x)
  have hs : ∀ p ∈ (((hom c x x).filter fun f => decide (c.n ≤ f)).flatMap fun f => ((hom c x x).filter fun f => decide (c.n ≤ f)).map fun g => (f, g)), p ∈ m.map (·.1) := by
    intro p hp
    obtain ⟨f, hf, hp⟩ := List.mem_flatMap.mp hp
    obtain ⟨g, hg, rfl⟩ := List.mem_map.mp hp
    obtain ⟨hf1, hf2⟩ := List.mem_filter.mp hf
    obtain ⟨hg1, hg2⟩ := List.mem_filter.mp hg
    have f1 := hom_from hf1
    have g1 := hom_from hg1
    have hf2 := of_decide_eq_true hf2
    have hg2 := of_decide_eq_true hg2
    have mt : to_ c f = from_ c g := f1.2.2.trans g1.2.1.symm
    obtain ⟨h, e, _⟩ := np f g f1.1 g1.1 mt
    rw [after_eq mt, if_neg (by omega), if_neg (by omega), ← hm.2.1] at e
    exact look_mem e
  have q := sub_len (nodup_pairs hN hN) hs
  rw [len_pairs, List.length_map] at q
  have h3 := hm.2.2.1
  by_cases z : ((hom c x x).filter fun f => decide (c.n ≤ f)).length ≤ 6
  · exact z
  · have : 7 * 7 ≤ ((hom c x x).filter fun f => decide (c.n ≤ f)).length * ((hom c x x).filter fun f => decide (c.n ≤ f)).length := Nat.mul_le_mul (by omega) (by omega)
    omega
theorem hom_le {c : Cat} {m : Mm} {k : Nat} (hm : MOk k c m) (hk : k ≤ 40) (np : NoP c) (x y : Nat) : (hom c x y).length ≤ 7 := by
  have wf := hm.2.2.2
  by_cases e : x = y
  · subst e
    have q := sub_len (l := hom c x x) (l' := x :: (hom c x x).filter fun f => decide (c.n ≤ f)) (hom_nodup c x x) fun f hf => by
      by_cases z : c.n ≤ f
      · exact List.mem_cons_of_mem _ (List.mem_filter.mpr ⟨hf, decide_eq_true z⟩)
      · have h1 := mem_hom.mp hf
        rw [wf.own f (by omega)] at h1
        have : f = x := congrArg Prod.fst (Option.some.inj h1.2)
        rw [this]
        exact List.mem_cons_self ..
    have := loops_le hm hk np x
    rw [List.length_cons] at q
    omega
  · have q := sub_len (l := hom c x y) (l' := List.range' c.n (c.arrows.length - c.n)) (hom_nodup c x y) fun f hf => by
      have h1 := mem_hom.mp hf
      have : c.n ≤ f := by
        by_cases z : c.n ≤ f
        · exact z
        · rw [wf.own f (by omega)] at h1
          have h2 := Option.some.inj h1.2
          exact (e ((congrArg Prod.fst h2).symm.trans (congrArg Prod.snd h2))).elim
      rw [List.mem_range'_1]
      omega
    rw [List.length_range'] at q
    have l9 := wf.l9
    cases hl : hom c x y with
    | nil => exact Nat.zero_le _
    | cons f r =>
      have hf : f ∈ hom c x y := by rw [hl]; exact List.mem_cons_self ..
      have h1 := mem_hom.mp hf
      have h2 := wf.ends f _ h1.2
      rw [← hl]
      have : 2 ≤ c.n := by
        have h3 : x < c.n := h2.1
        have h4 : y < c.n := h2.2
        omega
      omega
theorem flat_len {α β : Type} {g : α → List β} {B : Nat} : ∀ {l : List α}, (∀ x ∈ l, (g x).length ≤ B) → (l.flatMap g).length ≤ l.length * B
  | [], _ => by simp
  | x :: r, h => by
    rw [List.flatMap_cons, List.length_append, List.length_cons, Nat.succ_mul]
    have h1 := h x (List.mem_cons_self ..)
    have h2 := flat_len (l := r) fun y hy => h y (List.mem_cons_of_mem _ hy)
    omega
/-- the ways on from k arrows told: f arrows are left -/
def ways (n mb : Nat) : Nat → Nat → Nat
  | _, 0 => 1
  | k, f + 1 => (if k < n then mb else 7) * ways n mb (k + 1) f
theorem extend_le {a b : Cat} {m : Mm} {k : Nat} (hm : MOk k b m) (hk : k ≤ 40) (np : NoP b) : ∀ (f : Nat) (w : Fc01.Map), (Fc01.extend a b f w).length ≤ ways a.n b.n w.length f
  | 0, w => Nat.le_refl _
  | f + 1, w => by
    show (((if w.length < a.n then List.range b.n else hom b (w.getD (from_ a w.length) 0) (w.getD (to_ a w.length) 0)).filter (Fc01.suits a b w)).flatMap fun y => Fc01.extend a b f (w ++ [y])).length ≤ (if w.length < a.n then b.n else 7) * ways a.n b.n (w.length + 1) f
    refine Nat.le_trans (flat_len (B := ways a.n b.n (w.length + 1) f) fun y _ => ?_) (Nat.mul_le_mul (Nat.le_trans (List.length_filter_le _ _) ?_) (Nat.le_refl _))
    · have := extend_le (a := a) hm hk np f (w ++ [y])
      rw [List.length_append] at this
      exact this
    · by_cases q : w.length < a.n
      · rw [if_pos q, if_pos q, List.length_range]
        exact Nat.le_refl _
      · rw [if_neg q, if_neg q]
        exact hom_le hm hk np _ _
theorem ways_num {n mb l : Nat} (h1 : 1 ≤ n) (h4 : n ≤ 4) (hl : n ≤ l) (h9 : l ≤ 9) (hb : mb ≤ 4) (h7 : n = 1 → l ≤ 7) : ways n mb 0 l ≤ 13176688 := by
  have mono : ∀ f k, ways n mb k f ≤ ways n 4 k f := by
    intro f
    induction f with
    | zero => intro k; exact Nat.le_refl _
    | succ f ih =>
      intro k
      refine Nat.mul_le_mul ?_ (ih (k + 1))
      split
      · exact hb
      · exact Nat.le_refl _
  refine Nat.le_trans (mono l 0) ?_
  have key : ∀ n, n < 5 → ∀ l, l < 10 → n = 0 ∨ l < n ∨ (n = 1 ∧ 7 < l) ∨ ways n 4 0 l ≤ 13176688 := by decide
  rcases key n (by omega) l (by omega) with z | z | z | z
  · omega
  · omega
  · omega
  · exact z
/-- how many mappings there can be -/
theorem maps_le {a b : Cat} {m m' : Mm} {k k' : Nat} (hm : MOk k b m) (hk : k ≤ 40) (np : NoP b) (hm' : MOk k' a m') (hk' : k' ≤ 40) (np' : NoP a) : (Fc01.maps a b).length ≤ 13176688 := by
  have wa := hm'.2.2.2
  have wb := hm.2.2.2
  refine Nat.le_trans (extend_le hm hk np a.arrows.length []) (ways_num wa.n1 wa.n4 wa.len wa.l9 wb.n4 fun e => ?_)
  have q := hom_le hm' hk' np' 0 0
  have r := sub_len (l := List.range a.arrows.length) (l' := hom a 0 0) List.nodup_range fun f hf => by
    have lf := List.mem_range.mp hf
    refine mem_hom.mpr ⟨lf, ?_⟩
    have h := arrows_at lf
    have h2 := wa.ends f _ h
    rw [h]
    congr 1
    have h3 : from_ a f < a.n := h2.1
    have h4 : to_ a f < a.n := h2.2
    rw [show from_ a f = 0 by omega, show to_ a f = 0 by omega]
  rw [List.length_range] at r
  omega
end Arr
-- text S6
set_option Elab.async false
set_option linter.unusedVariables false
/-! # the specification's own side: mappings, by rows and boxes -/
namespace Arr
open Fc01 (from_ to_ after hom)
abbrev W := List (Option Nat)
abbrev T3 := Nat × Nat × Nat
def wat (w : W) (f : Nat) : Option Nat := w.getD f none
def cand (a b : Cat) (w : W) (f : Nat) : List Nat := if f < a.n then List.range b.n else hom b ((wat w (from_ a f)).getD 0) ((wat w (to_ a f)).getD 0)
def hold3 (b : Cat) (w : W) (t : T3) : Bool := match wat w t.1, wat w t.2.1, wat w t.2.2 with
  | some x, some y, some z => after b x y == some z
  | _, _, _ => true
def inT (f : Nat) (t : T3) : Bool := f == t.1 || (f == t.2.1 || f == t.2.2)
def chs (a b : Cat) (ts : List T3) (w : W) (f : Nat) : List Nat := (cand a b w f).filter fun y => (ts.filter (inT f)).all (hold3 b (w.set f (some y)))
def settleL (a b : Cat) (ts : List T3) (rows : List W) (f : Nat) : List W := rows.flatMap fun w => (chs a b ts w f).map fun y => w.set f (some y)
theorem wat_eq (w : W) (f : Nat) : wat w f = (w[f]?).getD none := List.getD_eq_getElem?_getD ..
theorem wat_set {w : W} {f g : Nat} {v : Option Nat} (h : f < w.length) : wat (w.set f v) g = if g = f then v else wat w g := by
  rw [wat_eq, wat_eq, List.getElem?_set]
  by_cases e : f = g
  · subst e
    simp [h]
  · rw [if_neg e, if_neg (fun z => e z.symm)]
theorem wat_out {w : W} {f : Nat} (h : w.length ≤ f) : wat w f = none := by
  rw [wat_eq, List.getElem?_eq_none h]
  rfl
theorem w_ext {w v : W} (hl : w.length = v.length) (h : ∀ f, f < w.length → wat w f = wat v f) : w = v := by
  apply List.ext_getElem hl
  intro i h1 h2
  have q := h i h1
  rw [wat_eq, wat_eq, List.getElem?_eq_getElem h1, List.getElem?_eq_getElem h2] at q
  exact q
structure Good (a b : Cat) (ts : List T3) (D : List Nat) (w : W) : Prop where
  len : w.length = a.arrows.length
  dom : ∀ f, (wat w f).isSome = true ↔ f ∈ D
  cnd : ∀ f y, wat w f = some y → y ∈ cand a b w f
  hol : ∀ t ∈ ts, hold3 b w t = true
/-- f may be settled next -/
structure Fit (a : Cat) (D : List Nat) (f : Nat) : Prop where
  new : ¬ f ∈ D
  lt : f < a.arrows.length
  own : f < a.n → ∀ g ∈ D, g < a.n
  oth : a.n ≤ f → ∀ x, x < a.n → x ∈ D
theorem cand_set {a b : Cat} {w : W} {f g : Nat} {v : Option Nat} (h : f < w.length) (hg : g < a.n ∨ (from_ a g ≠ f ∧ to_ a g ≠ f)) : cand a b (w.set f v) g = cand a b w g := by
  unfold cand
  by_cases q : g < a.n
  · rw [if_pos q, if_pos q]
  · rw [if_neg q, if_neg q]
    rcases hg with z | ⟨z1, z2⟩
    · exact (q z).elim
    · rw [wat_set h, wat_set h, if_neg z1, if_neg z2]
theorem hold_set {b : Cat} {w : W} {f : Nat} {v : Option Nat} {t : T3} (h : f < w.length) (hn : inT f t = false) : hold3 b (w.set f v) t = hold3 b w t := by
  unfold inT at hn
  simp only [Bool.or_eq_false_iff, beq_eq_false_iff_ne] at hn
  obtain ⟨h1, h2, h3⟩ := hn
  unfold hold3
  rw [wat_set h, wat_set h, wat_set h, if_neg (fun z => h1 z.symm), if_neg (fun z => h2 z.symm), if_neg (fun z => h3 z.symm)]
theorem hold_none {b : Cat} {w : W} {f : Nat} {t : T3} (hn : inT f t = true) (hw : wat w f = none) : hold3 b w t = true := by
  unfold inT at hn
  simp only [Bool.or_eq_true, beq_iff_eq] at hn
  unfold hold3
  rcases hn with rfl | rfl | rfl
  · rw [hw]
  · rw [hw]
    cases wat w t.1 <;> rfl
  · rw [hw]
    cases wat w t.1 <;> cases wat w t.2.1 <;> rfl
theorem cand_other {a : Cat} (wa : Wf a) {D : List Nat} {f g : Nat} (hf : Fit a D f) (hg : g ∈ D) (lg : g < a.arrows.length) : g < a.n ∨ (from_ a g ≠ f ∧ to_ a g ≠ f) := by
  by_cases q : f < a.n
  · exact Or.inl (hf.own q g hg)
  · refine Or.inr ⟨fun z => ?_, fun z => ?_⟩
    · have := from_lt wa lg
      omega
    · have := to_lt wa lg
      omega
theorem cand_self {a : Cat} (wa : Wf a) {D : List Nat} {f : Nat} (hf : Fit a D f) : f < a.n ∨ (from_ a f ≠ f ∧ to_ a f ≠ f) := by
  by_cases q : f < a.n
  · exact Or.inl q
  · have h1 := from_lt wa hf.lt
    have h2 := to_lt wa hf.lt
    exact Or.inr ⟨by omega, by omega⟩
theorem good_up {a b : Cat} {ts : List T3} {D : List Nat} {f y : Nat} {w : W} (wa : Wf a) (hf : Fit a D f) (g : Good a b ts D w) (hy : y ∈ chs a b ts w f) : Good a b ts (D ++ [f]) (w.set f (some y)) := by
  have lf : f < w.length := by rw [g.len]; exact hf.lt
  obtain ⟨y1, y2⟩ := List.mem_filter.mp hy
  rw [List.all_eq_true] at y2
  refine ⟨by rw [List.length_set]; exact g.len, fun x => ?_, fun x z hz => ?_, fun t ht => ?_⟩
  · rw [wat_set lf, List.mem_append, List.mem_singleton, ← g.dom x]
    by_cases e : x = f
    · simp [e]
    · simp [e]
  · rw [wat_set lf] at hz
    by_cases e : x = f
    · rw [if_pos e] at hz
      cases hz
      rw [e, cand_set lf (cand_self wa hf)]
      exact y1
    · rw [if_neg e] at hz
      have hx : x ∈ D := (g.dom x).mp (by rw [hz]; rfl)
      have lx : x < a.arrows.length := by
        by_cases q : x < a.arrows.length
        · exact q
        · rw [wat_out (by rw [g.len]; omega)] at hz
          cases hz
      rw [cand_set lf (cand_other wa hf hx lx)]
      exact g.cnd x z hz
  · cases q : inT f t with
    | true => exact y2 t (List.mem_filter.mpr ⟨ht, q⟩)
    | false =>
      rw [hold_set lf q]
      exact g.hol t ht
theorem good_down {a b : Cat} {ts : List T3} {D : List Nat} {f : Nat} {w : W} (wa : Wf a) (hf : Fit a D f) (g : Good a b ts (D ++ [f]) w) : ∃ y, Good a b ts D (w.set f none) ∧ y ∈ chs a b ts (w.set f none) f ∧ (w.set f none).set f (some y) = w ∧ wat w f = some y := by
  have lf : f < w.length := by rw [g.len]; exact hf.lt
  have hs : (wat w f).isSome = true := (g.dom f).mpr (List.mem_append_right _ (List.mem_singleton.mpr rfl))
  obtain ⟨y, hy⟩ := Option.isSome_iff_exists.mp hs
  have back : (w.set f none).set f (some y) = w := by
    refine w_ext (by simp) fun x hx => ?_
    rw [wat_set (by rw [List.length_set]; exact lf), wat_set lf]
    by_cases e : x = f
    · rw [if_pos e, e, hy]
    · rw [if_neg e, if_neg e]
  refine ⟨y, ⟨by rw [List.length_set]; exact g.len, fun x => ?_, fun x z hz => ?_, fun t ht => ?_⟩, ?_, back, hy⟩
  · rw [wat_set lf]
    by_cases e : x = f
    · rw [if_pos e, e]
      simp [hf.new]
    · rw [if_neg e, g.dom x, List.mem_append, List.mem_singleton]
      simp [e]
  · rw [wat_set lf] at hz
    by_cases e : x = f
    · rw [if_pos e] at hz
      cases hz
    · rw [if_neg e] at hz
      have hx : x ∈ D := by
        have := (g.dom x).mp (by rw [hz]; rfl)
        rw [List.mem_append, List.mem_singleton] at this
        exact this.resolve_right e
      have lx : x < a.arrows.length := by
        by_cases q : x < a.arrows.length
        · exact q
        · rw [wat_out (by rw [g.len]; omega)] at hz
          cases hz
      rw [cand_set lf (cand_other wa hf hx lx)]
      exact g.cnd x z hz
  · cases q : inT f t with
    | true => exact hold_none q (by rw [wat_set lf, if_pos rfl])
    | false =>
      rw [hold_set lf q]
      exact g.hol t ht
  · refine List.mem_filter.mpr ⟨?_, ?_⟩
    · rw [cand_set lf (cand_self wa hf)]
      exact g.cnd f y hy
    · rw [List.all_eq_true]
      intro t ht
      rw [back]
      exact g.hol t (List.mem_filter.mp ht).1
theorem nd_flat {α β : Type} {g : α → List β} : ∀ {l : List α}, l.Nodup → (∀ x ∈ l, (g x).Nodup) → (∀ x ∈ l, ∀ y ∈ l, ∀ z, z ∈ g x → z ∈ g y → x = y) → (l.flatMap g).Nodup
  | [], _, _, _ => List.nodup_nil
  | x :: r, hn, hg, hd => by
    obtain ⟨h1, h2⟩ := List.nodup_cons.mp hn
    rw [List.flatMap_cons]
    refine List.nodup_append.mpr ⟨hg x (List.mem_cons_self ..), nd_flat h2 (fun y hy => hg y (List.mem_cons_of_mem _ hy)) (fun y hy z hz => hd y (List.mem_cons_of_mem _ hy) z (List.mem_cons_of_mem _ hz)), fun u hu v hv e => ?_⟩
    obtain ⟨y, hy, hv⟩ := List.mem_flatMap.mp hv
    have := hd x (List.mem_cons_self ..) y (List.mem_cons_of_mem _ hy) u hu (by rw [e]; exact hv)
    exact h1 (by rw [this]; exact hy)
theorem nd_map {α β : Type} {f : α → β} : ∀ {l : List α}, l.Nodup → (∀ x ∈ l, ∀ y ∈ l, f x = f y → x = y) → (l.map f).Nodup
  | [], _, _ => List.nodup_nil
  | x :: r, h, inj => by
    obtain ⟨h1, h2⟩ := List.nodup_cons.mp h
    refine List.nodup_cons.mpr ⟨fun z => ?_, nd_map h2 fun y hy z hz => inj y (List.mem_cons_of_mem _ hy) z (List.mem_cons_of_mem _ hz)⟩
    obtain ⟨y, hy, e⟩ := List.mem_map.mp z
    rw [← inj y (List.mem_cons_of_mem _ hy) x (List.mem_cons_self ..) e] at h1
    exact h1 hy
theorem cand_nodup (a b : Cat) (w : W) (f : Nat) : (cand a b w f).Nodup := by
  unfold cand
  by_cases q : f < a.n
  · rw [if_pos q]
    exact List.nodup_range
  · rw [if_neg q]
    exact hom_nodup ..
theorem chs_nodup (a b : Cat) (ts : List T3) (w : W) (f : Nat) : (chs a b ts w f).Nodup := nodup_filter (cand_nodup a b w f)
structure RowsAre (a b : Cat) (ts : List T3) (D : List Nat) (R : List W) : Prop where
  nd : R.Nodup
  mem : ∀ w, w ∈ R ↔ Good a b ts D w
theorem rows_start (a b : Cat) (ts : List T3) : RowsAre a b ts [] [List.replicate a.arrows.length none] := by
  have e0 : ∀ f, wat (List.replicate a.arrows.length none) f = none := fun f => by
    rw [wat_eq, List.getElem?_replicate]
    by_cases q : f < a.arrows.length
    · rw [if_pos q]
      rfl
    · rw [if_neg q]
      rfl
  refine ⟨List.nodup_cons.mpr ⟨by simp, List.nodup_nil⟩, fun w => ?_⟩
  rw [List.mem_singleton]
  constructor
  · rintro rfl
    refine ⟨by simp, fun f => by rw [e0]; simp, fun f y h => (by rw [e0] at h; cases h), fun t _ => ?_⟩
    unfold hold3
    rw [e0]
  · intro g
    refine w_ext (by rw [g.len]; simp) fun f hf => ?_
    rw [e0]
    cases q : wat w f with
    | none => rfl
    | some y =>
      have := (g.dom f).mp (by rw [q]; rfl)
      cases this
theorem rows_step {a b : Cat} {ts : List T3} {D : List Nat} {f : Nat} {R : List W} (wa : Wf a) (hf : Fit a D f) (h : RowsAre a b ts D R) : RowsAre a b ts (D ++ [f]) (settleL a b ts R f) := by
  have lf : ∀ w ∈ R, f < w.length := fun w hw => by rw [((h.mem w).mp hw).len]; exact hf.lt
  have none_at : ∀ w ∈ R, wat w f = none := fun w hw => by
    cases q : wat w f with
    | none => rfl
    | some y => exact (hf.new ((((h.mem w).mp hw).dom f).mp (by rw [q]; rfl))).elim
  have back : ∀ w ∈ R, ∀ y, (w.set f (some y)).set f none = w := fun w hw y => by
    refine w_ext (by simp) fun x hx => ?_
    rw [wat_set (by rw [List.length_set]; exact lf w hw), wat_set (lf w hw)]
    by_cases e : x = f
    · rw [if_pos e, e, none_at w hw]
    · rw [if_neg e, if_neg e]
  refine ⟨nd_flat h.nd (fun w hw => nd_map (chs_nodup ..) fun x _ y _ e => ?_) (fun w hw v hv z hz1 hz2 => ?_), fun w => ?_⟩
  · have := congrArg (fun u => wat u f) e
    simp only [wat_set (lf w hw), if_pos] at this
    exact Option.some.inj this
  · obtain ⟨y1, _, rfl⟩ := List.mem_map.mp hz1
    obtain ⟨y2, _, e⟩ := List.mem_map.mp hz2
    rw [← back w hw y1, ← e, back v hv y2]
  · unfold settleL
    rw [List.mem_flatMap]
    constructor
    · rintro ⟨v, hv, hw⟩
      obtain ⟨y, hy, rfl⟩ := List.mem_map.mp hw
      exact good_up wa hf ((h.mem v).mp hv) hy
    · intro g
      obtain ⟨y, g1, hy, e, _⟩ := good_down wa hf g
      exact ⟨_, (h.mem _).mpr g1, List.mem_map.mpr ⟨y, hy, e⟩⟩
/-- an order to settle: each fits -/
def FitAll (a : Cat) : List Nat → List Nat → Prop
  | _, [] => True
  | D, f :: E => Fit a D f ∧ FitAll a (D ++ [f]) E
theorem rows_all {a b : Cat} {ts : List T3} (wa : Wf a) : ∀ (E D : List Nat) (R : List W), FitAll a D E → RowsAre a b ts D R → RowsAre a b ts (D ++ E) (E.foldl (settleL a b ts) R)
  | [], D, R, _, h => by
    rw [List.append_nil]
    exact h
  | f :: E, D, R, hf, h => by
    have := rows_all wa E (D ++ [f]) (settleL a b ts R f) hf.2 (rows_step wa hf.1 h)
    rw [List.append_assoc] at this
    exact this
/-! ### mappings: what the specification's list has -/
def tot (m : List Nat) : W := m.map some
theorem wat_tot (m : List Nat) (f : Nat) : wat (tot m) f = m[f]? := by
  rw [wat_eq]
  unfold tot
  rw [List.getElem?_map]
  cases m[f]? <;> rfl
def csAt (a b : Cat) (m : List Nat) : List Nat := if m.length < a.n then List.range b.n else hom b (m.getD (from_ a m.length) 0) (m.getD (to_ a m.length) 0)
def okAt (a b : Cat) (m : List Nat) (k : Nat) : Prop := ∃ y, m[k]? = some y ∧ y ∈ csAt a b (m.take k) ∧ Fc01.suits a b (m.take k) y = true
theorem take_of_append {α : Type} {m w : List α} {y : α} (h : m.take (w.length + 1) = w ++ [y]) : m.take w.length = w ∧ m[w.length]? = some y := by
  constructor
  · have := congrArg (List.take w.length) h
    rw [List.take_take, Nat.min_eq_left (by omega), List.take_left'] at this
    · exact this
    · rfl
  · have := congrArg (fun l => l[w.length]?) h
    simp only [List.getElem?_take_of_lt (show w.length < w.length + 1 by omega)] at this
    rw [this]
    simp
theorem mem_extend {a b : Cat} {m : List Nat} : ∀ (f : Nat) (w : List Nat), m ∈ Fc01.extend a b f w ↔ m.length = w.length + f ∧ m.take w.length = w ∧ ∀ k, w.length ≤ k → k < m.length → okAt a b m k
  | 0, w => by
    show m ∈ [w] ↔ _
    rw [List.mem_singleton]
    constructor
    · rintro rfl
      exact ⟨rfl, List.take_length, fun k h1 h2 => by omega⟩
    · rintro ⟨h1, h2, _⟩
      rw [← h2, List.take_of_length_le (by omega)]
  | f + 1, w => by
    show m ∈ ((csAt a b w).filter (Fc01.suits a b w)).flatMap (fun y => Fc01.extend a b f (w ++ [y])) ↔ _
    rw [List.mem_flatMap]
    constructor
    · rintro ⟨y, hy, hm⟩
      obtain ⟨y1, y2⟩ := List.mem_filter.mp hy
      obtain ⟨h1, h2, h3⟩ := (mem_extend f (w ++ [y])).mp hm
      rw [List.length_append, List.length_singleton] at h1 h2 h3
      obtain ⟨t1, t2⟩ := take_of_append h2
      refine ⟨by omega, t1, fun k k1 k2 => ?_⟩
      by_cases e : k = w.length
      · subst e
        exact ⟨y, t2, by rw [t1]; exact y1, by rw [t1]; exact y2⟩
      · exact h3 k (by omega) k2
    · rintro ⟨h1, h2, h3⟩
      obtain ⟨y, e1, e2, e3⟩ := h3 w.length (Nat.le_refl _) (by omega)
      rw [h2] at e2 e3
      refine ⟨y, List.mem_filter.mpr ⟨e2, e3⟩, (mem_extend f (w ++ [y])).mpr ?_⟩
      rw [List.length_append, List.length_singleton]
      refine ⟨by omega, ?_, fun k k1 k2 => h3 k (by omega) k2⟩
      rw [take_succ' e1, h2]
theorem mem_maps0 {a b : Cat} {m : List Nat} : m ∈ Fc01.maps a b ↔ m.length = a.arrows.length ∧ ∀ k, k < m.length → okAt a b m k := by
  unfold Fc01.maps
  rw [mem_extend]
  constructor
  · rintro ⟨h1, _, h3⟩
    exact ⟨by simpa using h1, fun k hk => h3 k (Nat.zero_le _) hk⟩
  · rintro ⟨h1, h3⟩
    exact ⟨by simpa using h1, rfl, fun k _ hk => h3 k hk⟩
theorem take_get {m : List Nat} {k f : Nat} (h : f < k) : (m.take k).getD f 0 = m.getD f 0 := by
  rw [List.getD_eq_getElem?_getD, List.getD_eq_getElem?_getD, List.getElem?_take_of_lt h]
/-- what two make goes to what those make -/
def Comp (a b : Cat) (m : List Nat) : Prop := ∀ f g h, f < a.arrows.length → g < a.arrows.length → after a f g = some h → after b (m.getD f 0) (m.getD g 0) = m[h]?
theorem suits_iff {a b : Cat} {m : List Nat} {k y : Nat} (hk : m[k]? = some y) : Fc01.suits a b (m.take k) y = true ↔ ∀ f g h, f ≤ k → g ≤ k → after a f g = some h → h ≤ k → (f = k ∨ g = k ∨ h = k) → after b (m.getD f 0) (m.getD g 0) = m[h]? := by
  have lk : k < m.length := (List.getElem?_eq_some_iff.mp hk).1
  have lt : (m.take k).length = k := by rw [List.length_take]; omega
  unfold Fc01.suits
  rw [lt, ← take_succ' hk]
  have hw : ∀ f, f ≤ k → (m.take (k + 1)).getD f 0 = m.getD f 0 := fun f hf => take_get (by omega)
  have hw2 : ∀ f, f ≤ k → (m.take (k + 1))[f]? = m[f]? := fun f hf => List.getElem?_take_of_lt (by omega)
  simp only [List.all_eq_true, List.mem_range]
  constructor
  · intro z f g h lf lg e lh hh
    have q := z f (by omega) g (by omega)
    rw [e] at q
    simp only [Bool.or_eq_true, Bool.and_eq_true, bne_iff_ne, decide_eq_true_eq, beq_iff_eq] at q
    rcases q with q | q | q
    · omega
    · omega
    · rw [hw f lf, hw g lg, hw2 h lh] at q
      exact q
  · intro z f lf g lg
    cases e : after a f g with
    | none => rfl
    | some h =>
      simp only [Bool.or_eq_true, Bool.and_eq_true, bne_iff_ne, decide_eq_true_eq, beq_iff_eq]
      by_cases c1 : k < h
      · exact Or.inr (Or.inl c1)
      · by_cases c2 : f = k ∨ g = k ∨ h = k
        · refine Or.inr (Or.inr ?_)
          rw [hw f (by omega), hw g (by omega), hw2 h (by omega)]
          exact z f g h (by omega) (by omega) e (by omega) c2
        · exact Or.inl ⟨by omega, by omega, by omega⟩
theorem csAt_take {a b : Cat} (wa : Wf a) {m : List Nat} {k : Nat} (hl : m.length = a.arrows.length) (hk : k < m.length) : csAt a b (m.take k) = cand a b (tot m) k := by
  have lt : (m.take k).length = k := by rw [List.length_take]; omega
  unfold csAt cand
  rw [lt]
  by_cases q : k < a.n
  · rw [if_pos q, if_pos q]
  · have h1 := from_lt wa (show k < a.arrows.length by omega)
    have h2 := to_lt wa (show k < a.arrows.length by omega)
    rw [if_neg q, if_neg q, take_get (by omega), take_get (by omega), wat_tot, wat_tot, List.getD_eq_getElem?_getD, List.getD_eq_getElem?_getD]
theorem mem_maps1 {a b : Cat} (wa : Wf a) {m : List Nat} : m ∈ Fc01.maps a b ↔ m.length = a.arrows.length ∧ (∀ f y, m[f]? = some y → y ∈ cand a b (tot m) f) ∧ Comp a b m := by
  rw [mem_maps0]
  constructor
  · rintro ⟨h1, h2⟩
    refine ⟨h1, fun f y hf => ?_, fun f g h lf lg e => ?_⟩
    · have lf := (List.getElem?_eq_some_iff.mp hf).1
      obtain ⟨z, e1, e2, _⟩ := h2 f lf
      rw [hf] at e1
      cases e1
      rw [csAt_take wa h1 lf] at e2
      exact e2
    · have lh := after_lt wa lf lg e
      obtain ⟨k, k1, k2, k3, k4⟩ : ∃ k, f ≤ k ∧ g ≤ k ∧ h ≤ k ∧ (f = k ∨ g = k ∨ h = k) := by
        refine ⟨max f (max g h), by omega, by omega, by omega, by omega⟩
      obtain ⟨y, e1, _, e3⟩ := h2 k (by omega)
      exact (suits_iff e1).mp e3 f g h k1 k2 e k3 k4
  · rintro ⟨h1, h2, h3⟩
    refine ⟨h1, fun k hk => ⟨m[k], List.getElem?_eq_getElem hk, ?_, ?_⟩⟩
    · rw [csAt_take wa h1 hk]
      exact h2 k _ (List.getElem?_eq_getElem hk)
    · refine (suits_iff (List.getElem?_eq_getElem hk)).mpr fun f g h lf lg e lh _ => h3 f g h (by omega) (by omega) e
/-- two arrows that meet, neither a thing's own, and what they make -/
def threes (a : Cat) : List T3 := (List.range' a.n (a.arrows.length - a.n)).flatMap fun f => ((List.range' a.n (a.arrows.length - a.n)).filter fun g => to_ a f == from_ a g).map fun g => (f, g, (after a f g).getD 0)
theorem mem_threes {a : Cat} (wa : Wf a) {t : T3} : t ∈ threes a ↔ (a.n ≤ t.1 ∧ t.1 < a.arrows.length) ∧ (a.n ≤ t.2.1 ∧ t.2.1 < a.arrows.length) ∧ to_ a t.1 = from_ a t.2.1 ∧ t.2.2 = (after a t.1 t.2.1).getD 0 := by
  have hl := wa.len
  unfold threes
  simp only [List.mem_flatMap, List.mem_map, List.mem_filter, List.mem_range'_1, beq_iff_eq]
  constructor
  · rintro ⟨f, hf, g, ⟨hg, e⟩, rfl⟩
    exact ⟨by dsimp only; omega, by dsimp only; omega, e, rfl⟩
  · rintro ⟨h1, h2, h3, h4⟩
    refine ⟨t.1, by omega, t.2.1, ⟨by omega, h3⟩, ?_⟩
    rw [← h4]
theorem own_ends {b : Cat} (wb : Wf b) {x : Nat} (h : x < b.n) : from_ b x = x ∧ to_ b x = x := by
  have e := wb.own x h
  have l : x < b.arrows.length := Nat.lt_of_lt_of_le h wb.len
  rw [arrows_at l] at e
  have e := Option.some.inj e
  exact ⟨congrArg Prod.fst e, congrArg Prod.snd e⟩
theorem hold_tot {b : Cat} {m : List Nat} {t : T3} (h1 : t.1 < m.length) (h2 : t.2.1 < m.length) (h3 : t.2.2 < m.length) : hold3 b (tot m) t = true ↔ after b (m.getD t.1 0) (m.getD t.2.1 0) = m[t.2.2]? := by
  unfold hold3
  rw [wat_tot, wat_tot, wat_tot, List.getD_eq_getElem?_getD, List.getD_eq_getElem?_getD, List.getElem?_eq_getElem h1, List.getElem?_eq_getElem h2, List.getElem?_eq_getElem h3]
  simp
theorem after_eq_look {c : Cat} {f g : Nat} (h : to_ c f = from_ c g) (h1 : ¬ f < c.n) (h2 : ¬ g < c.n) : after c f g = look c.makes f g := by
  rw [after_eq h, if_neg h1, if_neg h2]
theorem mem_maps {a b : Cat} (wa : Wf a) (wb : Wf b) (na : NoP a) {m : List Nat} : m ∈ Fc01.maps a b ↔ Good a b (threes a) (List.range a.arrows.length) (tot m) := by
  rw [mem_maps1 wa]
  constructor
  · rintro ⟨h1, h2, h3⟩
    refine ⟨by unfold tot; rw [List.length_map]; exact h1, fun f => ?_, fun f y hf => ?_, fun t ht => ?_⟩
    · rw [wat_tot, List.mem_range, ← h1]
      simp
    · rw [wat_tot] at hf
      exact h2 f y hf
    · obtain ⟨t1, t2, t3, t4⟩ := (mem_threes wa).mp ht
      obtain ⟨h, e1, e2, _⟩ := na t.1 t.2.1 t1.2 t2.2 t3
      rw [e1] at t4
      have t4 : t.2.2 = h := t4
      refine (hold_tot (by omega) (by omega) (by omega)).mpr ?_
      rw [t4]
      exact h3 _ _ _ t1.2 t2.2 e1
  · intro g
    have h1 : m.length = a.arrows.length := by
      have := g.len
      unfold tot at this
      rw [List.length_map] at this
      exact this
    have hc : ∀ f y, m[f]? = some y → y ∈ cand a b (tot m) f := fun f y hf => g.cnd f y (by rw [wat_tot]; exact hf)
    have at_ : ∀ f, f < a.arrows.length → m[f]? = some (m.getD f 0) := fun f hf => by
      rw [List.getD_eq_getElem?_getD, List.getElem?_eq_getElem (by omega)]
      rfl
    have thing : ∀ f, f < a.n → m.getD f 0 < b.n := fun f hf => by
      have := hc f _ (at_ f (Nat.lt_of_lt_of_le hf wa.len))
      unfold cand at this
      rw [if_pos hf] at this
      exact List.mem_range.mp this
    have arr : ∀ f, a.n ≤ f → f < a.arrows.length → m.getD f 0 ∈ hom b (m.getD (from_ a f) 0) (m.getD (to_ a f) 0) := fun f hf lf => by
      have := hc f _ (at_ f lf)
      unfold cand at this
      rw [if_neg (by omega), wat_tot, wat_tot, ← List.getD_eq_getElem?_getD, ← List.getD_eq_getElem?_getD] at this
      exact this
    refine ⟨h1, hc, fun f g' h lf lg e => ?_⟩
    have mt : to_ a f = from_ a g' := by
      by_cases q : to_ a f = from_ a g'
      · exact q
      · unfold after at e
        rw [if_pos q] at e
        cases e
    rw [after_eq mt] at e
    by_cases c1 : f < a.n
    · rw [if_pos c1] at e
      cases e
      have o1 := own_ends wb (thing f c1)
      have o0 := own_ends wa c1
      have mt2 : to_ b (m.getD f 0) = from_ b (m.getD g' 0) := by
        rw [o1.2]
        by_cases c2 : g' < a.n
        · have o2 := own_ends wa c2
          have : f = g' := by rw [← o0.2, ← o2.1]; exact mt
          rw [← this, o1.1]
        · have := (hom_from (arr g' (by omega) lg)).2.1
          rw [this, ← mt, o0.2]
      rw [after_eq mt2, if_pos (thing f c1), at_ g' lg]
    · rw [if_neg c1] at e
      have af := hom_from (arr f (by omega) lf)
      by_cases c2 : g' < a.n
      · rw [if_pos c2] at e
        cases e
        have o2 := own_ends wa c2
        have o1 := own_ends wb (thing g' c2)
        have mt2 : to_ b (m.getD f 0) = from_ b (m.getD g' 0) := by rw [af.2.2, o1.1, mt, o2.1]
        rw [after_eq mt2, at_ f lf]
        by_cases c3 : m.getD f 0 < b.n
        · rw [if_pos c3]
          have o3 := own_ends wb c3
          rw [← o1.1, ← mt2, o3.2]
        · rw [if_neg c3, if_pos (thing g' c2)]
      · rw [if_neg c2, ← after_eq_look mt c1 c2] at e
        have ht : (f, g', h) ∈ threes a := (mem_threes wa).mpr ⟨⟨show a.n ≤ f by omega, lf⟩, ⟨show a.n ≤ g' by omega, lg⟩, mt, by show h = _; rw [e]; rfl⟩
        have lh := after_lt wa lf lg e
        exact (hold_tot (t := (f, g', h)) (show f < m.length by omega) (show g' < m.length by omega) (show h < m.length by omega)).mp (g.hol _ ht)
end Arr
-- text S7
set_option Elab.async false
set_option linter.unusedVariables false
/-! # the specification's own side: boxes -/
namespace Arr
open Fc01 (from_ to_ after hom)
def boxAt (a b : Cat) (ts : List T3) (w : W) (f : Nat) : List Nat := match wat w f with
  | none => chs a b ts w f
  | some y => [y]
def boxOf (a b : Cat) (ts : List T3) (w : W) : List (List Nat) := (List.range w.length).map (boxAt a b ts w)
def prodR : List (List Nat) → List (List Nat)
  | [] => [[]]
  | p :: r => p.flatMap fun y => (prodR r).map (y :: ·)
def inP : List Nat → List (List Nat) → Prop
  | [], [] => True
  | y :: z, p :: r => y ∈ p ∧ inP z r
  | _, _ => False
theorem mem_prodR : ∀ {bx : List (List Nat)} {m : List Nat}, m ∈ prodR bx ↔ inP m bx
  | [], m => by
    show m ∈ [[]] ↔ _
    rw [List.mem_singleton]
    cases m with
    | nil => simp [inP]
    | cons y z => simp [inP]
  | p :: r, m => by
    show m ∈ p.flatMap (fun y => (prodR r).map (y :: ·)) ↔ _
    rw [List.mem_flatMap]
    cases m with
    | nil => simp [inP]
    | cons y z =>
      constructor
      · rintro ⟨u, hu, h⟩
        obtain ⟨v, hv, e⟩ := List.mem_map.mp h
        cases e
        exact ⟨hu, mem_prodR.mp hv⟩
      · rintro ⟨h1, h2⟩
        exact ⟨y, h1, List.mem_map.mpr ⟨z, mem_prodR.mpr h2, rfl⟩⟩
theorem inP_iff : ∀ {bx : List (List Nat)} {m : List Nat}, inP m bx ↔ m.length = bx.length ∧ ∀ (i y : Nat) (l : List Nat), m[i]? = some y → bx[i]? = some l → y ∈ l
  | [], m => by
    cases m with
    | nil => simp [inP]
    | cons y z => simp [inP]
  | p :: r, m => by
    cases m with
    | nil => simp [inP]
    | cons y z =>
      show (y ∈ p ∧ inP z r) ↔ _
      rw [inP_iff (bx := r)]
      constructor
      · rintro ⟨h1, h2, h3⟩
        refine ⟨by simp [h2], fun i u l e1 e2 => ?_⟩
        cases i with
        | zero =>
          simp at e1 e2
          subst e1 e2
          exact h1
        | succ i => exact h3 i u l (by simpa using e1) (by simpa using e2)
      · rintro ⟨h1, h2⟩
        exact ⟨h2 0 y p rfl rfl, by simpa using h1, fun i u l e1 e2 => h2 (i + 1) u l (by simpa using e1) (by simpa using e2)⟩
theorem prodR_nodup : ∀ {bx : List (List Nat)}, (∀ l ∈ bx, l.Nodup) → (prodR bx).Nodup
  | [], _ => by
    show ([[]] : List (List Nat)).Nodup
    simp
  | p :: r, h => by
    refine nd_flat (h p (List.mem_cons_self ..)) (fun y _ => nd_map (prodR_nodup fun l hl => h l (List.mem_cons_of_mem _ hl)) fun u _ v _ e => by cases e; rfl) fun x _ y _ z h1 h2 => ?_
    obtain ⟨u, _, rfl⟩ := List.mem_map.mp h1
    obtain ⟨v, _, e⟩ := List.mem_map.mp h2
    cases e
    rfl
/-- which are settled is closed: the others may be chosen each for itself -/
structure Closed (a : Cat) (ts : List T3) (D : List Nat) : Prop where
  thing : ∀ x, x < a.n → x ∈ D
  lt : ∀ x ∈ D, x < a.arrows.length
  one : ∀ t ∈ ts, ∀ f g, inT f t = true → inT g t = true → ¬ f ∈ D → ¬ g ∈ D → f = g
theorem inT1 (t : T3) : inT t.1 t = true := by simp [inT]
theorem inT2 (t : T3) : inT t.2.1 t = true := by simp [inT]
theorem inT3 (t : T3) : inT t.2.2 t = true := by simp [inT]
theorem hold_congr {b : Cat} {w v : W} {t : T3} (h : ∀ x, inT x t = true → wat w x = wat v x) : hold3 b w t = hold3 b v t := by
  unfold hold3
  rw [h t.1 (inT1 t), h t.2.1 (inT2 t), h t.2.2 (inT3 t)]
theorem cand_congr {a b : Cat} {w v : W} {f : Nat} (wa : Wf a) (lf : f < a.arrows.length) (h : ∀ x, x < a.n → wat w x = wat v x) : cand a b w f = cand a b v f := by
  unfold cand
  by_cases q : f < a.n
  · rw [if_pos q, if_pos q]
  · rw [if_neg q, if_neg q, h _ (from_lt wa lf), h _ (to_lt wa lf)]
def Full (a b : Cat) (ts : List T3) (m : List Nat) : Prop := Good a b ts (List.range a.arrows.length) (tot m)
theorem Full.len {a b : Cat} {ts : List T3} {m : List Nat} (h : Full a b ts m) : m.length = a.arrows.length := by
  have := Good.len h
  unfold tot at this
  rw [List.length_map] at this
  exact this
theorem boxOf_at {a b : Cat} {ts : List T3} {w : W} {i : Nat} {l : List Nat} : (boxOf a b ts w)[i]? = some l ↔ i < w.length ∧ l = boxAt a b ts w i := by
  unfold boxOf
  rw [List.getElem?_map]
  by_cases q : i < w.length
  · rw [List.getElem?_range q]
    simp [q, eq_comm]
  · rw [List.getElem?_eq_none (by rw [List.length_range]; omega)]
    simp [q]
theorem box_mem {a b : Cat} {ts : List T3} {D : List Nat} {w : W} (wa : Wf a) (cD : Closed a ts D) (g : Good a b ts D w) {m : List Nat} : m ∈ prodR (boxOf a b ts w) ↔ Full a b ts m ∧ ∀ f ∈ D, wat w f = m[f]? := by
  have out : ∀ {f}, ¬ f ∈ D → wat w f = none := fun {f} hf => by
    cases q : wat w f with
    | none => rfl
    | some y => exact (hf ((g.dom f).mp (by rw [q]; rfl))).elim
  have ins : ∀ {f}, f ∈ D → ∃ y, wat w f = some y := fun {f} hf => Option.isSome_iff_exists.mp ((g.dom f).mpr hf)
  rw [mem_prodR, inP_iff]
  have bl : (boxOf a b ts w).length = a.arrows.length := by
    unfold boxOf
    rw [List.length_map, List.length_range, g.len]
  rw [bl]
  constructor
  · rintro ⟨hl, h⟩
    have ag : ∀ f ∈ D, wat w f = m[f]? := fun f hf => by
      obtain ⟨y, hy⟩ := ins hf
      have lf := cD.lt f hf
      have lm : f < m.length := by omega
      have := h f m[f] (boxAt a b ts w f) (List.getElem?_eq_getElem lm) (boxOf_at.mpr ⟨by rw [g.len]; exact lf, rfl⟩)
      unfold boxAt at this
      rw [hy] at this
      rw [hy, List.getElem?_eq_getElem lm, List.mem_singleton.mp this]
    have loose : ∀ f, f < a.arrows.length → ¬ f ∈ D → ∃ y, m[f]? = some y ∧ y ∈ chs a b ts w f := fun f lf hf => by
      have lm : f < m.length := by omega
      have := h f m[f] (boxAt a b ts w f) (List.getElem?_eq_getElem lm) (boxOf_at.mpr ⟨by rw [g.len]; exact lf, rfl⟩)
      unfold boxAt at this
      rw [out hf] at this
      exact ⟨_, List.getElem?_eq_getElem lm, this⟩
    refine ⟨⟨by unfold tot; rw [List.length_map]; exact hl, fun f => ?_, fun f y hy => ?_, fun t ht => ?_⟩, ag⟩
    · rw [wat_tot, List.mem_range, ← hl]
      simp
    · rw [wat_tot] at hy
      have lf : f < a.arrows.length := by
        have := (List.getElem?_eq_some_iff.mp hy).1
        omega
      rw [cand_congr wa lf (v := w) fun x hx => by rw [wat_tot, ag x (cD.thing x hx)]]
      by_cases hf : f ∈ D
      · exact g.cnd f y (by rw [ag f hf]; exact hy)
      · obtain ⟨z, e, hz⟩ := loose f lf hf
        rw [hy] at e
        cases e
        exact (List.mem_filter.mp hz).1
    · by_cases q : ∃ f, inT f t = true ∧ f < a.arrows.length ∧ ¬ f ∈ D
      · obtain ⟨f, f1, f2, f3⟩ := q
        obtain ⟨y, e, hy⟩ := loose f f2 f3
        have h2 := (List.mem_filter.mp hy).2
        rw [List.all_eq_true] at h2
        have h3 := h2 t (List.mem_filter.mpr ⟨ht, f1⟩)
        rw [← h3]
        refine hold_congr fun x hx => ?_
        rw [wat_set (by rw [g.len]; exact f2), wat_tot]
        by_cases ex : x = f
        · rw [if_pos ex, ex, e]
        · rw [if_neg ex]
          by_cases hD : x ∈ D
          · exact (ag x hD).symm
          · exact (ex (cD.one t ht x f hx f1 hD f3)).elim
      · rw [← g.hol t ht]
        refine hold_congr fun x hx => ?_
        rw [wat_tot]
        by_cases hD : x ∈ D
        · exact (ag x hD).symm
        · have : ¬ x < a.arrows.length := fun lx => q ⟨x, hx, lx, hD⟩
          rw [out hD, List.getElem?_eq_none (by omega)]
  · rintro ⟨F, ag⟩
    have hl := F.len
    refine ⟨hl, fun i y l e1 e2 => ?_⟩
    obtain ⟨li, rfl⟩ := boxOf_at.mp e2
    have li : i < a.arrows.length := by rw [← g.len]; exact li
    unfold boxAt
    by_cases hD : i ∈ D
    · rw [ag i hD, e1]
      exact List.mem_singleton.mpr rfl
    · rw [out hD]
      show y ∈ chs a b ts w i
      have c1 := F.cnd i y (by rw [wat_tot]; exact e1)
      rw [cand_congr wa li (v := w) fun x hx => by rw [wat_tot, ag x (cD.thing x hx)]] at c1
      refine List.mem_filter.mpr ⟨c1, ?_⟩
      rw [List.all_eq_true]
      intro t ht
      obtain ⟨t1, t2⟩ := List.mem_filter.mp ht
      rw [← F.hol t t1]
      refine hold_congr fun x hx => ?_
      rw [wat_set (by rw [g.len]; exact li), wat_tot]
      by_cases ex : x = i
      · rw [if_pos ex, ex, e1]
      · rw [if_neg ex]
        by_cases hD2 : x ∈ D
        · exact ag x hD2
        · exact (ex (cD.one t t1 x i hx t2 hD2 hD)).elim
def restr (a : Cat) (D m : List Nat) : W := (List.range a.arrows.length).map fun f => if f ∈ D then m[f]? else none
theorem wat_restr {a : Cat} {D m : List Nat} {f : Nat} : wat (restr a D m) f = if f < a.arrows.length ∧ f ∈ D then m[f]? else none := by
  rw [wat_eq]
  unfold restr
  rw [List.getElem?_map]
  by_cases q : f < a.arrows.length
  · rw [List.getElem?_range q]
    by_cases h : f ∈ D <;> simp [q, h]
  · rw [List.getElem?_eq_none (by rw [List.length_range]; omega)]
    simp [q]
theorem good_restr {a b : Cat} {ts : List T3} {D m : List Nat} (wa : Wf a) (cD : Closed a ts D) (F : Full a b ts m) : Good a b ts D (restr a D m) ∧ ∀ f ∈ D, wat (restr a D m) f = m[f]? := by
  have ag : ∀ f ∈ D, wat (restr a D m) f = m[f]? := fun f hf => by rw [wat_restr, if_pos ⟨cD.lt f hf, hf⟩]
  have hl := F.len
  refine ⟨⟨by unfold restr; simp, fun f => ?_, fun f y hy => ?_, fun t ht => ?_⟩, ag⟩
  · rw [wat_restr]
    by_cases q : f < a.arrows.length ∧ f ∈ D
    · rw [if_pos q, List.getElem?_eq_getElem (by omega)]
      simp [q.2]
    · rw [if_neg q]
      simp only [Option.isSome_none, Bool.false_eq_true, false_iff]
      exact fun z => q ⟨cD.lt f z, z⟩
  · rw [wat_restr] at hy
    by_cases q : f < a.arrows.length ∧ f ∈ D
    · rw [if_pos q] at hy
      rw [cand_congr wa q.1 (v := tot m) fun x hx => by rw [wat_tot, ag x (cD.thing x hx)]]
      exact F.cnd f y (by rw [wat_tot]; exact hy)
    · rw [if_neg q] at hy
      cases hy
  · by_cases q : ∃ x, inT x t = true ∧ wat (restr a D m) x = none
    · obtain ⟨x, h1, h2⟩ := q
      exact hold_none h1 h2
    · rw [← F.hol t ht]
      refine hold_congr fun x hx => ?_
      rw [wat_tot]
      by_cases hD : x ∈ D
      · exact ag x hD
      · exact (q ⟨x, hx, by rw [wat_restr, if_neg fun z => hD z.2]⟩).elim
/-! ### all of them -/
def rowsOf (a b : Cat) (ts : List T3) (D : List Nat) : List W := D.foldl (settleL a b ts) [List.replicate a.arrows.length none]
def whole (bx : List (List Nat)) : Bool := bx.all fun l => !l.isEmpty
def boxes (a b : Cat) (ts : List T3) (D : List Nat) : List (List (List Nat)) := ((rowsOf a b ts D).map (boxOf a b ts)).filter whole
theorem prodR_empty : ∀ {bx : List (List Nat)}, whole bx = false → prodR bx = []
  | [], h => by cases h
  | p :: r, h => by
    show p.flatMap (fun y => (prodR r).map (y :: ·)) = []
    cases p with
    | nil => rfl
    | cons x l =>
      have : whole r = false := by simpa [whole] using h
      rw [prodR_empty this]
      simp
theorem flat_whole : ∀ l : List (List (List Nat)), (l.filter whole).flatMap prodR = l.flatMap prodR
  | [] => rfl
  | x :: l => by
    rw [List.filter_cons, List.flatMap_cons]
    cases q : whole x with
    | true => rw [if_pos rfl, List.flatMap_cons, flat_whole l]
    | false => rw [if_neg (by decide), prodR_empty q, List.nil_append, flat_whole l]
theorem chs_lt {a b : Cat} {ts : List T3} {w : W} {f y : Nat} (wb : Wf b) (h : y ∈ cand a b w f) : y < b.arrows.length := by
  unfold cand at h
  by_cases q : f < a.n
  · rw [if_pos q] at h
    exact Nat.lt_of_lt_of_le (List.mem_range.mp h) wb.len
  · rw [if_neg q] at h
    exact (hom_from h).1
theorem boxAt_nodup {a b : Cat} {ts : List T3} {w : W} {f : Nat} : (boxAt a b ts w f).Nodup := by
  unfold boxAt
  cases wat w f with
  | none => exact chs_nodup ..
  | some y => simp
theorem boxOf_nodup {a b : Cat} {ts : List T3} {w : W} : ∀ l ∈ boxOf a b ts w, l.Nodup := fun l hl => by
  obtain ⟨f, _, rfl⟩ := List.mem_map.mp hl
  exact boxAt_nodup
structure AllIn (a b : Cat) (ts : List T3) (D : List Nat) : Prop where
  nd : ((boxes a b ts D).flatMap prodR).Nodup
  mem : ∀ m, m ∈ (boxes a b ts D).flatMap prodR ↔ Full a b ts m
theorem all_in {a b : Cat} {ts : List T3} {D : List Nat} (wa : Wf a) (cD : Closed a ts D) (hR : RowsAre a b ts D (rowsOf a b ts D)) : AllIn a b ts D := by
  have key : ∀ {w m}, w ∈ rowsOf a b ts D → m ∈ prodR (boxOf a b ts w) → w = restr a D m := fun {w m} hw hm => by
    have g := (hR.mem w).mp hw
    obtain ⟨F, ag⟩ := (box_mem wa cD g).mp hm
    refine w_ext (by rw [g.len]; unfold restr; simp) fun f hf => ?_
    rw [wat_restr]
    by_cases hD : f ∈ D
    · rw [if_pos ⟨cD.lt f hD, hD⟩]
      exact ag f hD
    · rw [if_neg fun z => hD z.2]
      cases q : wat w f with
      | none => rfl
      | some y => exact (hD ((g.dom f).mp (by rw [q]; rfl))).elim
  refine ⟨?_, fun m => ?_⟩
  · unfold boxes
    rw [flat_whole, List.flatMap_map]
    exact nd_flat hR.nd (fun w _ => prodR_nodup boxOf_nodup) fun w hw v hv m h1 h2 => (key hw h1).trans (key hv h2).symm
  · unfold boxes
    rw [flat_whole, List.flatMap_map, List.mem_flatMap]
    constructor
    · rintro ⟨w, hw, hm⟩
      exact ((box_mem wa cD ((hR.mem w).mp hw)).mp hm).1
    · intro F
      obtain ⟨g, ag⟩ := good_restr (D := D) wa cD F
      exact ⟨_, (hR.mem _).mpr g, (box_mem wa cD g).mpr ⟨F, ag⟩⟩
/-! ### order -/
def llt : List Nat → List Nat → Bool
  | x :: xs, y :: ys => if x = y then llt xs ys else decide (x < y)
  | [], _ :: _ => true
  | _, [] => false
theorem llt_pre : ∀ (w x y : List Nat), llt (w ++ x) (w ++ y) = llt x y
  | [], _, _ => rfl
  | a :: w, x, y => by
    show (if a = a then llt (w ++ x) (w ++ y) else decide (a < a)) = _
    rw [if_pos rfl, llt_pre w x y]
theorem llt_irrefl : ∀ x : List Nat, llt x x = false
  | [] => rfl
  | a :: x => by
    show (if a = a then llt x x else decide (a < a)) = false
    rw [if_pos rfl, llt_irrefl x]
theorem llt_asymm : ∀ {x y : List Nat}, llt x y = true → llt y x = false
  | [], [], h => by cases h
  | [], _ :: _, _ => rfl
  | _ :: _, [], h => by cases h
  | a :: x, b :: y, h => by
    have h : (if a = b then llt x y else decide (a < b)) = true := h
    show (if b = a then llt y x else decide (b < a)) = false
    by_cases e : a = b
    · rw [if_pos e] at h
      rw [if_pos e.symm]
      exact llt_asymm h
    · rw [if_neg e, decide_eq_true_eq] at h
      rw [if_neg (fun z => e z.symm), decide_eq_false_iff_not]
      omega
theorem flat_pw {α : Type} {R : List Nat → List Nat → Prop} {g : α → List (List Nat)} {S : α → α → Prop} : ∀ {l : List α}, l.Pairwise S → (∀ x ∈ l, (g x).Pairwise R) → (∀ x y, S x y → ∀ u ∈ g x, ∀ v ∈ g y, R u v) → (l.flatMap g).Pairwise R
  | [], _, _, _ => List.Pairwise.nil
  | x :: l, h, h1, h2 => by
    obtain ⟨a1, a2⟩ := List.pairwise_cons.mp h
    rw [List.flatMap_cons]
    refine List.pairwise_append.mpr ⟨h1 x (List.mem_cons_self ..), flat_pw a2 (fun y hy => h1 y (List.mem_cons_of_mem _ hy)) h2, fun u hu v hv => ?_⟩
    obtain ⟨y, hy, hv⟩ := List.mem_flatMap.mp hv
    exact h2 x y (a1 y hy) u hu v hv
theorem range_lt (n : Nat) : (List.range n).Pairwise (· < ·) := List.pairwise_lt_range
theorem csAt_lt (a b : Cat) (w : List Nat) : (csAt a b w).Pairwise (· < ·) := by
  unfold csAt
  by_cases q : w.length < a.n
  · rw [if_pos q]
    exact range_lt _
  · rw [if_neg q]
    unfold hom Fc01.all
    exact (range_lt _).filter _
theorem split_take {α : Type} {m w : List α} {n : Nat} (h : m.take n = w) : m = w ++ m.drop n := by rw [← h, List.take_append_drop]
theorem extend_sorted {a b : Cat} : ∀ (f : Nat) (w : List Nat), (Fc01.extend a b f w).Pairwise fun x y => llt x y = true
  | 0, w => by
    show [w].Pairwise _
    simp
  | f + 1, w => by
    show (((csAt a b w).filter (Fc01.suits a b w)).flatMap fun y => Fc01.extend a b f (w ++ [y])).Pairwise _
    refine flat_pw ((csAt_lt a b w).filter _) (fun y _ => extend_sorted f (w ++ [y])) fun x y hxy u hu v hv => ?_
    have h1 := split_take ((mem_extend f (w ++ [x])).mp hu).2.1
    have h2 := split_take ((mem_extend f (w ++ [y])).mp hv).2.1
    rw [h1, h2, List.append_assoc, List.append_assoc, llt_pre]
    show (if x = y then _ else decide (x < y)) = true
    rw [if_neg (by omega), decide_eq_true_eq]
    exact hxy
theorem maps_sorted (a b : Cat) : (Fc01.maps a b).Pairwise fun x y => llt x y = true := extend_sorted _ _
theorem sorted_nodup {l : List (List Nat)} (h : l.Pairwise fun x y => llt x y = true) : l.Nodup := h.imp fun {x y} h e => by
  rw [e, llt_irrefl] at h
  cases h
/-- two sorted lists of the same members are the same -/
theorem sorted_uniq : ∀ {l r : List (List Nat)}, l.Pairwise (fun x y => llt y x = false) → l.Nodup → r.Pairwise (fun x y => llt x y = true) → (∀ x, x ∈ l ↔ x ∈ r) → l = r
  | [], [], _, _, _, _ => rfl
  | [], y :: r, _, _, _, h => absurd ((h y).mpr (List.mem_cons_self ..)) (by simp)
  | x :: l, [], _, _, _, h => absurd ((h x).mp (List.mem_cons_self ..)) (by simp)
  | x :: l, y :: r, h1, hn, h2, h => by
    obtain ⟨a1, a2⟩ := List.pairwise_cons.mp h1
    obtain ⟨n1, n2⟩ := List.nodup_cons.mp hn
    obtain ⟨b1, b2⟩ := List.pairwise_cons.mp h2
    have e : x = y := by
      rcases List.mem_cons.mp ((h x).mp (List.mem_cons_self ..)) with z | z
      · exact z
      · have q := b1 x z
        rcases List.mem_cons.mp ((h y).mpr (List.mem_cons_self ..)) with z2 | z2
        · exact z2.symm
        · rw [a1 y z2] at q
          cases q
    subst e
    congr 1
    refine sorted_uniq a2 n2 b2 fun z => ?_
    have hz := h z
    rw [List.mem_cons, List.mem_cons] at hz
    constructor
    · intro q
      rcases hz.mp (Or.inr q) with e | e
      · exact (n1 (by rw [← e]; exact q)).elim
      · exact e
    · intro q
      rcases hz.mpr (Or.inr q) with e | e
      · have := b1 z q
        rw [e, llt_irrefl] at this
        cases this
      · exact e
/-! ### counting -/
def wy (bx : List (List Nat)) : Nat := bx.foldl (fun w p => w * p.length) 1
def ways2 (bs : List (List (List Nat))) (f : Nat) : Nat := bs.foldl (fun t bx => t + wy (bx.drop f)) 0
theorem foldl_mul : ∀ (bx : List (List Nat)) (n : Nat), bx.foldl (fun w p => w * p.length) n = n * wy bx
  | [], n => (Nat.mul_one n).symm
  | p :: r, n => by
    unfold wy
    rw [List.foldl_cons, List.foldl_cons, foldl_mul r, foldl_mul r, Nat.one_mul, Nat.mul_assoc]
theorem wy_cons (p : List Nat) (r : List (List Nat)) : wy (p :: r) = p.length * wy r := by
  show (p :: r).foldl (fun w p => w * p.length) 1 = _
  rw [List.foldl_cons, foldl_mul, Nat.one_mul]
theorem foldl_add {α : Type} (g : α → Nat) : ∀ (l : List α) (n : Nat), l.foldl (fun t x => t + g x) n = n + (l.map g).sum
  | [], n => rfl
  | x :: l, n => by
    rw [List.foldl_cons, foldl_add g l, List.map_cons, List.sum_cons, Nat.add_assoc]
theorem ways2_eq (bs : List (List (List Nat))) (f : Nat) : ways2 bs f = (bs.map fun bx => wy (bx.drop f)).sum := by
  unfold ways2
  rw [foldl_add (fun bx : List (List Nat) => wy (bx.drop f)), Nat.zero_add]
theorem flat_const {α β : Type} {g : α → List β} {n : Nat} : ∀ {l : List α}, (∀ x ∈ l, (g x).length = n) → (l.flatMap g).length = l.length * n
  | [], _ => by simp
  | x :: l, h => by
    rw [List.flatMap_cons, List.length_append, h x (List.mem_cons_self ..), flat_const (l := l) fun y hy => h y (List.mem_cons_of_mem _ hy), List.length_cons, Nat.succ_mul, Nat.add_comm]
theorem prodR_len : ∀ bx : List (List Nat), (prodR bx).length = wy bx
  | [] => rfl
  | p :: r => by
    show (p.flatMap fun y => (prodR r).map (y :: ·)).length = _
    rw [flat_const (n := wy r) fun y _ => by rw [List.length_map, prodR_len r], wy_cons]
def pre (p m : List Nat) : Bool := m.take p.length == p
/-- the box's beginnings have p -/
def fitsB : List Nat → List (List Nat) → Bool
  | [], _ => true
  | _ :: _, [] => false
  | y :: q, c :: r => decide (y ∈ c) && fitsB q r
theorem filter_flat {α β : Type} (g : α → List β) (p : β → Bool) : ∀ l : List α, (l.flatMap g).filter p = l.flatMap fun x => (g x).filter p
  | [] => rfl
  | x :: l => by rw [List.flatMap_cons, List.filter_append, filter_flat g p l, List.flatMap_cons]
theorem filter_map_len {α β : Type} (g : α → β) (p : β → Bool) : ∀ l : List α, ((l.map g).filter p).length = (l.filter fun x => p (g x)).length
  | [] => rfl
  | x :: l => by
    rw [List.map_cons, List.filter_cons, List.filter_cons]
    by_cases q : p (g x) = true
    · rw [if_pos q, if_pos q, List.length_cons, List.length_cons, filter_map_len g p l]
    · rw [if_neg q, if_neg q, filter_map_len g p l]
theorem only_len {n y : Nat} {F : Nat → Nat} : ∀ {c : List Nat}, c.Nodup → (∀ z, F z = if z = y then n else 0) → (c.map F).sum = if y ∈ c then n else 0
  | [], _, _ => by simp
  | x :: c, hn, h => by
    obtain ⟨h1, h2⟩ := List.nodup_cons.mp hn
    rw [List.map_cons, List.sum_cons, only_len h2 h, h x]
    by_cases e : x = y
    · subst e
      simp [h1]
    · have : ¬ y = x := fun z => e z.symm
      simp [e, this]
theorem flat_len_sum {α β : Type} (g : α → List β) : ∀ l : List α, (l.flatMap g).length = (l.map fun x => (g x).length).sum
  | [] => rfl
  | x :: l => by rw [List.flatMap_cons, List.length_append, flat_len_sum g l, List.map_cons, List.sum_cons]
theorem pre_count : ∀ (p : List Nat) (bx : List (List Nat)), (∀ l ∈ bx, l.Nodup) → p.length ≤ bx.length → ((prodR bx).filter (pre p)).length = if fitsB p bx = true then wy (bx.drop p.length) else 0
  | [], bx, _, _ => by
    have : ∀ l : List (List Nat), l.filter (pre []) = l := fun l => List.filter_eq_self.mpr fun x _ => by simp [pre]
    rw [this, prodR_len]
    rfl
  | y :: q, [], _, h => by simp at h
  | y :: q, c :: r, hn, h => by
    have ih := pre_count q r (fun l hl => hn l (List.mem_cons_of_mem _ hl)) (by simpa using h)
    show ((c.flatMap fun z => (prodR r).map (z :: ·)).filter (pre (y :: q))).length = _
    rw [filter_flat, flat_len_sum]
    have each : ∀ z : Nat, (((prodR r).map (z :: ·)).filter (pre (y :: q))).length = if z = y then (if fitsB q r = true then wy (r.drop q.length) else 0) else 0 := fun z => by
      rw [filter_map_len]
      by_cases e : z = y
      · subst e
        rw [if_pos rfl, ← ih]
        congr 1
        refine List.filter_congr fun m _ => ?_
        show ((z :: m).take (q.length + 1) == z :: q) = (m.take q.length == q)
        rw [List.take_succ_cons]
        simp
      · rw [if_neg e]
        have : (prodR r).filter (fun m => pre (y :: q) (z :: m)) = [] := List.filter_eq_nil_iff.mpr fun m _ => by
          show ¬ ((z :: m).take (q.length + 1) == y :: q) = true
          rw [List.take_succ_cons]
          simp [e]
        rw [this]
        rfl
    rw [only_len (hn c (List.mem_cons_self ..)) each]
    show _ = if (decide (y ∈ c) && fitsB q r) = true then wy ((c :: r).drop (q.length + 1)) else 0
    rw [List.drop_succ_cons]
    by_cases hy : y ∈ c
    · simp [hy]
    · simp [hy]
theorem sum_filter {α : Type} (p : α → Bool) (g : α → Nat) : ∀ l : List α, ((l.filter p).map g).sum = (l.map fun x => if p x = true then g x else 0).sum
  | [] => rfl
  | x :: l => by
    rw [List.filter_cons, List.map_cons, List.sum_cons]
    by_cases q : p x = true
    · rw [if_pos q, if_pos q, List.map_cons, List.sum_cons, sum_filter p g l]
    · rw [if_neg q, if_neg q, sum_filter p g l, Nat.zero_add]
/-- how many begin with p -/
theorem ways_pre {bs : List (List (List Nat))} {n : Nat} {p : List Nat} (hn : ∀ bx ∈ bs, (∀ l ∈ bx, l.Nodup) ∧ bx.length = n) (hp : p.length ≤ n) : ways2 (bs.filter (fitsB p)) p.length = ((bs.flatMap prodR).filter (pre p)).length := by
  rw [ways2_eq, sum_filter, filter_flat, flat_len_sum]
  congr 1
  refine List.map_congr_left fun bx hb => ?_
  rw [pre_count p bx (hn bx hb).1 (by rw [(hn bx hb).2]; exact hp)]
theorem fits_snoc : ∀ (p : List Nat) (g : Nat) (bx : List (List Nat)), p.length < bx.length → fitsB (p ++ [g]) bx = (fitsB p bx && decide (g ∈ bx.getD p.length []))
  | [], g, [], h => by simp at h
  | [], g, c :: r, _ => by
    show (decide (g ∈ c) && fitsB [] r) = (true && decide (g ∈ c))
    cases r <;> simp [fitsB]
  | y :: q, g, [], h => by simp at h
  | y :: q, g, c :: r, h => by
    show (decide (y ∈ c) && fitsB (q ++ [g]) r) = ((decide (y ∈ c) && fitsB q r) && decide (g ∈ (c :: r).getD (q.length + 1) []))
    rw [fits_snoc q g r (by simpa using h), Bool.and_assoc]
    rfl
theorem same_count {l r : List (List Nat)} (p : List Nat → Bool) (h1 : l.Nodup) (h2 : r.Nodup) (h : ∀ x, x ∈ l ↔ x ∈ r) : (l.filter p).length = (r.filter p).length := by
  refine Nat.le_antisymm (sub_len (nodup_filter h1) fun x hx => ?_) (sub_len (nodup_filter h2) fun x hx => ?_)
  · obtain ⟨a1, a2⟩ := List.mem_filter.mp hx
    exact List.mem_filter.mpr ⟨(h x).mp a1, a2⟩
  · obtain ⟨a1, a2⟩ := List.mem_filter.mp hx
    exact List.mem_filter.mpr ⟨(h x).mpr a1, a2⟩
/-! ### the k-th -/
theorem filter_parts {α : Type} {R : α → α → Prop} {A B : α → Bool} (hR : ∀ x y, R x y → B x = true → A y = true → False) (hd : ∀ x, A x = true → B x = true → False) : ∀ {l : List α}, l.Pairwise R → l.filter (fun x => A x || B x) = l.filter A ++ l.filter B
  | [], _ => rfl
  | x :: l, h => by
    obtain ⟨a1, a2⟩ := List.pairwise_cons.mp h
    rw [List.filter_cons, List.filter_cons, List.filter_cons, filter_parts hR hd a2]
    cases qa : A x with
    | true =>
      have qb : B x = false := by
        cases q : B x with
        | false => rfl
        | true => exact (hd x qa q).elim
      rw [qb]
      simp
    | false =>
      cases qb : B x with
      | false => simp
      | true =>
        have : l.filter A = [] := List.filter_eq_nil_iff.mpr fun y hy z => hR x y (a1 y hy) qb z
        rw [this]
        simp
def from_g (p : List Nat) (g : Nat) (m : List Nat) : Bool := pre p m && decide (g ≤ m.getD p.length 0)
theorem pre_snoc {p m : List Nat} {g : Nat} (h : p.length < m.length) : pre (p ++ [g]) m = (pre p m && decide (m.getD p.length 0 = g)) := by
  unfold pre
  rw [List.length_append, List.length_singleton, List.take_add_one, List.getElem?_eq_getElem h, List.getD_eq_getElem?_getD, List.getElem?_eq_getElem h, Bool.eq_iff_iff, Bool.and_eq_true, beq_iff_eq, beq_iff_eq, decide_eq_true_eq]
  show m.take p.length ++ [m[p.length]] = p ++ [g] ↔ _
  constructor
  · intro e
    have := List.append_inj e (by rw [List.length_take]; omega)
    exact ⟨this.1, by simpa using this.2⟩
  · rintro ⟨e1, e2⟩
    rw [e1]
    simp only [Option.getD_some] at e2
    rw [e2]
theorem from_split {S : List (List Nat)} {p : List Nat} {g n : Nat} (hS : S.Pairwise fun x y => llt x y = true) (hl : ∀ m ∈ S, m.length = n) (hp : p.length < n) : S.filter (from_g p g) = S.filter (pre (p ++ [g])) ++ S.filter (from_g p (g + 1)) := by
  have hS2 : S.Pairwise fun x y => llt x y = true ∧ x.length = n ∧ y.length = n := by
    have : S.Pairwise fun x y => llt x y = true ∧ (x ∈ S ∧ y ∈ S) := List.Pairwise.and hS (by
      rw [List.pairwise_iff_forall_sublist]
      intro x y hs
      have := hs.subset
      exact ⟨this (by simp), this (by simp)⟩)
    exact this.imp fun {x y} h => ⟨h.1, hl x h.2.1, hl y h.2.2⟩
  have e : S.filter (from_g p g) = S.filter fun m => (pre p m && decide (m.getD p.length 0 = g)) || from_g p (g + 1) m := List.filter_congr fun m hm => by
    unfold from_g
    rw [← Bool.and_or_distrib_left, Bool.eq_iff_iff]
    simp only [Bool.and_eq_true, Bool.or_eq_true, decide_eq_true_eq]
    constructor
    · rintro ⟨h1, h2⟩
      exact ⟨h1, by omega⟩
    · rintro ⟨h1, h2⟩
      exact ⟨h1, by omega⟩
  have e2 : S.filter (pre (p ++ [g])) = S.filter fun m => pre p m && decide (m.getD p.length 0 = g) := List.filter_congr fun m hm => pre_snoc (by rw [hl m hm]; exact hp)
  rw [e, e2]
  refine filter_parts (R := fun x y => llt x y = true ∧ x.length = n ∧ y.length = n) (fun x y hxy hB hA => ?_) (fun x hA hB => ?_) hS2
  · unfold from_g at hB
    simp only [Bool.and_eq_true, decide_eq_true_eq] at hA hB
    obtain ⟨hlt, lx, ly⟩ := hxy
    have px : x.take p.length = p := beq_iff_eq.mp hB.1
    have py : y.take p.length = p := beq_iff_eq.mp hA.1
    have dx : x = p ++ (x.getD p.length 0 :: x.drop (p.length + 1)) := by
      have h1 := split_take px
      have h2 : x.drop p.length = x.getD p.length 0 :: x.drop (p.length + 1) := by
        rw [List.getD_eq_getElem?_getD, List.getElem?_eq_getElem (by omega)]
        exact List.drop_eq_getElem_cons (by omega)
      rw [h2] at h1
      exact h1
    have dy : y = p ++ (y.getD p.length 0 :: y.drop (p.length + 1)) := by
      have h1 := split_take py
      have h2 : y.drop p.length = y.getD p.length 0 :: y.drop (p.length + 1) := by
        rw [List.getD_eq_getElem?_getD, List.getElem?_eq_getElem (by omega)]
        exact List.drop_eq_getElem_cons (by omega)
      rw [h2] at h1
      exact h1
    rw [dx, dy, llt_pre] at hlt
    have hlt : (if x.getD p.length 0 = y.getD p.length 0 then llt _ _ else decide (x.getD p.length 0 < y.getD p.length 0)) = true := hlt
    rw [if_neg (by omega), decide_eq_true_eq] at hlt
    omega
  · unfold from_g at hB
    simp only [Bool.and_eq_true, decide_eq_true_eq] at hA hB
    omega
/-- one step of the search for the k-th: skipped, or found -/
theorem from_skip {S : List (List Nat)} {p : List Nat} {g n r : Nat} (hS : S.Pairwise fun x y => llt x y = true) (hl : ∀ m ∈ S, m.length = n) (hp : p.length < n) :
    ((S.filter (pre (p ++ [g]))).length ≤ r → (S.filter (from_g p (g + 1)))[r - (S.filter (pre (p ++ [g]))).length]? = (S.filter (from_g p g))[r]?) ∧
    (r < (S.filter (pre (p ++ [g]))).length → (S.filter (pre (p ++ [g])))[r]? = (S.filter (from_g p g))[r]?) := by
  rw [from_split (g := g) hS hl hp]
  constructor
  · intro h
    rw [List.getElem?_append_right h]
  · intro h
    rw [List.getElem?_append_left h]
theorem from_zero {S : List (List Nat)} {p : List Nat} : S.filter (from_g p 0) = S.filter (pre p) := List.filter_congr fun m _ => by
  unfold from_g
  simp
end Arr
-- text S7b
set_option Elab.async false
set_option linter.unusedVariables false
/-! # the specification's own side: which arrows are settled, and how many rows there are -/
namespace Arr
open Fc01 (from_ to_ after hom)
def loose (L : Nat) (D : List Nat) (t : T3) : List Nat := (List.range L).filter fun f => inT f t && !D.contains f
def tiedL (L : Nat) (ts : List T3) (D : List Nat) : List Nat := ts.flatMap fun t => if 1 < (loose L D t).length then loose L D t else []
theorem mem_loose {L : Nat} {D : List Nat} {t : T3} {f : Nat} : f ∈ loose L D t ↔ f < L ∧ inT f t = true ∧ ¬ f ∈ D := by
  unfold loose
  rw [List.mem_filter, List.mem_range, Bool.and_eq_true, Bool.not_eq_true']
  simp
theorem loose_lt (L : Nat) (D : List Nat) (t : T3) : (loose L D t).Pairwise (· < ·) := (range_lt L).filter _
theorem mem_tied {L : Nat} {ts : List T3} {D : List Nat} {f : Nat} (h : f ∈ tiedL L ts D) : f < L ∧ ¬ f ∈ D := by
  obtain ⟨t, _, h⟩ := List.mem_flatMap.mp h
  by_cases q : 1 < (loose L D t).length
  · rw [if_pos q] at h
    have := mem_loose.mp h
    exact ⟨this.1, this.2.2⟩
  · rw [if_neg q] at h
    cases h
theorem two_len {l : List Nat} {f g : Nat} (h1 : f ∈ l) (h2 : g ∈ l) (h : l.length ≤ 1) : f = g := by
  match l, h with
  | [], _ => cases h1
  | [x], _ =>
    rw [List.mem_singleton] at h1 h2
    rw [h1, h2]
  | _ :: _ :: _, h => simp at h
theorem threes_lt {a : Cat} (wa : Wf a) (na : NoP a) {t : T3} (ht : t ∈ threes a) {f : Nat} (h : inT f t = true) : f < a.arrows.length := by
  obtain ⟨t1, t2, t3, t4⟩ := (mem_threes wa).mp ht
  obtain ⟨k, e1, e2, _⟩ := na t.1 t.2.1 t1.2 t2.2 t3
  rw [e1] at t4
  have t4 : t.2.2 = k := t4
  unfold inT at h
  simp only [Bool.or_eq_true, beq_iff_eq] at h
  rcases h with rfl | rfl | rfl
  · exact t1.2
  · exact t2.2
  · rw [t4]
    exact e2
/-- the arrows that are settled so far: the things, then others -/
structure Sett (a : Cat) (D : List Nat) : Prop where
  ex : ∃ E, D = List.range a.n ++ E ∧ (∀ f ∈ E, a.n ≤ f ∧ f < a.arrows.length) ∧ E.Nodup
theorem sett_start (a : Cat) : Sett a (List.range a.n) := ⟨[], by simp, by simp, List.nodup_nil⟩
theorem Sett.lt {a : Cat} (wa : Wf a) {D : List Nat} (h : Sett a D) : ∀ x ∈ D, x < a.arrows.length := by
  obtain ⟨E, rfl, h1, _⟩ := h
  intro x hx
  rcases List.mem_append.mp hx with z | z
  · exact Nat.lt_of_lt_of_le (List.mem_range.mp z) wa.len
  · exact (h1 x z).2
theorem Sett.thing {a : Cat} {D : List Nat} (h : Sett a D) : ∀ x, x < a.n → x ∈ D := by
  obtain ⟨E, rfl, _⟩ := h
  exact fun x hx => List.mem_append_left _ (List.mem_range.mpr hx)
theorem Sett.snoc {a : Cat} {D : List Nat} {f : Nat} (h : Sett a D) (lf : f < a.arrows.length) (nf : ¬ f ∈ D) : Sett a (D ++ [f]) := by
  have hn : a.n ≤ f := by
    by_cases q : a.n ≤ f
    · exact q
    · exact (nf (h.thing f (by omega))).elim
  obtain ⟨E, rfl, h1, h2⟩ := h
  refine ⟨E ++ [f], by rw [List.append_assoc], fun x hx => ?_, List.nodup_append.mpr ⟨h2, by simp, fun x hx y hy e => ?_⟩⟩
  · rcases List.mem_append.mp hx with z | z
    · exact h1 x z
    · rw [List.mem_singleton.mp z]
      exact ⟨hn, lf⟩
  · rw [List.mem_singleton.mp hy] at e
    rw [e] at hx
    exact nf (List.mem_append_right _ hx)
theorem Sett.nodup {a : Cat} {D : List Nat} (h : Sett a D) : D.Nodup := by
  obtain ⟨E, rfl, h1, h2⟩ := h
  refine List.nodup_append.mpr ⟨List.nodup_range, h2, fun x hx y hy e => ?_⟩
  have := List.mem_range.mp hx
  have := (h1 y hy).1
  omega
theorem Sett.len {a : Cat} (wa : Wf a) {D : List Nat} (h : Sett a D) : D.length ≤ a.arrows.length := by
  have := sub_len (l' := List.range a.arrows.length) h.nodup fun x hx => List.mem_range.mpr (h.lt wa x hx)
  rw [List.length_range] at this
  exact this
theorem Sett.closed {a : Cat} (wa : Wf a) (na : NoP a) {D : List Nat} (h : Sett a D) (ht : tiedL a.arrows.length (threes a) D = []) : Closed a (threes a) D := by
  refine ⟨h.thing, h.lt wa, fun t hm f g hf hg nf ng => ?_⟩
  have q : ¬ 1 < (loose a.arrows.length D t).length := fun z => by
    have : f ∈ tiedL a.arrows.length (threes a) D := List.mem_flatMap.mpr ⟨t, hm, by rw [if_pos z]; exact mem_loose.mpr ⟨threes_lt wa na hm hf, hf, nf⟩⟩
    rw [ht] at this
    cases this
  exact two_len (mem_loose.mpr ⟨threes_lt wa na hm hf, hf, nf⟩) (mem_loose.mpr ⟨threes_lt wa na hm hg, hg, ng⟩) (by omega)
theorem fitAll_app {a : Cat} : ∀ (E D F : List Nat), FitAll a D E → FitAll a (D ++ E) F → FitAll a D (E ++ F)
  | [], D, F, _, h => by
    rw [List.append_nil] at h
    exact h
  | f :: E, D, F, h1, h2 => ⟨h1.1, fitAll_app E (D ++ [f]) F h1.2 (by rw [List.append_assoc]; exact h2)⟩
theorem fit_things {a : Cat} (wa : Wf a) : ∀ n, n ≤ a.n → FitAll a [] (List.range n)
  | 0, _ => trivial
  | n + 1, h => by
    rw [List.range_succ]
    refine fitAll_app _ _ _ (fit_things wa n (by omega)) ⟨⟨by simp, Nat.lt_of_lt_of_le h wa.len, fun _ g hg => ?_, fun q => by omega⟩, trivial⟩
    have : g < n := by simpa using hg
    omega
theorem fit_rest {a : Cat} : ∀ (E D : List Nat), (∀ x, x < a.n → x ∈ D) → (∀ f ∈ E, a.n ≤ f ∧ f < a.arrows.length) → E.Nodup → (∀ f ∈ E, ¬ f ∈ D) → FitAll a D E
  | [], _, _, _, _, _ => trivial
  | f :: E, D, h1, h2, h3, h4 => by
    obtain ⟨n1, n2⟩ := List.nodup_cons.mp h3
    have hf := h2 f (List.mem_cons_self ..)
    refine ⟨⟨h4 f (List.mem_cons_self ..), hf.2, fun q => by omega, fun _ => h1⟩, fit_rest E (D ++ [f]) (fun x hx => List.mem_append_left _ (h1 x hx)) (fun g hg => h2 g (List.mem_cons_of_mem _ hg)) n2 fun g hg z => ?_⟩
    rcases List.mem_append.mp z with z | z
    · exact h4 g (List.mem_cons_of_mem _ hg) z
    · rw [List.mem_singleton.mp z] at hg
      exact n1 hg
theorem Sett.fit {a : Cat} (wa : Wf a) {D : List Nat} (h : Sett a D) : FitAll a [] D := by
  obtain ⟨E, rfl, h1, h2⟩ := h
  refine fitAll_app _ _ _ (fit_things wa a.n (Nat.le_refl _)) (fit_rest E _ (fun x hx => by simpa using hx) h1 h2 fun f hf z => ?_)
  have : f < a.n := by simpa using z
  have := (h1 f hf).1
  omega
theorem Sett.rows {a b : Cat} {ts : List T3} (wa : Wf a) {D : List Nat} (h : Sett a D) : RowsAre a b ts D (rowsOf a b ts D) := by
  have := rows_all (b := b) (ts := ts) wa D [] _ (h.fit wa) (rows_start a b ts)
  rw [List.nil_append] at this
  exact this
/-! ### how many rows -/
theorem ways_snoc (n mb : Nat) : ∀ f k, ways n mb k (f + 1) = ways n mb k f * (if k + f < n then mb else 7)
  | 0, k => by
    show (if k < n then mb else 7) * 1 = 1 * (if k + 0 < n then mb else 7)
    rw [Nat.mul_one, Nat.one_mul, Nat.add_zero]
  | f + 1, k => by
    show (if k < n then mb else 7) * ways n mb (k + 1) (f + 1) = ((if k < n then mb else 7) * ways n mb (k + 1) f) * _
    rw [ways_snoc n mb f (k + 1), Nat.mul_assoc, show k + 1 + f = k + (f + 1) by omega]
theorem ways_all {n mb l : Nat} (h1 : 1 ≤ n) (h4 : n ≤ 4) (h9 : l ≤ 9) (hb : mb ≤ 4) (h7 : n = 1 → l ≤ 7) : ways n mb 0 l ≤ 13176688 := by
  have mono : ∀ f k, ways n mb k f ≤ ways n 4 k f := by
    intro f
    induction f with
    | zero => intro k; exact Nat.le_refl _
    | succ f ih =>
      intro k
      refine Nat.mul_le_mul ?_ (ih (k + 1))
      split
      · exact hb
      · exact Nat.le_refl _
  refine Nat.le_trans (mono l 0) ?_
  have q : ∀ n, n < 5 → ∀ l, l < 10 → n = 0 ∨ (n = 1 ∧ 7 < l) ∨ ways n 4 0 l ≤ 13176688 := by decide
  rcases q n (by omega) l (by omega) with z | z | z
  · omega
  · omega
  · exact z
theorem one7 {a : Cat} {m : Mm} {k : Nat} (hm : MOk k a m) (hk : k ≤ 40) (np : NoP a) (e : a.n = 1) : a.arrows.length ≤ 7 := by
  have wa := hm.2.2.2
  have q := hom_le hm hk np 0 0
  have r := sub_len (l := List.range a.arrows.length) (l' := hom a 0 0) List.nodup_range fun f hf => by
    have lf := List.mem_range.mp hf
    refine mem_hom.mpr ⟨lf, ?_⟩
    have h := arrows_at lf
    have h2 := wa.ends f _ h
    rw [h]
    congr 1
    have h3 : from_ a f < a.n := h2.1
    have h4 : to_ a f < a.n := h2.2
    rw [show from_ a f = 0 by omega, show to_ a f = 0 by omega]
  rw [List.length_range] at r
  omega
theorem cand_len {a b : Cat} {m : Mm} {k : Nat} (hm : MOk k b m) (hk : k ≤ 40) (np : NoP b) (w : W) (f : Nat) : (cand a b w f).length ≤ if f < a.n then b.n else 7 := by
  unfold cand
  by_cases q : f < a.n
  · rw [if_pos q, if_pos q, List.length_range]
    exact Nat.le_refl _
  · rw [if_neg q, if_neg q]
    exact hom_le hm hk np _ _
theorem settle_len {a b : Cat} {ts : List T3} {m : Mm} {k : Nat} (hm : MOk k b m) (hk : k ≤ 40) (np : NoP b) (R : List W) (f : Nat) : (settleL a b ts R f).length ≤ R.length * (if f < a.n then b.n else 7) :=
  flat_len fun w _ => by
    rw [List.length_map]
    exact Nat.le_trans (List.length_filter_le _ _) (cand_len hm hk np w f)
theorem rows_le {a b : Cat} {ts : List T3} {m m' : Mm} {k k' : Nat} (hm : MOk k b m) (hk : k ≤ 40) (np : NoP b) (hm' : MOk k' a m') (hk' : k' ≤ 40) (np' : NoP a) {D : List Nat} (h : Sett a D) (i : Nat) : ((D.take i).foldl (settleL a b ts) [List.replicate a.arrows.length none]).length ≤ 13176688 := by
  have wa := hm'.2.2.2
  have wb := hm.2.2.2
  have hl := h.len wa
  have l9 := wa.l9
  obtain ⟨E, rfl, h1, h2⟩ := h
  have step : ∀ i, i ≤ (List.range a.n ++ E).length → (((List.range a.n ++ E).take i).foldl (settleL a b ts) [List.replicate a.arrows.length none]).length ≤ ways a.n b.n 0 i := by
    intro i
    induction i with
    | zero => intro _; exact Nat.le_refl _
    | succ i ih =>
      intro hi
      have lt : i < (List.range a.n ++ E).length := by omega
      rw [take_succ' (List.getElem?_eq_getElem lt), List.foldl_append, ways_snoc, Nat.zero_add]
      refine Nat.le_trans (settle_len hm hk np _ _) (Nat.mul_le_mul (ih (by omega)) ?_)
      have : (List.range a.n ++ E)[i] < a.n ↔ i < a.n := by
        by_cases q : i < a.n
        · rw [List.getElem_append_left (by rw [List.length_range]; exact q), List.getElem_range]
        · rw [List.getElem_append_right (by rw [List.length_range]; omega)]
          have := (h1 _ (List.getElem_mem (l := E) (n := i - (List.range a.n).length) (by rw [List.length_append] at lt; rw [List.length_range] at *; omega))).1
          omega
      by_cases q : i < a.n
      · rw [if_pos q, if_pos (this.mpr q)]
        exact Nat.le_refl _
      · rw [if_neg q, if_neg fun z => q (this.mp z)]
        exact Nat.le_refl _
  by_cases hi : i ≤ (List.range a.n ++ E).length
  · exact Nat.le_trans (step i hi) (ways_all wa.n1 wa.n4 (by omega) wb.n4 fun e => by have := one7 hm' hk' np' e; omega)
  · rw [List.take_of_length_le (by omega)]
    have := step _ (Nat.le_refl _)
    rw [List.take_length] at this
    exact Nat.le_trans this (ways_all wa.n1 wa.n4 (by omega) wb.n4 fun e => by have := one7 hm' hk' np' e; omega)
end Arr
-- text S8
set_option Elab.async false
set_option linter.unusedVariables false
/-! # the specification's own side: changes, alike, partners -/
namespace Arr
open Fc01 (from_ to_ after hom square extendChange)
def askedL (a : Cat) (x : Nat) : List Nat := (List.range' a.n (a.arrows.length - a.n)).filter fun f => max (from_ a f) (to_ a f) == x
def longerL (a b : Cat) (m k c p : List Nat) : List (List Nat) := (p.filter fun y => (askedL a c.length).all (square a b m k (c ++ [y]))).map fun y => c ++ [y]
def stepL (a b : Cat) (m k : List Nat) (rows : List (List Nat)) (p : List Nat) : List (List Nat) := rows.flatMap fun c => longerL a b m k c p
def amongL (a b : Cat) (m k : List Nat) (cs : List (List Nat)) : List (List Nat) := cs.foldl (stepL a b m k) [[]]
def betweenL (a b : Cat) (m k : List Nat) : List (List Nat) := (List.range a.n).map fun x => hom b (m.getD x 0) (k.getD x 0)
/-- takes things to things -/
def Things (a b : Cat) (m : List Nat) : Prop := ∀ x, x < a.n → m.getD x 0 < b.n
theorem getD_snoc {w : List Nat} {y : Nat} : (w ++ [y]).getD w.length 0 = y := by
  rw [List.getD_eq_getElem?_getD]
  simp
theorem asked_all {a b : Cat} (wa : Wf a) (wb : Wf b) {m k w : List Nat} {y : Nat} (hm : Things a b m) (hk : Things a b k) (hw : w.length < a.n) (hy : y ∈ hom b (m.getD w.length 0) (k.getD w.length 0)) :
    ((Fc01.all a).all fun g => (from_ a g != w.length && to_ a g != w.length) || (decide (w.length < from_ a g) || (decide (w.length < to_ a g) || square a b m k (w ++ [y]) g))) = (askedL a w.length).all (square a b m k (w ++ [y])) := by
  have hl := wa.len
  rw [Bool.eq_iff_iff, List.all_eq_true, List.all_eq_true]
  constructor
  · intro z f hf
    unfold askedL at hf
    rw [List.mem_filter, List.mem_range'_1, beq_iff_eq] at hf
    have q := z f (List.mem_range.mpr (by omega))
    simp only [Bool.or_eq_true, Bool.and_eq_true, bne_iff_ne, decide_eq_true_eq] at q
    rcases q with q | q | q | q
    · omega
    · omega
    · omega
    · exact q
  · intro z g hg
    have lg : g < a.arrows.length := List.mem_range.mp hg
    simp only [Bool.or_eq_true, Bool.and_eq_true, bne_iff_ne, decide_eq_true_eq]
    by_cases c1 : from_ a g ≠ w.length ∧ to_ a g ≠ w.length
    · exact Or.inl c1
    · by_cases c2 : w.length < from_ a g
      · exact Or.inr (Or.inl c2)
      · by_cases c3 : w.length < to_ a g
        · exact Or.inr (Or.inr (Or.inl c3))
        · refine Or.inr (Or.inr (Or.inr ?_))
          by_cases c4 : a.n ≤ g
          · refine z g ?_
            unfold askedL
            rw [List.mem_filter, List.mem_range'_1, beq_iff_eq]
            omega
          · have o := own_ends wa (show g < a.n by omega)
            have eg : g = w.length := by omega
            unfold square
            rw [o.1, o.2, eg, getD_snoc]
            have hx := hm w.length hw
            have hx2 := hk w.length hw
            have o1 := own_ends wb hx
            have o2 := own_ends wb hx2
            have h := hom_from hy
            rw [after_eq (o1.2.trans h.2.1.symm), if_pos hx, after_eq (h.2.2.trans o2.1.symm)]
            by_cases c5 : y < b.n
            · rw [if_pos c5]
              have o3 := own_ends wb c5
              rw [← h.2.2, o3.2]
              exact beq_self_eq_true _
            · rw [if_neg c5, if_pos hx2]
              exact beq_self_eq_true _
theorem foldl_flat {a b : Cat} (wa : Wf a) (wb : Wf b) {m k : List Nat} (hm : Things a b m) (hk : Things a b k) : ∀ (f : Nat) (R : List (List Nat)), f ≤ a.n → (∀ w ∈ R, w.length + f = a.n) →
    ((List.range' (a.n - f) f).map fun x => hom b (m.getD x 0) (k.getD x 0)).foldl (stepL a b m k) R = R.flatMap (extendChange a b m k f)
  | 0, R, _, _ => by
    show R = R.flatMap fun w => [w]
    simp
  | f + 1, R, hf, h => by
    have e : List.range' (a.n - (f + 1)) (f + 1) = (a.n - (f + 1)) :: List.range' (a.n - f) f := by
      rw [List.range'_succ]
      congr 2
      omega
    rw [e, List.map_cons, List.foldl_cons, foldl_flat wa wb hm hk f _ (by omega) fun w hw => ?_]
    · unfold stepL
      rw [List.flatMap_assoc]
      have : ∀ (l : List (List Nat)), (∀ w ∈ l, w.length + (f + 1) = a.n) → (l.flatMap fun w => (longerL a b m k w (hom b (m.getD (a.n - (f + 1)) 0) (k.getD (a.n - (f + 1)) 0))).flatMap (extendChange a b m k f)) = l.flatMap (extendChange a b m k (f + 1)) := fun l hl => by
        induction l with
        | nil => rfl
        | cons w r ih =>
          rw [List.flatMap_cons, List.flatMap_cons, ih fun v hv => hl v (List.mem_cons_of_mem _ hv)]
          congr 1
          have hw := hl w (List.mem_cons_self ..)
          rw [show a.n - (f + 1) = w.length by omega]
          unfold longerL
          rw [List.flatMap_map]
          show _ = ((hom b (m.getD w.length 0) (k.getD w.length 0)).filter fun y => (Fc01.all a).all fun g => (from_ a g != w.length && to_ a g != w.length) || (decide (w.length < from_ a g) || (decide (w.length < to_ a g) || square a b m k (w ++ [y]) g))).flatMap fun y => extendChange a b m k f (w ++ [y])
          congr 1
          exact List.filter_congr fun y hy => (asked_all wa wb hm hk (by omega) hy).symm
      exact this R h
    · obtain ⟨v, hv, hw⟩ := List.mem_flatMap.mp hw
      obtain ⟨y, _, rfl⟩ := List.mem_map.mp hw
      have := h v hv
      rw [List.length_append, List.length_singleton]
      omega
theorem changes_is {a b : Cat} (wa : Wf a) (wb : Wf b) {m k : List Nat} (hm : Things a b m) (hk : Things a b k) : amongL a b m k (betweenL a b m k) = Fc01.changes a b m k := by
  have := foldl_flat wa wb hm hk a.n [[]] (Nat.le_refl _) (by simp)
  rw [Nat.sub_self, ← List.range_eq_range'] at this
  unfold amongL betweenL Fc01.changes
  rw [this]
  simp
/-! ### with fewer choices -/
def okP (P : Nat → Nat → Bool) (w : List Nat) : Bool := (List.range w.length).all fun i => P i (w.getD i 0)
theorem okP_snoc (P : Nat → Nat → Bool) (w : List Nat) (y : Nat) : okP P (w ++ [y]) = (okP P w && P w.length y) := by
  unfold okP
  rw [List.length_append, List.length_singleton, List.range_succ, List.all_append, List.all_cons, List.all_nil, Bool.and_true, getD_snoc]
  congr 1
  rw [Bool.eq_iff_iff, List.all_eq_true, List.all_eq_true]
  have : ∀ i ∈ List.range w.length, (w ++ [y]).getD i 0 = w.getD i 0 := fun i hi => by
    rw [List.getD_eq_getElem?_getD, List.getD_eq_getElem?_getD, List.getElem?_append_left (List.mem_range.mp hi)]
  constructor
  · intro z i hi
    rw [← this i hi]
    exact z i hi
  · intro z i hi
    rw [this i hi]
    exact z i hi
theorem step_filter {a b : Cat} {m k : List Nat} (P : Nat → Nat → Bool) {j : Nat} (p : List Nat) : ∀ (R : List (List Nat)), (∀ w ∈ R, w.length = j) → stepL a b m k (R.filter (okP P)) (p.filter (P j)) = (stepL a b m k R p).filter (okP P)
  | [], _ => rfl
  | c :: R, h => by
    have ih := step_filter (a := a) (b := b) (m := m) (k := k) P p R fun w hw => h w (List.mem_cons_of_mem _ hw)
    unfold stepL at ih ⊢
    rw [List.flatMap_cons, List.filter_append, ← ih, List.filter_cons]
    have hc := h c (List.mem_cons_self ..)
    have part : (longerL a b m k c p).filter (okP P) = if okP P c = true then longerL a b m k c (p.filter (P j)) else [] := by
      unfold longerL
      rw [List.filter_map]
      have : ((okP P) ∘ fun y => c ++ [y]) = fun y => okP P c && P j y := funext fun y => by
        show okP P (c ++ [y]) = _
        rw [okP_snoc, hc]
      rw [this, List.filter_filter]
      by_cases q : okP P c = true
      · rw [if_pos q]
        congr 1
        rw [List.filter_filter]
        refine List.filter_congr fun y _ => ?_
        rw [q, Bool.true_and, Bool.and_comm]
      · rw [if_neg q]
        have q' : okP P c = false := by simpa using q
        rw [List.map_eq_nil_iff, List.filter_eq_nil_iff]
        intro y _
        rw [q']
        simp
    rw [part]
    by_cases q : okP P c = true
    · rw [if_pos q, if_pos q, List.flatMap_cons]
    · rw [if_neg q, if_neg q, List.nil_append]
theorem step_len {a b : Cat} {m k p : List Nat} {j : Nat} {R : List (List Nat)} (h : ∀ w ∈ R, w.length = j) : ∀ w ∈ stepL a b m k R p, w.length = j + 1 := fun w hw => by
  obtain ⟨v, hv, hw⟩ := List.mem_flatMap.mp hw
  obtain ⟨y, _, rfl⟩ := List.mem_map.mp hw
  rw [List.length_append, h v hv, List.length_singleton]
theorem fold_filter {a b : Cat} {m k : List Nat} (P : Nat → Nat → Bool) : ∀ (cs : List (List Nat)) (j : Nat) (R : List (List Nat)), (∀ w ∈ R, w.length = j) →
    (cs.zipIdx j).foldl (fun rows (q : List Nat × Nat) => stepL a b m k rows (q.1.filter (P q.2))) (R.filter (okP P)) = (cs.foldl (stepL a b m k) R).filter (okP P)
  | [], _, _, _ => rfl
  | p :: cs, j, R, h => by
    rw [List.zipIdx_cons, List.foldl_cons, List.foldl_cons, step_filter P p R h]
    exact fold_filter P cs (j + 1) _ (step_len h)
/-- the choices cut down, place by place -/
def cutL (P : Nat → Nat → Bool) (cs : List (List Nat)) : List (List Nat) := cs.zipIdx.map fun q => q.1.filter (P q.2)
theorem among_cut (a b : Cat) (m k : List Nat) (P : Nat → Nat → Bool) (cs : List (List Nat)) : amongL a b m k (cutL P cs) = (amongL a b m k cs).filter (okP P) := by
  have := fold_filter (a := a) (b := b) (m := m) (k := k) P cs 0 [[]] (by simp)
  unfold amongL cutL
  rw [← this, List.foldl_map]
  rfl
theorem cut_between (a b : Cat) (m k : List Nat) (P : Nat → Nat → Bool) : cutL P (betweenL a b m k) = (List.range a.n).map fun x => (hom b (m.getD x 0) (k.getD x 0)).filter (P x) := by
  unfold cutL betweenL
  apply List.ext_getElem
  · simp
  · intro i h1 h2
    simp
theorem among_len {a b : Cat} {m k : List Nat} : ∀ (cs : List (List Nat)) (j : Nat) (R : List (List Nat)), (∀ w ∈ R, w.length = j) → ∀ w ∈ cs.foldl (stepL a b m k) R, w.length = j + cs.length
  | [], j, R, h, w, hw => h w hw
  | p :: cs, j, R, h, w, hw => by
    rw [List.foldl_cons] at hw
    have := among_len cs (j + 1) _ (step_len h) w hw
    rw [this, List.length_cons]
    omega
theorem changes_len {a b : Cat} (wa : Wf a) (wb : Wf b) {m k : List Nat} (hm : Things a b m) (hk : Things a b k) : ∀ w ∈ Fc01.changes a b m k, w.length = a.n := fun w hw => by
  rw [← changes_is wa wb hm hk] at hw
  have := among_len (betweenL a b m k) 0 [[]] (by simp) w hw
  unfold betweenL at this
  rw [this]
  simp
theorem okP_all (P : Nat → Bool) (w : List Nat) : okP (fun _ y => P y) w = w.all P := by
  unfold okP
  rw [Bool.eq_iff_iff, List.all_eq_true, List.all_eq_true]
  constructor
  · intro z y hy
    obtain ⟨i, hi, rfl⟩ := List.mem_iff_getElem.mp hy
    have := z i (List.mem_range.mpr hi)
    rw [List.getD_eq_getElem?_getD, List.getElem?_eq_getElem hi] at this
    exact this
  · intro z i hi
    have hi := List.mem_range.mp hi
    rw [List.getD_eq_getElem?_getD, List.getElem?_eq_getElem hi]
    exact z _ (List.getElem_mem hi)
theorem any_filter {α : Type} (p : α → Bool) (l : List α) : decide (0 < (l.filter p).length) = l.any p := by
  induction l with
  | nil => rfl
  | cons x r ih =>
    rw [List.filter_cons, List.any_cons]
    by_cases q : p x = true
    · rw [if_pos q, q]
      simp
    · have q' : p x = false := by simpa using q
      rw [if_neg q, q', Bool.false_or, ih]
theorem alike_is {a b : Cat} (wa : Wf a) (wb : Wf b) {m k : List Nat} (hm : Things a b m) (hk : Things a b k) :
    decide (0 < (amongL a b m k ((betweenL a b m k).map fun l => l.filter (Fc01.isTurn b))).length) = Fc01.isAlike a b m k := by
  have e : ((betweenL a b m k).map fun l => l.filter (Fc01.isTurn b)) = cutL (fun _ y => Fc01.isTurn b y) (betweenL a b m k) := by
    rw [cut_between]
    unfold betweenL
    rw [List.map_map]
    rfl
  rw [e, among_cut, changes_is wa wb hm hk, any_filter]
  unfold Fc01.isAlike
  congr 1
  funext w
  exact okP_all _ w
/-! ### partners -/
def partOk (a b : Cat) (m k : List Nat) (x arrow : Nat) : Bool := (List.range b.n).all fun y => (hom a x (k.getD y 0)).all fun u => ((hom b (m.getD x 0) y).filter fun g => after a arrow (k.getD g 0) == some u).length == 1
theorem filter_mapLen {α β : Type} (g : α → β) (p : β → Bool) (l : List α) : ((l.map g).filter p).length = (l.filter fun x => p (g x)).length := filter_map_len g p l
theorem pairs_okP {a b : Cat} {m k w : List Nat} (hw : w.length = a.n) : Fc01.pairs a b m k w = okP (partOk a b m k) w := by
  unfold Fc01.pairs okP Fc01.things partOk
  rw [hw]
  congr 1
  funext x
  congr 1
  funext y
  dsimp only
  congr 1
  funext u
  rw [filter_mapLen]
def partL (a b : Cat) (m k : List Nat) : List (List Nat) := (List.range a.n).map fun x => (hom a x (k.getD (m.getD x 0) 0)).filter (partOk a b m k x)
theorem find_head {α : Type} (p : α → Bool) : ∀ l : List α, l.find? p = (l.filter p).head?
  | [] => rfl
  | x :: l => by
    rw [List.find?_cons, List.filter_cons]
    cases q : p x with
    | true => rfl
    | false => exact find_head p l
theorem things_id {a : Cat} (wa : Wf a) : Things a a (Fc01.idMap a) := fun x hx => by
  unfold Fc01.idMap Fc01.all
  rw [List.getD_eq_getElem?_getD, List.getElem?_range (Nat.lt_of_lt_of_le hx wa.len)]
  exact hx
theorem getD_id {a : Cat} {x : Nat} (h : x < a.arrows.length) : (Fc01.idMap a).getD x 0 = x := by
  unfold Fc01.idMap Fc01.all
  rw [List.getD_eq_getElem?_getD, List.getElem?_range h]
  rfl
theorem getD_follow {m k : List Nat} {x : Nat} (h : x < m.length) : (Fc01.follow m k).getD x 0 = k.getD (m.getD x 0) 0 := by
  unfold Fc01.follow
  rw [List.getD_eq_getElem?_getD, List.getElem?_map, List.getD_eq_getElem?_getD (l := m), List.getElem?_eq_getElem h]
  rfl
theorem things_follow {a b : Cat} (wa : Wf a) {m k : List Nat} (hl : m.length = a.arrows.length) (hm : Things a b m) (hk : Things b a k) : Things a a (Fc01.follow m k) := fun x hx => by
  have := wa.len
  rw [getD_follow (by omega)]
  exact hk _ (hm x hx)
theorem partner_one {a b : Cat} (wa : Wf a) (wb : Wf b) {m k : List Nat} (hl : m.length = a.arrows.length) (hm : Things a b m) (hk : Things b a k) :
    (Fc01.changes a a (Fc01.idMap a) (Fc01.follow m k)).find? (Fc01.pairs a b m k) = (amongL a a (Fc01.idMap a) (Fc01.follow m k) (partL a b m k)).head? := by
  have h1 := things_id wa
  have h2 := things_follow wa hl hm hk
  have e : partL a b m k = cutL (partOk a b m k) (betweenL a a (Fc01.idMap a) (Fc01.follow m k)) := by
    rw [cut_between]
    unfold partL
    refine List.map_congr_left fun x hx => ?_
    have hx := List.mem_range.mp hx
    have := wa.len
    rw [getD_id (by omega), getD_follow (by omega)]
  rw [e, among_cut, changes_is wa wa h1 h2, find_head]
  congr 1
  exact List.filter_congr fun w hw => pairs_okP (changes_len wa wa h1 h2 w hw)
theorem among_nil {a b : Cat} {m k : List Nat} : ∀ (cs : List (List Nat)) (R : List (List Nat)), [] ∈ cs → cs.foldl (stepL a b m k) R = []
  | p :: cs, R, h => by
    rw [List.foldl_cons]
    rcases List.mem_cons.mp h with e | e
    · rw [← e]
      have : stepL a b m k R [] = [] := by
        unfold stepL longerL
        induction R with
        | nil => rfl
        | cons c r ih => rw [List.flatMap_cons, ih]; rfl
      rw [this]
      clear h e
      induction cs with
      | nil => rfl
      | cons q cs ih => rw [List.foldl_cons]; exact ih
    · exact among_nil cs _ e
end Arr
-- text A10
set_option Elab.async false
set_option linter.unusedVariables false
set_option maxRecDepth 100000
set_option maxHeartbeats 4000000
/-! # lists of new lists -/
namespace Arr
open PySem L2 Evl
def refs {α : Type} (bs : List (Addr × α)) : List V := bs.map fun b => V.ref b.1
theorem refs_len {α : Type} (bs : List (Addr × α)) : (refs bs).length = bs.length := List.length_map ..
theorem refs_app {α : Type} (bs cs : List (Addr × α)) : refs (bs ++ cs) = refs bs ++ refs cs := List.map_append ..
/-- new lists, told by their items, in a new list -/
def NewLL (H1 : Hp) (xss : List (List V)) (p : Addr) (bs : List (Addr × List V)) (H2 : Hp) : Prop := H1 p = none ∧ Ex H1 H2 ∧ bs.map (·.2) = xss ∧ H2 p = some (.lst (refs bs)) ∧ ∀ b ∈ bs, H1 b.1 = none ∧ b.1 ≠ p ∧ H2 b.1 = some (.lst b.2)
def EvLL (te : TE) (σ : L2.St) (H : Hp) (xss : List (List V)) : Prop := ∀ H1, Ex H H1 → ∀ Q : VK, (∀ p bs H2, NewLL H1 xss p bs H2 → Q (.ref p) H2) → te σ H1 Q
def RetLL (xss : List (List V)) (H : Hp) (Q : VK) : Prop := ∀ p bs H2, NewLL H xss p bs H2 → Q (.ref p) H2
def spLL (R : List V → Hp → List (List V) → Prop) : Sp := fun vs H Q _ => ∃ H0 xss, Ex H0 H ∧ R vs H0 xss ∧ RetLL xss H Q
def SpLL (sp : Sp) (vs : List V) (H : Hp) (xss : List (List V)) : Prop := ∀ H1, Ex H H1 → ∀ Q : VK, (∀ p bs H2, NewLL H1 xss p bs H2 → Q (.ref p) H2) → ∀ E : XK, sp vs H1 Q E
theorem spLL_go {R : List V → Hp → List (List V) → Prop} {vs : List V} {H : Hp} {xss : List (List V)} (h : R vs H xss) : SpLL (spLL R) vs H xss := fun _ e _ q _ => ⟨H, xss, e, h, q⟩
theorem NewLL.back {H H1 H2 : Hp} {xss : List (List V)} {p : Addr} {bs : List (Addr × List V)} (e : Ex H H1) (h : NewLL H1 xss p bs H2) : NewLL H xss p bs H2 := ⟨fresh_back e h.1, e.trans h.2.1, h.2.2.1, h.2.2.2.1, fun b hb => ⟨fresh_back e (h.2.2.2.2 b hb).1, (h.2.2.2.2 b hb).2⟩⟩
theorem NewLL.fwd {H H1 H2 : Hp} {xss : List (List V)} {p : Addr} {bs : List (Addr × List V)} (e : Ex H1 H2) (h : NewLL H xss p bs H1) : NewLL H xss p bs H2 := ⟨h.1, h.2.1.trans e, h.2.2.1, e _ _ h.2.2.2.1, fun b hb => ⟨(h.2.2.2.2 b hb).1, (h.2.2.2.2 b hb).2.1, e _ _ (h.2.2.2.2 b hb).2.2⟩⟩
section
variable {K : PySem.W.Frag} {σ : L2.St} {H H' : Hp} {ta tb te tl : TE} {t : TT} {x y z v : V} {D : Ends} {tu tw tz : TS} {xss : List (List V)}
theorem EvLL.mono (e : Ex H H') (h : EvLL te σ H xss) : EvLL te σ H' xss := fun H1 a Q q => h H1 (e.trans a) Q q
theorem ell_fn {sp : Sp} {vs : List V} {E : XK} {tr : TA} (ha : EvA tr σ H vs) (hs : SpLL sp vs H xss) : EvLL (tCall sp [] E tr) σ H xss := fun H1 e Q q =>
  ha H1 e _ fun H2 e2 => by
    show sp (vs ++ []) H2 Q E
    rw [List.append_nil]
    exact hs H2 (e.trans e2) Q (fun p bs H3 h => q p bs H3 (h.back e2)) E
theorem s_retLL (h : EvLL te σ H xss) (k : ∀ p bs H1, NewLL H xss p bs H1 → D.rt (.ref p) H1) : tRet te D σ H := h H (Ex.refl H) _ k
theorem q_asgLL {i : Nat} (h : EvLL te σ H xss) (k : ∀ p bs H1, NewLL H xss p bs H1 → tz D (σ.set i (some (.ref p))) H1) : tSeq (tAsg te (gName i)) tz D σ H := h H (Ex.refl H) _ k
theorem s_asgLL {i : Nat} (h : EvLL te σ H xss) (k : ∀ p bs H1, NewLL H xss p bs H1 → D.nx (σ.set i (some (.ref p))) H1) : tAsg te (gName i) D σ H := h H (Ex.refl H) _ k
theorem ev_lenLL (ha : EvLL ta σ H xss) : Ev (tCB (rLenS K) (tCons ta tNil)) σ H (.int (xss.length : Int)) := fun H1 e Q q =>
  ha H1 e _ fun p bs H2 h => ⟨p, refs bs, rfl, Or.inl (sq_of h.2.2.2.1), by rw [refs_len, ← List.length_map (f := fun b : Addr × List V => b.2), h.2.2.1]; exact q H2 h.2.1⟩
/-! ### comprehensions that give new lists -/
/-- at turn i: what the list has so far -/
structure Cl {α : Type} (H : Hp) (l : List α) (p : α → Bool) (fv : α → List V) (Dl : Addr) (i : Nat) (H' : Hp) : Prop where
  fr : H Dl = none
  ex : Ex H H'
  at_ : ∃ bs : List (Addr × List V), bs.map (·.2) = ((l.take i).filter p).map fv ∧ H' Dl = some (.lst (refs bs)) ∧ ∀ b ∈ bs, H b.1 = none ∧ b.1 ≠ Dl ∧ H' b.1 = some (.lst b.2)
theorem cl_turn {α : Type} {l : List α} {pr : α → Bool} {fv : α → List V} {Dl : Addr} {i : Nat} {a : α} {σ2 : L2.St} (c : Cl H l pr fv Dl i H') (hi : l[i]? = some a) (hz : l.length ≤ sizeLine) (ht : EvT t σ2 H (pr a)) (he : pr a = true → EvL te σ2 H (fv a)) :
    t σ2 H' fun b H3 => if b = true then te σ2 H3 fun y H4 => ∃ acc, H4 Dl = some (.lst acc) ∧ acc.length < sizeLine ∧ Cl H l pr fv Dl (i + 1) (upd H4 Dl (.lst (acc ++ [y]))) else Cl H l pr fv Dl (i + 1) H3 := by
  obtain ⟨bs, b1, b2, b3⟩ := c.at_
  have hlt := (List.getElem?_eq_some_iff.mp hi).1
  refine ht H' c.ex _ fun H3 e3 => ?_
  cases hp : pr a with
  | true =>
    show te σ2 H3 fun y H4 => ∃ acc, H4 Dl = some (.lst acc) ∧ acc.length < sizeLine ∧ Cl H l pr fv Dl (i + 1) (upd H4 Dl (.lst (acc ++ [y])))
    refine he hp H3 (c.ex.trans e3) _ fun q H4 hq e4 h4 => ⟨refs bs, e4 _ _ (e3 _ _ b2), ?_, c.fr, Ex.mut ((c.ex.trans e3).trans e4) c.fr, bs ++ [(q, fv a)], ?_, ?_, fun b hb => ?_⟩
    · rw [refs_len, ← List.length_map (f := fun b : Addr × List V => b.2), b1, List.length_map]
      have h1 := List.length_filter_le pr (l.take i)
      rw [List.length_take] at h1
      omega
    · rw [List.map_append, b1, take_succ' hi, List.filter_append, List.map_append, List.filter_cons, if_pos hp]
      rfl
    · rw [upd_same, refs_app]
      rfl
    · have nq : q ≠ Dl := fun z => by
        rw [z, e3 _ _ b2] at hq
        cases hq
      rcases List.mem_append.mp hb with hb | hb
      · obtain ⟨c1, c2, c3⟩ := b3 b hb
        exact ⟨c1, c2, by rw [upd_ne c2]; exact e4 _ _ (e3 _ _ c3)⟩
      · rw [List.mem_singleton.mp hb]
        exact ⟨fresh_back (c.ex.trans e3) hq, nq, by rw [upd_ne nq]; exact h4⟩
  | false =>
    show Cl H l pr fv Dl (i + 1) H3
    refine ⟨c.fr, c.ex.trans e3, bs, ?_, e3 _ _ b2, fun b hb => ⟨(b3 b hb).1, (b3 b hb).2.1, e3 _ _ (b3 b hb).2.2⟩⟩
    rw [b1, take_succ' hi, List.filter_append, List.map_append, List.filter_cons, if_neg (by rw [hp]; decide)]
    simp
theorem cl_done {α : Type} {H0 H1 : Hp} {l : List α} {pr : α → Bool} {fv : α → List V} {Dl : Addr} (e1 : Ex H0 H1) (c : Cl H1 l pr fv Dl l.length H') : ∃ bs, NewLL H0 ((l.filter pr).map fv) Dl bs H' := by
  obtain ⟨bs, b1, b2, b3⟩ := c.at_
  rw [List.take_length] at b1
  exact ⟨bs, fresh_back e1 c.fr, e1.trans c.ex, b1, b2, fun b hb => ⟨fresh_back e1 (b3 b hb).1, (b3 b hb).2⟩⟩
variable {α : Type} {j : Nat} {vs : List Nat} {en : α → V} {l : List α}
theorem cl_start {l : List α} {pr : α → Bool} {fv : α → List V} {Dl : Addr} (hD : H Dl = none) : Cl H l pr fv Dl 0 (upd H Dl (.lst [])) := ⟨hD, Ex.new hD, [], rfl, upd_same, by simp⟩
/-- [te for x in tl if t], tl a list that stands -/
theorem ell_compL {a : Addr} (p : α → Bool) (fv : α → List V) (h : Ev tl σ H (.ref a)) (hx : SqL K H a (l.map en)) (hz : l.length ≤ sizeLine) (hw : ∀ x, wipe ((wipe σ vs).set j (some x)) vs = wipe σ vs)
    (ht : ∀ x ∈ l, ∀ H1, Ex H H1 → EvT t ((wipe σ vs).set j (some (en x))) H1 (p x)) (he : ∀ x ∈ l, ∀ H1, Ex H H1 → p x = true → EvL te ((wipe σ vs).set j (some (en x))) H1 (fv x)) :
    EvLL (tLc (iList K tl) (gName j) t te vs) σ H ((l.filter p).map fv) := fun H0 e Q q => h H0 e _ fun H1 e1 => ⟨a, rfl, ⟨_, ex_l (e.trans e1) hx⟩, fun Dl hD =>
  lc_list (xs := l.map en) (fun i H' => Cl H1 l p fv Dl i H') (cl_start hD) (fun i H' _ c => ex_l ((e.trans e1).trans c.ex) hx) (fun i y H' hi c => by
      obtain ⟨x, hxi, rfl⟩ := map_at hi
      exact ⟨hw _, cl_turn c hxi hz (ht x (List.mem_of_getElem? hxi) H1 (e.trans e1)) fun hp => he x (List.mem_of_getElem? hxi) H1 (e.trans e1) hp⟩)
    (fun H' c => by
      rw [List.length_map] at c
      obtain ⟨bs, n⟩ := cl_done e1 c
      exact q Dl bs H' n)⟩
/-- tl a new list -/
theorem ell_compNL (p : α → Bool) (fv : α → List V) (h : EvL tl σ H (l.map en)) (hz : l.length ≤ sizeLine) (hw : ∀ x, wipe ((wipe σ vs).set j (some x)) vs = wipe σ vs)
    (ht : ∀ x ∈ l, ∀ H1, Ex H H1 → EvT t ((wipe σ vs).set j (some (en x))) H1 (p x)) (he : ∀ x ∈ l, ∀ H1, Ex H H1 → p x = true → EvL te ((wipe σ vs).set j (some (en x))) H1 (fv x)) :
    EvLL (tLc (iList K tl) (gName j) t te vs) σ H ((l.filter p).map fv) := fun H0 e Q q => h H0 e _ fun a H1 ha e1 hx => ⟨a, rfl, ⟨_, sq_of hx⟩, fun Dl hD =>
  lc_list (xs := l.map en) (fun i H' => Cl H1 l p fv Dl i H') (cl_start hD) (fun i H' _ c => sq_of (c.ex a _ hx)) (fun i y H' hi c => by
      obtain ⟨x, hxi, rfl⟩ := map_at hi
      exact ⟨hw _, cl_turn c hxi hz (ht x (List.mem_of_getElem? hxi) H1 (e.trans e1)) fun hp => he x (List.mem_of_getElem? hxi) H1 (e.trans e1) hp⟩)
    (fun H' c => by
      rw [List.length_map] at c
      obtain ⟨bs, n⟩ := cl_done e1 c
      exact q Dl bs H' n)⟩
theorem ell_mapNL (fv : α → List V) (h : EvL tl σ H (l.map en)) (hz : l.length ≤ sizeLine) (hw : ∀ x, wipe ((wipe σ vs).set j (some x)) vs = wipe σ vs)
    (he : ∀ x ∈ l, ∀ H1, Ex H H1 → EvL te ((wipe σ vs).set j (some (en x))) H1 (fv x)) : EvLL (tLc (iList K tl) (gName j) tYes te vs) σ H (l.map fv) := by
  have q := ell_compNL (K := K) (t := tYes) (fun _ => true) fv h hz hw (fun _ _ _ _ => et_yes) (fun x hx H1 e1 _ => he x hx H1 e1)
  rw [filter_yes] at q
  exact q
theorem ell_mapL {a : Addr} (fv : α → List V) (h : Ev tl σ H (.ref a)) (hx : SqL K H a (l.map en)) (hz : l.length ≤ sizeLine) (hw : ∀ x, wipe ((wipe σ vs).set j (some x)) vs = wipe σ vs)
    (he : ∀ x ∈ l, ∀ H1, Ex H H1 → EvL te ((wipe σ vs).set j (some (en x))) H1 (fv x)) : EvLL (tLc (iList K tl) (gName j) tYes te vs) σ H (l.map fv) := by
  have q := ell_compL (K := K) (t := tYes) (fun _ => true) fv h hx hz hw (fun _ _ _ _ => et_yes) (fun x hx H1 e1 _ => he x hx H1 e1)
  rw [filter_yes] at q
  exact q
/-- over range(n) -/
theorem ell_mapR {ta : TA} {n : Nat} (fv : Nat → List V) (h : EvA ta σ H [.int (n : Int)]) (hz : n ≤ 40000) (hw : ∀ x, wipe ((wipe σ vs).set j (some x)) vs = wipe σ vs)
    (he : ∀ i, i < n → ∀ H1, Ex H H1 → EvL te ((wipe σ vs).set j (some (.int (i : Int)))) H1 (fv i)) : EvLL (tLc (iRng1 ta) (gName j) tYes te vs) σ H ((List.range n).map fv) := fun H0 e Q q => h H0 e _ fun H1 e1 => ⟨n, rfl, by omega, by omega, fun Dl hD =>
  lc_range (lo := 0) (n := ((n : Int)).toNat) (fun i H' => Cl H1 (List.range n) (fun _ => true) fv Dl i H') (cl_start hD) (fun i H' hi c => by
    have e0 : (0 : Int) + (i : Int) = (i : Int) := Int.zero_add _
    show wipe ((wipe σ vs).set j (some (.int ((0 : Int) + (i : Int))))) vs = wipe σ vs ∧ tYes ((wipe σ vs).set j (some (.int ((0 : Int) + (i : Int))))) H' fun b H3 => if b = true then te ((wipe σ vs).set j (some (.int ((0 : Int) + (i : Int))))) H3 fun y H4 => ∃ acc, H4 Dl = some (.lst acc) ∧ acc.length < sizeLine ∧ Cl H1 (List.range n) (fun _ => true) fv Dl (i + 1) (upd H4 Dl (.lst (acc ++ [y]))) else Cl H1 (List.range n) (fun _ => true) fv Dl (i + 1) H3
    rw [e0]
    have hi : i < n := by omega
    exact ⟨hw _, cl_turn c (a := i) (by rw [List.getElem?_range hi]) (by rw [List.length_range]; exact Nat.le_trans hz (by decide)) et_yes fun _ => he i hi H1 (e.trans e1)⟩) (fun H' c => by
    have c : Cl H1 (List.range n) (fun _ => true) fv Dl (List.range n).length H' := by rw [List.length_range]; simpa using c
    obtain ⟨bs, nn⟩ := cl_done e1 c
    rw [filter_yes] at nn
    exact q Dl bs H' nn)⟩
/-! ### loops that gather: the list at q, its turns over a standing or a new list -/
/-- what is gathered: values -/
theorem q_appLine {lq : Addr} {xs : List V} {v : V} (hl : H lq = some (.lst xs)) (ha : Ev ta σ H (.ref lq)) (h : Ev te σ H v) (hz : xs.length < sizeLine) (k : ∀ H1, Ex H H1 → D.nx σ (upd H1 lq (.lst (xs ++ [v])))) :
    tDrop (tBM K "list" rAppend ta (tCons te tNil)) D σ H := ha H (Ex.refl H) _ fun H1 e1 =>
  ⟨Or.inl ⟨rfl, xs, sq_of (e1 lq _ hl)⟩, h H1 e1 _ fun H2 e2 => ⟨lq, xs, v, rfl, rfl, e2 lq _ (e1 lq _ hl), hz, k H2 (e1.trans e2)⟩⟩
/-- l.extend(new list of values) -/
theorem s_extL {lq : Addr} {xs ys : List V} (hl : H lq = some (.lst xs)) (ha : Ev ta σ H (.ref lq)) (h : EvL te σ H ys) (hz : xs.length + ys.length ≤ sizeLine) (k : ∀ H1, Ex H H1 → D.nx σ (upd H1 lq (.lst (xs ++ ys)))) :
    tDrop (tBM K "list" rExtend ta (tCons te tNil)) D σ H := ha H (Ex.refl H) _ fun H1 e1 =>
  ⟨Or.inl ⟨rfl, xs, sq_of (e1 lq _ hl)⟩, h H1 e1 _ fun p H2 hp e2 h2 => ⟨lq, p, xs, ys, rfl, rfl, e2 lq _ (e1 lq _ hl), h2, hz, k H2 (e1.trans e2)⟩⟩
/-- l.extend(list that stands) -/
theorem s_extA {lq b : Addr} {xs ys : List V} (hl : H lq = some (.lst xs)) (hb : H b = some (.lst ys)) (ha : Ev ta σ H (.ref lq)) (h : Ev te σ H (.ref b)) (hz : xs.length + ys.length ≤ sizeLine) (k : ∀ H1, Ex H H1 → D.nx σ (upd H1 lq (.lst (xs ++ ys)))) :
    tDrop (tBM K "list" rExtend ta (tCons te tNil)) D σ H := ha H (Ex.refl H) _ fun H1 e1 =>
  ⟨Or.inl ⟨rfl, xs, sq_of (e1 lq _ hl)⟩, h H1 e1 _ fun H2 e2 => ⟨lq, b, xs, ys, rfl, rfl, e2 lq _ (e1 lq _ hl), (e1.trans e2) b _ hb, hz, k H2 (e1.trans e2)⟩⟩
/-- l.extend(new list of new lists) -/
theorem s_extLL {lq : Addr} {xs : List V} (hl : H lq = some (.lst xs)) (ha : Ev ta σ H (.ref lq)) (h : EvLL te σ H xss) (hz : xs.length + xss.length ≤ sizeLine) (k : ∀ p bs H1, NewLL H xss p bs H1 → D.nx σ (upd H1 lq (.lst (xs ++ refs bs)))) :
    tDrop (tBM K "list" rExtend ta (tCons te tNil)) D σ H := ha H (Ex.refl H) _ fun H1 e1 =>
  ⟨Or.inl ⟨rfl, xs, sq_of (e1 lq _ hl)⟩, h H1 e1 _ fun p bs H2 n => ⟨lq, p, xs, refs bs, rfl, rfl, n.2.1 lq _ (e1 lq _ hl), n.2.2.2.1, by rw [refs_len, ← List.length_map (f := fun b : Addr × List V => b.2), n.2.2.1]; exact hz, k p bs H2 (n.back e1)⟩⟩
end
section
variable {K : PySem.W.Frag} {σ : L2.St} {H H' : Hp} {ta : TA} {te tl ti : TE} {t : TT} {D : Ends} {tu tz : TS} {j : Nat} {vs : List Nat}
theorem rgV_nat (n : Nat) : rgV 0 (n : Int) = natV (List.range n) := by
  unfold rgV natV
  rw [show ((n : Int) - 0).toNat = n by omega]
  refine List.map_congr_left fun i _ => ?_
  rw [Int.zero_add]
/-- list(range(n)) -/
theorem el_lrg {n : Nat} (h : Ev ti σ H (.int (n : Int))) (hn : n ≤ 100000) : EvL (tLstRg (tRg1 ti)) σ H (natV (List.range n)) := fun H1 e Q q =>
  h H1 e _ fun H2 e2 => ⟨n, rfl, ⟨by decide, by decide, by omega, by omega, by omega⟩, fun p hp => by
    rw [rgV_nat]
    exact q p _ (fresh_back e2 hp) (e2.trans (Ex.new hp)) upd_same⟩
/-- for i in range(lo, n) -/
theorem s_forRN {lo n : Nat} (h : EvA ta σ H [.int (lo : Int), .int (n : Int)]) (hl : lo ≤ n) (hn : n ≤ 100000) (Pv : Nat → L2.St → Hp → Prop) (h0 : ∀ H1, Ex H H1 → Pv 0 σ H1)
    (hs : ∀ (i : Nat) σ' H', lo + i < n → Pv i σ' H' → tu { D with nx := Pv (i + 1), ct := Pv (i + 1), bk := D.nx } (σ'.set j (some (.int ((lo + i : Nat) : Int)))) H') (hd : ∀ σ' H', Pv (n - lo) σ' H' → D.nx σ' H') : tFor (iRng2 ta) (gName j) tu D σ H := by
  refine s_forR2 h (by omega) Pv h0 (fun i σ' H' hi p => ?_) fun σ' H' p => hd σ' H' (by rw [show n - lo = ((n : Int) - (lo : Int)).toNat by omega]; exact p)
  have q := hs i σ' H' (by omega) p
  rw [Int.natCast_add] at q
  exact q
theorem q_forRN {lo n : Nat} (h : EvA ta σ H [.int (lo : Int), .int (n : Int)]) (hl : lo ≤ n) (hn : n ≤ 100000) (Pv : Nat → L2.St → Hp → Prop) (h0 : ∀ H1, Ex H H1 → Pv 0 σ H1)
    (hs : ∀ (i : Nat) σ' H', lo + i < n → Pv i σ' H' → tu { D with nx := Pv (i + 1), ct := Pv (i + 1), bk := tz D } (σ'.set j (some (.int ((lo + i : Nat) : Int)))) H') (hd : ∀ σ' H', Pv (n - lo) σ' H' → tz D σ' H') : tSeq (tFor (iRng2 ta) (gName j) tu) tz D σ H :=
  s_forRN (D := { D with nx := tz D }) h hl hn Pv h0 hs hd
/-- [te for x in range(lo, n) if t] -/
theorem el_compRN {lo n : Nat} (p : Nat → Bool) (fv : Nat → V) (h : EvA ta σ H [.int (lo : Int), .int (n : Int)]) (hl : lo ≤ n) (hn : n ≤ 40000) (hw : ∀ x, wipe ((wipe σ vs).set j (some x)) vs = wipe σ vs)
    (ht : ∀ i, lo ≤ i → i < n → ∀ H1, Ex H H1 → EvT t ((wipe σ vs).set j (some (.int (i : Int)))) H1 (p i)) (he : ∀ i, lo ≤ i → i < n → ∀ H1, Ex H H1 → p i = true → Ev te ((wipe σ vs).set j (some (.int (i : Int)))) H1 (fv i)) :
    EvL (tLc (iRng2 ta) (gName j) t te vs) σ H (((List.range' lo (n - lo)).filter p).map fv) := fun H0 e Q q => h H0 e _ fun H1 e1 => ⟨lo, n, rfl, ⟨by omega, by omega, by omega, by omega⟩, fun Dl hD => by
  have g : ∀ k, k ≤ n - lo → given k (fun i => p (lo + i)) (fun i => fv (lo + i)) = ((List.range' lo k).filter p).map fv := fun k _ => by
    unfold given
    rw [List.range'_eq_map_range, List.filter_map, List.map_map]
    rfl
  refine lc_range (lo := (lo : Int)) (n := ((n : Int) - (lo : Int)).toNat) (Cw H1 (fun i => p (lo + i)) (fun i => fv (lo + i)) Dl) ⟨hD, Ex.new hD, upd_same⟩ (fun i H' hi c => ⟨hw _, ?_⟩) (fun H' c => q Dl H' (fresh_back e1 c.1) (e1.trans c.2.1) ?_)
  · have ce : (lo : Int) + (i : Int) = ((lo + i : Nat) : Int) := by omega
    show t ((wipe σ vs).set j (some (.int ((lo : Int) + (i : Int))))) H' _
    rw [ce]
    exact cw_turn c (by omega) (ht (lo + i) (by omega) (by omega) H1 (e.trans e1)) fun hp => he (lo + i) (by omega) (by omega) H1 (e.trans e1) hp
  · have := c.2.2
    rw [show ((n : Int) - (lo : Int)).toNat = n - lo by omega, g _ (Nat.le_refl _)] at this
    exact this⟩
/-- [te for x in tl if t], tl a tuple that stands -/
theorem el_compT {α : Type} {en : α → V} {l : List α} {a : Addr} (p : α → Bool) (fv : α → V) (h : Ev tl σ H (.ref a)) (hx : SqT K H a (l.map en)) (hz : l.length ≤ 40000) (hw : ∀ x, wipe ((wipe σ vs).set j (some x)) vs = wipe σ vs)
    (ht : ∀ x ∈ l, ∀ H1, Ex H H1 → EvT t ((wipe σ vs).set j (some (en x))) H1 (p x)) (he : ∀ x ∈ l, ∀ H1, Ex H H1 → p x = true → Ev te ((wipe σ vs).set j (some (en x))) H1 (fv x)) :
    EvL (tLc (iTup K tl) (gName j) t te vs) σ H ((l.filter p).map fv) := by
  rw [← given_all]
  intro H0 e Q q
  refine h H0 e _ fun H1 e1 => ⟨a, rfl, ⟨_, ex_t (e.trans e1) hx⟩, fun Dl hD => ?_⟩
  refine lc_tup (xs := l.map en) (Cw H1 (atF l p) (atV l fv) Dl) ⟨hD, Ex.new hD, upd_same⟩ (fun i H' _ c => ex_t ((e.trans e1).trans c.2.1) hx) (fun i y H' hi c => ⟨hw y, ?_⟩) (fun H' c => q Dl H' (fresh_back e1 c.1) (e1.trans c.2.1) (by have := c.2.2; rw [List.length_map] at this; exact this))
  have il := (List.getElem?_eq_some_iff.mp hi).1
  obtain ⟨x, hx2, rfl⟩ := map_at hi
  rw [List.length_map] at il
  refine cw_turn c (by omega) ?_ fun hp => ?_
  · unfold atF
    rw [hx2]
    exact ht x (List.mem_of_getElem? hx2) H1 (e.trans e1)
  · unfold atF at hp
    rw [hx2] at hp
    unfold atV
    rw [hx2]
    exact he x (List.mem_of_getElem? hx2) H1 (e.trans e1) hp
theorem inV_nat (f : Nat) (l : List Nat) : inV (.int (f : Int)) (natV l) = l.contains f := by
  induction l with
  | nil => rfl
  | cons n r ih =>
    show (eqV (.int (n : Int)) (.int (f : Int)) || inV (.int (f : Int)) (natV r)) = _
    rw [ih, List.contains_cons]
    congr 1
    show decide ((n : Int) = (f : Int)) = (f == n)
    rw [Bool.eq_iff_iff, decide_eq_true_eq, beq_iff_eq]
    omega
theorem flat_nat (l : List Nat) : (natV l).all flatV = true := by
  unfold natV
  rw [List.all_map, List.all_eq_true]
  intro x _
  rfl
end
end Arr
-- text B10
set_option Elab.async false
set_option linter.unusedVariables false
set_option maxRecDepth 100000
set_option maxHeartbeats 4000000
/-! # mappings: threes, which arrows are settled -/
namespace Arr
open PySem PySem.Spec PyProof.Rows L2 Evl LamX NdefX
open Fc01 (from_ to_ after hom turned)
def tV (t : T3) : List V := [.int (t.1 : Int), .int (t.2.1 : Int), .int (t.2.2 : Int)]
/-- a list of threes that stands -/
def ThreesAt (H : Hp) (p : Addr) (bs : List (Addr × T3)) : Prop := H p = some (.lst (refs bs)) ∧ ∀ b ∈ bs, H b.1 = some (.tup (tV b.2))
theorem ThreesAt.mono {H H' : Hp} {p : Addr} {bs : List (Addr × T3)} (e : Ex H H') (h : ThreesAt H p bs) : ThreesAt H' p bs := ⟨e _ _ h.1, fun b hb => e _ _ (h.2 b hb)⟩
theorem ThreesAt.strip {H : Hp} {p : Addr} {bs : List (Addr × T3)} (h : ThreesAt H p bs) : ThreesAt (strip H) p bs := ⟨strip_of h.1 (fun _ z => by cases z), fun b hb => strip_of (h.2 b hb) (fun _ z => by cases z)⟩
/-- threes gathered in a new list -/
structure Gt (H : Hp) (pl : Addr) (ts : List T3) (H' : Hp) : Prop where
  fr : H pl = none
  ex : Ex H H'
  at_ : ∃ bs : List (Addr × T3), bs.map (·.2) = ts ∧ H' pl = some (.lst (refs bs)) ∧ ∀ b ∈ bs, H b.1 = none ∧ b.1 ≠ pl ∧ H' b.1 = some (.tup (tV b.2))
theorem Gt.ext {H : Hp} {pl : Addr} {ts : List T3} {H1 H2 : Hp} (g : Gt H pl ts H1) (e : Ex H1 H2) : Gt H pl ts H2 := by
  obtain ⟨bs, b1, b2, b3⟩ := g.at_
  exact ⟨g.fr, g.ex.trans e, bs, b1, e _ _ b2, fun b hb => ⟨(b3 b hb).1, (b3 b hb).2.1, e _ _ (b3 b hb).2.2⟩⟩
def spThrees (C : Addr) : Sp := fun vs H Q _ => ∃ (H0 : Hp) (a : Addr) (c : Cat), Ex H0 H ∧ vs = [.ref a] ∧ CatAt C H0 a c ∧ NoP c ∧ ∀ p H2, Gt H p (threes c) H2 → Q (.ref p) H2
def R_tied : List V → Hp → List V → Prop := fun vs H xs => ∃ (p q : Addr) (bs : List (Addr × T3)) (D : List Nat) (L : Nat), vs = [.ref p, .ref q] ∧ ThreesAt H p bs ∧ H q = some (.lst (natV D)) ∧ bs.length ≤ 81 ∧ (∀ b ∈ bs, ∀ f, inT f b.2 = true → f < L) ∧ xs = natV (tiedL L (bs.map (·.2)) D)
def spMost (A : Ads) : Sp := fun vs H Q _ => ∃ (l : Addr) (ns : List Nat), vs = [.ref l] ∧ H l = some (.lst (natV ns)) ∧ 0 < ns.length ∧ Tabs (tabs A) H ∧ ∀ m ∈ ns, ∀ H2, Ex (strip H) H2 → (∀ b, H2 b = none → H b = none) → Tabs (tabs A) H2 → Q (.int (m : Int)) H2
def spSett (A : Ads) : Sp := fun vs H Q _ => ∃ (H0 : Hp) (a p : Addr) (c : Cat) (bs : List (Addr × T3)), Ex H0 H ∧ vs = [.ref a, .ref p] ∧ CatAt A.C H0 a c ∧ NoP c ∧ ThreesAt H0 p bs ∧ bs.map (·.2) = threes c ∧ Tabs (tabs A) H ∧
  ∀ q D H2, H q = none → Ex (strip H) H2 → (∀ b, H2 b = none → H b = none) → Tabs (tabs A) H2 → H2 q = some (.lst (natV D)) → Sett c D → Closed c (threes c) D → Q (.ref q) H2
def spCnt : List (Option V) → Sp := fun ws vs H Q _ => ∃ (l : Addr) (ns : List Int) (n : Int), ws = [some (.ref l)] ∧ vs = [.int n] ∧ H l = some (.lst (ns.map V.int)) ∧ RetV (.int (ns.count n : Nat)) H Q
theorem threes_len {c : Cat} (wf : Wf c) : (threes c).length ≤ 81 := by
  have l9 := wf.l9
  unfold threes
  have h1 : ∀ f ∈ List.range' c.n (c.arrows.length - c.n), (((List.range' c.n (c.arrows.length - c.n)).filter fun g => to_ c f == from_ c g).map fun g => (f, g, (after c f g).getD 0)).length ≤ 9 := fun f _ => by
    rw [List.length_map]
    have := List.length_filter_le (fun g => to_ c f == from_ c g) (List.range' c.n (c.arrows.length - c.n))
    rw [List.length_range'] at this
    omega
  have := flat_len h1
  rw [List.length_range'] at this
  omega
theorem natV_int (l : List Nat) : (l.map fun (n : Nat) => (n : Int)).map V.int = natV l := by
  unfold natV
  rw [List.map_map]
  rfl
section
variable {P : Program} {w : World} {K : PySem.W.Frag} {mg : Str → Option Value} {base : Heap} {A : Ads} {σ : L2.St} {H : Hp} {ta tb td te tf tg : TE} {a : Addr} {c : Cat} {E : XK}
theorem ok_made_threes (T : Txt K mg A) : FnOk P w K mg base CX0 3 A.f_made_threes A.d_made_threes ["source"] (spThrees A.C) := by
  refine T.F_made_threes.ok sc_made_threes (fun vs H Q E h => ?_) (fun cdv B outer s H vs Q E hr h => ⟨_, (pss_cons (ps_set (i := 1) sc_made_threes.nd rfl (Or.inl rfl) (pe_lst pa_nil))
    (pss_cons (ps_for PassesOwn.never rfl (pi_range2 rfl T.b_range (pa_cons (fldK (K := K) rfl (pv 0) rfl) (pa_cons (pe_meth0 (pv 0) T.cl T.m_arrow_count (ok_arrow_count T) (hr.mono (by decide)) T.bd_arrow_count .nil pass0) pa_nil))) (pg_name (i := 2) sc_made_threes.nd rfl (Or.inl rfl))
    (pss_one (ps_for PassesOwn.never rfl (pi_range2 rfl T.b_range (pa_cons (fldK (K := K) rfl (pv 0) rfl) (pa_cons (pe_meth0 (pv 0) T.cl T.m_arrow_count (ok_arrow_count T) (hr.mono (by decide)) T.bd_arrow_count .nil pass0) pa_nil))) (pg_name (i := 3) sc_made_threes.nd rfl (Or.inl rfl))
    (pss_one (ps_if (pt_val (pe_meth (pv 0) T.cl T.m_meet (ok_meet T) (hr.mono (by decide)) T.bd_meet .nil pass0 (pa_cons (pv 2) (pa_cons (pv 3) pa_nil)))) (pss_one (ps_expr (pe_bm PySem.F.plainAttrs_list PySem.F.slot_list_append PySem.F.type_list_append mt_append (pv 1) (pa_cons (pe_tup (pa_cons (pv 2) (pa_cons (pv 3) (pa_cons (pe_meth (pv 0) T.cl T.m_made (ok_made T) (hr.mono (by decide)) T.bd_made .nil pass0 (pa_cons (pv 2) (pa_cons (pv 3) pa_nil))) pa_nil)))) pa_nil)))) pss_nil)))))
    (pss_one (ps_ret (pv 1))))), ?_⟩)
  · obtain ⟨_, _, _, _, rfl, _⟩ := h
    rfl
  · obtain ⟨H0, a, c, e, rfl, hc, np, k⟩ := h
    have hc := hc.mono e
    have l9 := hc.wf.l9
    have ln := hc.wf.len
    refine q_asgL (el_lst ea_nil (by show 0 ≤ 100000; decide)) fun pl H1 hpl e1 h1 => ?_
    have start : Gt H pl [] H1 := ⟨hpl, e1, [], rfl, h1, by simp⟩
    refine q_forRN (ea_cons (ev_thing T (hc.mono e1) (ev_var rfl)) (ea_cons (ev_arrow_count (hc.mono e1) (ev_var rfl)) ea_nil)) ln (by omega)
      (fun i σ' H' => ∃ v2 v3, σ' = [some (.ref a), some (.ref pl), v2, v3] ∧ Gt H pl ((List.range' c.n i).flatMap fun f => ((List.range' c.n (c.arrows.length - c.n)).filter fun g => to_ c f == from_ c g).map fun g => (f, g, (after c f g).getD 0)) H')
      (fun H2 e2 => ⟨_, _, rfl, start.ext e2⟩) ?_ ?_
    · rintro i σ' H2 hi ⟨v2, v3, rfl, g2⟩
      have hc2 := hc.mono g2.ex
      refine s_forRN (ea_cons (ev_thing T hc2 (ev_var rfl)) (ea_cons (ev_arrow_count hc2 (ev_var rfl)) ea_nil)) ln (by omega)
        (fun j σ' H' => ∃ v3, σ' = [some (.ref a), some (.ref pl), some (.int ((c.n + i : Nat) : Int)), v3] ∧ Gt H pl (((List.range' c.n i).flatMap fun f => ((List.range' c.n (c.arrows.length - c.n)).filter fun g => to_ c f == from_ c g).map fun g => (f, g, (after c f g).getD 0)) ++ ((List.range' c.n j).filter fun g => to_ c (c.n + i) == from_ c g).map fun g => (c.n + i, g, (after c (c.n + i) g).getD 0)) H')
        (fun H3 e3 => ⟨_, rfl, by rw [show List.range' c.n 0 = [] from rfl]; simp only [List.filter_nil, List.map_nil, List.append_nil]; exact g2.ext e3⟩) ?_ ?_
      · rintro j σ' H3 hj ⟨v3, rfl, g3⟩
        have hc3 := hc.mono g3.ex
        rw [List.range'_1_concat, List.filter_append, List.map_append, ← List.append_assoc]
        refine s_when (et_B (ev_meet hc3 (ev_var rfl) (ev_var rfl) (ev_var rfl) (by omega) (by omega))) (fun b H4 e4 => ?_) (fun b H4 e4 => ?_)
        · have g4 := g3.ext e4
          have hc4 := hc.mono g4.ex
          obtain ⟨h, eh, lh, _⟩ := np (c.n + i) (c.n + j) (by omega) (by omega) (beq_iff_eq.mp b)
          obtain ⟨bs, b1, b2, b3⟩ := g4.at_
          have bl : bs.length < 100000 := by
            have l1 := congrArg List.length b1
            rw [List.length_map, List.length_append] at l1
            have f1 := flat_len (l := List.range' c.n i) (B := 9) (g := fun f => ((List.range' c.n (c.arrows.length - c.n)).filter fun g => to_ c f == from_ c g).map fun g => (f, g, (after c f g).getD 0)) fun f _ => by
              rw [List.length_map]
              have := List.length_filter_le (fun g => to_ c f == from_ c g) (List.range' c.n (c.arrows.length - c.n))
              rw [List.length_range'] at this
              omega
            have f2 := List.length_filter_le (fun g => to_ c (c.n + i) == from_ c g) (List.range' c.n j)
            rw [List.length_range'] at f1 f2
            rw [List.length_map] at l1
            omega
          refine s_appU (K := K) b2 (ev_var rfl) (eu_tup (ea_cons (ev_var rfl) (ea_cons (ev_var rfl) (ea_cons (ev_is (ev_made hc4 (ev_var rfl) (ev_var rfl) (ev_var rfl) (beq_iff_eq.mp b)) (congrArg optV eh)) ea_nil))) (by show 3 ≤ 100000; decide)) (by rw [refs_len]; exact bl) fun q H5 hq e5 h5 => ⟨_, rfl, ?_⟩
          have nq : q ≠ pl := fun z => by
            rw [z, b2] at hq
            cases hq
          refine ⟨g4.fr, Ex.mut (g4.ex.trans e5) g4.fr, bs ++ [(q, (c.n + i, c.n + j, h))], ?_, by rw [upd_same, refs_app]; rfl, fun x hx => ?_⟩
          · rw [List.map_append, b1, List.filter_cons, if_pos b]
            simp [eh]
          · rcases List.mem_append.mp hx with hx | hx
            · obtain ⟨c1, c2, c3⟩ := b3 x hx
              exact ⟨c1, c2, by rw [upd_ne c2]; exact e5 _ _ c3⟩
            · rw [List.mem_singleton.mp hx]
              exact ⟨fresh_back g4.ex hq, nq, by rw [upd_ne nq]; exact h5⟩
        · refine ⟨_, rfl, ?_⟩
          rw [List.filter_cons, if_neg (by rw [b]; decide)]
          simp only [List.filter_nil, List.map_nil, List.append_nil]
          exact g3.ext e4
      · rintro σ' H3 ⟨v3, rfl, g3⟩
        refine ⟨_, _, rfl, ?_⟩
        rw [List.range'_1_concat, List.flatMap_append]
        simpa using g3
    · rintro σ' H2 ⟨v2, v3, rfl, g2⟩
      exact s_ret (ev_var rfl) fun H3 e3 => k pl H3 (g2.ext e3)
theorem ok_tied_arrows (T : Txt K mg A) : FnOk P w K mg base CX0 1 A.f_tied_arrows A.d_tied_arrows ["threes", "settled"] (spL R_tied) := by
  refine T.F_tied_arrows.ok sc_tied_arrows (fun vs H Q E h => ?_) (fun cdv B outer s H vs Q E hr h => ⟨_, (pss_cons (ps_set (i := 2) sc_tied_arrows.nd rfl (Or.inl rfl) (pe_lst pa_nil))
    (pss_cons (ps_for PassesOwn.never rfl (piListK (K := K) rfl (pv 0)) (pg_name (i := 3) sc_tied_arrows.nd rfl (Or.inl rfl))
    (pss_cons (ps_set (i := 4) sc_tied_arrows.nd rfl (Or.inl rfl) (pe_callB (cr_sortedSet rfl) (by rfl) T.b_sorted (by decide +kernel) (pa_cons (pe_callTy (cr_setL (K := K) rfl rfl) (by rfl) T.b_set (by decide +kernel) (pa_cons (pe_lc (own := [("f", 5)]) (g := gName 5)  rfl sc_tied_arrows.nd (piTupK (K := K) rfl (pv 3)) (blkOk_by (own := [("f", 5)]) (N := ["threes", "settled", "tied", "three", "loose", "f"]) (sc := defScope s_tied_arrows) (by decide +kernel)) (fun _ _ _ _ _ => pg_name (i := 5) sc_tied_arrows.nd rfl (Or.inl rfl)) (fun _ _ _ _ _ => (pts_one (pt_cmpR (notInK (K := K) rfl) (pv 5) (pv 1) rfl))) (fun _ _ _ _ _ => (pv 5))) pa_nil)) pa_nil)))
    (pss_one (ps_if (pt_cmpR op_gt (pe_callB (lenK (K := K) rfl) (by rfl) T.b_len PySem.boot_len (pa_cons (pv 4) pa_nil)) pe_int (nomark _)) (pss_one (ps_expr (pe_bm PySem.F.plainAttrs_list PySem.F.slot_list_extend PySem.F.type_list_extend mt_extend (pv 2) (pa_cons (pv 4) pa_nil)))) pss_nil))))
    (pss_one (ps_ret (pv 2))))), ?_⟩)
  · obtain ⟨_, _, _, ⟨_, _, _, _, _, rfl, _⟩, _⟩ := h
    rfl
  · obtain ⟨H0, xs, e, ⟨p, q, bs, D, L, rfl, hT, hq, hl, hL, rfl⟩, k⟩ := h
    have hT := hT.mono e
    have hq := e _ _ hq
    refine q_asgL (el_lst ea_nil (by show 0 ≤ 100000; decide)) fun pt H1 hpt e1 h1 => ?_
    refine q_forLn (ev_var rfl) (sq_of (e1 _ _ hT.1)) (fun i σ' H' => ∃ v3 v4, σ' = [some (.ref p), some (.ref q), some (.ref pt), v3, v4, none] ∧ Ex H H' ∧ H' pt = some (.lst (natV (tiedL L ((bs.take i).map (·.2)) D))))
      (fun H2 e2 => ⟨_, _, rfl, e1.trans e2, e2 _ _ h1⟩) (fun i σ' H' _ ⟨_, _, _, e2, _⟩ => sq_of (e2 _ _ hT.1)) ?_ ?_
    · rintro i x σ' H2 hi ⟨v3, v4, rfl, e2, h2⟩
      obtain ⟨b, hb, rfl⟩ := map_at (e := fun b : Addr × T3 => V.ref b.1) hi
      have hbm := List.mem_of_getElem? hb
      have li := (List.getElem?_eq_some_iff.mp hb).1
      have ht := e2 _ _ (hT.2 b hbm)
      have comp := el_compT (K := K) (σ := [some (.ref p), some (.ref q), some (.ref pt), some (.ref b.1), v4, none]) (H := H2) (te := tVar 5) (j := 5) (vs := [5]) (en := natE) (l := [b.2.1, b.2.2.1, b.2.2.2]) (fun f => !D.contains f) natE (ev_var (i := 3) rfl) (st_of ht) (by show 3 ≤ 40000; decide) (fun _ => rfl)
        (fun f hf H3 e3 => et_test (ev_is (ev_op (ev_var (i := 5) rfl) (ev_var (i := 1) rfl) (rv_niL (K := K) (sq_of (e3 _ _ (e2 _ _ hq))) rfl (flat_nat D))) (by show V.bl (!inV (.int (f : Int)) (natV D)) = _; rw [inV_nat]))) (fun f hf H3 e3 _ => ev_var rfl)
      have sorted := el_sortset (K := K) (w := w) (ns := (([b.2.1, b.2.2.1, b.2.2.2].filter fun f => !D.contains f).map fun (n : Nat) => (n : Int))) (ms := (loose L D b.2).map fun (n : Nat) => (n : Int)) (by rw [natV_int]; exact comp)
        (by rw [List.length_map]; have := List.length_filter_le (fun f => !D.contains f) [b.2.1, b.2.2.1, b.2.2.2]; have h3 : ([b.2.1, b.2.2.1, b.2.2.2] : List Nat).length = 3 := rfl; unfold scanBound; omega)
        (by rw [List.length_map]; have := List.length_filter_le (fun f => !D.contains f) [b.2.1, b.2.2.1, b.2.2.2]; have h3 : ([b.2.1, b.2.2.1, b.2.2.2] : List Nat).length = 3 := rfl; omega)
        (List.pairwise_map.mpr ((loose_lt L D b.2).imp fun {x y} h => by omega)) (fun z => by
          rw [List.mem_map, List.mem_map]
          constructor
          · rintro ⟨f, hf, rfl⟩
            obtain ⟨_, f2, f3⟩ := mem_loose.mp hf
            refine ⟨f, List.mem_filter.mpr ⟨?_, by simpa using f3⟩, rfl⟩
            unfold inT at f2
            simp only [Bool.or_eq_true, beq_iff_eq] at f2
            simpa using f2
          · rintro ⟨f, hf, rfl⟩
            obtain ⟨f1, f2⟩ := List.mem_filter.mp hf
            have f1 : inT f b.2 = true := by
              unfold inT
              simp only [Bool.or_eq_true, beq_iff_eq]
              simpa using f1
            exact ⟨f, mem_loose.mpr ⟨hL b hbm f f1, f1, by simpa using f2⟩, rfl⟩)
      rw [natV_int] at sorted
      refine q_asgL sorted fun pn H3 hpn e3 h3 => ?_
      have tk : tiedL L ((bs.take (i + 1)).map (·.2)) D = tiedL L ((bs.take i).map (·.2)) D ++ (if 1 < (loose L D b.2).length then loose L D b.2 else []) := by
        rw [take_succ' hb, List.map_append]
        unfold tiedL
        rw [List.flatMap_append]
        simp
      have gt : Ev (tOp (rI0 fun i j => .bl (decide (i > j))) (tCB (rLenS K) (tCons (tVar 4) tNil)) (tC (.int 1))) [some (.ref p), some (.ref q), some (.ref pt), some (.ref b.1), some (.ref pn), none] H3 (.bl (decide (1 < (loose L D b.2).length))) := by
        have g1 := ev_op (H := H3) (σ := [some (.ref p), some (.ref q), some (.ref pt), some (.ref b.1), some (.ref pn), none]) (ev_len (K := K) (ev_var (i := 4) rfl) (sq_of h3)) (ev_c (v := .int 1)) (rv_I0 (g := fun i j => .bl (decide (i > j))))
        refine ev_is g1 ?_
        congr 1
        unfold natV
        rw [List.length_map, Bool.eq_iff_iff, decide_eq_true_eq, decide_eq_true_eq]
        omega
      have npt : pn ≠ pt := fun z => by
        rw [z, h2] at hpn
        cases hpn
      refine s_when (et_test gt) (fun b2 H4 e4 => ?_) (fun b2 H4 e4 => ?_)
      · have b2 : 1 < (loose L D b.2).length := by simpa using b2
        have lenT : (natV (tiedL L ((bs.take i).map (·.2)) D)).length + (natV (loose L D b.2)).length ≤ sizeLine := by
          unfold natV
          rw [List.length_map, List.length_map]
          have l3 : ∀ t : T3, (loose L D t).length ≤ 3 := fun t => by
            have := sub_len (l := loose L D t) (l' := [t.1, t.2.1, t.2.2]) ((loose_lt L D t).imp fun {x y} h => by omega) fun f hf => by
              have := (mem_loose.mp hf).2.1
              unfold inT at this
              simp only [Bool.or_eq_true, beq_iff_eq] at this
              simpa using this
            exact this
          have l4 := flat_len (l := (bs.take i).map (·.2)) (B := 3) (g := fun t => if 1 < (loose L D t).length then loose L D t else []) fun t _ => by
            split
            · exact l3 t
            · simp
          rw [List.length_map, List.length_take] at l4
          have := l3 b.2
          have sl : sizeLine = 16777216 := rfl
          unfold tiedL
          omega
        refine s_extA (K := K) (e4 _ _ (e3 _ _ h2)) (e4 _ _ h3) (ev_var rfl) (ev_var rfl) lenT fun H5 e5 => ⟨_, _, rfl, Ex.mut (((e2.trans e3).trans e4).trans e5) hpt, ?_⟩
        rw [upd_same, tk, if_pos b2]
        unfold natV
        rw [List.map_append]
      · have b2 : ¬ 1 < (loose L D b.2).length := by simpa using b2
        refine ⟨_, _, rfl, (e2.trans e3).trans e4, ?_⟩
        rw [tk, if_neg b2, List.append_nil]
        exact e4 _ _ (e3 _ _ h2)
    · rintro σ' H2 ⟨v3, v4, rfl, e2, h2⟩
      rw [refs_len, List.take_length] at h2
      exact s_ret (ev_var rfl) fun H3 e3 => k pt H3 hpt (e2.trans e3) (e3 _ _ h2)
end
end Arr
-- text B11
set_option Elab.async false
set_option linter.unusedVariables false
set_option maxRecDepth 100000
set_option maxHeartbeats 4000000
/-! # mappings: what is settled first -/
namespace Arr
open PySem PySem.Spec PyProof.Rows L2 Evl LamX NdefX
open Fc01 (from_ to_ after hom turned)
def lamMost : Scope := { kind := .function, names := [("f", .local), ("tied", .free)], isGenerator := false, isCoroutine := false }
section
variable {P : Program} {w : World} {K : PySem.W.Frag} {mg : Str → Option Value} {base : Heap} {A : Ads} {σ : L2.St} {H : Hp} {ta tb td te tf tg : TE} {a : Addr} {c : Cat} {E : XK}
theorem cnt_body {F : LF} {f : Addr} (hsc : F.scope = lamMost) (hb : ∀ (pm ctv : Value) (us : List Value), us.length = 1 → bindArgs (F.fd pm ctv) ⟨us, []⟩ = pure ((["f"] : List Str).zip us))
    (hbody : ∀ X : Cx, X.N = (["f", "tied"] : List Str) → X.env.scope = lamMost → X.K = K → PE X F.body (tBM K "list" (rCntI K) (tVar 1) (tCons (tVar 0) tNil))) : LOk P w K mg base 1 f F ["tied"] spCnt := by
  refine lok_of (N := ["f", "tied"]) (ps := ["f"]) (by rw [hsc]; exact nscope_by (by decide +kernel)) hb (fun ws vs H Q h => ?_) (fun Ar outer s H vs ws Q hr hw h => ⟨_, hbody _ rfl hsc rfl, ?_⟩)
  · obtain ⟨_, _, _, _, rfl, _⟩ := h
    rfl
  · obtain ⟨l, ns, n, rfl, rfl, hl, q⟩ := h
    exact ⟨_, rfl, Or.inl ⟨rfl, _, sq_of hl⟩, _, rfl, l, ns, n, rfl, rfl, sq_of hl, q H (Ex.refl H)⟩
theorem ok_most_tied (T : Txt K mg A) (B : Tbs base mg A) : FnOk P w K mg base CX0 3 A.f_most_tied A.d_most_tied ["tied"] (spMost A) := by
  refine okC T.F_most_tied sc_most_tied (fun vs H Q E h => ?_) (fun Ar outer s H vs Q E hr h => ⟨_, (pss_one (ps_ret (pe_maxK (P := P) (w := w) (K := K) (mg := mg) (base := base) (k := 1) (cl := cloFrom _ (lamMost).names []) (fr := ["tied"]) (js := [0]) rfl rfl rfl rfl rfl rfl (hr.mono (by decide)) (fun ok => Caps.made ok (ndef_free (fr := ["tied"]) (sc := defScope s_most_tied) (nsc := lamMost) (by decide +kernel)) (ndef_fr (sc := defScope s_most_tied) (by decide +kernel)) rfl) rfl T.b_max (pa_cons (pv 0) pa_nil) (pk_cons (pe_lamN (T := tabs A) B.most_tied T.k_most_tied (show (("most_tied" : Str) ++ ".<locals>.") ++ "<lambda>" = "most_tied.<locals>.<lambda>" from by decide +kernel) (List.mem_cons_of_mem _ (List.mem_cons_of_mem _ (List.mem_cons_self ..))) (tab_most B) rfl (ndef_free (fr := []) (sc := defScope s_most_tied) (by decide +kernel))) pk_nil)))), ?_⟩)
  · obtain ⟨_, _, rfl, _⟩ := h
    rfl
  · obtain ⟨l, ns, rfl, hl, hne, hT, k⟩ := h
    refine ⟨_, rfl, hT, fun f c' H1 e1 nn t1 f0 hf hc1 => ?_⟩
    have e1 := exN_of e1
    have hl1 := e1 _ _ (strip_of hl (fun _ z => by cases z))
    refine ⟨l, ns.map fun (n : Nat) => (n : Int), ⟨f, _, ["tied"], _, _, c', _⟩, spCnt [some (.ref l)], rfl, rfl, rfl, rfl, rfl, ⟨hf, hc1⟩, clo_lam (fr := ["tied"]) (ws := [some (.ref l)]) (sp := spCnt) (k := 1) (F := ⟨_, _, _, _, _, c'⟩) (cnt_body (K := K) rfl (fun pm ctv us hl => match us, hl with | [_], _ => rfl) fun X hN hsc hK => ?_), by rw [natV_int]; exact sq_of hl1, by rw [List.length_map]; exact hne, fun n hn => ⟨_, fun H2 e2 Q q _ => ⟨l, ns.map fun (n : Nat) => (n : Int), n, rfl, rfl, by rw [natV_int]; exact e2 _ _ hl1, q⟩⟩, fun m hm H2 e2 => ?_⟩
    · subst hK
      exact pe_bm PySem.F.plainAttrs_list PySem.F.slot_list_count PySem.F.type_list_count (cntK rfl) (pe_var (i := 1) (by rw [hN]; rfl) (by rw [hsc]; exact Or.inr (Or.inr rfl))) (pa_cons (pe_var (i := 0) (by rw [hN]; rfl) (by rw [hsc]; exact Or.inl rfl)) pa_nil)
    · obtain ⟨m', hm', rfl⟩ := List.mem_map.mp hm
      exact k m' hm' H2 (e1.trans e2) (fun b hb => nn b (fresh_back e2 hb)) (t1.ext e2)
/-- l.append(most_tied(x)) -/
theorem q_appMost {ls pd : Addr} {ns : List Nat} {xs : List V} {i j : Nat} {D : Ends} {tz : TS} (hs : σ[i]? = some (some (.ref ls))) (ht : σ[j]? = some (some (.ref pd))) (h1 : H ls = some (.lst xs)) (h2 : H pd = some (.lst (natV ns))) (hne : 0 < ns.length) (hz : xs.length < sizeLine) (hT : Tabs (tabs A) H)
    (k : ∀ m ∈ ns, ∀ H2, Ex (strip H) H2 → (∀ b, H2 b = none → H b = none) → Tabs (tabs A) H2 → tz D σ (upd H2 ls (.lst (xs ++ [.int (m : Int)])))) :
    tSeq (tDrop (tBM K "list" rAppend (tVar i) (tCons (tCall (spMost A) [] E (tCons (tVar j) tNil)) tNil))) tz D σ H :=
  ⟨_, hs, Or.inl ⟨rfl, _, sq_of h1⟩, _, ht, pd, ns, rfl, h2, hne, hT, fun m hm H2 e2 nn2 t2 => ⟨ls, xs, _, rfl, rfl, e2 _ _ (strip_of h1 (fun _ z => by cases z)), hz, k m hm H2 e2 nn2 t2⟩⟩
theorem tabs_upd {A : Ads} {H : Hp} {p : Addr} {o : HO} {xs : List V} (h : Tabs (tabs A) H) (hp : H p = some (.lst xs)) : Tabs (tabs A) (upd H p o) := fun q hq => by
  obtain ⟨ps, h1, h2, h3⟩ := h q hq
  have ne : ∀ {b : Addr} {u : HO}, H b = some u → (∀ ys, u ≠ .lst ys) → upd H p o b = some u := fun {b u} hb hu => by
    rw [upd_ne fun z => by rw [z, hp] at hb; exact hu xs (Option.some.inj hb).symm]
    exact hb
  refine ⟨ps, ne h1 (fun ys z => by cases z), h2, fun pos cv hc => ?_⟩
  obtain ⟨c, e1, e2⟩ := h3 pos cv hc
  exact ⟨c, e1, ne e2 (fun ys z => by unfold CodeO at z; cases z)⟩
theorem ok_settled_first (T : Txt K mg A) (B : Tbs base mg A) : FnOk P w K mg base CX0 4 A.f_settled_first A.d_settled_first ["source", "threes"] (spSett A) := by
  refine T.F_settled_first.ok sc_settled_first (fun vs H Q E h => ?_) (fun cdv Ar outer s H vs Q E hr h => ⟨_, (pss_cons (ps_set (i := 2) sc_settled_first.nd rfl (Or.inl rfl) (pe_listRg rfl (by rfl) T.b_list (prg_1 (by rfl) T.b_range (fldK (K := K) rfl (pv 0) rfl))))
    (pss_cons (ps_set (i := 3) sc_settled_first.nd rfl (Or.inl rfl) (pe_call (ok_tied_arrows T) (hr.mono (by decide)) rfl T.g_tied_arrows T.F_tied_arrows.kp T.bd_tied_arrows .nil pass0 (pa_cons (pv 1) (pa_cons (pv 2) pa_nil))))
    (pss_cons (ps_while PassesOwn.never (pt_cmpR op_gt (pe_callB (lenK (K := K) rfl) (by rfl) T.b_len PySem.boot_len (pa_cons (pv 3) pa_nil)) pe_int (nomark _)) (pss_cons (ps_expr (pe_bm PySem.F.plainAttrs_list PySem.F.slot_list_append PySem.F.type_list_append mt_append (pv 2) (pa_cons (pe_call (ok_most_tied T B) (hr.mono (by decide)) rfl T.g_most_tied T.F_most_tied.kp T.bd_most_tied .nil pass0 (pa_cons (pv 3) pa_nil)) pa_nil)))
    (pss_one (ps_set (i := 3) sc_settled_first.nd rfl (Or.inl rfl) (pe_call (ok_tied_arrows T) (hr.mono (by decide)) rfl T.g_tied_arrows T.F_tied_arrows.kp T.bd_tied_arrows .nil pass0 (pa_cons (pv 1) (pa_cons (pv 2) pa_nil)))))))
    (pss_one (ps_ret (pv 2)))))), ?_⟩)
  · obtain ⟨_, _, _, _, _, _, rfl, _⟩ := h
    rfl
  · obtain ⟨H0, a, p, c, bs, e, rfl, hc, np, hB, hbs, hT, k⟩ := h
    have hc := (hc.mono e).strip
    have hB := (hB.mono e).strip
    have wf := hc.wf
    have l9 := wf.l9
    have n4 := wf.n4
    have blen : bs.length ≤ 81 := by
      have := threes_len wf
      rw [← hbs, List.length_map] at this
      exact this
    have bl : ∀ b ∈ bs, ∀ f, inT f b.2 = true → f < c.arrows.length := fun b hb f hf => threes_lt wf np (by rw [← hbs]; exact List.mem_map.mpr ⟨b, hb, rfl⟩) hf
    refine q_asgL (el_lrg (ev_thing T (hc.mono (ex_strip H)) (ev_var rfl)) (by omega)) fun ps H1 hps e1 h1 => ?_
    refine q_asgL (el_fn (ea_cons (ev_var rfl) (ea_cons (ev_var rfl) ea_nil)) (spL_go ⟨p, ps, bs, List.range c.n, c.arrows.length, rfl, hB.mono (Ex.N e1), h1, blen, bl, rfl⟩)) fun pd H2 hpd e2 h2 => ?_
    rw [hbs] at h2
    refine q_while (fun m σ' H' => ∃ D pd, σ' = [some (.ref a), some (.ref p), some (.ref ps), some (.ref pd)] ∧ Sett c D ∧ H' ps = some (.lst (natV D)) ∧ H' pd = some (.lst (natV (tiedL c.arrows.length (threes c) D))) ∧ Ex (strip H) H' ∧ (∀ b, H' b = none → H b = none) ∧ Tabs (tabs A) H' ∧ m = c.arrows.length - D.length)
      (c.arrows.length - c.n) ⟨List.range c.n, pd, rfl, sett_start c, e2 _ _ h1, h2, Ex.N (e1.trans e2), fun b hb => fresh_back (e1.trans e2) hb, hT.ext (e1.trans e2), by rw [List.length_range]⟩ ?_
    rintro m σ' H3 ⟨D, pd, rfl, sD, h3s, h3d, e3, nn3, t3, rfl⟩
    have dl := sD.len wf
    have g1 := ev_op (H := H3) (σ := [some (.ref a), some (.ref p), some (.ref ps), some (.ref pd)]) (ev_len (K := K) (ev_var (i := 3) rfl) (sq_of h3d)) (ev_c (v := .int 0)) (rv_I0 (g := fun i j => .bl (decide (i > j))))
    refine ⟨_, et_test g1, fun b H4 e4 => ?_, fun b H4 e4 => ?_⟩
    · have hne : 0 < (tiedL c.arrows.length (threes c) D).length := by
        unfold natV at b
        rw [List.length_map, decide_eq_true_eq] at b
        omega
      refine ⟨fun σ2 H2 => ∃ m', m' < c.arrows.length - D.length ∧ ∃ D pd, σ2 = [some (.ref a), some (.ref p), some (.ref ps), some (.ref pd)] ∧ Sett c D ∧ H2 ps = some (.lst (natV D)) ∧ H2 pd = some (.lst (natV (tiedL c.arrows.length (threes c) D))) ∧ Ex (strip H) H2 ∧ (∀ b, H2 b = none → H b = none) ∧ Tabs (tabs A) H2 ∧ m' = c.arrows.length - D.length, fun _ _ h => h, ?_⟩
      refine q_appMost (A := A) (ns := tiedL c.arrows.length (threes c) D) rfl rfl (e4 _ _ h3s) (e4 _ _ h3d) hne (by unfold natV; rw [List.length_map]; have sl : sizeLine = 16777216 := rfl; omega) (t3.ext e4) fun m hm H5 e5 nn5 t5 => ?_
      obtain ⟨lm, nm⟩ := mem_tied hm
      have sD2 := sD.snoc lm nm
      have h5s : H5 ps = some (.lst (natV D)) := e5 _ _ (strip_of (e4 _ _ h3s) (fun _ z => by cases z))
      have e6 : Ex (strip H) (upd H5 ps (.lst (natV D ++ [.int (m : Int)]))) := Ex.mut (exN_trans (e3.trans e4) e5) (by
        cases q : strip H ps with
        | none => rfl
        | some o =>
          have := (strip_some q).1
          rw [hps] at this
          cases this)
      have dn : natV D ++ [.int (m : Int)] = natV (D ++ [m]) := by
        unfold natV
        rw [List.map_append]
        rfl
      rw [dn] at e6 ⊢
      refine s_asgL (el_fn (ea_cons (ev_var rfl) (ea_cons (ev_var rfl) ea_nil)) (spL_go ⟨p, ps, bs, D ++ [m], c.arrows.length, rfl, hB.mono e6, upd_same, blen, bl, rfl⟩)) fun pd2 H7 hpd2 e7 h7 => ?_
      rw [hbs] at h7
      refine ⟨c.arrows.length - (D ++ [m]).length, ?_, D ++ [m], pd2, rfl, sD2, e7 _ _ upd_same, h7, e6.trans e7, fun b hb => ?_, (tabs_upd t5 h5s).ext e7, rfl⟩
      · have := sD2.len wf
        rw [List.length_append, List.length_singleton] at *
        omega
      · have q := fresh_back e7 hb
        exact nn3 b (fresh_back e4 (nn5 b (upd_none q)))
    · have hz : tiedL c.arrows.length (threes c) D = [] := by
        unfold natV at b
        rw [List.length_map, decide_eq_false_iff_not] at b
        exact List.eq_nil_of_length_eq_zero (by omega)
      exact s_ret (ev_var rfl) fun H5 e5 => k ps D H5 hps (e3.trans (e4.trans e5)) (fun b hb => nn3 b (fresh_back (e4.trans e5) hb)) (t3.ext (e4.trans e5)) (e5 _ _ (e4 _ _ h3s)) sD (sD.closed wf np hz)
end
end Arr
-- text B12
set_option Elab.async false
set_option linter.unusedVariables false
set_option maxRecDepth 100000
set_option maxHeartbeats 4000000
/-! # mappings: where an arrow may go -/
namespace Arr
open PySem PySem.Spec PyProof.Rows L2 Evl LamX NdefX
open Fc01 (from_ to_ after hom turned)
def optL (w : W) : List V := w.map optV
theorem optL_len (w : W) : (optL w).length = w.length := List.length_map ..
theorem optL_at {w : W} {f : Nat} (h : f < w.length) : (optL w)[f]? = some (optV (wat w f)) := by
  unfold optL
  rw [List.getElem?_map, wat_eq, List.getElem?_eq_getElem h]
  rfl
theorem optL_set (w : W) (f y : Nat) : (optL w).set f (.int (y : Int)) = optL (w.set f (some y)) := by
  unfold optL
  rw [List.map_set]
  rfl
section
variable {K : PySem.W.Frag} {σ : L2.St} {H : Hp} {ta te tl ti tw : TE} {D : Ends} {tu tz : TS} {j1 j2 : Nat}
theorem ev_wat {pw : Addr} {w : W} {f : Nat} (h : Ev tw σ H (.ref pw)) (hw : H pw = some (.lst (optL w))) (hi : Ev ti σ H (.int (f : Int))) (lf : f < w.length) : Ev (tOp (rIxL K) tw ti) σ H (optV (wat w f)) := ev_op h hi (rv_ixL (sq_of hw) (atI_nat (optL_at lf)))
theorem inV_t3 (f : Nat) (t : T3) : inV (.int (f : Int)) (tV t) = inT f t := by
  have q := inV_nat f [t.1, t.2.1, t.2.2]
  have e : natV [t.1, t.2.1, t.2.2] = tV t := rfl
  rw [e] at q
  rw [q]
  unfold inT
  rw [Bool.eq_iff_iff]
  simp
/-- for i, x in enumerate(l) -/
theorem q_forEnum {a : Addr} {xs : List V} (h : Ev ta σ H (.ref a)) (hx : SqL K H a xs) (Pv : Nat → L2.St → Hp → Prop) (h0 : ∀ H1, Ex H H1 → Pv 0 σ H1) (hl : ∀ i σ' H', i ≤ xs.length → Pv i σ' H' → SqL K H' a xs)
    (hs : ∀ i x σ' H' H2, xs[i]? = some x → Pv i σ' H' → Ex H' H2 → tu { D with nx := Pv (i + 1), ct := Pv (i + 1), bk := tz D } ((σ'.set j1 (some (.int (i : Int)))).set j2 (some x)) H2) (hd : ∀ σ' H', Pv xs.length σ' H' → tz D σ' H') :
    tSeq (tFor (iEnum K (tCons ta tNil)) (gTup K 2 (gCons (gName j1) (gCons (gName j2) gNil))) tu) tz D σ H :=
  h H (Ex.refl H) _ fun H1 e1 => ⟨a, xs, rfl, ex_l e1 hx, for_it (D := { D with nx := tz D }) walk_enum Pv (h0 H1 e1) hl (fun i v σ' H' H2 hi p y => by
    obtain ⟨q, u, x, rfl, hq, rfl, hu, hxi⟩ := y
    cases hu
    exact ⟨q, _, rfl, st_of upd_same, rfl, _, _, rfl, _, _, rfl, rfl, hs i x σ' H' _ hxi p (Ex.new hq)⟩) hd⟩
end
def R_side (C : Addr) : List V → Hp → List V → Prop := fun vs H xs => ∃ (a b pw : Addr) (ca cb : Cat) (w : W) (f : Nat), vs = [.ref a, .ref b, .ref pw, .int (f : Int)] ∧ CatAt C H a ca ∧ CatAt C H b cb ∧ H pw = some (.lst (optL w)) ∧ w.length = ca.arrows.length ∧ f < ca.arrows.length ∧
  (ca.n ≤ f → (wat w (from_ ca f)).isSome = true ∧ (wat w (to_ ca f)).isSome = true) ∧ xs = natV (cand ca cb w f)
def R_holds (C : Addr) : List V → Hp → V → Prop := fun vs H v => ∃ (b pw pt : Addr) (cb : Cat) (w : W) (t : T3), vs = [.ref b, .ref pw, .ref pt] ∧ CatAt C H b cb ∧ H pw = some (.lst (optL w)) ∧ H pt = some (.tup (tV t)) ∧ (∀ f, inT f t = true → f < w.length) ∧
  (∀ x y z, wat w t.1 = some x → wat w t.2.1 = some y → wat w t.2.2 = some z → to_ cb x = from_ cb y) ∧ v = .bl (hold3 cb w t)
def R_with : List V → Hp → List V → Prop := fun vs H xs => ∃ (pw : Addr) (w : W) (f y : Nat), vs = [.ref pw, .int (f : Int), .int (y : Int)] ∧ H pw = some (.lst (optL w)) ∧ f < w.length ∧ xs = optL (w.set f (some y))
/-- where f may go can be asked -/
structure CanC (a b : Cat) (ts : List T3) (w : W) (f : Nat) : Prop where
  lf : f < a.arrows.length
  len : w.length = a.arrows.length
  ends : a.n ≤ f → (wat w (from_ a f)).isSome = true ∧ (wat w (to_ a f)).isSome = true
  lt : ∀ t ∈ ts, ∀ x, inT x t = true → x < a.arrows.length
  meet : ∀ y ∈ cand a b w f, ∀ t ∈ ts, ∀ x1 x2 x3, wat (w.set f (some y)) t.1 = some x1 → wat (w.set f (some y)) t.2.1 = some x2 → wat (w.set f (some y)) t.2.2 = some x3 → to_ b x1 = from_ b x2
def R_choices (C : Addr) : List V → Hp → List V → Prop := fun vs H xs => ∃ (a b pt pw : Addr) (ca cb : Cat) (bs : List (Addr × T3)) (w : W) (f : Nat), vs = [.ref a, .ref b, .ref pt, .ref pw, .int (f : Int)] ∧ CatAt C H a ca ∧ CatAt C H b cb ∧ ThreesAt H pt bs ∧ bs.length ≤ 81 ∧
  H pw = some (.lst (optL w)) ∧ CanC ca cb (bs.map (·.2)) w f ∧ xs = natV (chs ca cb (bs.map (·.2)) w f)
theorem filter_all_map {α β : Type} (g : α → β) (p q : β → Bool) (l : List α) : (l.filter fun x => p (g x)).all (fun x => q (g x)) = ((l.map g).filter p).all q := by
  induction l with
  | nil => rfl
  | cons x r ih =>
    rw [List.map_cons, List.filter_cons, List.filter_cons]
    by_cases h : p (g x) = true
    · rw [if_pos h, if_pos h, List.all_cons, List.all_cons, ih]
    · rw [if_neg h, if_neg h, ih]
section
variable {P : Program} {w : World} {K : PySem.W.Frag} {mg : Str → Option Value} {base : Heap} {A : Ads} {σ : L2.St} {H : Hp} {ta tb td te tf tg : TE} {a : Addr} {c : Cat} {E : XK}
theorem ok_side_by_side (T : Txt K mg A) : FnOk P w K mg base CX0 3 A.f_side_by_side A.d_side_by_side ["source", "target", "where", "f"] (spL (R_side A.C)) := by
  refine T.F_side_by_side.ok sc_side_by_side (fun vs H Q E h => ?_) (fun cdv B outer s H vs Q E hr h => ⟨_, (pss_cons (ps_if (pt_val (pe_meth (pv 0) T.cl T.m_is_own (ok_is_own T) (hr.mono (by decide)) T.bd_is_own .nil pass0 (pa_cons (pv 3) pa_nil))) (pss_one (ps_ret (pe_listRg rfl (by rfl) T.b_list (prg_1 (by rfl) T.b_range (fldK (K := K) rfl (pv 1) rfl))))) pss_nil)
    (pss_one (ps_ret (pe_meth (pv 1) T.cl T.m_hom (ok_hom T) (hr.mono (by decide)) T.bd_hom .nil pass0 (pa_cons (pe_ix (ixListK (K := K) rfl) (pv 2) (pe_ix (ixListK (K := K) rfl) (fldK (K := K) rfl (pv 0) rfl) (pv 3) (fun _ _ => rfl)) (fun _ _ => rfl)) (pa_cons (pe_ix (ixListK (K := K) rfl) (pv 2) (pe_ix (ixListK (K := K) rfl) (fldK (K := K) rfl (pv 0) rfl) (pv 3) (fun _ _ => rfl)) (fun _ _ => rfl)) pa_nil)))))), ?_⟩)
  · obtain ⟨_, _, _, ⟨_, _, _, _, _, _, _, rfl, _⟩, _⟩ := h
    rfl
  · obtain ⟨H0, xs, e, ⟨a, b, pw, ca, cb, wx, f, rfl, ha, hb, hw, hl, lf, hs, rfl⟩, k⟩ := h
    have ha := ha.mono e
    have hb := hb.mono e
    have hw := e _ _ hw
    have n4 := hb.wf.n4
    refine q_when (et_B (ev_is_own ha (ev_var rfl) (ev_var rfl))) (fun q H1 e1 => ?_) (fun q H1 e1 => ?_)
    · rw [dec_lt, decide_eq_true_eq] at q
      unfold cand at k
      rw [if_pos q] at k
      exact s_retL (el_lrg (ev_thing T (hb.mono e1) (ev_var rfl)) (by omega)) fun p H2 hp e2 h2 => k.go e1 hp e2 h2
    · rw [dec_lt, decide_eq_false_iff_not] at q
      unfold cand at k
      rw [if_neg q] at k
      obtain ⟨s1, s2⟩ := hs (by omega)
      obtain ⟨x, hx⟩ := Option.isSome_iff_exists.mp s1
      obtain ⟨y, hy⟩ := Option.isSome_iff_exists.mp s2
      rw [hx, hy] at k
      have ha1 := ha.mono e1
      have l1 := from_lt ha.wf lf
      have l2 := to_lt ha.wf lf
      have ln := ha.wf.len
      exact s_retL (el_hom (hb.mono e1) (ev_var rfl) (ev_is (ev_wat (ev_var rfl) (e1 _ _ hw) (ev_beg T ha1 (ev_var rfl) (ev_var rfl) lf) (by omega)) (congrArg optV hx)) (ev_is (ev_wat (ev_var rfl) (e1 _ _ hw) (ev_end T ha1 (ev_var rfl) (ev_var rfl) lf) (by omega)) (congrArg optV hy))) fun p H2 hp e2 h2 => k.go e1 hp e2 h2
theorem ok_holds (T : Txt K mg A) : FnOk P w K mg base CX0 3 A.f_holds A.d_holds ["target", "where", "three"] (spV (R_holds A.C)) := by
  refine T.F_holds.ok sc_holds (fun vs H Q E h => ?_) (fun cdv B outer s H vs Q E hr h => ⟨_, (pss_cons (ps_set (i := 3) sc_holds.nd rfl (Or.inl rfl) (pe_ix (ixListK (K := K) rfl) (pv 1) (pe_ix (ixTupK (K := K) rfl) (pv 2) pe_int (fun _ _ => rfl)) (fun _ _ => rfl)))
    (pss_cons (ps_set (i := 4) sc_holds.nd rfl (Or.inl rfl) (pe_ix (ixListK (K := K) rfl) (pv 1) (pe_ix (ixTupK (K := K) rfl) (pv 2) pe_int (fun _ _ => rfl)) (fun _ _ => rfl)))
    (pss_cons (ps_set (i := 5) sc_holds.nd rfl (Or.inl rfl) (pe_ix (ixListK (K := K) rfl) (pv 1) (pe_ix (ixTupK (K := K) rfl) (pv 2) pe_int (fun _ _ => rfl)) (fun _ _ => rfl)))
    (pss_cons (ps_if (PW.pt (pw_or (pt_cmpR op_isN (pv 3) pe_non (nomark _)) (pw_or (pt_cmpR op_isN (pv 4) pe_non (nomark _)) (pw_or1 (pt_cmpR op_isN (pv 5) pe_non (nomark _)))))) (pss_one (ps_ret pe_bl)) pss_nil)
    (pss_one (ps_ret (pe_cmpR op_eq (pe_meth (pv 0) T.cl T.m_made (ok_made T) (hr.mono (by decide)) T.bd_made .nil pass0 (pa_cons (pv 3) (pa_cons (pv 4) pa_nil))) (pv 5) (nomark _)))))))), ?_⟩)
  · obtain ⟨_, _, _, ⟨_, _, _, _, _, _, rfl, _⟩, _⟩ := h
    rfl
  · obtain ⟨H0, v, e, ⟨b, pw, pt, cb, wx, t, rfl, hb, hw, ht, lt, mt, rfl⟩, k⟩ := h
    have hb := hb.mono e
    have hw := e _ _ hw
    have ht := e _ _ ht
    have at3 : ∀ {H1 : Hp} {σ1 : L2.St} {i : Nat} {g : Nat}, Ex H H1 → σ1[2]? = some (some (.ref pt)) → (tV t)[i]? = some (.int (g : Int)) → Ev (tOp (rIxT K) (tVar 2) (tC (.int (i : Int)))) σ1 H1 (.int (g : Int)) := fun {H1 σ1 i g} e1 hs hg => ev_op (ev_var hs) ev_c (rv_ixT (st_of (e1 _ _ ht)) (atI_nat hg))
    refine q_asg (ev_wat (ev_var rfl) hw (at3 (i := 0) (g := t.1) (Ex.refl H) rfl rfl) (lt _ (inT1 t))) fun H1 e1 => ?_
    refine q_asg (ev_wat (ev_var rfl) (e1 _ _ hw) (at3 (i := 1) (g := t.2.1) e1 rfl rfl) (lt _ (inT2 t))) fun H2 e2 => ?_
    have e2 := e1.trans e2
    refine q_asg (ev_wat (ev_var rfl) (e2 _ _ hw) (at3 (i := 2) (g := t.2.2) e2 rfl rfl) (lt _ (inT3 t))) fun H3 e3 => ?_
    have e3 := e2.trans e3
    have isn : ∀ {H4 : Hp} {i : Nat} {o : Option Nat} {σ1 : L2.St}, σ1[i]? = some (some (optV o)) → EvT (tTest (tOp (fun x y H Q => y = .non ∧ Q (.bl (decide (x = .non))) H) (tVar i) (tC .non))) σ1 H4 o.isNone := fun {H4 i o σ1} hs => et_test (ev_is (ev_op (ev_var hs) ev_c rv_isN) (by cases o <;> simp [optV]))
    refine q_when (et_or (isn rfl) fun _ => et_or (isn rfl) fun _ => isn rfl) (fun q H4 e4 => ?_) (fun q H4 e4 => ?_)
    · have hT : hold3 cb wx t = true := by
        unfold hold3
        cases h1 : wat wx t.1 with
        | none => rfl
        | some x =>
          cases h2 : wat wx t.2.1 with
          | none => rfl
          | some y =>
            cases h3 : wat wx t.2.2 with
            | none => rfl
            | some z =>
              rw [h1, h2, h3] at q
              cases q
      rw [hT] at k
      exact s_ret ev_c fun H5 e5 => k H5 ((e3.trans e4).trans e5)
    · cases h1 : wat wx t.1 with
      | none =>
        rw [h1] at q
        cases q
      | some x =>
        cases h2 : wat wx t.2.1 with
        | none =>
          rw [h1, h2] at q
          cases q
        | some y =>
          cases h3 : wat wx t.2.2 with
          | none =>
            rw [h1, h2, h3] at q
            cases q
          | some z =>
            unfold hold3 at k
            rw [h1, h2, h3] at k
            exact s_ret (ev_eqO (ev_made (hb.mono (e3.trans e4)) (ev_var rfl) (ev_var rfl) (ev_var rfl) (mt x y z h1 h2 h3)) (ev_var rfl)) fun H5 e5 => k H5 ((e3.trans e4).trans e5)
theorem ok_with_settled (T : Txt K mg A) : FnOk P w K mg base CX0 1 A.f_with_settled A.d_with_settled ["where", "f", "goes"] (spL R_with) := by
  refine T.F_with_settled.ok sc_with_settled (fun vs H Q E h => ?_) (fun cdv B outer s H vs Q E hr h => ⟨_, (pss_cons (ps_set (i := 3) sc_with_settled.nd rfl (Or.inl rfl) (pe_callTy (listK (K := K) rfl) (by rfl) T.b_list (by decide +kernel) (pa_cons (pv 0) pa_nil)))
    (pss_cons (ps_asg (pv 2) (pg_sub (pv 3) (pv 1) set_list))
    (pss_one (ps_ret (pv 3))))), ?_⟩)
  · obtain ⟨_, _, _, ⟨_, _, _, _, rfl, _⟩, _⟩ := h
    rfl
  · obtain ⟨H0, v, e, ⟨pw, wx, f, y, rfl, hw, lf, rfl⟩, k⟩ := h
    have hw := e _ _ hw
    refine q_asgL (el_list (ev_var rfl) (sq_of hw)) fun p H1 hp e1 h1 => ?_
    refine q_setL h1 (ev_var rfl) (ev_var rfl) (ev_var rfl) (by rw [optL_len]; exact lf) fun H2 e2 => ?_
    refine s_ret (ev_var rfl) fun H3 e3 => k p H3 hp ((Ex.mut (e1.trans e2) hp).trans e3) (e3 _ _ ?_)
    rw [upd_same, optL_set]
theorem ok_choices (T : Txt K mg A) : FnOk P w K mg base CX0 4 A.f_choices A.d_choices ["source", "target", "threes", "where", "f"] (spL (R_choices A.C)) := by
  refine T.F_choices.ok sc_choices (fun vs H Q E h => ?_) (fun cdv B outer s H vs Q E hr h => ⟨_, (pss_cons (ps_setLc (i := 5) (own := [("three", 9)]) (g := gName 9)  rfl sc_choices.nd rfl rfl (sw_true rfl rfl rfl (by decide +kernel)) (piListK (K := K) rfl (pv 2)) (blkOk_by (own := [("three", 9)]) (N := ["source", "target", "threes", "where", "f", "of_f", "possible", "goes", "further", "three"]) (sc := defScope s_choices) (by decide +kernel)) (fun _ _ _ _ _ => pg_name (i := 9) sc_choices.nd rfl (Or.inl rfl)) (fun _ _ _ _ _ => (pts_one (pt_cmpR (inK (K := K) rfl) (pv 4) (pv 9) rfl))) (fun _ _ _ _ _ => (pv 9)))
    (pss_cons (ps_set (i := 6) sc_choices.nd rfl (Or.inl rfl) (pe_lst pa_nil))
    (pss_cons (ps_for PassesOwn.never rfl (piListK (K := K) rfl (pe_call (ok_side_by_side T) (hr.mono (by decide)) rfl T.g_side_by_side T.F_side_by_side.kp T.bd_side_by_side .nil pass0 (pa_cons (pv 0) (pa_cons (pv 1) (pa_cons (pv 3) (pa_cons (pv 4) pa_nil)))))) (pg_name (i := 7) sc_choices.nd rfl (Or.inl rfl))
    (pss_cons (ps_set (i := 8) sc_choices.nd rfl (Or.inr rfl) (pe_call (ok_with_settled T) (hr.mono (by decide)) rfl T.g_with_settled T.F_with_settled.kp T.bd_with_settled .nil pass0 (pa_cons (pv 3) (pa_cons (pv 4) (pa_cons (pv 7) pa_nil)))))
    (pss_one (ps_if (pt_val (pe_callB (allK (K := K) rfl rfl) (by rfl) T.b_all (by decide +kernel) (pa_cons (pe_lc (own := [("three", 9)]) (g := gName 9) (tt := tYes) rfl sc_choices.nd (piListK (K := K) rfl (pv 5)) (blkOk_by (own := [("three", 9)]) (N := ["source", "target", "threes", "where", "f", "of_f", "possible", "goes", "further", "three"]) (sc := defScope s_choices) (by decide +kernel)) (fun _ _ _ _ _ => pg_name (i := 9) sc_choices.nd rfl (Or.inl rfl)) (fun _ _ _ _ _ => pts_nil) (fun _ _ _ _ _ => (pe_call (ok_holds T) (hr.mono (by decide)) rfl T.g_holds T.F_holds.kp T.bd_holds .nil pass0 (pa_cons (pv 1) (pa_cons (pv 8) (pa_cons (pv 9) pa_nil)))))) pa_nil))) (pss_one (ps_expr (pe_bm PySem.F.plainAttrs_list PySem.F.slot_list_append PySem.F.type_list_append mt_append (pv 6) (pa_cons (pv 7) pa_nil)))) pss_nil))))
    (pss_one (ps_ret (pv 6)))))), ?_⟩)
  · obtain ⟨_, _, _, ⟨_, _, _, _, _, _, _, _, _, rfl, _⟩, _⟩ := h
    rfl
  · obtain ⟨H0, v, e, ⟨a, b, pt, pw, ca, cb, bs, wx, f, rfl, ha, hb, hT, bl, hw, can, rfl⟩, k⟩ := h
    have ha := ha.mono e
    have hb := hb.mono e
    have hT := hT.mono e
    have hw := e _ _ hw
    have lb := hb.wf.l9
    refine q_asgL (el_compL (K := K) (en := fun x : Addr × T3 => V.ref x.1) (l := bs) (fun x => inT f x.2) (fun x => V.ref x.1) (ev_var rfl) (sq_of hT.1) (by omega) (fun _ => rfl)
      (fun x hx H1 e1 => et_test (ev_is (ev_op (ev_var rfl) (ev_var rfl) (rv_isT (K := K) (st_of (e1 _ _ (hT.2 x hx))) rfl rfl)) (by rw [inV_t3]))) (fun x hx H1 e1 _ => ev_var rfl)) fun po H1 hpo e1 h1 => ?_
    refine q_asgL (el_lst ea_nil (by show 0 ≤ 100000; decide)) fun pp H2 hpp e2 h2 => ?_
    have e12 := e1.trans e2
    have fpp := fresh_back e1 hpp
    have npo : po ≠ pp := fun z => by
      rw [← z, h1] at hpp
      cases hpp
    refine q_forNLn (K := K) (xs := natV (cand ca cb wx f)) (el_fn (ea_cons (ev_var rfl) (ea_cons (ev_var rfl) (ea_cons (ev_var rfl) (ea_cons (ev_var rfl) ea_nil)))) (spL_go (R := R_side A.C) ⟨a, b, pw, ca, cb, wx, f, rfl, ha.mono e12, hb.mono e12, e12 _ _ hw, can.len, can.lf, can.ends, rfl⟩))
      (fun pc i σ' H' => ∃ v7 v8, σ' = [some (.ref a), some (.ref b), some (.ref pt), some (.ref pw), some (.int (f : Int)), some (.ref po), some (.ref pp), v7, v8, none] ∧ Ex H H' ∧ H' po = some (.lst ((bs.filter fun x => inT f x.2).map fun x => V.ref x.1)) ∧ H' pc = some (.lst (natV (cand ca cb wx f))) ∧ pc ≠ pp ∧
        H' pp = some (.lst (natV (((cand ca cb wx f).take i).filter fun y => ((bs.map (·.2)).filter (inT f)).all (hold3 cb (wx.set f (some y)))))))
      (fun pc H3 hpc e3 h3 => ⟨_, _, rfl, e12.trans e3, e3 _ _ (e2 _ _ h1), h3, (fun z => by rw [z, h2] at hpc; cases hpc), e3 _ _ h2⟩) (fun pc i σ' H' _ ⟨_, _, _, _, _, h, _⟩ => sq_of h) ?_ ?_
    · rintro pc i x σ' H3 hi ⟨v7, v8, rfl, e3, h3o, h3c, ncp, h3p⟩
      obtain ⟨y, hy, rfl⟩ := map_at (e := fun (n : Nat) => V.int (n : Int)) hi
      have ym := List.mem_of_getElem? hy
      refine q_asgL (el_fn (ea_cons (ev_var rfl) (ea_cons (ev_var rfl) (ea_cons (ev_var rfl) ea_nil))) (spL_go (R := R_with) ⟨pw, wx, f, y, rfl, e3 _ _ hw, by rw [can.len]; exact can.lf, rfl⟩)) fun pf H4 hpf e34 h4 => ?_
      have e4 := e3.trans e34
      have el : (bs.filter fun x => inT f x.2).length ≤ 40000 := Nat.le_trans (List.length_filter_le _ _) (by omega)
      have q := ev_allL (K := K) (H := H4) (σ := [some (.ref a), some (.ref b), some (.ref pt), some (.ref pw), some (.int (f : Int)), some (.ref po), some (.ref pp), some (.int (y : Int)), some (.ref pf), none]) (te := _) (bs := (bs.filter fun x => inT f x.2).map fun x => hold3 cb (wx.set f (some y)) x.2) (by
        rw [← map_bl]
        exact el_mapL (K := K) (en := fun x : Addr × T3 => V.ref x.1) (l := bs.filter fun x => inT f x.2) (vs := [9]) (j := 9) _ (ev_var (i := 5) rfl) (sq_of (e34 _ _ h3o)) el (fun _ => rfl) fun x hx H5 e5 => ev_fn (E := E0) (ea_cons (ev_var (i := 1) rfl) (ea_cons (ev_var (i := 8) rfl) (ea_cons (ev_var (i := 9) rfl) ea_nil)))
          (spV_go (R := R_holds A.C) ⟨b, pf, x.1, cb, wx.set f (some y), x.2, rfl, hb.mono (e4.trans e5), e5 _ _ h4, (e4.trans e5) _ _ (hT.2 x (List.mem_filter.mp hx).1), fun g hg => by rw [List.length_set, can.len]; exact can.lt x.2 (List.mem_map.mpr ⟨x, (List.mem_filter.mp hx).1, rfl⟩) g hg, can.meet y ym x.2 (List.mem_map.mpr ⟨x, (List.mem_filter.mp hx).1, rfl⟩), rfl⟩))
      rw [all_id, filter_all_map (fun x : Addr × T3 => x.2) (inT f) (hold3 cb (wx.set f (some y)))] at q
      have tk : (((cand ca cb wx f).take (i + 1)).filter fun y => ((bs.map (·.2)).filter (inT f)).all (hold3 cb (wx.set f (some y)))) = (((cand ca cb wx f).take i).filter fun y => ((bs.map (·.2)).filter (inT f)).all (hold3 cb (wx.set f (some y)))) ++ (if ((bs.map (·.2)).filter (inT f)).all (hold3 cb (wx.set f (some y))) = true then [y] else []) := by
        rw [take_succ' hy, List.filter_append, List.filter_cons]
        rfl
      refine s_when (et_B q) (fun q1 H5 e5 => ?_) (fun q1 H5 e5 => ?_)
      · refine s_app (K := K) (e5 _ _ (e34 _ _ h3p)) (ev_var rfl) (ev_var rfl) ?_ fun H6 e6 => ⟨_, _, rfl, Ex.mut ((e4.trans e5).trans e6) fpp, ?_, ?_, ncp, ?_⟩
        · unfold natV
          rw [List.length_map]
          have h1 := List.length_filter_le (fun y => ((bs.map (·.2)).filter (inT f)).all (hold3 cb (wx.set f (some y)))) ((cand ca cb wx f).take i)
          rw [List.length_take] at h1
          have h2 := (List.getElem?_eq_some_iff.mp hy).1
          have h3 : (cand ca cb wx f).length ≤ 9 := Nat.le_trans (sub_len (l' := List.range cb.arrows.length) (cand_nodup ..) fun z hz => List.mem_range.mpr (chs_lt (ts := []) hb.wf hz)) (by rw [List.length_range]; exact lb)
          omega
        · rw [upd_ne npo]
          exact e6 _ _ (e5 _ _ (e34 _ _ h3o))
        · rw [upd_ne ncp]
          exact e6 _ _ (e5 _ _ (e34 _ _ h3c))
        · rw [upd_same, tk, if_pos q1]
          unfold natV
          rw [List.map_append]
          rfl
      · refine ⟨_, _, rfl, e4.trans e5, e5 _ _ (e34 _ _ h3o), e5 _ _ (e34 _ _ h3c), ncp, ?_⟩
        rw [tk, if_neg (by rw [q1]; decide), List.append_nil]
        exact e5 _ _ (e34 _ _ h3p)
    · rintro pc σ' H3 ⟨v7, v8, rfl, e3, h3o, h3c, ncp, h3p⟩
      refine s_ret (ev_var rfl) fun H4 e4 => k pp H4 fpp (e3.trans e4) (e4 _ _ ?_)
      rw [h3p]
      unfold natV
      rw [List.length_map, List.take_length]
      rfl
end
end Arr
-- text A11
set_option Elab.async false
set_option linter.unusedVariables false
set_option maxRecDepth 100000
set_option maxHeartbeats 4000000
/-! # lists of new lists, further -/
namespace Arr
open PySem L2 Evl
section
variable {K : PySem.W.Frag} {σ : L2.St} {H H' : Hp} {ta tb te tl : TE} {t : TT} {x y z v : V} {D : Ends} {tu tw tz : TS} {xss : List (List V)} {j : Nat} {vs : List Nat}
theorem el_if {b : Bool} {xs : List V} (h : EvT t σ H b) (h1 : b = true → EvL ta σ H xs) (h2 : b = false → EvL tb σ H xs) : EvL (tIf t ta tb) σ H xs := fun H1 e Q q => h H1 e _ fun H2 e2 => by
  cases b with
  | true =>
    show ta σ H2 Q
    exact h1 rfl H2 (e.trans e2) Q fun p H3 hp e3 h3 => q p H3 (fresh_back e2 hp) (e2.trans e3) h3
  | false =>
    show tb σ H2 Q
    exact h2 rfl H2 (e.trans e2) Q fun p H3 hp e3 h3 => q p H3 (fresh_back e2 hp) (e2.trans e3) h3
theorem newLL_nil {p : Addr} (hp : H p = none) (e : Ex H H') (h : H' p = some (.lst [])) : NewLL H [] p [] H' := ⟨hp, e, rfl, h, by simp⟩
/-- one more -/
theorem NewLL.snoc {H1 H2 : Hp} {p q : Addr} {bs : List (Addr × List V)} {ys : List V} (n : NewLL H xss p bs H1) (hq : H1 q = none) (e : Ex H1 H2) (h : H2 q = some (.lst ys)) : NewLL H (xss ++ [ys]) p (bs ++ [(q, ys)]) (upd H2 p (.lst (refs bs ++ [.ref q]))) := by
  obtain ⟨n1, n2, n3, n4, n5⟩ := n
  have nq : q ≠ p := fun z => by
    rw [z, n4] at hq
    cases hq
  refine ⟨n1, Ex.mut (n2.trans e) n1, by rw [List.map_append, n3]; rfl, by rw [upd_same, refs_app]; rfl, fun b hb => ?_⟩
  rcases List.mem_append.mp hb with hb | hb
  · obtain ⟨c1, c2, c3⟩ := n5 b hb
    exact ⟨c1, c2, by rw [upd_ne c2]; exact e _ _ c3⟩
  · rw [List.mem_singleton.mp hb]
    exact ⟨fresh_back n2 hq, nq, by rw [upd_ne nq]; exact h⟩
/-- many more -/
theorem NewLL.app {H1 H2 : Hp} {p q : Addr} {yss : List (List V)} {bs cs : List (Addr × List V)} (n : NewLL H xss p bs H1) (m : NewLL H1 yss q cs H2) : NewLL H (xss ++ yss) p (bs ++ cs) (upd H2 p (.lst (refs bs ++ refs cs))) := by
  obtain ⟨n1, n2, n3, n4, n5⟩ := n
  obtain ⟨m1, m2, m3, m4, m5⟩ := m
  refine ⟨n1, Ex.mut (n2.trans m2) n1, by rw [List.map_append, n3, m3], by rw [upd_same, refs_app], fun b hb => ?_⟩
  rcases List.mem_append.mp hb with hb | hb
  · obtain ⟨c1, c2, c3⟩ := n5 b hb
    exact ⟨c1, c2, by rw [upd_ne c2]; exact m2 _ _ c3⟩
  · obtain ⟨c1, c2, c3⟩ := m5 b hb
    have nb : b.1 ≠ p := fun z => by
      rw [z, n4] at c1
      cases c1
    exact ⟨fresh_back n2 c1, nb, by rw [upd_ne nb]; exact c3⟩
/-- told by what they stand for -/
theorem told_by {α : Type} {en : α → List V} : ∀ {l : List α} {bs : List (Addr × List V)}, bs.map (·.2) = l.map en → ∃ rs : List (Addr × α), rs.map (·.2) = l ∧ refs rs = refs bs ∧ ∀ r ∈ rs, (r.1, en r.2) ∈ bs
  | [], [], _ => ⟨[], rfl, rfl, by simp⟩
  | [], _ :: _, h => by cases h
  | _ :: _, [], h => by cases h
  | x :: l, b :: bs, h => by
    rw [List.map_cons, List.map_cons] at h
    injection h with h1 h2
    obtain ⟨rs, r1, r2, r3⟩ := told_by h2
    refine ⟨(b.1, x) :: rs, by rw [List.map_cons, r1], ?_, fun r hr => ?_⟩
    · show V.ref b.1 :: refs rs = V.ref b.1 :: refs bs
      rw [r2]
    · rcases List.mem_cons.mp hr with rfl | hr
      · rw [← h1]
        exact List.mem_cons_self ..
      · exact List.mem_cons_of_mem _ (r3 r hr)
/-! ### comprehensions of any length -/
structure Cv {α : Type} (H : Hp) (l : List α) (p : α → Bool) (fv : α → V) (Dl : Addr) (i : Nat) (H' : Hp) : Prop where
  fr : H Dl = none
  ex : Ex H H'
  at_ : H' Dl = some (.lst (((l.take i).filter p).map fv))
theorem el_compLB {α : Type} {en : α → V} {l : List α} {a : Addr} (p : α → Bool) (fv : α → V) (h : Ev tl σ H (.ref a)) (hx : SqL K H a (l.map en)) (hz : l.length ≤ sizeLine) (hw : ∀ x, wipe ((wipe σ vs).set j (some x)) vs = wipe σ vs)
    (ht : ∀ x ∈ l, ∀ H1, Ex H H1 → EvT t ((wipe σ vs).set j (some (en x))) H1 (p x)) (he : ∀ x ∈ l, ∀ H1, Ex H H1 → p x = true → Ev te ((wipe σ vs).set j (some (en x))) H1 (fv x)) :
    EvL (tLc (iList K tl) (gName j) t te vs) σ H ((l.filter p).map fv) := fun H0 e Q q => h H0 e _ fun H1 e1 => ⟨a, rfl, ⟨_, ex_l (e.trans e1) hx⟩, fun Dl hD =>
  lc_list (xs := l.map en) (fun i H' => Cv H1 l p fv Dl i H') ⟨hD, Ex.new hD, upd_same⟩ (fun i H' _ c => ex_l ((e.trans e1).trans c.ex) hx) (fun i y H' hi c => by
      obtain ⟨x, hxi, rfl⟩ := map_at hi
      have hlt := (List.getElem?_eq_some_iff.mp hxi).1
      have xm := List.mem_of_getElem? hxi
      refine ⟨hw _, ht x xm H1 (e.trans e1) H' c.ex _ fun H3 e3 => ?_⟩
      cases hp : p x with
      | true =>
        show te _ H3 _
        refine he x xm H1 (e.trans e1) hp H3 (c.ex.trans e3) _ fun H4 e4 => ⟨_, e4 _ _ (e3 _ _ c.at_), ?_, c.fr, Ex.mut ((c.ex.trans e3).trans e4) c.fr, ?_⟩
        · rw [List.length_map]
          have h1 := List.length_filter_le p (l.take i)
          rw [List.length_take] at h1
          omega
        · rw [upd_same, take_succ' hxi, List.filter_append, List.map_append, List.filter_cons, if_pos hp]
          rfl
      | false =>
        show Cv _ _ _ _ _ _ H3
        refine ⟨c.fr, c.ex.trans e3, ?_⟩
        rw [take_succ' hxi, List.filter_append, List.map_append, List.filter_cons, if_neg (by rw [hp]; decide)]
        simp only [List.filter_nil, List.map_nil, List.append_nil]
        exact e3 _ _ c.at_)
    (fun H' c => by
      have := c.at_
      rw [List.length_map, List.take_length] at this
      exact q Dl H' (fresh_back e1 c.fr) (e1.trans c.ex) this)⟩
/-! ### lists of lists of lists, all new -/
abbrev B3 := Addr × List (Addr × List V)
def NewL3 (H1 : Hp) (xsss : List (List (List V))) (p : Addr) (ds : List B3) (H2 : Hp) : Prop := H1 p = none ∧ Ex H1 H2 ∧ ds.map (fun d => d.2.map (·.2)) = xsss ∧ H2 p = some (.lst (refs ds)) ∧
  ∀ d ∈ ds, (H1 d.1 = none ∧ d.1 ≠ p ∧ H2 d.1 = some (.lst (refs d.2))) ∧ ∀ b ∈ d.2, H1 b.1 = none ∧ b.1 ≠ p ∧ H2 b.1 = some (.lst b.2)
def EvL3 (te : TE) (σ : L2.St) (H : Hp) (xsss : List (List (List V))) : Prop := ∀ H1, Ex H H1 → ∀ Q : VK, (∀ p ds H2, NewL3 H1 xsss p ds H2 → Q (.ref p) H2) → te σ H1 Q
theorem q_asgL3 {i : Nat} {xsss : List (List (List V))} (h : EvL3 te σ H xsss) (k : ∀ p ds H1, NewL3 H xsss p ds H1 → tz D (σ.set i (some (.ref p))) H1) : tSeq (tAsg te (gName i)) tz D σ H := h H (Ex.refl H) _ k
theorem el3_mapL {α : Type} {en : α → V} {l : List α} {a : Addr} (fv : α → List (List V)) (h : Ev tl σ H (.ref a)) (hx : SqL K H a (l.map en)) (hz : l.length ≤ sizeLine) (hw : ∀ x, wipe ((wipe σ vs).set j (some x)) vs = wipe σ vs)
    (he : ∀ x ∈ l, ∀ H1, Ex H H1 → EvLL te ((wipe σ vs).set j (some (en x))) H1 (fv x)) : EvL3 (tLc (iList K tl) (gName j) tYes te vs) σ H (l.map fv) := fun H0 e Q q => h H0 e _ fun H1 e1 => ⟨a, rfl, ⟨_, ex_l (e.trans e1) hx⟩, fun Dl hD =>
  lc_list (xs := l.map en) (fun i H' => ∃ ds, NewL3 H1 ((l.take i).map fv) Dl ds H') ⟨[], hD, Ex.new hD, rfl, upd_same, by simp⟩ (fun i H' _ c => by
      obtain ⟨ds, c⟩ := c
      exact ex_l ((e.trans e1).trans c.2.1) hx) (fun i y H' hi c => by
      obtain ⟨x, hxi, rfl⟩ := map_at hi
      obtain ⟨ds, d1, d2, d3, d4, d5⟩ := c
      have hlt := (List.getElem?_eq_some_iff.mp hxi).1
      refine ⟨hw _, ?_⟩
      show te _ H' _
      refine he x (List.mem_of_getElem? hxi) H1 (e.trans e1) H' d2 _ fun r bs H4 nr => ⟨refs ds, nr.2.1 _ _ d4, ?_, ds ++ [(r, bs)], ?_⟩
      · rw [refs_len, ← List.length_map (f := fun d : B3 => d.2.map (·.2)), d3, List.length_map, List.length_take]
        omega
      · obtain ⟨m1, m2, m3, m4, m5⟩ := nr
        have nr : r ≠ Dl := fun z => by
          rw [z, d4] at m1
          cases m1
        refine ⟨d1, Ex.mut (d2.trans m2) d1, ?_, by rw [upd_same, refs_app]; rfl, fun d hd => ?_⟩
        · rw [List.map_append, d3, take_succ' hxi, List.map_append]
          show _ ++ [bs.map (·.2)] = _ ++ [fv x]
          rw [m3]
        · rcases List.mem_append.mp hd with hd | hd
          · obtain ⟨⟨c1, c2, c3⟩, c4⟩ := d5 d hd
            refine ⟨⟨c1, c2, by rw [upd_ne c2]; exact m2 _ _ c3⟩, fun b hb => ?_⟩
            obtain ⟨g1, g2, g3⟩ := c4 b hb
            exact ⟨g1, g2, by rw [upd_ne g2]; exact m2 _ _ g3⟩
          · rw [List.mem_singleton.mp hd]
            refine ⟨⟨fresh_back d2 m1, nr, by rw [upd_ne nr]; exact m4⟩, fun b hb => ?_⟩
            obtain ⟨g1, g2, g3⟩ := m5 b hb
            have nb : b.1 ≠ Dl := fun z => by
              rw [z, d4] at g1
              cases g1
            exact ⟨fresh_back d2 g1, nb, by rw [upd_ne nb]; exact g3⟩)
    (fun H' c => by
      obtain ⟨ds, d1, d2, d3, d4, d5⟩ := c
      rw [List.length_map, List.take_length] at d3
      exact q Dl ds H' ⟨fresh_back e1 d1, e1.trans d2, d3, d4, fun d hd => ⟨⟨fresh_back e1 (d5 d hd).1.1, (d5 d hd).1.2⟩, fun b hb => ⟨fresh_back e1 ((d5 d hd).2 b hb).1, ((d5 d hd).2 b hb).2⟩⟩⟩)⟩
end
end Arr
-- text B13
set_option Elab.async false
set_option linter.unusedVariables false
set_option maxRecDepth 100000
set_option maxHeartbeats 4000000
/-! # mappings: rows and boxes -/
namespace Arr
open PySem PySem.Spec PyProof.Rows L2 Evl LamX NdefX
open Fc01 (from_ to_ after hom turned)
/-- a list of rows that stands -/
def RowsAt (H : Hp) (p : Addr) (rs : List (Addr × W)) : Prop := H p = some (.lst (refs rs)) ∧ ∀ r ∈ rs, H r.1 = some (.lst (optL r.2))
theorem RowsAt.mono {H H' : Hp} {p : Addr} {rs : List (Addr × W)} (e : Ex H H') (h : RowsAt H p rs) : RowsAt H' p rs := ⟨e _ _ h.1, fun r hr => e _ _ (h.2 r hr)⟩
theorem canC_of {a b : Cat} (wa : Wf a) (na : NoP a) {D : List Nat} {w : W} {f : Nat} (g : Good a b (threes a) D w) (hf : Fit a D f) : CanC a b (threes a) w f := by
  have lf : f < w.length := by rw [g.len]; exact hf.lt
  refine ⟨hf.lt, g.len, fun hn => ?_, fun t ht x hx => threes_lt wa na ht hx, fun y hy t ht x1 x2 x3 h1 h2 h3 => ?_⟩
  · exact ⟨(g.dom _).mpr (hf.oth hn _ (from_lt wa hf.lt)), (g.dom _).mpr (hf.oth hn _ (to_lt wa hf.lt))⟩
  · obtain ⟨t1, t2, t3, _⟩ := (mem_threes wa).mp ht
    have key : ∀ z x, a.n ≤ z → z < a.arrows.length → wat (w.set f (some y)) z = some x → x ∈ hom b ((wat w (from_ a z)).getD 0) ((wat w (to_ a z)).getD 0) := fun z x hz lz hx => by
      rw [wat_set lf] at hx
      by_cases e : z = f
      · rw [if_pos e] at hx
        cases hx
        unfold cand at hy
        rw [if_neg (by omega)] at hy
        rw [e]
        exact hy
      · rw [if_neg e] at hx
        have q := g.cnd z x hx
        unfold cand at q
        rw [if_neg (by omega)] at q
        exact q
    have q1 := hom_from (key t.1 x1 t1.1 t1.2 h1)
    have q2 := hom_from (key t.2.1 x2 t2.1 t2.2 h2)
    rw [q1.2.2, q2.2.1, t3]
def R_settle (C : Addr) : List V → Hp → List (List V) → Prop := fun vs H xss => ∃ (a b pt pr : Addr) (ca cb : Cat) (bs : List (Addr × T3)) (rs : List (Addr × W)) (f : Nat), vs = [.ref a, .ref b, .ref pt, .int (f : Int), .ref pr] ∧ CatAt C H a ca ∧ CatAt C H b cb ∧ ThreesAt H pt bs ∧ bs.length ≤ 81 ∧
  RowsAt H pr rs ∧ (∀ r ∈ rs, CanC ca cb (bs.map (·.2)) r.2 f) ∧ (settleL ca cb (bs.map (·.2)) (rs.map (·.2)) f).length ≤ sizeLine ∧ xss = (settleL ca cb (bs.map (·.2)) (rs.map (·.2)) f).map optL
def R_box (C : Addr) : List V → Hp → List (List V) → Prop := fun vs H xss => ∃ (a b pt pw : Addr) (ca cb : Cat) (bs : List (Addr × T3)) (w : W), vs = [.ref a, .ref b, .ref pt, .ref pw] ∧ CatAt C H a ca ∧ CatAt C H b cb ∧ ThreesAt H pt bs ∧ bs.length ≤ 81 ∧ H pw = some (.lst (optL w)) ∧
  w.length = ca.arrows.length ∧ (∀ f, f < ca.arrows.length → wat w f = none → CanC ca cb (bs.map (·.2)) w f) ∧ xss = (boxOf ca cb (bs.map (·.2)) w).map natV
theorem settle_take {a b : Cat} {ts : List T3} {f i : Nat} {w : W} {l : List W} (h : l[i]? = some w) : settleL a b ts (l.take (i + 1)) f = settleL a b ts (l.take i) f ++ (chs a b ts w f).map fun y => w.set f (some y) := by
  unfold settleL
  rw [take_succ' h, List.flatMap_append]
  simp
theorem settle_take_le {a b : Cat} {ts : List T3} {f i : Nat} {l : List W} : (settleL a b ts (l.take i) f).length ≤ (settleL a b ts l f).length := by
  unfold settleL
  have : l.flatMap (fun w => (chs a b ts w f).map fun y => w.set f (some y)) = (l.take i).flatMap (fun w => (chs a b ts w f).map fun y => w.set f (some y)) ++ (l.drop i).flatMap (fun w => (chs a b ts w f).map fun y => w.set f (some y)) := by
    rw [← List.flatMap_append, List.take_append_drop]
  rw [this, List.length_append]
  omega
theorem map_take_snd {α β : Type} (l : List (α × β)) (i : Nat) : (l.take i).map (·.2) = (l.map (·.2)).take i := List.map_take
section
variable {P : Program} {w : World} {K : PySem.W.Frag} {mg : Str → Option Value} {base : Heap} {A : Ads} {σ : L2.St} {H : Hp} {ta tb td te tf tg : TE} {a : Addr} {c : Cat} {E : XK}
theorem ok_settle (T : Txt K mg A) : FnOk P w K mg base CX0 5 A.f_settle A.d_settle ["source", "target", "threes", "f", "rows"] (spLL (R_settle A.C)) := by
  refine T.F_settle.ok sc_settle (fun vs H Q E h => ?_) (fun cdv B outer s H vs Q E hr h => ⟨_, (pss_cons (ps_set (i := 5) sc_settle.nd rfl (Or.inl rfl) (pe_lst pa_nil))
    (pss_cons (ps_for PassesOwn.never rfl (piListK (K := K) rfl (pv 4)) (pg_name (i := 6) sc_settle.nd rfl (Or.inr rfl))
    (pss_one (ps_expr (pe_bm PySem.F.plainAttrs_list PySem.F.slot_list_extend PySem.F.type_list_extend mt_extend (pv 5) (pa_cons (pe_lc (own := [("goes", 7)]) (g := gName 7) (tt := tYes) rfl sc_settle.nd (piListK (K := K) rfl (pe_call (ok_choices T) (hr.mono (by decide)) rfl T.g_choices T.F_choices.kp T.bd_choices .nil pass0 (pa_cons (pv 0) (pa_cons (pv 1) (pa_cons (pv 2) (pa_cons (pv 6) (pa_cons (pv 3) pa_nil))))))) (blkOk_by (own := [("goes", 7)]) (N := ["source", "target", "threes", "f", "rows", "longer", "where", "goes"]) (sc := defScope s_settle) (by decide +kernel)) (fun _ _ _ _ _ => pg_name (i := 7) sc_settle.nd rfl (Or.inl rfl)) (fun _ _ _ _ _ => pts_nil) (fun _ _ _ _ _ => (pe_call (ok_with_settled T) (hr.mono (by decide)) rfl T.g_with_settled T.F_with_settled.kp T.bd_with_settled .nil pass0 (pa_cons (pv 6) (pa_cons (pv 3) (pa_cons (pv 7) pa_nil)))))) pa_nil)))))
    (pss_one (ps_ret (pv 5))))), ?_⟩)
  · obtain ⟨_, _, _, ⟨_, _, _, _, _, _, _, _, _, rfl, _⟩, _⟩ := h
    rfl
  · obtain ⟨H0, xss, e, ⟨a, b, pt, pr, ca, cb, bs, rs, f, rfl, ha, hb, hT, bl, hR, can, hz, rfl⟩, k⟩ := h
    have ha := ha.mono e
    have hb := hb.mono e
    have hT := hT.mono e
    have hR := hR.mono e
    have lb := hb.wf.l9
    refine q_asgL (el_lst ea_nil (by show 0 ≤ 100000; decide)) fun pl H1 hpl e1 h1 => ?_
    refine q_forLn (ev_var rfl) (sq_of (e1 _ _ hR.1)) (fun i σ' H' => ∃ v6 cs, σ' = [some (.ref a), some (.ref b), some (.ref pt), some (.int (f : Int)), some (.ref pr), some (.ref pl), v6, none] ∧ NewLL H ((settleL ca cb (bs.map (·.2)) ((rs.map (·.2)).take i) f).map optL) pl cs H')
      (fun H2 e2 => ⟨_, [], rfl, (newLL_nil hpl e1 h1).fwd e2⟩) (fun i σ' H' _ ⟨_, _, _, n⟩ => sq_of (n.2.1 _ _ hR.1)) ?_ ?_
    · rintro i x σ' H2 hi ⟨v6, cs, rfl, n2⟩
      obtain ⟨r, hri, rfl⟩ := map_at (e := fun b : Addr × W => V.ref b.1) hi
      have rm := List.mem_of_getElem? hri
      have e2 := n2.2.1
      have hw := e2 _ _ (hR.2 r rm)
      have cn := can r rm
      have cl : (chs ca cb (bs.map (·.2)) r.2 f).length ≤ 9 := Nat.le_trans (Nat.le_trans (List.length_filter_le _ _) (sub_len (l' := List.range cb.arrows.length) (cand_nodup ca cb r.2 f) fun z hz => List.mem_range.mpr (chs_lt (ts := []) hb.wf hz))) (by rw [List.length_range]; exact lb)
      have hri2 : (rs.map (·.2))[i]? = some r.2 := by rw [List.getElem?_map, hri]; rfl
      have comp := ell_mapNL (K := K) (σ := [some (.ref a), some (.ref b), some (.ref pt), some (.int (f : Int)), some (.ref pr), some (.ref pl), some (.ref r.1), none]) (H := H2) (j := 7) (vs := [7]) (en := fun (n : Nat) => V.int (n : Int)) (l := chs ca cb (bs.map (·.2)) r.2 f) (fun y => optL (r.2.set f (some y)))
        (el_fn (E := E0) (ea_cons (ev_var (i := 0) rfl) (ea_cons (ev_var (i := 1) rfl) (ea_cons (ev_var (i := 2) rfl) (ea_cons (ev_var (i := 6) rfl) (ea_cons (ev_var (i := 3) rfl) ea_nil))))) (spL_go (R := R_choices A.C) ⟨a, b, pt, r.1, ca, cb, bs, r.2, f, rfl, ha.mono e2, hb.mono e2, hT.mono e2, bl, hw, cn, rfl⟩))
        (by have sl : sizeLine = 16777216 := rfl; omega) (fun _ => rfl) (fun y hy H3 e3 => el_fn (E := E0) (ea_cons (ev_var (i := 6) rfl) (ea_cons (ev_var (i := 3) rfl) (ea_cons (ev_var (i := 7) rfl) ea_nil))) (spL_go (R := R_with) ⟨r.1, r.2, f, y, rfl, e3 _ _ hw, by rw [cn.len]; exact cn.lf, rfl⟩))
      refine s_extLL (K := K) n2.2.2.2.1 (ev_var rfl) comp ?_ fun p ds H3 n3 => ⟨_, cs ++ ds, rfl, ?_⟩
      · have l1 := congrArg List.length n2.2.2.1
        rw [List.length_map, List.length_map] at l1
        rw [refs_len, l1, List.length_map]
        have := settle_take_le (a := ca) (b := cb) (ts := bs.map (·.2)) (f := f) (i := i + 1) (l := rs.map (·.2))
        rw [settle_take hri2, List.length_append, List.length_map] at this
        omega
      · have := n2.app n3
        rw [settle_take hri2, List.map_append, List.map_map]
        exact this
    · rintro σ' H2 ⟨v6, cs, rfl, n2⟩
      rw [refs_len, ← List.length_map (f := fun r : Addr × W => r.2), List.take_length] at n2
      exact s_ret (ev_var rfl) fun H3 e3 => k pl cs H3 (n2.fwd e3)
theorem ok_box_of (T : Txt K mg A) : FnOk P w K mg base CX0 5 A.f_box_of A.d_box_of ["source", "target", "threes", "where"] (spLL (R_box A.C)) := by
  refine T.F_box_of.ok sc_box_of (fun vs H Q E h => ?_) (fun cdv B outer s H vs Q E hr h => ⟨_, (pss_cons (ps_set (i := 4) sc_box_of.nd rfl (Or.inl rfl) (pe_lst pa_nil))
    (pss_cons (ps_for PassesOwn.never rfl (enumK (K := K) rfl (by rfl) T.b_enumerate (pa_cons (pv 3) pa_nil)) (pg_tupK (K := K) rfl rfl (pgs_cons (pg_name (i := 5) sc_box_of.nd rfl (Or.inl rfl)) (pgs_cons (pg_name (i := 6) sc_box_of.nd rfl (Or.inl rfl)) pgs_nil)))
    (pss_one (ps_expr (pe_bm PySem.F.plainAttrs_list PySem.F.slot_list_append PySem.F.type_list_append mt_append (pv 4) (pa_cons (pe_ifExp (pt_cmpR op_isN (pv 6) pe_non (nomark _)) (pe_call (ok_choices T) (hr.mono (by decide)) rfl T.g_choices T.F_choices.kp T.bd_choices .nil pass0 (pa_cons (pv 0) (pa_cons (pv 1) (pa_cons (pv 2) (pa_cons (pv 3) (pa_cons (pv 5) pa_nil)))))) (pe_lst (pa_cons (pv 6) pa_nil))) pa_nil)))))
    (pss_one (ps_ret (pv 4))))), ?_⟩)
  · obtain ⟨_, _, _, ⟨_, _, _, _, _, _, _, _, rfl, _⟩, _⟩ := h
    rfl
  · obtain ⟨H0, xss, e, ⟨a, b, pt, pw, ca, cb, bs, wx, rfl, ha, hb, hT, bl, hw, hl, can, rfl⟩, k⟩ := h
    have ha := ha.mono e
    have hb := hb.mono e
    have hT := hT.mono e
    have hw := e _ _ hw
    have la := ha.wf.l9
    refine q_asgL (el_lst ea_nil (by show 0 ≤ 100000; decide)) fun pl H1 hpl e1 h1 => ?_
    refine q_forEnum (ev_var rfl) (sq_of (e1 _ _ hw)) (fun i σ' H' => ∃ v5 v6 cs, σ' = [some (.ref a), some (.ref b), some (.ref pt), some (.ref pw), some (.ref pl), v5, v6] ∧ NewLL H (((List.range wx.length).take i).map fun f => natV (boxAt ca cb (bs.map (·.2)) wx f)) pl cs H')
      (fun H2 e2 => ⟨_, _, [], rfl, (newLL_nil hpl e1 h1).fwd e2⟩) (fun i σ' H' _ ⟨_, _, _, _, n⟩ => sq_of (n.2.1 _ _ hw)) ?_ ?_
    · rintro i x σ' H2 H3 hi ⟨v5, v6, cs, rfl, n2⟩ e3
      have n3 := n2.fwd e3
      have li : i < wx.length := by
        have := (List.getElem?_eq_some_iff.mp hi).1
        rw [optL_len] at this
        exact this
      rw [optL_at li] at hi
      cases hi
      have ri : (List.range wx.length)[i]? = some i := List.getElem?_range li
      have e3 := n3.2.1
      have lc : cs.length < 100000 := by
        have l1 := congrArg List.length n3.2.2.1
        rw [List.length_map, List.length_map, List.length_take, List.length_range] at l1
        omega
      have tst : EvT (tTest (tOp (fun x y H Q => y = .non ∧ Q (.bl (decide (x = .non))) H) (tVar 6) (tC .non))) [some (.ref a), some (.ref b), some (.ref pt), some (.ref pw), some (.ref pl), some (.int (i : Int)), some (optV (wat wx i))] H3 (wat wx i).isNone := et_test (ev_is (ev_op (ev_var rfl) ev_c rv_isN) (by cases wat wx i <;> simp [optV]))
      refine s_appL (K := K) n3.2.2.2.1 (ev_var rfl) (el_if (xs := natV (boxAt ca cb (bs.map (·.2)) wx i)) tst (fun q => ?_) (fun q => ?_)) (by rw [refs_len]; exact lc) fun p H4 hp e4 h4 => ⟨_, _, cs ++ [(p, natV (boxAt ca cb (bs.map (·.2)) wx i))], rfl, ?_⟩
      · have q : wat wx i = none := by simpa using q
        unfold boxAt
        rw [q]
        exact el_fn (ea_cons (ev_var rfl) (ea_cons (ev_var rfl) (ea_cons (ev_var rfl) (ea_cons (ev_var rfl) (ea_cons (ev_var rfl) ea_nil))))) (spL_go (R := R_choices A.C) ⟨a, b, pt, pw, ca, cb, bs, wx, i, rfl, ha.mono e3, hb.mono e3, hT.mono e3, bl, e3 _ _ hw, can i (by omega) q, rfl⟩)
      · obtain ⟨y, hy⟩ : ∃ y, wat wx i = some y := by
          cases z : wat wx i with
          | none =>
            rw [z] at q
            cases q
          | some y => exact ⟨y, rfl⟩
        unfold boxAt
        rw [hy]
        exact el_lst (ea_cons (ev_var rfl) ea_nil) (by show 1 ≤ 100000; decide)
      · rw [take_succ' ri, List.map_append]
        exact n3.snoc hp e4 h4
    · rintro σ' H2 ⟨v5, v6, cs, rfl, n2⟩
      rw [optL_len, List.take_of_length_le (by rw [List.length_range]; exact Nat.le_refl _)] at n2
      refine s_ret (ev_var rfl) fun H3 e3 => k pl cs H3 ?_
      unfold boxOf
      rw [List.map_map]
      exact n2.fwd e3
end
end Arr
-- text B14
set_option Elab.async false
set_option linter.unusedVariables false
set_option maxRecDepth 100000
set_option maxHeartbeats 4000000
/-! # mappings: all boxes -/
namespace Arr
open PySem PySem.Spec PyProof.Rows L2 Evl LamX NdefX
open Fc01 (from_ to_ after hom turned)
abbrev BxN := Addr × List (Addr × List Nat)
def boxN (d : BxN) : List (List Nat) := d.2.map (·.2)
/-- boxes that stand -/
def BoxesAt (H : Hp) (p : Addr) (ds : List BxN) : Prop := H p = some (.lst (refs ds)) ∧ ∀ d ∈ ds, H d.1 = some (.lst (refs d.2)) ∧ ∀ b ∈ d.2, H b.1 = some (.lst (natV b.2))
theorem BoxesAt.mono {H H' : Hp} {p : Addr} {ds : List BxN} (e : Ex H H') (h : BoxesAt H p ds) : BoxesAt H' p ds := ⟨e _ _ h.1, fun d hd => ⟨e _ _ (h.2 d hd).1, fun b hb => e _ _ ((h.2 d hd).2 b hb)⟩⟩
theorem BoxesAt.strip {H : Hp} {p : Addr} {ds : List BxN} (h : BoxesAt H p ds) : BoxesAt (strip H) p ds := ⟨strip_of h.1 (fun _ z => by cases z), fun d hd => ⟨strip_of (h.2 d hd).1 (fun _ z => by cases z), fun b hb => strip_of ((h.2 d hd).2 b hb) (fun _ z => by cases z)⟩⟩
def spBoxes (A : Ads) : Sp := fun vs H Q _ => ∃ (H0 : Hp) (a b : Addr) (ca cb : Cat), Ex H0 H ∧ vs = [.ref a, .ref b] ∧ CatK A.C 40 H0 a ca ∧ CatK A.C 40 H0 b cb ∧ NoP ca ∧ NoP cb ∧ Tabs (tabs A) H ∧
  ∀ p ds D H2, H p = none → Ex (strip H) H2 → (∀ b, H2 b = none → H b = none) → Tabs (tabs A) H2 → BoxesAt H2 p ds → Sett ca D → Closed ca (threes ca) D → ds.map boxN = boxes ca cb (threes ca) D → Q (.ref p) H2
theorem CatK.mok {C : Addr} {k : Nat} {H : Hp} {a : Addr} {c : Cat} (h : CatK C k H a c) : ∃ m, MOk k c m := by
  obtain ⟨_, _, _, _, m, _, r⟩ := h
  exact ⟨m, r⟩
theorem CatK.at {C : Addr} {H : Hp} {a : Addr} {c : Cat} (h : CatK C 40 H a c) : CatAt C H a c := h.more (by decide)
theorem fit_take {a : Cat} : ∀ (D E : List Nat) (i f : Nat), FitAll a E D → D[i]? = some f → FitAll a E (D.take i) ∧ Fit a (E ++ D.take i) f
  | [], _, i, f, _, h => by simp at h
  | x :: D, E, 0, f, hF, h => by
    have e : x = f := by simpa using h
    subst e
    refine ⟨trivial, ?_⟩
    simpa using hF.1
  | x :: D, E, i + 1, f, hF, h => by
    obtain ⟨h1, h2⟩ := fit_take D (E ++ [x]) i f hF.2 (by simpa using h)
    refine ⟨⟨hF.1, h1⟩, ?_⟩
    rw [List.append_assoc] at h2
    exact h2
theorem told3 : ∀ {l : List (List (List Nat))} {ds : List B3}, ds.map (fun d => d.2.map (·.2)) = l.map (fun bx => bx.map natV) → ∃ es : List BxN, es.map boxN = l ∧ refs es = refs ds ∧ ∀ e ∈ es, ∃ d ∈ ds, d.1 = e.1 ∧ refs e.2 = refs d.2 ∧ ∀ b ∈ e.2, (b.1, natV b.2) ∈ d.2
  | [], [], _ => ⟨[], rfl, rfl, by simp⟩
  | [], _ :: _, h => by cases h
  | _ :: _, [], h => by cases h
  | bx :: l, d :: ds, h => by
    rw [List.map_cons, List.map_cons] at h
    injection h with h1 h2
    obtain ⟨es, r1, r2, r3⟩ := told3 h2
    obtain ⟨cs, c1, c2, c3⟩ := told_by h1
    refine ⟨(d.1, cs) :: es, ?_, ?_, fun e he => ?_⟩
    · rw [List.map_cons, r1]
      show cs.map (·.2) :: l = bx :: l
      rw [c1]
    · show V.ref d.1 :: refs es = V.ref d.1 :: refs ds
      rw [r2]
    · rcases List.mem_cons.mp he with rfl | he
      · exact ⟨d, List.mem_cons_self .., rfl, c2, c3⟩
      · obtain ⟨d', hd', q⟩ := r3 e he
        exact ⟨d', List.mem_cons_of_mem _ hd', q⟩
/-! ### [] in a list of lists -/
def llD (l : List (List Nat)) : List PyData := l.map fun x => .list (natD x)
theorem shaped_ll (l : List (List Nat)) : SeqAt.shaped (.list (llD l)) = true := by
  have n1 : ∀ l : List Nat, PyData.canLayAll0 (natD l) = true := by
    intro l
    induction l with
    | nil => rfl
    | cons n r ih =>
      show (PyData.canLay0 (.int (n : Int)) && PyData.canLayAll0 (natD r)) = true
      rw [ih]
      rfl
  have n2 : ∀ l : List Nat, PyData.depthAll (natD l) = 0 := by
    intro l
    induction l with
    | nil => rfl
    | cons n r ih =>
      show max (PyData.depth (.int (n : Int))) (PyData.depthAll (natD r)) = 0
      rw [ih]
      rfl
  have h1 : ∀ l : List (List Nat), PyData.canLayAll0 (llD l) = true := by
    intro l
    induction l with
    | nil => rfl
    | cons x r ih =>
      show (PyData.canLay0 (.list (natD x)) && PyData.canLayAll0 (llD r)) = true
      rw [ih, Bool.and_true]
      exact n1 x
  have h2 : ∀ l : List (List Nat), PyData.depthAll (llD l) ≤ 1 := by
    intro l
    induction l with
    | nil => exact Nat.zero_le _
    | cons x r ih =>
      show max (PyData.depthAll (natD x) + 1) (PyData.depthAll (llD r)) ≤ 1
      rw [n2]
      omega
  unfold SeqAt.shaped
  show (PyData.canLayAll0 (llD l) && decide (PyData.depthAll (llD l) + 1 ≤ 64)) = true
  rw [h1, Bool.true_and, decide_eq_true_eq]
  have := h2 l
  omega
theorem any_empty (l : List (List Nat)) : (!(llD l).any fun z => PyData.eqv z (.list [])) = whole l := by
  induction l with
  | nil => rfl
  | cons x r ih =>
    show (!(PyData.eqv (.list (natD x)) (.list []) || (llD r).any fun z => PyData.eqv z (.list []))) = (!x.isEmpty && whole r)
    rw [Bool.not_or, ih]
    congr 1
    cases x <;> rfl
theorem dp_ll {K : PySem.W.Frag} {H : Hp} : ∀ {bs : List (Addr × List Nat)}, (∀ b ∈ bs, H b.1 = some (.lst (natV b.2))) → DpAll K H (refs bs) (llD (bs.map (·.2)))
  | [], _ => DpAll.nil
  | b :: bs, h => DpAll.cons (Dp.lst (sq_of (h b (List.mem_cons_self ..))) dp_nats) (dp_ll fun c hc => h c (List.mem_cons_of_mem _ hc))
theorem rep_non (n : Nat) : (List.replicate ((n : Int)).toNat [V.non]).flatten = optL (List.replicate n none) := by
  unfold optL
  rw [List.map_replicate, show ((n : Int)).toNat = n by omega]
  simp [optV]
theorem hu65 {Ar : Around} {k : Nat} (hr : Room k Ar) : Ar.units + 65 < cLine := by
  have := hr.un
  omega
section
variable {P : Program} {w : World} {K : PySem.W.Frag} {mg : Str → Option Value} {base : Heap} {A : Ads} {σ : L2.St} {H : Hp} {ta tb td te tf tg : TE} {a : Addr} {c : Cat} {E : XK} {D : Ends} {tu tz : TS} {i j : Nat}
theorem ev_whole {d : BxN} (h : Ev tb σ H (.ref d.1)) (h1 : H d.1 = some (.lst (refs d.2))) (h2 : ∀ b ∈ d.2, H b.1 = some (.lst (natV b.2))) : Ev (tOp (rNotInD K) (tLst tNil) tb) σ H (.bl (whole (boxN d))) :=
  ev_opL1 (xs := []) (el_lst ea_nil (by show 0 ≤ 100000; decide)) (fun H1 e1 => h.mono e1) fun p H1 hp e1 => fun H2 e2 Q q => by
    refine ⟨.list [], llD (boxN d), Dp.lst (sq_of (e2 _ _ hp)) DpAll.nil, Dp.lst (sq_of (e2 _ _ (e1 _ _ h1))) (dp_ll fun b hb => e2 _ _ (e1 _ _ (h2 b hb))), rfl, shaped_ll _, ?_⟩
    rw [any_empty]
    exact q H2 (Ex.refl H2)
theorem q_threes (hc : CatAt A.C H a c) (np : NoP c) (h : Ev ta σ H (.ref a)) (k : ∀ p H2, Gt H p (threes c) H2 → tz D (σ.set i (some (.ref p))) H2) : tSeq (tAsg (tCall (spThrees A.C) [] E (tCons ta tNil)) (gName i)) tz D σ H :=
  h H (Ex.refl H) _ fun H1 e1 => ⟨H, a, c, e1, rfl, hc, np, fun p H2 g => k p H2 ⟨fresh_back e1 g.fr, e1.trans g.ex, by
    obtain ⟨bs, b1, b2, b3⟩ := g.at_
    exact ⟨bs, b1, b2, fun b hb => ⟨fresh_back e1 (b3 b hb).1, (b3 b hb).2⟩⟩⟩⟩
/-- x = [[None] * n] -/
theorem q_rows0 {n : Nat} (h : Ev ta σ H (.int (n : Int))) (hn : n ≤ 100000) (k : ∀ p r H2, H p = none → Ex H H2 → RowsAt H2 p [(r, List.replicate n none)] → tz D (σ.set i (some (.ref p))) H2) :
    tSeq (tAsg (tLst (tCons (tOp rRep (tLst (tCons (tC .non) tNil)) ta) tNil)) (gName i)) tz D σ H := by
  have h0 : EvL (tOp rRep (tLst (tCons (tC .non) tNil)) ta) σ H (optL (List.replicate n none)) := fun H1 e1 Q q =>
    (el_lst (ea_cons (ev_c (v := .non)) ea_nil) (by show 1 ≤ 100000; decide)) H1 e1 _ fun p H2 hp e2 h2 => h H2 (e1.trans e2) _ fun H3 e3 => by
      have sl : sizeLine = 16777216 := rfl
      refine ⟨p, n, [.non], rfl, rfl, e3 _ _ h2, by omega, by omega, by show 1 * ((n : Int)).toNat ≤ sizeLine; omega, fun r hr => ?_⟩
      rw [rep_non]
      exact q r _ (fresh_back (e2.trans e3) hr) ((e2.trans e3).trans (Ex.new hr)) upd_same
  refine h0 H (Ex.refl H) _ fun r H1 hr e1 h1 => ⟨by show 1 ≤ sizeLine; decide, fun p hp => k p r _ (fresh_back e1 hp) (e1.trans (Ex.new hp)) ⟨upd_same, fun x hx => ?_⟩⟩
  rw [List.mem_singleton.mp hx, upd_ne (ne_of_none h1 hp)]
  exact h1
/-- for x in settled_first(s, ts) -/
theorem q_forSett {p : Addr} {bs : List (Addr × T3)} {i0 i1 : Nat} (s0 : σ[i0]? = some (some (.ref a))) (s1 : σ[i1]? = some (some (.ref p))) (hc : CatAt A.C H a c) (np : NoP c) (hB : ThreesAt H p bs) (hbs : bs.map (·.2) = threes c) (hT : Tabs (tabs A) H) (Pv : Addr → List Nat → Nat → L2.St → Hp → Prop)
    (h0 : ∀ q Dd H2, H q = none → Ex (strip H) H2 → (∀ b, H2 b = none → H b = none) → Tabs (tabs A) H2 → H2 q = some (.lst (natV Dd)) → Sett c Dd → Closed c (threes c) Dd → Pv q Dd 0 σ H2) (hl : ∀ q Dd i σ' H', Pv q Dd i σ' H' → SqL K H' q (natV Dd))
    (hs : ∀ q Dd i f σ' H', Dd[i]? = some f → Pv q Dd i σ' H' → tu { D with nx := Pv q Dd (i + 1), ct := Pv q Dd (i + 1), bk := tz D } (σ'.set j (some (.int ((f : Nat) : Int)))) H') (hd : ∀ q Dd σ' H', Pv q Dd Dd.length σ' H' → tz D σ' H') :
    tSeq (tFor (iList K (tCall (spSett A) [] E (tCons (tVar i0) (tCons (tVar i1) tNil)))) (gName j) tu) tz D σ H :=
  ⟨_, s0, _, s1, H, a, p, c, bs, Ex.refl H, rfl, hc, np, hB, hbs, hT, fun q Dd H2 hq e2 nn t2 h2 sD cD => ⟨q, rfl, ⟨_, sq_of h2⟩, for_list (D := { D with nx := tz D }) (xs := natV Dd) (Pv q Dd) (h0 q Dd H2 hq e2 nn t2 h2 sD cD) (fun i σ' H' _ p => hl q Dd i σ' H' p) (fun i x σ' H' hi p => by
    obtain ⟨f, hf, rfl⟩ := map_at (e := fun (n : Nat) => V.int (n : Int)) hi
    exact hs q Dd i f σ' H' hf p) fun σ' H' p => hd q Dd σ' H' (by
      have e : (natV Dd).length = Dd.length := List.length_map ..
      rw [e] at p
      exact p)⟩⟩
theorem ok_boxes_of (T : Txt K mg A) (B : Tbs base mg A) : FnOk P w K mg base CX0 6 A.f_boxes_of A.d_boxes_of ["source", "target"] (spBoxes A) := by
  refine T.F_boxes_of.ok sc_boxes_of (fun vs H Q E h => ?_) (fun cdv Ar outer s H vs Q E hr h => ⟨_, (pss_cons (ps_set (i := 2) sc_boxes_of.nd rfl (Or.inr rfl) (pe_call (ok_made_threes T) (hr.mono (by decide)) rfl T.g_made_threes T.F_made_threes.kp T.bd_made_threes .nil pass0 (pa_cons (pv 0) pa_nil)))
    (pss_cons (ps_set (i := 3) sc_boxes_of.nd rfl (Or.inl rfl) (pe_lst (pa_cons (pe_op op_rep (pe_lst (pa_cons pe_non pa_nil)) (pe_meth0 (pv 0) T.cl T.m_arrow_count (ok_arrow_count T) (hr.mono (by decide)) T.bd_arrow_count .nil pass0)) pa_nil)))
    (pss_cons (ps_for PassesOwn.never rfl (piListK (K := K) rfl (pe_call (ok_settled_first T B) (hr.mono (by decide)) rfl T.g_settled_first T.F_settled_first.kp T.bd_settled_first .nil pass0 (pa_cons (pv 0) (pa_cons (pv 2) pa_nil)))) (pg_name (i := 4) sc_boxes_of.nd rfl (Or.inl rfl))
    (pss_one (ps_set (i := 3) sc_boxes_of.nd rfl (Or.inl rfl) (pe_call (ok_settle T) (hr.mono (by decide)) rfl T.g_settle T.F_settle.kp T.bd_settle .nil pass0 (pa_cons (pv 0) (pa_cons (pv 1) (pa_cons (pv 2) (pa_cons (pv 4) (pa_cons (pv 3) pa_nil)))))))))
    (pss_cons (ps_setLc (i := 5) (own := [("where", 6)]) (g := gName 6) (tt := tYes) rfl sc_boxes_of.nd rfl rfl (sw_true rfl rfl rfl (by decide +kernel)) (piListK (K := K) rfl (pv 3)) (blkOk_by (own := [("where", 6)]) (N := ["source", "target", "threes", "rows", "f", "boxes", "where", "box"]) (sc := defScope s_boxes_of) (by decide +kernel)) (fun _ _ _ _ _ => pg_name (i := 6) sc_boxes_of.nd rfl (Or.inl rfl)) (fun _ _ _ _ _ => pts_nil) (fun _ _ _ _ _ => (pe_call (ok_box_of T) (hr.mono (by decide)) rfl T.g_box_of T.F_box_of.kp T.bd_box_of .nil pass0 (pa_cons (pv 0) (pa_cons (pv 1) (pa_cons (pv 2) (pa_cons (pv 6) pa_nil)))))))
    (pss_one (ps_ret (pe_lc (own := [("box", 7)]) (g := gName 7)  rfl sc_boxes_of.nd (piListK (K := K) rfl (pv 5)) (blkOk_by (own := [("box", 7)]) (N := ["source", "target", "threes", "rows", "f", "boxes", "where", "box"]) (sc := defScope s_boxes_of) (by decide +kernel)) (fun _ _ _ _ _ => pg_name (i := 7) sc_boxes_of.nd rfl (Or.inl rfl)) (fun _ _ _ _ _ => (pts_one (pt_cmpR (notInDK (K := K) rfl (hu65 hr)) (pe_lst pa_nil) (pv 7) rfl))) (fun _ _ _ _ _ => (pv 7))))))))), ?_⟩)
  · obtain ⟨_, _, _, _, _, _, rfl, _⟩ := h
    rfl
  · obtain ⟨H0, a, b, ca, cb, e, rfl, ka, kb, na, nb, hT, k⟩ := h
    obtain ⟨ma, oka⟩ := ka.mok
    obtain ⟨mb, okb⟩ := kb.mok
    have ha := (ka.at.mono e).strip
    have hb := (kb.at.mono e).strip
    have wa := ha.wf
    have wb := hb.wf
    have l9 := wa.l9
    refine q_threes (ha.mono (ex_strip H)) na (ev_var rfl) fun pt H1 g1 => ?_
    obtain ⟨bs, hbs, b2, b3⟩ := g1.at_
    have bl : bs.length ≤ 81 := by
      have := threes_len wa
      rw [← hbs, List.length_map] at this
      exact this
    have hB1 : ThreesAt H1 pt bs := ⟨b2, fun x hx => (b3 x hx).2.2⟩
    refine q_rows0 (ev_arrow_count (ha.mono (Ex.N g1.ex)) (ev_var rfl)) (by omega) fun pr r0 H2 hpr e2 hR2 => ?_
    have e02 := g1.ex.trans e2
    refine q_forSett (A := A) (i0 := 0) (i1 := 2) (c := ca) rfl rfl (ha.mono (Ex.N e02)) na (hB1.mono e2) hbs (hT.ext e02)
      (fun q D i σ' H' => ∃ pr rs v4, σ' = [some (.ref a), some (.ref b), some (.ref pt), some (.ref pr), v4, none, none, none] ∧ Sett ca D ∧ Closed ca (threes ca) D ∧ H' q = some (.lst (natV D)) ∧ Ex (strip H) H' ∧ (∀ b, H' b = none → H b = none) ∧ Tabs (tabs A) H' ∧ ThreesAt H' pt bs ∧ RowsAt H' pr rs ∧
        rs.map (·.2) = (D.take i).foldl (settleL ca cb (threes ca)) [List.replicate ca.arrows.length none])
      (fun q D H3 hq e3 nn3 t3 h3 sD cD => ⟨pr, _, none, rfl, sD, cD, h3, exN_trans (Ex.N e02) e3, fun b hb => fresh_back e02 (nn3 b hb), t3, (hB1.mono e2).strip.mono e3, ⟨e3 _ _ (strip_of hR2.1 (fun _ z => by cases z)), fun r hr => e3 _ _ (strip_of (hR2.2 r hr) (fun _ z => by cases z))⟩, rfl⟩)
      (fun q D i σ' H' ⟨_, _, _, _, _, _, h, _⟩ => sq_of h) ?_ ?_
    · rintro q D i f σ' H3 hf ⟨pr, rs, v4, rfl, sD, cD, h3, e3, nn3, t3, hB3, hR3, hrs⟩
      obtain ⟨fA, ft⟩ := fit_take D [] i f (sD.fit wa) hf
      rw [List.nil_append] at ft
      have RA := rows_all (b := cb) (ts := threes ca) wa (D.take i) [] _ fA (rows_start ca cb (threes ca))
      rw [List.nil_append, ← hrs] at RA
      have step : settleL ca cb (threes ca) (rs.map (·.2)) f = (D.take (i + 1)).foldl (settleL ca cb (threes ca)) [List.replicate ca.arrows.length none] := by
        rw [take_succ' hf, List.foldl_append, hrs]
        rfl
      have big : (settleL ca cb (threes ca) (rs.map (·.2)) f).length ≤ sizeLine := by
        rw [step]
        have := rows_le (ts := threes ca) okb (Nat.le_refl _) nb oka (Nat.le_refl _) na sD (i + 1)
        have sl : sizeLine = 16777216 := rfl
        omega
      refine s_asgLL (ell_fn (ea_cons (ev_var rfl) (ea_cons (ev_var rfl) (ea_cons (ev_var rfl) (ea_cons (ev_var rfl) (ea_cons (ev_var rfl) ea_nil))))) (spLL_go (R := R_settle A.C) ⟨a, b, pt, pr, ca, cb, bs, rs, f, rfl, ha.mono e3, hb.mono e3, hB3, bl, hR3, fun r hr => by
        rw [hbs]
        exact canC_of wa na ((RA.mem r.2).mp (List.mem_map.mpr ⟨r, hr, rfl⟩)) ft, by rw [hbs]; exact big, rfl⟩)) fun p cs H4 n4 => ?_
      rw [hbs, step] at n4
      obtain ⟨rs2, r1, r2, r3⟩ := told_by n4.2.2.1
      refine ⟨p, rs2, _, rfl, sD, cD, n4.2.1 _ _ h3, e3.trans n4.2.1, fun b hb => nn3 b (fresh_back n4.2.1 hb), t3.ext n4.2.1, hB3.mono n4.2.1, ⟨by rw [r2]; exact n4.2.2.2.1, fun r hr => (n4.2.2.2.2 _ (r3 r hr)).2.2⟩, r1⟩
    · rintro q D σ' H3 ⟨pr, rs, v4, rfl, sD, cD, h3, e3, nn3, t3, hB3, hR3, hrs⟩
      rw [List.take_length] at hrs
      have hrs : rs.map (·.2) = rowsOf ca cb (threes ca) D := hrs
      have RA := sD.rows (b := cb) (ts := threes ca) wa
      rw [← hrs] at RA
      have rl : rs.length ≤ 13176688 := by
        have := rows_le (ts := threes ca) okb (Nat.le_refl _) nb oka (Nat.le_refl _) na sD D.length
        rw [List.take_length] at this
        rw [← List.length_map (f := fun r : Addr × W => r.2), hrs]
        exact this
      have sl : sizeLine = 16777216 := rfl
      refine q_asgL3 (el3_mapL (K := K) (en := fun r : Addr × W => V.ref r.1) (l := rs) (fun r => (boxOf ca cb (threes ca) r.2).map natV) (ev_var rfl) (sq_of hR3.1) (by omega) (fun _ => rfl) fun r hr H4 e4 => ell_fn (ea_cons (ev_var rfl) (ea_cons (ev_var rfl) (ea_cons (ev_var rfl) (ea_cons (ev_var rfl) ea_nil)))) (spLL_go (R := R_box A.C) ⟨a, b, pt, r.1, ca, cb, bs, r.2, rfl, ha.mono (e3.trans e4), hb.mono (e3.trans e4), hB3.mono e4, bl, e4 _ _ (hR3.2 r hr), ((RA.mem r.2).mp (List.mem_map.mpr ⟨r, hr, rfl⟩)).len, fun f lf hf => by
          have g := (RA.mem r.2).mp (List.mem_map.mpr ⟨r, hr, rfl⟩)
          have nf : ¬ f ∈ D := fun z => by
            have := (g.dom f).mpr z
            rw [hf] at this
            cases this
          rw [hbs]
          exact canC_of wa na g ⟨nf, lf, fun z => (nf (cD.thing f z)).elim, fun _ => cD.thing⟩, by rw [hbs]⟩)) fun pb ds H4 n4 => ?_
      obtain ⟨m1, m2, m3, m4, m5⟩ := n4
      have m3' : ds.map (fun d => d.2.map (·.2)) = ((rs.map (·.2)).map (boxOf ca cb (threes ca))).map fun bx => bx.map natV := by
        rw [m3, List.map_map, List.map_map]
        rfl
      obtain ⟨es, r1, r2, r3⟩ := told3 m3'
      have at4 : ∀ x ∈ es, H4 x.1 = some (.lst (refs x.2)) ∧ ∀ b ∈ x.2, H4 b.1 = some (.lst (natV b.2)) := fun x hx => by
        obtain ⟨d, hd, d1, d2, d3⟩ := r3 x hx
        rw [← d1, d2]
        exact ⟨(m5 d hd).1.2.2, fun b hb => ((m5 d hd).2 _ (d3 b hb)).2.2⟩
      have el : es.length ≤ sizeLine := by
        have := congrArg List.length r1
        rw [List.length_map, List.length_map, List.length_map] at this
        omega
      have e34 := e3.trans m2
      refine s_retL (el_compLB (K := K) (en := fun d : BxN => V.ref d.1) (l := es) (fun d => whole (boxN d)) (fun d => V.ref d.1) (ev_var rfl) (sq_of (by rw [show es.map (fun d : BxN => V.ref d.1) = refs es from rfl, r2]; exact m4)) el (fun _ => rfl)
        (fun d hd H5 e5 => et_test (ev_whole (ev_var rfl) (e5 _ _ (at4 d hd).1) fun b hb => e5 _ _ ((at4 d hd).2 b hb))) (fun d hd H5 e5 _ => ev_var rfl)) fun p H5 hp e5 h5 => ?_
      refine k p (es.filter fun d => whole (boxN d)) D H5 (nn3 p (fresh_back m2 hp)) (e34.trans e5) (fun b hb => nn3 b (fresh_back (m2.trans e5) hb)) (t3.ext (m2.trans e5)) ⟨h5, fun d hd => ?_⟩ sD cD ?_
      · have hd := (List.mem_filter.mp hd).1
        exact ⟨e5 _ _ (at4 d hd).1, fun b hb => e5 _ _ ((at4 d hd).2 b hb)⟩
      · unfold boxes
        rw [← hrs, ← r1, List.filter_map]
        rfl
end
end Arr
-- text S10
set_option Elab.async false
set_option linter.unusedVariables false
/-! # the specification's own side: a box's mappings one by one; the k-th -/
namespace Arr
open Fc01 (from_ to_ after hom)
def stepP (rows : List (List Nat)) (p : List Nat) : List (List Nat) := rows.flatMap fun r => p.map fun y => r ++ [y]
theorem bfs_flat : ∀ (bx : List (List Nat)) (R : List (List Nat)), bx.foldl stepP R = R.flatMap fun r => (prodR bx).map (r ++ ·)
  | [], R => by
    show R = R.flatMap fun r => [r ++ []]
    simp
  | p :: bx, R => by
    rw [List.foldl_cons, bfs_flat bx]
    unfold stepP
    rw [List.flatMap_assoc]
    congr 1
    funext r
    show (p.map fun y => r ++ [y]).flatMap (fun r => (prodR bx).map (r ++ ·)) = (p.flatMap fun y => (prodR bx).map (y :: ·)).map (r ++ ·)
    rw [List.flatMap_map, List.map_flatMap]
    congr 1
    funext y
    rw [List.map_map]
    congr 1
    funext z
    simp
def bfs (bx : List (List Nat)) : List (List Nat) := bx.foldl stepP [[]]
theorem bfs_is (bx : List (List Nat)) : bfs bx = prodR bx := by
  unfold bfs
  rw [bfs_flat]
  simp
theorem wy_app (l r : List (List Nat)) : wy (l ++ r) = wy l * wy r := by
  unfold wy
  rw [List.foldl_append, foldl_mul]
  rfl
theorem wy_pos : ∀ {l : List (List Nat)}, whole l = true → 1 ≤ wy l
  | [], _ => Nat.le_refl _
  | p :: l, h => by
    have h : (!p.isEmpty && whole l) = true := h
    rw [Bool.and_eq_true] at h
    rw [wy_cons]
    have := wy_pos h.2
    cases p with
    | nil => cases h.1
    | cons x r => exact Nat.mul_pos (by simp) this
theorem whole_drop {l : List (List Nat)} (h : whole l = true) (i : Nat) : whole (l.drop i) = true := by
  unfold whole at *
  rw [List.all_eq_true] at *
  exact fun x hx => h x (List.mem_of_mem_drop hx)
theorem bfs_take_le {bx : List (List Nat)} (h : whole bx = true) (i : Nat) : (bfs (bx.take i)).length ≤ (prodR bx).length := by
  rw [bfs_is, prodR_len, prodR_len]
  have e : wy bx = wy (bx.take i) * wy (bx.drop i) := by rw [← wy_app, List.take_append_drop]
  rw [e]
  exact Nat.le_mul_of_pos_right _ (wy_pos (whole_drop h i))
theorem wy_le : ∀ {l : List (List Nat)}, (∀ p ∈ l, p.length ≤ 9) → wy l ≤ 9 ^ l.length
  | [], _ => Nat.le_refl _
  | p :: l, h => by
    rw [wy_cons, List.length_cons, Nat.pow_succ, Nat.mul_comm]
    exact Nat.mul_le_mul (wy_le fun q hq => h q (List.mem_cons_of_mem _ hq)) (h p (List.mem_cons_self ..))
theorem ways2_snoc (l : List (List (List Nat))) (x : List (List Nat)) (f : Nat) : ways2 (l ++ [x]) f = ways2 l f + wy (x.drop f) := by
  unfold ways2
  rw [List.foldl_append]
  rfl
/-- the boxes bs stand for the sorted list S -/
structure Stands (bs : List (List (List Nat))) (n : Nat) (S : List (List Nat)) : Prop where
  nd : ∀ bx ∈ bs, (∀ l ∈ bx, l.Nodup) ∧ bx.length = n
  lt : ∀ bx ∈ bs, ∀ l ∈ bx, ∀ y ∈ l, y < 9
  n9 : n ≤ 9
  all : (bs.flatMap prodR).Nodup
  srt : S.Pairwise fun x y => llt x y = true
  mem : ∀ m, m ∈ bs.flatMap prodR ↔ m ∈ S
theorem Stands.len9 {bs : List (List (List Nat))} {n : Nat} {S : List (List Nat)} (h : Stands bs n S) : ∀ bx ∈ bs, ∀ l ∈ bx, l.length ≤ 9 := fun bx hb l hl => by
  have := sub_len (l' := List.range 9) ((h.nd bx hb).1 l hl) fun y hy => List.mem_range.mpr (h.lt bx hb l hl y hy)
  rw [List.length_range] at this
  exact this
theorem Stands.mlen {bs : List (List (List Nat))} {n : Nat} {S : List (List Nat)} (h : Stands bs n S) : ∀ m ∈ S, m.length = n ∧ ∀ (i y : Nat), m[i]? = some y → y < 9 := fun m hm => by
  obtain ⟨bx, hb, hm⟩ := List.mem_flatMap.mp ((h.mem m).mpr hm)
  obtain ⟨h1, h2⟩ := inP_iff.mp (mem_prodR.mp hm)
  refine ⟨by rw [h1, (h.nd bx hb).2], fun i y hy => ?_⟩
  have li : i < bx.length := by
    have := (List.getElem?_eq_some_iff.mp hy).1
    omega
  exact h.lt bx hb bx[i] (List.getElem_mem li) y (h2 i y bx[i] hy (List.getElem?_eq_getElem li))
theorem Stands.count {bs : List (List (List Nat))} {n : Nat} {S : List (List Nat)} (h : Stands bs n S) {p : List Nat} (hp : p.length ≤ n) : ways2 (bs.filter (fitsB p)) p.length = (S.filter (pre p)).length := by
  rw [ways_pre h.nd hp]
  exact same_count _ h.all (sorted_nodup h.srt) h.mem
theorem Stands.total {bs : List (List (List Nat))} {n : Nat} {S : List (List Nat)} (h : Stands bs n S) : ways2 bs 0 = S.length := by
  have q := h.count (p := []) (Nat.zero_le _)
  have e1 : bs.filter (fitsB []) = bs := List.filter_eq_self.mpr fun x _ => by cases x <;> rfl
  have e2 : S.filter (pre []) = S := List.filter_eq_self.mpr fun x _ => by simp [pre]
  rw [e1, e2] at q
  exact q
theorem Stands.sorted {bs : List (List (List Nat))} {n : Nat} {S l : List (List Nat)} (h : Stands bs n S) (hp : l.Perm (bs.flatMap prodR)) (hs : l.Pairwise fun x y => llt y x = false) : l = S :=
  sorted_uniq hs (hp.nodup_iff.mpr h.all) h.srt fun x => by rw [hp.mem_iff, h.mem x]
theorem fits_filter {bs : List (List (List Nat))} {n g : Nat} {p : List Nat} (hn : ∀ bx ∈ bs, bx.length = n) (hp : p.length < n) : (bs.filter (fitsB p)).filter (fun bx => decide (g ∈ bx.getD p.length [])) = bs.filter (fitsB (p ++ [g])) := by
  rw [List.filter_filter]
  refine List.filter_congr fun bx hb => ?_
  rw [fits_snoc p g bx (by rw [hn bx hb]; exact hp), Bool.and_comm]
/-- all mappings of two categories, by the boxes -/
theorem stands_maps {a b : Cat} {D : List Nat} (wa : Wf a) (wb : Wf b) (na : NoP a) (sD : Sett a D) (cD : Closed a (threes a) D) : Stands (boxes a b (threes a) D) a.arrows.length (Fc01.maps a b) := by
  have R := sD.rows (b := b) (ts := threes a) wa
  have AI := all_in wa cD R
  have ofB : ∀ bx ∈ boxes a b (threes a) D, ∃ w, Good a b (threes a) D w ∧ bx = boxOf a b (threes a) w := fun bx hb => by
    obtain ⟨h1, _⟩ := List.mem_filter.mp hb
    obtain ⟨w, hw, rfl⟩ := List.mem_map.mp h1
    exact ⟨w, (R.mem w).mp hw, rfl⟩
  refine ⟨fun bx hb => ?_, fun bx hb l hl y hy => ?_, wa.l9, AI.nd, maps_sorted a b, fun m => by rw [AI.mem, mem_maps wa wb na]; rfl⟩
  · obtain ⟨w, g, rfl⟩ := ofB bx hb
    refine ⟨boxOf_nodup, ?_⟩
    unfold boxOf
    rw [List.length_map, List.length_range, g.len]
  · obtain ⟨w, g, rfl⟩ := ofB bx hb
    obtain ⟨f, hf, rfl⟩ := List.mem_map.mp hl
    have l9 := wb.l9
    unfold boxAt at hy
    cases q : wat w f with
    | none =>
      rw [q] at hy
      have := chs_lt (ts := []) wb (List.mem_filter.mp hy).1
      omega
    | some z =>
      rw [q] at hy
      rw [List.mem_singleton.mp hy]
      have := chs_lt (ts := []) wb (g.cnd f z q)
      omega
theorem boxes_whole {a b : Cat} {ts : List T3} {D : List Nat} : ∀ bx ∈ boxes a b ts D, whole bx = true := fun bx hb => (List.mem_filter.mp hb).2
theorem boxes_le {a b : Cat} {ts : List T3} {m m' : Mm} {k k' : Nat} (hm : MOk k b m) (hk : k ≤ 40) (np : NoP b) (hm' : MOk k' a m') (hk' : k' ≤ 40) (np' : NoP a) {D : List Nat} (h : Sett a D) : (boxes a b ts D).length ≤ 13176688 := by
  unfold boxes
  refine Nat.le_trans (List.length_filter_le _ _) ?_
  rw [List.length_map]
  have := rows_le (ts := ts) hm hk np hm' hk' np' h D.length
  rw [List.take_length] at this
  exact this
end Arr
-- text B15
set_option Elab.async false
set_option linter.unusedVariables false
set_option maxRecDepth 100000
set_option maxHeartbeats 4000000
/-! # mappings: how many, which -/
namespace Arr
open PySem PySem.Spec PyProof.Rows L2 Evl LamX NdefX
open Fc01 (from_ to_ after hom turned)
theorem cut_from (xs : List V) (n : Nat) : cutV xs (some (n : Int)) none = xs.drop n := by
  unfold cutV
  rw [HT.sIx_nat]
  show (xs.drop (min n xs.length)).take (xs.length - min n xs.length) = _
  by_cases h : n ≤ xs.length
  · rw [Nat.min_eq_left h, List.take_of_length_le (by rw [List.length_drop]; exact Nat.le_refl _)]
  · rw [Nat.min_eq_right (by omega), List.drop_eq_nil_of_le (Nat.le_refl _), List.drop_eq_nil_of_le (by omega)]
    simp
theorem refs_drop {α : Type} (l : List (Addr × α)) (n : Nat) : (refs l).drop n = refs (l.drop n) := by
  unfold refs
  rw [List.map_drop]
def R_ways : List V → Hp → V → Prop := fun vs H v => ∃ (p : Addr) (ds : List BxN) (f : Nat), vs = [.ref p, .int (f : Int)] ∧ BoxesAt H p ds ∧ (∀ d ∈ ds, ∀ l ∈ boxN d, l.length ≤ 9) ∧ v = .int (ways2 (ds.map boxN) f : Int)
def R_count : List V → Hp → V → Prop := fun vs H v => ∃ (p : Addr) (ds : List BxN), vs = [.ref p] ∧ BoxesAt H p ds ∧ (∀ d ∈ ds, ∀ l ∈ boxN d, l.length ≤ 9) ∧ v = .int (ways2 (ds.map boxN) 0 : Int)
def R_bwith : List V → Hp → List V → Prop := fun vs H xs => ∃ (p : Addr) (ds : List BxN) (f g : Nat), vs = [.ref p, .int (f : Int), .int (g : Int)] ∧ BoxesAt H p ds ∧ ds.length ≤ sizeLine ∧ (∀ d ∈ ds, f < d.2.length) ∧ xs = refs (ds.filter fun d => decide (g ∈ (boxN d).getD f []))
def R_mapat : List V → Hp → List V → Prop := fun vs H xs => ∃ (p : Addr) (ds : List BxN) (k n : Nat) (S : List (List Nat)) (m : List Nat), vs = [.ref p, .int (k : Int)] ∧ BoxesAt H p ds ∧ ds.length ≤ sizeLine ∧ Stands (ds.map boxN) n S ∧ S[k]? = some m ∧ xs = natV m
/-- one box -/
def BxAt (H : Hp) (p : Addr) (cs : List (Addr × List Nat)) : Prop := H p = some (.lst (refs cs)) ∧ ∀ c ∈ cs, H c.1 = some (.lst (natV c.2))
theorem BxAt.mono {H H' : Hp} {p : Addr} {cs : List (Addr × List Nat)} (e : Ex H H') (h : BxAt H p cs) : BxAt H' p cs := ⟨e _ _ h.1, fun c hc => e _ _ (h.2 c hc)⟩
def R_mapsin : List V → Hp → List (List V) → Prop := fun vs H xss => ∃ (p : Addr) (cs : List (Addr × List Nat)), vs = [.ref p] ∧ BxAt H p cs ∧ whole (cs.map (·.2)) = true ∧ cs.length ≤ 9 ∧ (prodR (cs.map (·.2))).length ≤ 2000 ∧ xss = (prodR (cs.map (·.2))).map natV
def R_allmaps : List V → Hp → List (List V) → Prop := fun vs H xss => ∃ (p : Addr) (ds : List BxN) (n : Nat) (S : List (List Nat)), vs = [.ref p] ∧ BoxesAt H p ds ∧ Stands (ds.map boxN) n S ∧ (∀ d ∈ ds, whole (boxN d) = true) ∧ S.length ≤ 2000 ∧ xss = S.map natV
section
variable {P : Program} {w : World} {K : PySem.W.Frag} {mg : Str → Option Value} {base : Heap} {A : Ads} {σ : L2.St} {H : Hp} {ta tb td te tf tg : TE} {a : Addr} {c : Cat} {E : XK} {D : Ends} {tu tz : TS} {i j : Nat}
/-- f(a new list, ..) -/
theorem ev_fnL1 {sp : Sp} {xs vs : List V} {z : V} {tr : TA} (h : EvL te σ H xs) (hr : EvA tr σ H vs) (hs : ∀ p H1, Ex H H1 → H1 p = some (.lst xs) → SpV sp (.ref p :: vs) H1 z) : Ev (tCall sp [] E (tCons te tr)) σ H z := fun H1 e Q q =>
  h H1 e _ fun p H2 hp e2 h2 => hr H2 (e.trans e2) _ fun H3 e3 => by
    show sp ((.ref p :: vs) ++ []) H3 Q E
    rw [List.append_nil]
    exact hs p H3 ((e.trans e2).trans e3) (e3 _ _ h2) H3 (Ex.refl H3) Q (fun H4 e4 => q H4 ((e2.trans e3).trans e4)) E
/-- a list that stands + a new one -/
theorem el_cat2 {b : Addr} {xs ys : List V} (ha : Ev ta σ H (.ref b)) (hl : H b = some (.lst xs)) (hb : EvL tb σ H ys) (hz : xs.length + ys.length ≤ 100000) : EvL (tOp rCat ta tb) σ H (xs ++ ys) := fun H1 e Q q =>
  ha H1 e _ fun H2 e2 => hb H2 (e.trans e2) _ fun p H3 hp e3 h3 => ⟨b, p, xs, ys, rfl, rfl, ((e.trans e2).trans e3) b _ hl, h3, sz_of hz, fun r hr => q r _ (fresh_back (e2.trans e3) hr) ((e2.trans e3).trans (Ex.new hr)) upd_same⟩
theorem ok_ways_from (T : Txt K mg A) : FnOk P w K mg base CX0 1 A.f_ways_from A.d_ways_from ["boxes", "f"] (spV R_ways) := by
  refine T.F_ways_from.ok sc_ways_from (fun vs H Q E h => ?_) (fun cdv B outer s H vs Q E hr h => ⟨_, (pss_cons (ps_set (i := 2) sc_ways_from.nd rfl (Or.inl rfl) pe_int)
    (pss_cons (ps_for PassesOwn.never rfl (piListK (K := K) rfl (pv 0)) (pg_name (i := 3) sc_ways_from.nd rfl (Or.inl rfl))
    (pss_cons (ps_set (i := 4) sc_ways_from.nd rfl (Or.inl rfl) pe_int)
    (pss_cons (ps_for PassesOwn.never rfl (piListK (K := K) rfl (pe_slice (slListK (K := K) rfl) (pv 3) (po_some (pv 1)) po_none)) (pg_name (i := 5) sc_ways_from.nd rfl (Or.inl rfl))
    (pss_one (ps_set (i := 4) sc_ways_from.nd rfl (Or.inl rfl) (pe_op op_mul (pv 4) (pe_callB (lenK (K := K) rfl) (by rfl) T.b_len PySem.boot_len (pa_cons (pv 5) pa_nil))))))
    (pss_one (ps_aug (i := 2) sc_ways_from.nd rfl (Or.inl rfl) (pv 4) ip_add)))))
    (pss_one (ps_ret (pv 2))))), ?_⟩)
  · obtain ⟨_, _, _, ⟨_, _, _, rfl, _⟩, _⟩ := h
    rfl
  · obtain ⟨H0, v, e, ⟨p, ds, f, rfl, hB, l9, rfl⟩, k⟩ := h
    have hB := hB.mono e
    refine q_asg ev_c fun H1 e1 => ?_
    refine q_forLn (ev_var rfl) (sq_of (e1 _ _ hB.1)) (fun i σ' H' => ∃ v3 v4 v5, σ' = [some (.ref p), some (.int (f : Int)), some (.int (ways2 ((ds.map boxN).take i) f : Int)), v3, v4, v5] ∧ Ex H H') (fun H2 e2 => ⟨_, _, _, rfl, e1.trans e2⟩) (fun i σ' H' _ ⟨_, _, _, _, e2⟩ => sq_of (e2 _ _ hB.1)) ?_ ?_
    · rintro i x σ' H2 hi ⟨v3, v4, v5, rfl, e2⟩
      obtain ⟨d, hd, rfl⟩ := map_at (e := fun d : BxN => V.ref d.1) hi
      have dm := List.mem_of_getElem? hd
      have hd2 : (ds.map boxN)[i]? = some (boxN d) := by rw [List.getElem?_map, hd]; rfl
      have hb := hB.2 d dm
      refine q_asg ev_c fun H3 e3 => ?_
      have e3 := e2.trans e3
      have sl := el_sl (K := K) (H := H3) (σ := [some (.ref p), some (.int (f : Int)), some (.int (ways2 ((ds.map boxN).take i) f : Int)), some (.ref d.1), some (.int 1), v5]) (ev_var (i := 3) rfl) (eo_some (ev_var (i := 1) rfl)) eo_none (sq_of (e3 _ _ hb.1))
      rw [cut_from, refs_drop] at sl
      refine q_forNLn (K := K) (xs := refs (d.2.drop f)) sl (fun pc i2 σ' H' => ∃ v5, σ' = [some (.ref p), some (.int (f : Int)), some (.int (ways2 ((ds.map boxN).take i) f : Int)), some (.ref d.1), some (.int (wy (((boxN d).drop f).take i2) : Int)), v5] ∧ Ex H H' ∧ H' pc = some (.lst (refs (d.2.drop f))))
        (fun pc H4 hpc e4 h4 => ⟨_, rfl, e3.trans e4, h4⟩) (fun pc i2 σ' H' _ ⟨_, _, _, h⟩ => sq_of h) ?_ ?_
      · rintro pc i2 x2 σ' H4 hi2 ⟨v5, rfl, e4, h4⟩
        obtain ⟨b, hbi, rfl⟩ := map_at (e := fun b : Addr × List Nat => V.ref b.1) hi2
        have bm := List.mem_of_mem_drop (List.mem_of_getElem? hbi)
        have hbn : ((boxN d).drop f)[i2]? = some b.2 := by
          unfold boxN
          rw [← List.map_drop, List.getElem?_map, hbi]
          rfl
        have l9b := l9 d dm b.2 (List.mem_map.mpr ⟨b, bm, rfl⟩)
        refine s_asg (ev_op (ev_var rfl) (ev_len (K := K) (ev_var rfl) (sq_of (e4 _ _ (hb.2 b bm)))) (rv_I (Or.inr ?_))) fun H5 e5 => ⟨some (.ref b.1), ?_, e4.trans e5, e5 _ _ h4⟩
        · unfold natV
          rw [List.length_map]
          omega
        · rw [take_succ' hbn]
          have : wy (((boxN d).drop f).take i2 ++ [b.2]) = wy (((boxN d).drop f).take i2) * b.2.length := by
            rw [wy_app]
            congr 1
            show 1 * b.2.length = _
            rw [Nat.one_mul]
          rw [this]
          unfold natV
          rw [List.length_map, Int.natCast_mul]
          rfl
      · rintro pc σ' H4 ⟨v5, rfl, e4, h4⟩
        have full : ((boxN d).drop f).take (refs (d.2.drop f)).length = (boxN d).drop f := List.take_of_length_le (by
          unfold boxN
          rw [refs_len, ← List.map_drop, List.length_map]
          exact Nat.le_refl _)
        rw [full]
        refine s_aug (f := fun i j => i + j) rfl (ev_var rfl) fun H5 e5 => ⟨some (.ref d.1), some (.int (wy ((boxN d).drop f) : Int)), v5, ?_, e4.trans e5⟩
        rw [take_succ' hd2, ways2_snoc, Int.natCast_add]
        rfl
    · rintro σ' H2 ⟨v3, v4, v5, rfl, e2⟩
      rw [refs_len, ← List.length_map (f := boxN), List.take_length]
      exact s_ret (ev_var rfl) fun H3 e3 => k H3 (e2.trans e3)
theorem ok_mapping_count (T : Txt K mg A) : FnOk P w K mg base CX0 2 A.f_mapping_count A.d_mapping_count ["boxes"] (spV R_count) := by
  refine T.F_mapping_count.ok sc_mapping_count (fun vs H Q E h => ?_) (fun cdv B outer s H vs Q E hr h => ⟨_, (pss_one (ps_ret (pe_call (ok_ways_from T) (hr.mono (by decide)) rfl T.g_ways_from T.F_ways_from.kp T.bd_ways_from .nil pass0 (pa_cons (pv 0) (pa_cons pe_int pa_nil))))), ?_⟩)
  · obtain ⟨_, _, _, ⟨_, _, rfl, _⟩, _⟩ := h
    rfl
  · obtain ⟨H0, v, e, ⟨p, ds, rfl, hB, l9, rfl⟩, k⟩ := h
    exact s_ret (ev_fn (ea_cons (ev_var rfl) (ea_cons ev_c ea_nil)) (spV_go (R := R_ways) ⟨p, ds, 0, rfl, hB.mono e, l9, rfl⟩)) k
theorem ok_boxes_with (T : Txt K mg A) : FnOk P w K mg base CX0 1 A.f_boxes_with A.d_boxes_with ["boxes", "f", "goes"] (spL R_bwith) := by
  refine T.F_boxes_with.ok sc_boxes_with (fun vs H Q E h => ?_) (fun cdv B outer s H vs Q E hr h => ⟨_, (pss_one (ps_ret (pe_lc (own := [("box", 3)]) (g := gName 3)  rfl sc_boxes_with.nd (piListK (K := K) rfl (pv 0)) (blkOk_by (own := [("box", 3)]) (N := ["boxes", "f", "goes", "box"]) (sc := defScope s_boxes_with) (by decide +kernel)) (fun _ _ _ _ _ => pg_name (i := 3) sc_boxes_with.nd rfl (Or.inl rfl)) (fun _ _ _ _ _ => (pts_one (pt_cmpR (inK (K := K) rfl) (pv 2) (pe_ix (ixListK (K := K) rfl) (pv 3) (pv 1) (fun _ _ => rfl)) rfl))) (fun _ _ _ _ _ => (pv 3))))), ?_⟩)
  · obtain ⟨_, _, _, ⟨_, _, _, _, rfl, _⟩, _⟩ := h
    rfl
  · obtain ⟨H0, v, e, ⟨p, ds, f, g, rfl, hB, hz, hf, rfl⟩, k⟩ := h
    have hB := hB.mono e
    refine s_retL (el_compLB (K := K) (en := fun d : BxN => V.ref d.1) (l := ds) (fun d => decide (g ∈ (boxN d).getD f [])) (fun d => V.ref d.1) (ev_var rfl) (sq_of hB.1) hz (fun _ => rfl) (fun d hd H1 e1 => ?_) (fun d hd H1 e1 _ => ev_var rfl)) k
    have hb := hB.2 d hd
    have lf := hf d hd
    have at_ : (refs d.2)[f]? = some (V.ref d.2[f].1) := by
      unfold refs
      rw [List.getElem?_map, List.getElem?_eq_getElem lf]
      rfl
    have bx : (boxN d).getD f [] = d.2[f].2 := by
      unfold boxN
      rw [List.getD_eq_getElem?_getD, List.getElem?_map, List.getElem?_eq_getElem lf]
      rfl
    refine et_test (ev_is (ev_op (ev_var rfl) (ev_op (ev_var rfl) (ev_var rfl) (rv_ixL (K := K) (sq_of (e1 _ _ hb.1)) (atI_nat at_))) (rv_isL (K := K) (sq_of (e1 _ _ (hb.2 _ (List.getElem_mem lf)))) rfl (flat_nat _))) ?_)
    rw [inV_nat, bx]
    congr 1
    rw [Bool.eq_iff_iff, decide_eq_true_eq]
    simp
theorem fits_filterN {ds : List BxN} {n g : Nat} {p : List Nat} (hn : ∀ d ∈ ds, (boxN d).length = n) (hp : p.length < n) : (ds.filter (fitsB p ∘ boxN)).filter (fun d => decide (g ∈ (boxN d).getD p.length [])) = ds.filter (fitsB (p ++ [g]) ∘ boxN) := by
  rw [List.filter_filter]
  refine List.filter_congr fun d hd => ?_
  show _ = fitsB (p ++ [g]) (boxN d)
  rw [fits_snoc p g (boxN d) (by rw [hn d hd]; exact hp), Bool.and_comm]
  rfl
theorem Stands.countN {ds : List BxN} {n : Nat} {S : List (List Nat)} (h : Stands (ds.map boxN) n S) {p : List Nat} (hp : p.length ≤ n) : ways2 ((ds.filter (fitsB p ∘ boxN)).map boxN) p.length = (S.filter (pre p)).length := by
  rw [← List.filter_map]
  exact h.count hp
/-- ways_from(boxes_with(left, f, goes), f + 1) -/
theorem ev_wb {pl : Addr} {ds : List BxN} {n g : Nat} {S : List (List Nat)} {q : List Nat} {E E' : XK} (h3 : σ[3]? = some (some (.ref pl))) (h5 : σ[5]? = some (some (.int (q.length : Int)))) (h6 : σ[6]? = some (some (.int (g : Int)))) (hB : BoxesAt H pl (ds.filter (fitsB q ∘ boxN))) (hz : ds.length ≤ sizeLine) (st : Stands (ds.map boxN) n S) (hq : q.length < n) :
    Ev (tCall (spV R_ways) [] E (tCons (tCall (spL R_bwith) [] E' (tCons (tVar 3) (tCons (tVar 5) (tCons (tVar 6) tNil)))) (tCons (tOp (rI0 fun i j => .int (i + j)) (tVar 5) (tC (.int 1))) tNil))) σ H (.int ((S.filter (pre (q ++ [g]))).length : Int)) := by
  have hn : ∀ d ∈ ds, (boxN d).length = n := fun d hd => (st.nd (boxN d) (List.mem_map.mpr ⟨d, hd, rfl⟩)).2
  refine ev_fnL1 (xs := refs (ds.filter (fitsB (q ++ [g]) ∘ boxN))) (vs := [.int (((q ++ [g]).length : Nat) : Int)]) (el_fn (ea_cons (ev_var h3) (ea_cons (ev_var h5) (ea_cons (ev_var h6) ea_nil))) (spL_go ⟨pl, _, q.length, g, rfl, hB, Nat.le_trans (List.length_filter_le _ _) hz, fun d hd => ?_, by rw [fits_filterN hn hq]⟩))
    (ea_cons (ev_is (ev_op (ev_var h5) ev_c rv_I0) (by rw [List.length_append, List.length_singleton]; rfl)) ea_nil) fun p H1 e1 h1 => spV_go ⟨p, ds.filter (fitsB (q ++ [g]) ∘ boxN), (q ++ [g]).length, rfl, ⟨h1, fun d hd => ?_⟩, fun d hd => ?_, ?_⟩
  · have := hn d (List.mem_filter.mp hd).1
    unfold boxN at this
    rw [List.length_map] at this
    omega
  · have hd' : d ∈ ds.filter (fitsB q ∘ boxN) := by
      rw [← fits_filterN hn hq] at hd
      exact (List.mem_filter.mp hd).1
    exact ⟨e1 _ _ (hB.2 d hd').1, fun b hb => e1 _ _ ((hB.2 d hd').2 b hb)⟩
  · exact st.len9 (boxN d) (List.mem_map.mpr ⟨d, (List.mem_filter.mp hd).1, rfl⟩)
  · rw [st.countN (p := q ++ [g]) (by rw [List.length_append, List.length_singleton]; omega)]
theorem pre_nil (m : List Nat) : pre [] m = true := by simp [pre]
theorem ok_mapping_at (T : Txt K mg A) : FnOk P w K mg base CX0 2 A.f_mapping_at A.d_mapping_at ["boxes", "k"] (spL R_mapat) := by
  refine T.F_mapping_at.ok sc_mapping_at (fun vs H Q E h => ?_) (fun cdv B outer s H vs Q E hr h => ⟨_, (pss_cons (ps_set (i := 2) sc_mapping_at.nd rfl (Or.inl rfl) (pe_lst pa_nil))
    (pss_cons (ps_set (i := 3) sc_mapping_at.nd rfl (Or.inl rfl) (pv 0))
    (pss_cons (ps_set (i := 4) sc_mapping_at.nd rfl (Or.inl rfl) (pv 1))
    (pss_cons (ps_for PassesOwn.never rfl (pi_range1 rfl T.b_range (pa_cons (pe_callB (lenK (K := K) rfl) (by rfl) T.b_len PySem.boot_len (pa_cons (pe_ix (ixListK (K := K) rfl) (pv 0) pe_int (fun _ _ => rfl)) pa_nil)) pa_nil)) (pg_name (i := 5) sc_mapping_at.nd rfl (Or.inl rfl))
    (pss_cons (ps_set (i := 6) sc_mapping_at.nd rfl (Or.inl rfl) pe_int)
    (pss_cons (ps_while PassesOwn.never (pt_cmpR op_le (pe_call (ok_ways_from T) (hr.mono (by decide)) rfl T.g_ways_from T.F_ways_from.kp T.bd_ways_from .nil pass0 (pa_cons (pe_call (ok_boxes_with T) (hr.mono (by decide)) rfl T.g_boxes_with T.F_boxes_with.kp T.bd_boxes_with .nil pass0 (pa_cons (pv 3) (pa_cons (pv 5) (pa_cons (pv 6) pa_nil)))) (pa_cons (pe_op op_add (pv 5) pe_int) pa_nil))) (pv 4) (nomark _)) (pss_cons (ps_aug (i := 4) sc_mapping_at.nd rfl (Or.inl rfl) (pe_call (ok_ways_from T) (hr.mono (by decide)) rfl T.g_ways_from T.F_ways_from.kp T.bd_ways_from .nil pass0 (pa_cons (pe_call (ok_boxes_with T) (hr.mono (by decide)) rfl T.g_boxes_with T.F_boxes_with.kp T.bd_boxes_with .nil pass0 (pa_cons (pv 3) (pa_cons (pv 5) (pa_cons (pv 6) pa_nil)))) (pa_cons (pe_op op_add (pv 5) pe_int) pa_nil))) ip_sub)
    (pss_one (ps_aug (i := 6) sc_mapping_at.nd rfl (Or.inl rfl) pe_int ip_add))))
    (pss_cons (ps_expr (pe_bm PySem.F.plainAttrs_list PySem.F.slot_list_append PySem.F.type_list_append mt_append (pv 2) (pa_cons (pv 6) pa_nil)))
    (pss_one (ps_set (i := 3) sc_mapping_at.nd rfl (Or.inl rfl) (pe_call (ok_boxes_with T) (hr.mono (by decide)) rfl T.g_boxes_with T.F_boxes_with.kp T.bd_boxes_with .nil pass0 (pa_cons (pv 3) (pa_cons (pv 5) (pa_cons (pv 6) pa_nil))))))))))
    (pss_one (ps_ret (pv 2))))))), ?_⟩)
  · obtain ⟨_, _, _, ⟨_, _, _, _, _, _, rfl, _⟩, _⟩ := h
    rfl
  · obtain ⟨H0, v, e, ⟨p, ds, k0, n, S, m, rfl, hB, hz, st, hk, rfl⟩, k⟩ := h
    have hB := hB.mono e
    have hn : ∀ d ∈ ds, (boxN d).length = n := fun d hd => (st.nd (boxN d) (List.mem_map.mpr ⟨d, hd, rfl⟩)).2
    obtain ⟨bx0, hbx, _⟩ := List.mem_flatMap.mp ((st.mem m).mpr (List.mem_of_getElem? hk))
    obtain ⟨d0, hd0, _⟩ := List.mem_map.mp hbx
    obtain ⟨dh, dt, hds⟩ : ∃ dh dt, ds = dh :: dt := by
      cases ds with
      | nil => cases hd0
      | cons dh dt => exact ⟨dh, dt, rfl⟩
    have dhm : dh ∈ ds := by rw [hds]; exact List.mem_cons_self ..
    have dhl : dh.2.length = n := by
      have := hn dh dhm
      unfold boxN at this
      rw [List.length_map] at this
      exact this
    have n9 := st.n9
    refine q_asgL (el_lst ea_nil (by show 0 ≤ 100000; decide)) fun pw H1 hpw e1 h1 => ?_
    refine q_asg (ev_var rfl) fun H2 e2 => ?_
    refine q_asg (ev_var rfl) fun H3 e3 => ?_
    have e3 := (e1.trans e2).trans e3
    have h3w : H3 pw = some (.lst []) := by
      have := e3
      exact ‹Ex H2 H3› _ _ (e2 _ _ h1)
    have ixl := ev_len (K := K) (H := H3) (σ := [some (.ref p), some (.int (k0 : Int)), some (.ref pw), some (.ref p), some (.int (k0 : Int)), none, none]) (ev_op (ev_var (i := 0) rfl) (ev_c (v := .int 0)) (rv_ixL (K := K) (sq_of (e3 _ _ hB.1)) (atI_nat (xs := refs ds) (j := 0) (v := .ref dh.1) (by rw [hds]; rfl)))) (sq_of (e3 _ _ (hB.2 dh dhm).1))
    rw [refs_len, dhl] at ixl
    refine q_forR1 (ea_cons ixl ea_nil) ⟨by omega, by omega⟩ (fun i σ' H' => ∃ (q : List Nat) (pl : Addr) (r : Nat) (v5 v6 : Option V), σ' = [some (.ref p), some (.int (k0 : Int)), some (.ref pw), some (.ref pl), some (.int (r : Int)), v5, v6] ∧ q.length = i ∧ H' pw = some (.lst (natV q)) ∧ H' pl = some (.lst (refs (ds.filter (fitsB q ∘ boxN)))) ∧ pl ≠ pw ∧ (S.filter (pre q))[r]? = some m ∧ Ex H H') ?_ ?_ ?_
    · intro H4 e4
      refine ⟨[], p, k0, none, none, rfl, rfl, e4 _ _ h3w, ?_, ?_, ?_, e3.trans e4⟩
      · rw [List.filter_eq_self.mpr fun d _ => by show fitsB [] (boxN d) = true; cases boxN d <;> rfl]
        exact e4 _ _ (e3 _ _ hB.1)
      · intro z
        have := hB.1
        rw [z, hpw] at this
        cases this
      · rw [List.filter_eq_self.mpr fun x _ => pre_nil x]
        exact hk
    · rintro i σ' H4 hi ⟨q, pl, r, v5, v6, rfl, rfl, h4w, h4l, nw, hr4, e4⟩
      have hq : q.length < n := by omega
      refine q_asg ev_c fun H5 e5 => ?_
      have BL : ∀ {H' : Hp}, Ex H H' → H' pl = some (.lst (refs (ds.filter (fitsB q ∘ boxN)))) → BoxesAt H' pl (ds.filter (fitsB q ∘ boxN)) := fun {H'} e h => ⟨h, fun d hd => ((hB.mono e).2 d (List.mem_filter.mp hd).1)⟩
      refine q_while (fun mm σ' H' => ∃ (g r : Nat), σ' = [some (.ref p), some (.int (k0 : Int)), some (.ref pw), some (.ref pl), some (.int (r : Int)), some (.int (q.length : Int)), some (.int (g : Int))] ∧ H' pw = some (.lst (natV q)) ∧ H' pl = some (.lst (refs (ds.filter (fitsB q ∘ boxN)))) ∧ (S.filter (from_g q g))[r]? = some m ∧ Ex H H' ∧ mm = 10 - g)
        10 ⟨0, r, rfl, e5 _ _ h4w, e5 _ _ h4l, by rw [from_zero]; exact hr4, e4.trans e5, rfl⟩ ?_
      rintro mm σ' H6 ⟨g, r2, rfl, h6w, h6l, hr6, e6, rfl⟩
      have g9 : g < 9 := by
        obtain ⟨m1, m2⟩ := List.mem_filter.mp (List.mem_of_getElem? hr6)
        unfold from_g at m2
        rw [Bool.and_eq_true, decide_eq_true_eq] at m2
        obtain ⟨l1, l2⟩ := st.mlen m m1
        have lt : q.length < m.length := by omega
        have := l2 q.length m[q.length] (List.getElem?_eq_getElem lt)
        rw [List.getD_eq_getElem?_getD, List.getElem?_eq_getElem lt] at m2
        have := m2.2
        simp only [Option.getD_some] at this
        omega
      have sk := from_skip (S := S) (p := q) (g := g) (n := n) (r := r2) st.srt (fun x hx => (st.mlen x hx).1) hq
      have wb : ∀ {E E' : XK} {H' : Hp}, Ex H6 H' → Ev (tCall (spV R_ways) [] E (tCons (tCall (spL R_bwith) [] E' (tCons (tVar 3) (tCons (tVar 5) (tCons (tVar 6) tNil)))) (tCons (tOp (rI0 fun i j => .int (i + j)) (tVar 5) (tC (.int 1))) tNil))) [some (.ref p), some (.int (k0 : Int)), some (.ref pw), some (.ref pl), some (.int (r2 : Int)), some (.int (q.length : Int)), some (.int (g : Int))] H' (.int ((S.filter (pre (q ++ [g]))).length : Int)) := fun {E E' H'} e => ev_wb rfl rfl rfl (BL (e6.trans e) (e _ _ h6l)) hz st hq
      refine ⟨decide (((S.filter (pre (q ++ [g]))).length : Int) ≤ (r2 : Int)), et_test (ev_op (wb (Ex.refl H6)) (ev_var rfl) (rv_I0 (g := fun i j => .bl (decide (i ≤ j))))), fun b H7 e7 => ?_, fun b H7 e7 => ?_⟩
      · rw [decide_eq_true_eq] at b
        have b : (S.filter (pre (q ++ [g]))).length ≤ r2 := by omega
        refine ⟨fun σ2 H2 => ∃ m', m' < 10 - g ∧ ∃ (g r : Nat), σ2 = [some (.ref p), some (.int (k0 : Int)), some (.ref pw), some (.ref pl), some (.int (r : Int)), some (.int (q.length : Int)), some (.int (g : Int))] ∧ H2 pw = some (.lst (natV q)) ∧ H2 pl = some (.lst (refs (ds.filter (fitsB q ∘ boxN)))) ∧ (S.filter (from_g q g))[r]? = some m ∧ Ex H H2 ∧ m' = 10 - g, fun _ _ h => h, ?_⟩
        refine q_aug (f := fun i j => i - j) rfl (wb e7) fun H8 e8 => ?_
        refine s_aug (f := fun i j => i + j) rfl ev_c fun H9 e9 => ?_
        have e9' := e7.trans (e8.trans e9)
        refine ⟨10 - (g + 1), by omega, g + 1, r2 - (S.filter (pre (q ++ [g]))).length, ?_, e9' _ _ h6w, e9' _ _ h6l, ?_, e6.trans e9', rfl⟩
        · rw [Int.ofNat_sub b]
          rfl
        · rw [sk.1 b]
          exact hr6
      · rw [decide_eq_false_iff_not] at b
        have b : r2 < (S.filter (pre (q ++ [g]))).length := by omega
        have e8 := e6.trans e7
        refine q_app (K := K) (e7 _ _ h6w) (ev_var rfl) (ev_var rfl) (by unfold natV; rw [List.length_map]; omega) fun H8 e8' => ?_
        have e9 : Ex H (upd H8 pw (.lst (natV q ++ [.int (g : Int)]))) := Ex.mut (e8.trans e8') hpw
        have h9l : upd H8 pw (.lst (natV q ++ [.int (g : Int)])) pl = some (.lst (refs (ds.filter (fitsB q ∘ boxN)))) := by
          rw [upd_ne nw]
          exact e8' _ _ (e7 _ _ h6l)
        refine s_asgL (xs := refs (ds.filter (fitsB (q ++ [g]) ∘ boxN))) (el_fn (ea_cons (ev_var rfl) (ea_cons (ev_var rfl) (ea_cons (ev_var rfl) ea_nil))) (spL_go ⟨pl, _, q.length, g, rfl, BL e9 h9l, Nat.le_trans (List.length_filter_le _ _) hz, fun d hd => ?_, by rw [fits_filterN hn hq]⟩)) fun pl2 H10 hp2 e10 h10 => ?_
        · have := hn d (List.mem_filter.mp hd).1
          unfold boxN at this
          rw [List.length_map] at this
          omega
        · refine ⟨q ++ [g], pl2, r2, _, _, rfl, by rw [List.length_append, List.length_singleton], ?_, h10, ?_, ?_, e9.trans e10⟩
          · have : natV (q ++ [g]) = natV q ++ [.int (g : Int)] := by
              unfold natV
              rw [List.map_append]
              rfl
            rw [this]
            exact e10 _ _ upd_same
          · intro z
            rw [z, upd_same] at hp2
            cases hp2
          · rw [sk.2 b]
            exact hr6
    · rintro σ' H4 ⟨q, pl, r, v5, v6, rfl, hl, h4w, h4l, nw, hr4, e4⟩
      obtain ⟨m1, m2⟩ := List.mem_filter.mp (List.mem_of_getElem? hr4)
      have ml := (st.mlen m m1).1
      have : m = q := by
        unfold pre at m2
        rw [beq_iff_eq, List.take_of_length_le (by omega)] at m2
        exact m2
      subst this
      exact s_ret (ev_var rfl) fun H5 e5 => k pw H5 hpw (e4.trans e5) (e5 _ _ h4w)
/-- x = [[]] -/
theorem q_row0 (k : ∀ p bs H2, NewLL H [[]] p bs H2 → tz D (σ.set i (some (.ref p))) H2) : tSeq (tAsg (tLst (tCons (tLst tNil) tNil)) (gName i)) tz D σ H := by
  have h0 : EvL (tLst tNil) σ H [] := el_lst ea_nil (by show 0 ≤ 100000; decide)
  show tLst tNil σ H fun x H1 => (x :: []).length ≤ sizeLine ∧ ∀ p, H1 p = none → tz D (σ.set i (some (.ref p))) (upd H1 p (.lst (x :: [])))
  refine h0 H (Ex.refl H) _ fun r H1 hr e1 h1 => ⟨by show 1 ≤ sizeLine; decide, fun p hp => k p [(r, [])] _ ⟨fresh_back e1 hp, e1.trans (Ex.new hp), rfl, upd_same, fun b hb => ?_⟩⟩
  rw [List.mem_singleton.mp hb]
  have ne := ne_of_none h1 hp
  exact ⟨hr, ne, by rw [upd_ne ne]; exact h1⟩
theorem stepP_take {l : List (List Nat)} {p r : List Nat} {i : Nat} (h : l[i]? = some r) : stepP (l.take (i + 1)) p = stepP (l.take i) p ++ p.map fun y => r ++ [y] := by
  unfold stepP
  rw [take_succ' h, List.flatMap_append]
  simp
theorem stepP_take_le {l : List (List Nat)} {p : List Nat} {i : Nat} : (stepP (l.take i) p).length ≤ (stepP l p).length := by
  have : stepP l p = stepP (l.take i) p ++ stepP (l.drop i) p := by
    unfold stepP
    rw [← List.flatMap_append, List.take_append_drop]
  rw [this, List.length_append]
  omega
theorem bfs_take {bx : List (List Nat)} {i : Nat} {p : List Nat} (h : bx[i]? = some p) : bfs (bx.take (i + 1)) = stepP (bfs (bx.take i)) p := by
  unfold bfs
  rw [take_succ' h, List.foldl_append]
  rfl
theorem prodR_rowlen {bx : List (List Nat)} {m : List Nat} (h : m ∈ prodR bx) : m.length = bx.length := (inP_iff.mp (mem_prodR.mp h)).1
theorem natV_snoc (q : List Nat) (g : Nat) : natV (q ++ [g]) = natV q ++ [.int (g : Int)] := by
  unfold natV
  rw [List.map_append]
  rfl
theorem natV_len (q : List Nat) : (natV q).length = q.length := List.length_map ..
theorem ok_mappings_in (T : Txt K mg A) : FnOk P w K mg base CX0 1 A.f_mappings_in A.d_mappings_in ["box"] (spLL R_mapsin) := by
  refine T.F_mappings_in.ok sc_mappings_in (fun vs H Q E h => ?_) (fun cdv B outer s H vs Q E hr h => ⟨_, (pss_cons (ps_set (i := 1) sc_mappings_in.nd rfl (Or.inl rfl) (pe_lst (pa_cons (pe_lst pa_nil) pa_nil)))
    (pss_cons (ps_for PassesOwn.never rfl (piListK (K := K) rfl (pv 0)) (pg_name (i := 2) sc_mappings_in.nd rfl (Or.inl rfl))
    (pss_cons (ps_set (i := 3) sc_mappings_in.nd rfl (Or.inl rfl) (pe_lst pa_nil))
    (pss_cons (ps_for PassesOwn.never rfl (piListK (K := K) rfl (pv 1)) (pg_name (i := 4) sc_mappings_in.nd rfl (Or.inr rfl))
    (pss_one (ps_expr (pe_bm PySem.F.plainAttrs_list PySem.F.slot_list_extend PySem.F.type_list_extend mt_extend (pv 3) (pa_cons (pe_lc (own := [("goes", 5)]) (g := gName 5) (tt := tYes) rfl sc_mappings_in.nd (piListK (K := K) rfl (pv 2)) (blkOk_by (own := [("goes", 5)]) (N := ["box", "rows", "possible", "longer", "row", "goes"]) (sc := defScope s_mappings_in) (by decide +kernel)) (fun _ _ _ _ _ => pg_name (i := 5) sc_mappings_in.nd rfl (Or.inl rfl)) (fun _ _ _ _ _ => pts_nil) (fun _ _ _ _ _ => (pe_op op_cat (pv 4) (pe_lst (pa_cons (pv 5) pa_nil))))) pa_nil)))))
    (pss_one (ps_set (i := 1) sc_mappings_in.nd rfl (Or.inl rfl) (pv 3))))))
    (pss_one (ps_ret (pv 1))))), ?_⟩)
  · obtain ⟨_, _, _, ⟨_, _, rfl, _⟩, _⟩ := h
    rfl
  · obtain ⟨H0, v, e, ⟨p, cs, rfl, hB, hw, l9, hz, rfl⟩, k⟩ := h
    have hB := hB.mono e
    have sl : sizeLine = 16777216 := rfl
    refine q_row0 fun pr bs H1 n1 => ?_
    refine q_forLn (ev_var rfl) (sq_of (n1.2.1 _ _ hB.1)) (fun i σ' H' => ∃ (pr : Addr) (bs : List (Addr × List V)) (v2 v3 v4 : Option V), σ' = [some (.ref p), some (.ref pr), v2, v3, v4, none] ∧ NewLL H ((bfs ((cs.map (·.2)).take i)).map natV) pr bs H')
      (fun H2 e2 => ⟨pr, bs, _, _, _, rfl, n1.fwd e2⟩) (fun i σ' H' _ ⟨_, _, _, _, _, _, n⟩ => sq_of (n.2.1 _ _ hB.1)) ?_ ?_
    · rintro i x σ' H2 hi ⟨pr, bs, v2, v3, v4, rfl, n2⟩
      obtain ⟨c, hci, rfl⟩ := map_at (e := fun b : Addr × List Nat => V.ref b.1) hi
      have cm := List.mem_of_getElem? hci
      have hci2 : (cs.map (·.2))[i]? = some c.2 := by rw [List.getElem?_map, hci]; rfl
      have hc := n2.2.1 _ _ (hB.2 c cm)
      obtain ⟨rs, hrs, hrf, hrb⟩ := told_by n2.2.2.1
      have h2r : H2 pr = some (.lst (refs rs)) := by rw [hrf]; exact n2.2.2.2.1
      have le1 : (bfs ((cs.map (·.2)).take (i + 1))).length ≤ 2000 := Nat.le_trans (bfs_take_le hw _) hz
      rw [bfs_take hci2] at le1
      refine q_asgL (el_lst ea_nil (by show 0 ≤ 100000; decide)) fun pl H3 hpl e3 h3 => ?_
      refine q_forLn (ev_var rfl) (sq_of (e3 _ _ h2r)) (fun j σ' H' => ∃ (v4 : Option V) (ds : List (Addr × List V)), σ' = [some (.ref p), some (.ref pr), some (.ref c.1), some (.ref pl), v4, none] ∧ NewLL H2 ((stepP ((bfs ((cs.map (·.2)).take i)).take j) c.2).map natV) pl ds H')
        (fun H4 e4 => ⟨_, [], rfl, (newLL_nil hpl e3 h3).fwd e4⟩) (fun i σ' H' _ ⟨_, _, _, n⟩ => sq_of (n.2.1 _ _ h2r)) ?_ ?_
      · rintro j x σ' H4 hj ⟨v4, ds, rfl, n4⟩
        obtain ⟨r, hrj, rfl⟩ := map_at (e := fun b : Addr × List Nat => V.ref b.1) hj
        have hrj2 : (bfs ((cs.map (·.2)).take i))[j]? = some r.2 := by rw [← hrs, List.getElem?_map, hrj]; rfl
        have hr2 := n4.2.1 _ _ (n2.2.2.2.2 _ (hrb r (List.mem_of_getElem? hrj))).2.2
        have rl : r.2.length ≤ 9 := by
          have m := List.mem_of_getElem? hrj2
          rw [bfs_is] at m
          rw [prodR_rowlen m, List.length_take, List.length_map]
          omega
        have c9 : ((stepP ((bfs ((cs.map (·.2)).take i)).take j) c.2).length + c.2.length) ≤ 2000 := by
          have := stepP_take_le (l := bfs ((cs.map (·.2)).take i)) (p := c.2) (i := j + 1)
          rw [stepP_take hrj2, List.length_append, List.length_map] at this
          omega
        have comp := ell_mapL (K := K) (σ := [some (.ref p), some (.ref pr), some (.ref c.1), some (.ref pl), some (.ref r.1), none]) (H := H4) (j := 5) (vs := [5]) (en := fun (n : Nat) => V.int (n : Int)) (l := c.2) (fun y => natV (r.2 ++ [y])) (ev_var (i := 2) rfl) (sq_of (n4.2.1 _ _ hc)) (by omega) (fun _ => rfl)
          (fun y hy H5 e5 => by rw [natV_snoc]; exact el_cat2 (ev_var (i := 4) rfl) (e5 _ _ hr2) (el_lst (ea_cons (ev_var (i := 5) rfl) ea_nil) (by show 1 ≤ 100000; decide)) (by rw [natV_len]; show r.2.length + 1 ≤ 100000; omega))
        refine s_extLL (K := K) n4.2.2.2.1 (ev_var rfl) comp ?_ fun q es H5 n5 => ⟨_, ds ++ es, rfl, ?_⟩
        · have l1 := congrArg List.length n4.2.2.1
          rw [List.length_map, List.length_map] at l1
          rw [refs_len, l1, List.length_map]
          omega
        · have := n4.app n5
          rw [stepP_take hrj2, List.map_append, List.map_map]
          exact this
      · rintro σ' H4 ⟨v4, ds, rfl, n4⟩
        have ll : (refs rs).length = (bfs ((cs.map (·.2)).take i)).length := by rw [refs_len, ← hrs, List.length_map]
        rw [ll, List.take_length] at n4
        refine s_asg (ev_var rfl) fun H5 e5 => ⟨pl, ds, _, _, _, rfl, ?_⟩
        rw [bfs_take hci2]
        exact (n4.back n2.2.1).fwd e5
    · rintro σ' H2 ⟨pr, bs, v2, v3, v4, rfl, n2⟩
      rw [refs_len, ← List.length_map (f := fun r : Addr × List Nat => r.2), List.take_length, bfs_is] at n2
      exact s_ret (ev_var rfl) fun H3 e3 => k pr bs H3 (n2.fwd e3)
theorem llt_lt : ∀ {x y : List Nat}, llt x y = true → x.map (fun (n : Nat) => (n : Int)) < y.map (fun (n : Nat) => (n : Int))
  | [], [], h => by cases h
  | [], y :: ys, _ => by simp
  | _ :: _, [], h => by cases h
  | x :: xs, y :: ys, h => by
    have h : (if x = y then llt xs ys else decide (x < y)) = true := h
    rw [List.map_cons, List.map_cons, List.cons_lt_cons_iff]
    by_cases e : x = y
    · rw [if_pos e] at h
      exact Or.inr ⟨by rw [e], llt_lt h⟩
    · rw [if_neg e, decide_eq_true_eq] at h
      exact Or.inl (by omega)
theorem sortedB_perm (bs : List (Addr × List Nat)) : (sortedB bs).Perm bs := List.mergeSort_perm ..
theorem sortedB_srt (bs : List (Addr × List Nat)) : ((sortedB bs).map (·.2)).Pairwise fun x y => llt y x = false := by
  have e0 : encB = fun b : Addr × List Nat => PyData.list ((b.2.map (fun (n : Nat) => (n : Int))).map PyData.int) := by
    funext b
    unfold encB natD
    rw [List.map_map]
    rfl
  have le := PySem.W.dataLe_rows fun b : Addr × List Nat => b.2.map (fun (n : Nat) => (n : Int))
  rw [List.pairwise_map]
  unfold sortedB
  rw [e0, le]
  refine (List.pairwise_mergeSort (le := fun (p q : Addr × List Nat) => decide (p.2.map (fun (n : Nat) => (n : Int)) ≤ q.2.map (fun (n : Nat) => (n : Int)))) (fun a b c h1 h2 => ?_) (fun a b => ?_) bs).imp fun {a b} h => ?_
  · rw [decide_eq_true_eq] at *
    exact List.le_trans h1 h2
  · rw [Bool.or_eq_true, decide_eq_true_eq, decide_eq_true_eq]
    exact List.le_total _ _
  · rw [decide_eq_true_eq] at h
    cases q : llt b.2 a.2 with
    | false => rfl
    | true => exact absurd (llt_lt q) (List.not_lt.mpr h)
theorem flat_take {bs : List (List (List Nat))} {i : Nat} {b : List (List Nat)} (h : bs[i]? = some b) : (bs.take (i + 1)).flatMap prodR = (bs.take i).flatMap prodR ++ prodR b := by
  rw [take_succ' h, List.flatMap_append]
  simp
theorem flat_take_le {bs : List (List (List Nat))} {i : Nat} : ((bs.take i).flatMap prodR).length ≤ (bs.flatMap prodR).length := by
  have : bs.flatMap prodR = (bs.take i).flatMap prodR ++ (bs.drop i).flatMap prodR := by rw [← List.flatMap_append, List.take_append_drop]
  rw [this, List.length_append]
  omega
theorem ok_all_mappings (T : Txt K mg A) : FnOk P w K mg base CX0 2 A.f_all_mappings A.d_all_mappings ["boxes"] (spLL R_allmaps) := by
  refine T.F_all_mappings.ok sc_all_mappings (fun vs H Q E h => ?_) (fun cdv B outer s H vs Q E hr h => ⟨_, (pss_cons (ps_set (i := 1) sc_all_mappings.nd rfl (Or.inl rfl) (pe_lst pa_nil))
    (pss_cons (ps_for PassesOwn.never rfl (piListK (K := K) rfl (pv 0)) (pg_name (i := 2) sc_all_mappings.nd rfl (Or.inl rfl))
    (pss_one (ps_expr (pe_bm PySem.F.plainAttrs_list PySem.F.slot_list_extend PySem.F.type_list_extend mt_extend (pv 1) (pa_cons (pe_call (ok_mappings_in T) (hr.mono (by decide)) rfl T.g_mappings_in T.F_mappings_in.kp T.bd_mappings_in .nil pass0 (pa_cons (pv 2) pa_nil)) pa_nil)))))
    (pss_one (ps_ret (pe_callB (cr_sortLL (K := K) rfl hr.units) (by rfl) T.b_sorted (by decide +kernel) (pa_cons (pv 1) pa_nil)))))), ?_⟩)
  · obtain ⟨_, _, _, ⟨_, _, _, _, rfl, _⟩, _⟩ := h
    rfl
  · obtain ⟨H0, v, e, ⟨p, ds, n, S, rfl, hB, st, hw, hz, rfl⟩, k⟩ := h
    have hB := hB.mono e
    have sl : sizeLine = 16777216 := rfl
    have n9 := st.n9
    have tot : ((ds.map boxN).flatMap prodR).length = S.length := by
      have q := same_count (fun _ => true) st.all (sorted_nodup st.srt) st.mem
      rw [List.filter_eq_self.mpr fun _ _ => rfl, List.filter_eq_self.mpr fun _ _ => rfl] at q
      exact q
    refine q_asgL (el_lst ea_nil (by show 0 ≤ 100000; decide)) fun pf H1 hpf e1 h1 => ?_
    refine q_forLn (ev_var rfl) (sq_of (e1 _ _ hB.1)) (fun i σ' H' => ∃ (v2 : Option V) (cs : List (Addr × List V)), σ' = [some (.ref p), some (.ref pf), v2] ∧ NewLL H ((((ds.map boxN).take i).flatMap prodR).map natV) pf cs H')
      (fun H2 e2 => ⟨_, [], rfl, (newLL_nil hpf e1 h1).fwd e2⟩) (fun i σ' H' _ ⟨_, _, _, n⟩ => sq_of (n.2.1 _ _ hB.1)) ?_ ?_
    · rintro i x σ' H2 hi ⟨v2, cs, rfl, n2⟩
      obtain ⟨d, hdi, rfl⟩ := map_at (e := fun d : BxN => V.ref d.1) hi
      have dm := List.mem_of_getElem? hdi
      have hdi2 : (ds.map boxN)[i]? = some (boxN d) := by rw [List.getElem?_map, hdi]; rfl
      have le1 := flat_take_le (bs := ds.map boxN) (i := i + 1)
      rw [flat_take hdi2, List.length_append] at le1
      have dl : d.2.length ≤ 9 := by
        have := (st.nd (boxN d) (List.mem_map.mpr ⟨d, dm, rfl⟩)).2
        unfold boxN at this
        rw [List.length_map] at this
        omega
      refine s_extLL (K := K) n2.2.2.2.1 (ev_var rfl) (ell_fn (ea_cons (ev_var rfl) ea_nil) (spLL_go (R := R_mapsin) ⟨d.1, d.2, rfl, ⟨n2.2.1 _ _ (hB.2 d dm).1, fun c hc => n2.2.1 _ _ ((hB.2 d dm).2 c hc)⟩, hw d dm, dl, by show (prodR (boxN d)).length ≤ 2000; omega, rfl⟩)) ?_ fun q es H3 n3 => ⟨_, cs ++ es, rfl, ?_⟩
      · have l1 := congrArg List.length n2.2.2.1
        rw [List.length_map, List.length_map] at l1
        rw [refs_len, l1, List.length_map]
        show _ + (prodR (boxN d)).length ≤ sizeLine
        omega
      · have := n2.app n3
        rw [flat_take hdi2, List.map_append]
        exact this
    · rintro σ' H2 ⟨v2, cs, rfl, n2⟩
      rw [refs_len, ← List.length_map (f := boxN), List.take_length] at n2
      obtain ⟨rs, hrs, hrf, hrb⟩ := told_by n2.2.2.1
      have h2f : H2 pf = some (.lst (refs rs)) := by rw [hrf]; exact n2.2.2.2.1
      have hrl : ∀ b ∈ rs, H b.1 = none ∧ b.1 ≠ pf ∧ H2 b.1 = some (.lst (natV b.2)) := fun b hb => n2.2.2.2.2 _ (hrb b hb)
      refine ⟨_, rfl, pf, rs, rfl, sq_of h2f, fun b hb => sq_of (hrl b hb).2.2, fun q hq => k q ((sortedB rs).map fun b => (b.1, natV b.2)) _ ⟨fresh_back n2.2.1 hq, n2.2.1.trans (Ex.new hq), ?_, ?_, fun b hb => ?_⟩⟩
      · have es : (sortedB rs).map (·.2) = S := st.sorted (by rw [← hrs]; exact (sortedB_perm rs).map _) (sortedB_srt rs)
        rw [← es, List.map_map, List.map_map]
        rfl
      · rw [upd_same]
        unfold refs refsB
        rw [List.map_map]
        rfl
      · obtain ⟨b', hb', rfl⟩ := List.mem_map.mp hb
        have q1 := hrl b' ((sortedB_perm rs).mem_iff.mp hb')
        have ne := ne_of_none q1.2.2 hq
        exact ⟨q1.1, ne, by rw [upd_ne ne]; exact q1.2.2⟩
end
end Arr
-- text S11
set_option Elab.async false
set_option linter.unusedVariables false
/-! # the specification's own side: what the changes' rows are -/
namespace Arr
open Fc01 (from_ to_ after hom)
structure Mp (a b : Cat) (m : List Nat) : Prop where
  len : m.length = a.arrows.length
  th : Things a b m
  lt : ∀ f, f < a.arrows.length → m.getD f 0 < b.arrows.length
  fr : ∀ f, f < a.arrows.length → from_ b (m.getD f 0) = m.getD (from_ a f) 0
  to : ∀ f, f < a.arrows.length → to_ b (m.getD f 0) = m.getD (to_ a f) 0
theorem mp_of {a b : Cat} (wa : Wf a) (wb : Wf b) {m : List Nat} (h : m ∈ Fc01.maps a b) : Mp a b m := by
  obtain ⟨h1, h2, _⟩ := (mem_maps1 wa).mp h
  have la := wa.len
  have lb := wb.len
  have at_ : ∀ f, f < a.arrows.length → m[f]? = some (m.getD f 0) := fun f hf => by
    rw [List.getD_eq_getElem?_getD, List.getElem?_eq_getElem (by omega)]
    rfl
  have W : ∀ f, (wat (tot m) f).getD 0 = m.getD f 0 := fun f => by
    rw [wat_tot, List.getD_eq_getElem?_getD]
  have th : Things a b m := fun x hx => by
    have := h2 x _ (at_ x (by omega))
    unfold cand at this
    rw [if_pos hx] at this
    exact List.mem_range.mp this
  have key : ∀ f, f < a.arrows.length → m.getD f 0 < b.arrows.length ∧ from_ b (m.getD f 0) = m.getD (from_ a f) 0 ∧ to_ b (m.getD f 0) = m.getD (to_ a f) 0 := fun f hf => by
    by_cases hn : f < a.n
    · have t := th f hn
      have o := own_ends wa hn
      have o2 := own_ends wb t
      exact ⟨by omega, by rw [o.1, o2.1], by rw [o.2, o2.2]⟩
    · have := h2 f _ (at_ f hf)
      unfold cand at this
      rw [if_neg hn, W, W] at this
      exact hom_from this
  exact ⟨h1, th, fun f hf => (key f hf).1, fun f hf => (key f hf).2.1, fun f hf => (key f hf).2.2⟩
theorem mp_id {a : Cat} (wa : Wf a) : Mp a a (Fc01.idMap a) := by
  have la := wa.len
  refine ⟨by unfold Fc01.idMap Fc01.all; rw [List.length_range], things_id wa, fun f hf => by rw [getD_id hf]; exact hf, fun f hf => ?_, fun f hf => ?_⟩
  · have := from_lt wa hf
    rw [getD_id hf, getD_id (by omega)]
  · have := to_lt wa hf
    rw [getD_id hf, getD_id (by omega)]
theorem mp_follow {a b : Cat} (wa : Wf a) (wb : Wf b) {m k : List Nat} (hm : Mp a b m) (hk : Mp b a k) : Mp a a (Fc01.follow m k) := by
  have la := wa.len
  have gf : ∀ x, x < a.arrows.length → (Fc01.follow m k).getD x 0 = k.getD (m.getD x 0) 0 := fun x hx => getD_follow (by rw [hm.len]; exact hx)
  refine ⟨by unfold Fc01.follow; rw [List.length_map, hm.len], things_follow wa hm.len hm.th hk.th, fun f hf => ?_, fun f hf => ?_, fun f hf => ?_⟩
  · rw [gf f hf]
    exact hk.lt _ (hm.lt f hf)
  · have := from_lt wa hf
    rw [gf f hf, hk.fr _ (hm.lt f hf), hm.fr f hf, gf _ (by omega)]
  · have := to_lt wa hf
    rw [gf f hf, hk.to _ (hm.lt f hf), hm.to f hf, gf _ (by omega)]
def ChF (b : Cat) (m k w : List Nat) : Prop := ∀ x, x < w.length → w.getD x 0 ∈ hom b (m.getD x 0) (k.getD x 0)
def ChC (b : Cat) (m k : List Nat) (cs : List (List Nat)) : Prop := ∀ x p, cs[x]? = some p → p.length ≤ 9 ∧ ∀ y ∈ p, y ∈ hom b (m.getD x 0) (k.getD x 0)
theorem ChF.snoc {b : Cat} {m k w : List Nat} {y : Nat} (h : ChF b m k w) (hy : y ∈ hom b (m.getD w.length 0) (k.getD w.length 0)) : ChF b m k (w ++ [y]) := fun x hx => by
  rw [List.length_append, List.length_singleton] at hx
  by_cases e : x = w.length
  · rw [e, getD_snoc]
    exact hy
  · have q : (w ++ [y]).getD x 0 = w.getD x 0 := by rw [List.getD_eq_getElem?_getD, List.getElem?_append_left (by omega), ← List.getD_eq_getElem?_getD]
    rw [q]
    exact h x (by omega)
theorem among_take {a b : Cat} {m k : List Nat} {cs : List (List Nat)} {i : Nat} {p : List Nat} (h : cs[i]? = some p) : amongL a b m k (cs.take (i + 1)) = stepL a b m k (amongL a b m k (cs.take i)) p := by
  have e : cs.take (i + 1) = cs.take i ++ [p] := by rw [List.take_add_one, h]; rfl
  unfold amongL
  rw [e, List.foldl_append]
  rfl
theorem longer_le {a b : Cat} {m k c p : List Nat} : (longerL a b m k c p).length ≤ p.length := by
  unfold longerL
  rw [List.length_map]
  exact List.length_filter_le _ _
theorem step_le {a b : Cat} {m k p : List Nat} (hp : p.length ≤ 9) : ∀ R : List (List Nat), (stepL a b m k R p).length ≤ R.length * 9
  | [] => Nat.le_refl _
  | c :: R => by
    have ih := step_le (a := a) (b := b) (m := m) (k := k) hp R
    unfold stepL at ih ⊢
    rw [List.flatMap_cons, List.length_append, List.length_cons]
    have := longer_le (a := a) (b := b) (m := m) (k := k) (c := c) (p := p)
    omega
theorem among_rows {a b : Cat} {m k : List Nat} {cs : List (List Nat)} (hc : ChC b m k cs) : ∀ i, i ≤ cs.length → (∀ w ∈ amongL a b m k (cs.take i), w.length = i ∧ ChF b m k w) ∧ (amongL a b m k (cs.take i)).length ≤ 9 ^ i
  | 0, _ => by
    refine ⟨fun w hw => ?_, Nat.le_refl _⟩
    have : w = [] := List.mem_singleton.mp hw
    subst this
    exact ⟨rfl, fun x hx => absurd hx (Nat.not_lt_zero x)⟩
  | i + 1, h => by
    obtain ⟨ih1, ih2⟩ := among_rows (a := a) hc i (by omega)
    have hi : cs[i]? = some cs[i] := List.getElem?_eq_getElem (by omega)
    obtain ⟨p9, ph⟩ := hc i _ hi
    rw [among_take hi]
    refine ⟨fun w hw => ?_, ?_⟩
    · obtain ⟨v, hv, hw⟩ := List.mem_flatMap.mp hw
      obtain ⟨y, hy, rfl⟩ := List.mem_map.mp hw
      obtain ⟨l1, l2⟩ := ih1 v hv
      refine ⟨by rw [List.length_append, l1, List.length_singleton], l2.snoc ?_⟩
      rw [l1]
      exact ph y (List.mem_filter.mp hy).1
    · have := step_le (a := a) (b := b) (m := m) (k := k) p9 (amongL a b m k (cs.take i))
      rw [Nat.pow_succ]
      omega
theorem hom_len9 {b : Cat} (wb : Wf b) (x y : Nat) : (hom b x y).length ≤ 9 := by
  unfold Fc01.hom
  refine Nat.le_trans (List.length_filter_le _ _) ?_
  unfold Fc01.all
  rw [List.length_range]
  exact wb.l9
theorem chc_between {a b : Cat} (wb : Wf b) {m k : List Nat} : ChC b m k (betweenL a b m k) := fun x p hp => by
  unfold betweenL at hp
  rw [List.getElem?_map] at hp
  obtain ⟨y, hy, rfl⟩ := Option.map_eq_some_iff.mp hp
  rw [List.getElem?_eq_some_iff] at hy
  obtain ⟨h1, rfl⟩ := hy
  rw [List.getElem_range]
  exact ⟨hom_len9 wb _ _, fun y hy => hy⟩
theorem chc_filter {b : Cat} {m k : List Nat} {cs : List (List Nat)} (q : List Nat → List Nat) (hq : ∀ p, (q p).length ≤ p.length ∧ ∀ y ∈ q p, y ∈ p) (h : ChC b m k cs) : ChC b m k (cs.map q) := fun x p hp => by
  rw [List.getElem?_map] at hp
  obtain ⟨r, hr, rfl⟩ := Option.map_eq_some_iff.mp hp
  obtain ⟨h1, h2⟩ := h x r hr
  exact ⟨Nat.le_trans (hq r).1 h1, fun y hy => h2 y ((hq r).2 y hy)⟩
theorem chc_part {a b : Cat} (wa : Wf a) {m k : List Nat} (hm : m.length = a.arrows.length) : ChC a (Fc01.idMap a) (Fc01.follow m k) (partL a b m k) := fun x p hp => by
  unfold partL at hp
  rw [List.getElem?_map] at hp
  obtain ⟨y, hy, rfl⟩ := Option.map_eq_some_iff.mp hp
  rw [List.getElem?_eq_some_iff] at hy
  obtain ⟨h1, rfl⟩ := hy
  rw [List.length_range] at h1
  have la := wa.len
  rw [List.getElem_range, getD_id (by omega), getD_follow (by omega)]
  exact ⟨Nat.le_trans (List.length_filter_le _ _) (hom_len9 wa _ _), fun y hy => (List.mem_filter.mp hy).1⟩
/-- the places of a change that is asked at -/
theorem fit_ok {a b : Cat} (wa : Wf a) {m k w : List Nat} {f : Nat} (hm : Mp a b m) (hk : Mp a b k) (hf : f < a.arrows.length) (h1 : from_ a f < w.length) (h2 : to_ a f < w.length) (hw : ChF b m k w) :
    to_ b (m.getD f 0) = from_ b (w.getD (to_ a f) 0) ∧ to_ b (w.getD (from_ a f) 0) = from_ b (k.getD f 0) := by
  have q1 := hom_from (hw _ h1)
  have q2 := hom_from (hw _ h2)
  exact ⟨by rw [hm.to f hf, q2.2.1], by rw [hk.fr f hf, q1.2.2]⟩
theorem longer_take {a b : Cat} {m k c p : List Nat} {i y : Nat} (h : p[i]? = some y) : longerL a b m k c (p.take (i + 1)) = longerL a b m k c (p.take i) ++ (if (askedL a c.length).all (Fc01.square a b m k (c ++ [y])) = true then [c ++ [y]] else []) := by
  have e : p.take (i + 1) = p.take i ++ [y] := by rw [List.take_add_one, h]; rfl
  unfold longerL
  rw [e, List.filter_append, List.map_append, List.filter_cons]
  by_cases q : (askedL a c.length).all (Fc01.square a b m k (c ++ [y])) = true
  · rw [if_pos q, if_pos q]
    rfl
  · rw [if_neg q, if_neg q]
    rfl
theorem step_take {a b : Cat} {m k p : List Nat} {l : List (List Nat)} {i : Nat} {r : List Nat} (h : l[i]? = some r) : stepL a b m k (l.take (i + 1)) p = stepL a b m k (l.take i) p ++ longerL a b m k r p := by
  have e : l.take (i + 1) = l.take i ++ [r] := by rw [List.take_add_one, h]; rfl
  unfold stepL
  rw [e, List.flatMap_append]
  simp
theorem step_take_le {a b : Cat} {m k p : List Nat} {l : List (List Nat)} {i : Nat} : (stepL a b m k (l.take i) p).length ≤ (stepL a b m k l p).length := by
  have : stepL a b m k l p = stepL a b m k (l.take i) p ++ stepL a b m k (l.drop i) p := by
    unfold stepL
    rw [← List.flatMap_append, List.take_append_drop]
  rw [this, List.length_append]
  omega
/-- the partner by the first that has a change -/
theorem partner_is {a b : Cat} (wa : Wf a) (wb : Wf b) {m : List Nat} (hm : Mp a b m) : Fc01.partner a b m = (Fc01.maps b a).findSome? fun k => ((amongL a a (Fc01.idMap a) (Fc01.follow m k) (partL a b m k)).head?).map fun w => (k, w) := by
  unfold Fc01.partner
  have : ∀ (l : List (List Nat)), (∀ k ∈ l, Mp b a k) → (l.findSome? fun k => ((Fc01.changes a a (Fc01.idMap a) (Fc01.follow m k)).find? (Fc01.pairs a b m k)).map fun w => (k, w)) = l.findSome? fun k => ((amongL a a (Fc01.idMap a) (Fc01.follow m k) (partL a b m k)).head?).map fun w => (k, w) := fun l => by
    induction l with
    | nil => intro _; rfl
    | cons x r ih =>
      intro h
      rw [List.findSome?_cons, List.findSome?_cons, ih fun k hk => h k (List.mem_cons_of_mem _ hk), partner_one wa wb hm.len hm.th (h x (List.mem_cons_self ..)).th]
  exact this _ fun k hk => mp_of wb wa hk
end Arr
-- text B16
set_option Elab.async false
set_option linter.unusedVariables false
set_option maxRecDepth 100000
set_option maxHeartbeats 4000000
/-! # changes -/
namespace Arr
open PySem PySem.Spec PyProof.Rows L2 Evl LamX NdefX
open Fc01 (from_ to_ after hom turned)
theorem natV_at {m : List Nat} {f : Nat} (h : f < m.length) : (natV m)[f]? = some (.int ((m.getD f 0 : Nat) : Int)) := by
  unfold natV
  rw [List.getElem?_map, List.getD_eq_getElem?_getD, List.getElem?_eq_getElem h]
  rfl
/-- two categories and lists that stand -/
structure Two (C : Addr) (H : Hp) (a b pm pk : Addr) (ca cb : Cat) (m k : List Nat) : Prop where
  a : CatAt C H a ca
  b : CatAt C H b cb
  m : H pm = some (.lst (natV m))
  k : H pk = some (.lst (natV k))
theorem Two.mono {C : Addr} {H H' : Hp} {a b pm pk : Addr} {ca cb : Cat} {m k : List Nat} (e : Ex H H') (h : Two C H a b pm pk ca cb m k) : Two C H' a b pm pk ca cb m k := ⟨h.a.mono e, h.b.mono e, e _ _ h.m, e _ _ h.k⟩
def R_fits (C : Addr) : List V → Hp → V → Prop := fun vs H v => ∃ (a b pm pk pw : Addr) (ca cb : Cat) (m k w : List Nat) (f : Nat), vs = [.ref a, .ref b, .ref pm, .ref pk, .ref pw, .int (f : Int)] ∧ Two C H a b pm pk ca cb m k ∧ H pw = some (.lst (natV w)) ∧ Mp ca cb m ∧ Mp ca cb k ∧ f < ca.arrows.length ∧ from_ ca f < w.length ∧ to_ ca f < w.length ∧ ChF cb m k w ∧ v = .bl (Fc01.square ca cb m k w f)
def R_upto (C : Addr) : List V → Hp → List V → Prop := fun vs H xs => ∃ (a : Addr) (ca : Cat) (x : Nat), vs = [.ref a, .int (x : Int)] ∧ CatAt C H a ca ∧ xs = natV (askedL ca x)
def R_longer (C : Addr) : List V → Hp → List (List V) → Prop := fun vs H xss => ∃ (a b pm pk pc pp : Addr) (ca cb : Cat) (m k c p : List Nat), vs = [.ref a, .ref b, .ref pm, .ref pk, .ref pc, .ref pp] ∧ Two C H a b pm pk ca cb m k ∧ H pc = some (.lst (natV c)) ∧ H pp = some (.lst (natV p)) ∧ Mp ca cb m ∧ Mp ca cb k ∧ c.length ≤ 100 ∧ p.length ≤ 9 ∧ ChF cb m k c ∧ (∀ y ∈ p, y ∈ hom cb (m.getD c.length 0) (k.getD c.length 0)) ∧ xss = (longerL ca cb m k c p).map natV
def R_among (C : Addr) : List V → Hp → List (List V) → Prop := fun vs H xss => ∃ (a b pm pk pc : Addr) (ca cb : Cat) (m k : List Nat) (cs : List (Addr × List Nat)), vs = [.ref a, .ref b, .ref pm, .ref pk, .ref pc] ∧ Two C H a b pm pk ca cb m k ∧ BxAt H pc cs ∧ Mp ca cb m ∧ Mp ca cb k ∧ cs.length ≤ 4 ∧ ChC cb m k (cs.map (·.2)) ∧ xss = (amongL ca cb m k (cs.map (·.2))).map natV
def R_between (C : Addr) : List V → Hp → List (List V) → Prop := fun vs H xss => ∃ (a b pm pk : Addr) (ca cb : Cat) (m k : List Nat), vs = [.ref a, .ref b, .ref pm, .ref pk] ∧ Two C H a b pm pk ca cb m k ∧ Mp ca cb m ∧ Mp ca cb k ∧ xss = (betweenL ca cb m k).map natV
def R_allch (C : Addr) : List V → Hp → List (List V) → Prop := fun vs H xss => ∃ (a b pm pk : Addr) (ca cb : Cat) (m k : List Nat), vs = [.ref a, .ref b, .ref pm, .ref pk] ∧ Two C H a b pm pk ca cb m k ∧ Mp ca cb m ∧ Mp ca cb k ∧ xss = (Fc01.changes ca cb m k).map natV
def R_undb (C : Addr) : List V → Hp → List V → Prop := fun vs H xs => ∃ (b pl : Addr) (cb : Cat) (l : List Nat), vs = [.ref b, .ref pl] ∧ CatAt C H b cb ∧ H pl = some (.lst (natV l)) ∧ l.length ≤ 9 ∧ (∀ f ∈ l, f < cb.arrows.length) ∧ xs = natV (l.filter (Fc01.isTurn cb))
def R_alike (C : Addr) : List V → Hp → V → Prop := fun vs H v => ∃ (a b pm pk : Addr) (ca cb : Cat) (m k : List Nat), vs = [.ref a, .ref b, .ref pm, .ref pk] ∧ Two C H a b pm pk ca cb m k ∧ Mp ca cb m ∧ Mp ca cb k ∧ v = .bl (Fc01.isAlike ca cb m k)
section
variable {P : Program} {w : World} {K : PySem.W.Frag} {mg : Str → Option Value} {base : Heap} {A : Ads} {σ : L2.St} {H : Hp} {ta tb td te tf tg : TE} {a : Addr} {c : Cat} {E : XK} {D : Ends} {tu tz : TS} {i j : Nat}
theorem ev_at {pm : Addr} {m : List Nat} {f : Nat} (h : Ev ta σ H (.ref pm)) (hw : H pm = some (.lst (natV m))) (hi : Ev tb σ H (.int (f : Int))) (lf : f < m.length) : Ev (tOp (rIxL K) ta tb) σ H (.int ((m.getD f 0 : Nat) : Int)) := ev_op h hi (rv_ixL (sq_of hw) (atI_nat (natV_at lf)))
theorem ok_fits (T : Txt K mg A) : FnOk P w K mg base CX0 3 A.f_fits A.d_fits ["source", "target", "first", "second", "change", "f"] (spV (R_fits A.C)) := by
  refine T.F_fits.ok sc_fits (fun vs H Q E h => ?_) (fun cdv B outer s H vs Q E hr h => ⟨_, (pss_cons (ps_set (i := 6) sc_fits.nd rfl (Or.inl rfl) (pe_meth (pv 1) T.cl T.m_made (ok_made T) (hr.mono (by decide)) T.bd_made .nil pass0 (pa_cons (pe_ix (ixListK (K := K) rfl) (pv 2) (pv 5) (fun _ _ => rfl)) (pa_cons (pe_ix (ixListK (K := K) rfl) (pv 4) (pe_ix (ixListK (K := K) rfl) (fldK (K := K) rfl (pv 0) rfl) (pv 5) (fun _ _ => rfl)) (fun _ _ => rfl)) pa_nil))))
    (pss_cons (ps_set (i := 7) sc_fits.nd rfl (Or.inl rfl) (pe_meth (pv 1) T.cl T.m_made (ok_made T) (hr.mono (by decide)) T.bd_made .nil pass0 (pa_cons (pe_ix (ixListK (K := K) rfl) (pv 4) (pe_ix (ixListK (K := K) rfl) (fldK (K := K) rfl (pv 0) rfl) (pv 5) (fun _ _ => rfl)) (fun _ _ => rfl)) (pa_cons (pe_ix (ixListK (K := K) rfl) (pv 3) (pv 5) (fun _ _ => rfl)) pa_nil))))
    (pss_one (ps_ret (pe_cmpR op_eq (pv 6) (pv 7) (nomark _)))))), ?_⟩)
  · obtain ⟨_, _, _, ⟨_, _, _, _, _, _, _, _, _, _, _, rfl, _⟩, _⟩ := h
    rfl
  · obtain ⟨H0, v, e, ⟨a, b, pm, pk, pw, ca, cb, m, k1, wx, f, rfl, h2, hw, mm, mk, lf, l1, l2, cf, rfl⟩, k⟩ := h
    have h2 := h2.mono e
    have hw := e _ _ hw
    obtain ⟨q1, q2⟩ := fit_ok h2.a.wf mm mk lf l1 l2 cf
    refine q_asg (ev_made h2.b (ev_var rfl) (ev_at (ev_var rfl) h2.m (ev_var rfl) (by rw [mm.len]; exact lf)) (ev_at (ev_var rfl) hw (ev_end T h2.a (ev_var rfl) (ev_var rfl) lf) l2) q1) fun H1 e1 => ?_
    have h21 := h2.mono e1
    refine q_asg (ev_made h21.b (ev_var rfl) (ev_at (ev_var rfl) (e1 _ _ hw) (ev_beg T h21.a (ev_var rfl) (ev_var rfl) lf) l1) (ev_at (ev_var rfl) h21.k (ev_var rfl) (by rw [mk.len]; exact lf)) q2) fun H2 e2 => ?_
    exact s_ret (ev_eqOO (ev_var rfl) (ev_var rfl)) fun H3 e3 => k H3 ((e1.trans e2).trans e3)
theorem max_if (x y : Nat) : (if (y : Int) > (x : Int) then (y : Int) else (x : Int)) = ((max x y : Nat) : Int) := by
  by_cases h : x < y
  · rw [if_pos (by omega), Nat.max_eq_right (by omega)]
  · rw [if_neg (by omega), Nat.max_eq_left (by omega)]
theorem ok_arrows_up_to (T : Txt K mg A) : FnOk P w K mg base CX0 2 A.f_arrows_up_to A.d_arrows_up_to ["source", "x"] (spL (R_upto A.C)) := by
  refine T.F_arrows_up_to.ok sc_arrows_up_to (fun vs H Q E h => ?_) (fun cdv B outer s H vs Q E hr h => ⟨_, (pss_cons (ps_set (i := 2) sc_arrows_up_to.nd rfl (Or.inr rfl) (pe_lc (own := [("f", 3)]) (g := gName 3) (tt := tYes) rfl sc_arrows_up_to.nd (pi_range1 rfl T.b_range (pa_cons (pe_meth0 (pv 0) T.cl T.m_arrow_count (ok_arrow_count T) (hr.mono (by decide)) T.bd_arrow_count .nil pass0) pa_nil)) (blkOk_by (own := [("f", 3)]) (N := ["source", "x", "ends", "f"]) (sc := defScope s_arrows_up_to) (by decide +kernel)) (fun _ _ _ _ _ => pg_name (i := 3) sc_arrows_up_to.nd rfl (Or.inl rfl)) (fun _ _ _ _ _ => pts_nil) (fun _ _ _ _ _ => (pe_callB (call_max2 rfl) (by rfl) T.b_max (by decide +kernel) (pa_cons (pe_ix (ixListK (K := K) rfl) (fldK (K := K) rfl (pv 0) rfl) (pv 3) (fun _ _ => rfl)) (pa_cons (pe_ix (ixListK (K := K) rfl) (fldK (K := K) rfl (pv 0) rfl) (pv 3) (fun _ _ => rfl)) pa_nil))))))
    (pss_one (ps_ret (pe_lc (own := [("f", 3)]) (g := gName 3)  rfl sc_arrows_up_to.nd (pi_range2 rfl T.b_range (pa_cons (fldK (K := K) rfl (pv 0) rfl) (pa_cons (pe_meth0 (pv 0) T.cl T.m_arrow_count (ok_arrow_count T) (hr.mono (by decide)) T.bd_arrow_count .nil pass0) pa_nil))) (blkOk_by (own := [("f", 3)]) (N := ["source", "x", "ends", "f"]) (sc := defScope s_arrows_up_to) (by decide +kernel)) (fun _ _ _ _ _ => pg_name (i := 3) sc_arrows_up_to.nd rfl (Or.inl rfl)) (fun _ _ _ _ _ => (pts_one (pt_cmpR op_eq (pe_ix (ixListK (K := K) rfl) (pv 2) (pv 3) (fun _ _ => rfl)) (pv 1) (nomark _)))) (fun _ _ _ _ _ => (pv 3)))))), ?_⟩)
  · obtain ⟨_, _, _, ⟨_, _, _, rfl, _⟩, _⟩ := h
    rfl
  · obtain ⟨H0, v, e, ⟨a, ca, x, rfl, ha, rfl⟩, k⟩ := h
    have ha := ha.mono e
    have l9 := ha.wf.l9
    have ln := ha.wf.len
    refine q_asgL (el_mapR (fun f => V.int ((max (from_ ca f) (to_ ca f) : Nat) : Int)) (ea_cons (ev_arrow_count ha (ev_var rfl)) ea_nil) (by omega) (fun _ => rfl) fun f lf H1 e1 => ?_) fun pe H1 hpe e1 h1 => ?_
    · exact ev_is (ev_max2 (ev_beg T (ha.mono e1) (ev_var rfl) (ev_var rfl) lf) (ev_end T (ha.mono e1) (ev_var rfl) (ev_var rfl) lf)) (by rw [max_if])
    · have ha1 := ha.mono e1
      have h1 : H1 pe = some (.lst (natV ((List.range ca.arrows.length).map fun f => max (from_ ca f) (to_ ca f)))) := by
        unfold natV
        rw [List.map_map]
        exact h1
      refine s_retL (xs := natV (askedL ca x)) (el_compRN (fun f => max (from_ ca f) (to_ ca f) == x) (fun f => V.int (f : Int)) (ea_cons (ev_thing T ha1 (ev_var rfl)) (ea_cons (ev_arrow_count ha1 (ev_var rfl)) ea_nil)) ln (by omega) (fun _ => rfl) (fun f _ lf H2 e2 => ?_) (fun f _ lf H2 e2 _ => ev_var rfl)) fun p H2 hp e2 h2 => k.go e1 hp e2 h2
      refine et_test (ev_eqN (ev_is (ev_at (ev_var rfl) (e2 _ _ h1) (ev_var rfl) (by rw [List.length_map, List.length_range]; exact lf)) ?_) (ev_var rfl))
      rw [List.getD_eq_getElem?_getD, List.getElem?_map, List.getElem?_range lf]
      rfl
theorem ok_longer_changes (T : Txt K mg A) : FnOk P w K mg base CX0 4 A.f_longer_changes A.d_longer_changes ["source", "target", "first", "second", "change", "possible"] (spLL (R_longer A.C)) := by
  refine T.F_longer_changes.ok sc_longer_changes (fun vs H Q E h => ?_) (fun cdv B outer s H vs Q E hr h => ⟨_, (pss_cons (ps_set (i := 6) sc_longer_changes.nd rfl (Or.inl rfl) (pe_call (ok_arrows_up_to T) (hr.mono (by decide)) rfl T.g_arrows_up_to T.F_arrows_up_to.kp T.bd_arrows_up_to .nil pass0 (pa_cons (pv 0) (pa_cons (pe_callB (lenK (K := K) rfl) (by rfl) T.b_len PySem.boot_len (pa_cons (pv 4) pa_nil)) pa_nil))))
    (pss_cons (ps_set (i := 7) sc_longer_changes.nd rfl (Or.inl rfl) (pe_lst pa_nil))
    (pss_cons (ps_for PassesOwn.never rfl (piListK (K := K) rfl (pv 5)) (pg_name (i := 8) sc_longer_changes.nd rfl (Or.inl rfl))
    (pss_cons (ps_set (i := 9) sc_longer_changes.nd rfl (Or.inr rfl) (pe_op op_cat (pv 4) (pe_lst (pa_cons (pv 8) pa_nil))))
    (pss_one (ps_if (pt_val (pe_callB (allK (K := K) rfl rfl) (by rfl) T.b_all (by decide +kernel) (pa_cons (pe_lc (own := [("f", 10)]) (g := gName 10) (tt := tYes) rfl sc_longer_changes.nd (piListK (K := K) rfl (pv 6)) (blkOk_by (own := [("f", 10)]) (N := ["source", "target", "first", "second", "change", "possible", "asked", "longer", "arrow", "further", "f"]) (sc := defScope s_longer_changes) (by decide +kernel)) (fun _ _ _ _ _ => pg_name (i := 10) sc_longer_changes.nd rfl (Or.inl rfl)) (fun _ _ _ _ _ => pts_nil) (fun _ _ _ _ _ => (pe_call (ok_fits T) (hr.mono (by decide)) rfl T.g_fits T.F_fits.kp T.bd_fits .nil pass0 (pa_cons (pv 0) (pa_cons (pv 1) (pa_cons (pv 2) (pa_cons (pv 3) (pa_cons (pv 9) (pa_cons (pv 10) pa_nil))))))))) pa_nil))) (pss_one (ps_expr (pe_bm PySem.F.plainAttrs_list PySem.F.slot_list_append PySem.F.type_list_append mt_append (pv 7) (pa_cons (pv 9) pa_nil)))) pss_nil))))
    (pss_one (ps_ret (pv 7)))))), ?_⟩)
  · obtain ⟨_, _, _, ⟨_, _, _, _, _, _, _, _, _, _, _, _, rfl, _⟩, _⟩ := h
    rfl
  · obtain ⟨H0, v, e, ⟨a, b, pm, pk, pc, pp, ca, cb, m, k1, c, p, rfl, h2, hc, hp, mm, mk, lc, lp, cf, hy, rfl⟩, k⟩ := h
    have h2 := h2.mono e
    have hc := e _ _ hc
    have hp := e _ _ hp
    have l9 := h2.a.wf.l9
    have wa := h2.a.wf
    refine q_asgL (el_fn (ea_cons (ev_var rfl) (ea_cons (ev_is (ev_len (K := K) (ev_var rfl) (sq_of hc)) (by rw [natV_len])) ea_nil)) (spL_go ⟨a, ca, c.length, rfl, h2.a, rfl⟩)) fun pq H1 hpq e1 h1 => ?_
    refine q_asgL (el_lst ea_nil (by show 0 ≤ 100000; decide)) fun pl H2 hpl e2 h2l => ?_
    have n0 := (newLL_nil hpl e2 h2l).back e1
    have e2' := e1.trans e2
    refine q_forLn (ev_var rfl) (sq_of (e2' _ _ hp)) (fun i σ' H' => ∃ (v8 v9 : Option V) (cs : List (Addr × List V)), σ' = [some (.ref a), some (.ref b), some (.ref pm), some (.ref pk), some (.ref pc), some (.ref pp), some (.ref pq), some (.ref pl), v8, v9, none] ∧ NewLL H ((longerL ca cb m k1 c (p.take i)).map natV) pl cs H' ∧ H' pq = some (.lst (natV (askedL ca c.length))))
      (fun H3 e3 => ⟨_, _, [], rfl, n0.fwd e3, e3 _ _ (e2 _ _ h1)⟩) (fun i σ' H' _ ⟨_, _, _, _, n, _⟩ => sq_of (n.2.1 _ _ hp)) ?_ ?_
    · rintro i x σ' H3 hi ⟨v8, v9, cs, rfl, n3, h3q⟩
      obtain ⟨y, hyi, rfl⟩ := map_at (e := fun (n : Nat) => V.int (n : Int)) hi
      have ym := hy y (List.mem_of_getElem? hyi)
      have cs9 : cs.length ≤ 9 := by
        have l1 := congrArg List.length n3.2.2.1
        rw [List.length_map, List.length_map] at l1
        have := longer_le (a := ca) (b := cb) (m := m) (k := k1) (c := c) (p := p.take i)
        rw [List.length_take] at this
        omega
      refine q_asgL (xs := natV (c ++ [y])) (by rw [natV_snoc]; exact el_cat2 (ev_var rfl) (n3.2.1 _ _ hc) (el_lst (ea_cons (ev_var rfl) ea_nil) (by show 1 ≤ 100000; decide)) (by rw [natV_len]; show c.length + 1 ≤ 100000; omega)) fun pf H4 hpf e4 h4 => ?_
      have e4' := n3.2.1.trans e4
      have h24 := h2.mono e4'
      have nepq : pl ≠ pq := fun z => by
        have := n3.2.2.2.1
        have q := n0.1
        have hq := h1
        rw [← z] at hq
        have hpl' := hpl
        rw [hq] at hpl'
        cases hpl'
      have tst := ev_allL (K := K) (bs := (askedL ca c.length).map (Fc01.square ca cb m k1 (c ++ [y]))) (σ := [some (.ref a), some (.ref b), some (.ref pm), some (.ref pk), some (.ref pc), some (.ref pp), some (.ref pq), some (.ref pl), some (.int (y : Int)), some (.ref pf), none]) (H := H4)
        (te := tLc (iList K (tVar 6)) (gName 10) tYes (tCall (spV (R_fits A.C)) [] E0 (tCons (tVar 0) (tCons (tVar 1) (tCons (tVar 2) (tCons (tVar 3) (tCons (tVar 9) (tCons (tVar 10) tNil))))))) [10]) (by
        rw [List.map_map]
        refine el_mapL (K := K) (en := fun (n : Nat) => V.int (n : Int)) (l := askedL ca c.length) (fun f => V.bl (Fc01.square ca cb m k1 (c ++ [y]) f)) (ev_var (i := 6) rfl) (sq_of (e4 _ _ h3q)) ?_ (fun _ => rfl) fun f hf H5 e5 => ?_
        · unfold askedL
          refine Nat.le_trans (List.length_filter_le _ _) ?_
          rw [List.length_range']
          omega
        · unfold askedL at hf
          rw [List.mem_filter, List.mem_range'_1, beq_iff_eq] at hf
          have lf : f < ca.arrows.length := by omega
          refine ev_fn (ea_cons (ev_var rfl) (ea_cons (ev_var rfl) (ea_cons (ev_var rfl) (ea_cons (ev_var rfl) (ea_cons (ev_var rfl) (ea_cons (ev_var rfl) ea_nil)))))) (spV_go ⟨a, b, pm, pk, pf, ca, cb, m, k1, c ++ [y], f, rfl, h24.mono e5, e5 _ _ h4, mm, mk, lf, ?_, ?_, cf.snoc ym, rfl⟩)
          · rw [List.length_append, List.length_singleton]
            omega
          · rw [List.length_append, List.length_singleton]
            omega)
      have eqb : ((askedL ca c.length).map (Fc01.square ca cb m k1 (c ++ [y]))).all id = (askedL ca c.length).all (Fc01.square ca cb m k1 (c ++ [y])) := by rw [List.all_map]; rfl
      rw [eqb] at tst
      refine s_when (et_B tst) (fun q H5 e5 => ?_) (fun q H5 e5 => ?_)
      · refine s_app (K := K) (e5 _ _ (e4 _ _ n3.2.2.2.1)) (ev_var rfl) (ev_var rfl) (by rw [refs_len]; omega) fun H6 e6 => ⟨_, _, cs ++ [(pf, natV (c ++ [y]))], rfl, ?_, ?_⟩
        · rw [longer_take hyi, if_pos q, List.map_append]
          exact n3.snoc hpf ((e4.trans e5).trans e6) (e6 _ _ (e5 _ _ h4))
        · rw [upd_ne nepq.symm]
          exact e6 _ _ (e5 _ _ (e4 _ _ h3q))
      · refine ⟨_, _, cs, rfl, ?_, e5 _ _ (e4 _ _ h3q)⟩
        rw [longer_take hyi, if_neg (by rw [q]; decide), List.append_nil]
        exact n3.fwd (e4.trans e5)
    · rintro σ' H3 ⟨v8, v9, cs, rfl, n3, h3q⟩
      rw [natV_len, List.take_length] at n3
      exact s_ret (ev_var rfl) fun H4 e4 => k pl cs H4 (n3.fwd e4)
theorem ok_changes_among (T : Txt K mg A) : FnOk P w K mg base CX0 5 A.f_changes_among A.d_changes_among ["source", "target", "first", "second", "choices"] (spLL (R_among A.C)) := by
  refine T.F_changes_among.ok sc_changes_among (fun vs H Q E h => ?_) (fun cdv B outer s H vs Q E hr h => ⟨_, (pss_cons (ps_set (i := 5) sc_changes_among.nd rfl (Or.inl rfl) (pe_lst (pa_cons (pe_lst pa_nil) pa_nil)))
    (pss_cons (ps_for PassesOwn.never rfl (piListK (K := K) rfl (pv 4)) (pg_name (i := 6) sc_changes_among.nd rfl (Or.inl rfl))
    (pss_cons (ps_set (i := 7) sc_changes_among.nd rfl (Or.inl rfl) (pe_lst pa_nil))
    (pss_cons (ps_for PassesOwn.never rfl (piListK (K := K) rfl (pv 5)) (pg_name (i := 8) sc_changes_among.nd rfl (Or.inl rfl))
    (pss_one (ps_expr (pe_bm PySem.F.plainAttrs_list PySem.F.slot_list_extend PySem.F.type_list_extend mt_extend (pv 7) (pa_cons (pe_call (ok_longer_changes T) (hr.mono (by decide)) rfl T.g_longer_changes T.F_longer_changes.kp T.bd_longer_changes .nil pass0 (pa_cons (pv 0) (pa_cons (pv 1) (pa_cons (pv 2) (pa_cons (pv 3) (pa_cons (pv 8) (pa_cons (pv 6) pa_nil))))))) pa_nil)))))
    (pss_one (ps_set (i := 5) sc_changes_among.nd rfl (Or.inl rfl) (pv 7))))))
    (pss_one (ps_ret (pv 5))))), ?_⟩)
  · obtain ⟨_, _, _, ⟨_, _, _, _, _, _, _, _, _, _, rfl, _⟩, _⟩ := h
    rfl
  · obtain ⟨H0, v, e, ⟨a, b, pm, pk, pc, ca, cb, m, k1, cs, rfl, h2, hB, mm, mk, l4, hC, rfl⟩, k⟩ := h
    have h2 := h2.mono e
    have hB := hB.mono e
    have sl : sizeLine = 16777216 := rfl
    have bnd : ∀ i, i ≤ cs.length → (amongL ca cb m k1 ((cs.map (·.2)).take i)).length ≤ 6561 := fun i hi => by
      have := (among_rows (a := ca) hC i (by rw [List.length_map]; exact hi)).2
      exact Nat.le_trans this (Nat.le_trans (Nat.pow_le_pow_right (by decide) (by omega : i ≤ 4)) (by decide))
    refine q_row0 fun pr bs H1 n1 => ?_
    refine q_forLn (ev_var rfl) (sq_of (n1.2.1 _ _ hB.1)) (fun i σ' H' => ∃ (pr : Addr) (bs : List (Addr × List V)) (v6 v7 v8 : Option V), σ' = [some (.ref a), some (.ref b), some (.ref pm), some (.ref pk), some (.ref pc), some (.ref pr), v6, v7, v8] ∧ NewLL H ((amongL ca cb m k1 ((cs.map (·.2)).take i)).map natV) pr bs H')
      (fun H2 e2 => ⟨pr, bs, _, _, _, rfl, n1.fwd e2⟩) (fun i σ' H' _ ⟨_, _, _, _, _, _, n⟩ => sq_of (n.2.1 _ _ hB.1)) ?_ ?_
    · rintro i x σ' H2 hi ⟨pr, bs, v6, v7, v8, rfl, n2⟩
      obtain ⟨c, hci, rfl⟩ := map_at (e := fun b : Addr × List Nat => V.ref b.1) hi
      have cm := List.mem_of_getElem? hci
      have li : i < cs.length := (List.getElem?_eq_some_iff.mp hci).1
      have hci2 : (cs.map (·.2))[i]? = some c.2 := by rw [List.getElem?_map, hci]; rfl
      have hc := n2.2.1 _ _ (hB.2 c cm)
      obtain ⟨c9, cy⟩ := hC i _ hci2
      obtain ⟨rs, hrs, hrf, hrb⟩ := told_by n2.2.2.1
      have h2r : H2 pr = some (.lst (refs rs)) := by rw [hrf]; exact n2.2.2.2.1
      have le1 := bnd (i + 1) li
      rw [among_take hci2] at le1
      have rows := (among_rows (a := ca) hC i (by rw [List.length_map]; omega)).1
      refine q_asgL (el_lst ea_nil (by show 0 ≤ 100000; decide)) fun pl H3 hpl e3 h3 => ?_
      refine q_forLn (ev_var rfl) (sq_of (e3 _ _ h2r)) (fun j σ' H' => ∃ (v8 : Option V) (ds : List (Addr × List V)), σ' = [some (.ref a), some (.ref b), some (.ref pm), some (.ref pk), some (.ref pc), some (.ref pr), some (.ref c.1), some (.ref pl), v8] ∧ NewLL H2 ((stepL ca cb m k1 ((amongL ca cb m k1 ((cs.map (·.2)).take i)).take j) c.2).map natV) pl ds H')
        (fun H4 e4 => ⟨_, [], rfl, (newLL_nil hpl e3 h3).fwd e4⟩) (fun i σ' H' _ ⟨_, _, _, n⟩ => sq_of (n.2.1 _ _ h2r)) ?_ ?_
      · rintro j x σ' H4 hj ⟨v8, ds, rfl, n4⟩
        obtain ⟨r, hrj, rfl⟩ := map_at (e := fun b : Addr × List Nat => V.ref b.1) hj
        have hrj2 : (amongL ca cb m k1 ((cs.map (·.2)).take i))[j]? = some r.2 := by rw [← hrs, List.getElem?_map, hrj]; rfl
        have hr2 := n4.2.1 _ _ (n2.2.2.2.2 _ (hrb r (List.mem_of_getElem? hrj))).2.2
        obtain ⟨r1, r2⟩ := rows r.2 (List.mem_of_getElem? hrj2)
        have e4 := n2.2.1.trans n4.2.1
        refine s_extLL (K := K) n4.2.2.2.1 (ev_var rfl) (ell_fn (ea_cons (ev_var rfl) (ea_cons (ev_var rfl) (ea_cons (ev_var rfl) (ea_cons (ev_var rfl) (ea_cons (ev_var rfl) (ea_cons (ev_var rfl) ea_nil)))))) (spLL_go (R := R_longer A.C) ⟨a, b, pm, pk, r.1, c.1, ca, cb, m, k1, r.2, c.2, rfl, h2.mono e4, hr2, n4.2.1 _ _ hc, mm, mk, by omega, c9, r2, by rw [r1]; exact cy, rfl⟩)) ?_ fun q es H5 n5 => ⟨_, ds ++ es, rfl, ?_⟩
        · have l1 := congrArg List.length n4.2.2.1
          rw [List.length_map, List.length_map] at l1
          rw [refs_len, l1, List.length_map]
          have := step_take_le (a := ca) (b := cb) (m := m) (k := k1) (p := c.2) (l := amongL ca cb m k1 ((cs.map (·.2)).take i)) (i := j + 1)
          rw [step_take hrj2, List.length_append] at this
          omega
        · have := n4.app n5
          rw [step_take hrj2, List.map_append]
          exact this
      · rintro σ' H4 ⟨v8, ds, rfl, n4⟩
        have ll : (refs rs).length = (amongL ca cb m k1 ((cs.map (·.2)).take i)).length := by rw [refs_len, ← hrs, List.length_map]
        rw [ll, List.take_length] at n4
        refine s_asg (ev_var rfl) fun H5 e5 => ⟨pl, ds, _, _, _, rfl, ?_⟩
        rw [among_take hci2]
        exact (n4.back n2.2.1).fwd e5
    · rintro σ' H2 ⟨pr, bs, v6, v7, v8, rfl, n2⟩
      rw [refs_len, ← List.length_map (f := fun r : Addr × List Nat => r.2), List.take_length] at n2
      exact s_ret (ev_var rfl) fun H3 e3 => k pr bs H3 (n2.fwd e3)
theorem ok_arrows_between (T : Txt K mg A) : FnOk P w K mg base CX0 3 A.f_arrows_between A.d_arrows_between ["source", "target", "first", "second"] (spLL (R_between A.C)) := by
  refine T.F_arrows_between.ok sc_arrows_between (fun vs H Q E h => ?_) (fun cdv B outer s H vs Q E hr h => ⟨_, (pss_one (ps_ret (pe_lc (own := [("x", 4)]) (g := gName 4) (tt := tYes) rfl sc_arrows_between.nd (pi_range1 rfl T.b_range (pa_cons (fldK (K := K) rfl (pv 0) rfl) pa_nil)) (blkOk_by (own := [("x", 4)]) (N := ["source", "target", "first", "second", "x"]) (sc := defScope s_arrows_between) (by decide +kernel)) (fun _ _ _ _ _ => pg_name (i := 4) sc_arrows_between.nd rfl (Or.inl rfl)) (fun _ _ _ _ _ => pts_nil) (fun _ _ _ _ _ => (pe_meth (pv 1) T.cl T.m_hom (ok_hom T) (hr.mono (by decide)) T.bd_hom .nil pass0 (pa_cons (pe_ix (ixListK (K := K) rfl) (pv 2) (pv 4) (fun _ _ => rfl)) (pa_cons (pe_ix (ixListK (K := K) rfl) (pv 3) (pv 4) (fun _ _ => rfl)) pa_nil))))))), ?_⟩)
  · obtain ⟨_, _, _, ⟨_, _, _, _, _, _, _, _, rfl, _⟩, _⟩ := h
    rfl
  · obtain ⟨H0, v, e, ⟨a, b, pm, pk, ca, cb, m, k1, rfl, h2, mm, mk, rfl⟩, k⟩ := h
    have h2 := h2.mono e
    have n4 := h2.a.wf.n4
    have ln := h2.a.wf.len
    unfold betweenL at k
    rw [List.map_map] at k
    refine s_retLL (ell_mapR (fun x => natV (hom cb (m.getD x 0) (k1.getD x 0))) (ea_cons (ev_thing T h2.a (ev_var rfl)) ea_nil) (by omega) (fun _ => rfl) fun x lx H1 e1 => ?_) k
    have h21 := h2.mono e1
    exact el_hom h21.b (ev_var rfl) (ev_at (ev_var rfl) h21.m (ev_var rfl) (by rw [mm.len]; omega)) (ev_at (ev_var rfl) h21.k (ev_var rfl) (by rw [mk.len]; omega))
theorem bx_of {Hs H1 : Hp} {xs : List (List Nat)} {p : Addr} {bs : List (Addr × List V)} (n : NewLL Hs (xs.map natV) p bs H1) : ∃ cs : List (Addr × List Nat), cs.map (·.2) = xs ∧ BxAt H1 p cs := by
  obtain ⟨rs, hrs, hrf, hrb⟩ := told_by n.2.2.1
  exact ⟨rs, hrs, by rw [hrf]; exact n.2.2.2.1, fun c hc => (n.2.2.2.2 _ (hrb c hc)).2.2⟩
theorem between_len (a b : Cat) (m k : List Nat) : (betweenL a b m k).length = a.n := by
  unfold betweenL
  rw [List.length_map, List.length_range]
theorem ok_all_changes (T : Txt K mg A) : FnOk P w K mg base CX0 6 A.f_all_changes A.d_all_changes ["source", "target", "first", "second"] (spLL (R_allch A.C)) := by
  refine T.F_all_changes.ok sc_all_changes (fun vs H Q E h => ?_) (fun cdv B outer s H vs Q E hr h => ⟨_, (pss_cons (ps_set (i := 4) sc_all_changes.nd rfl (Or.inl rfl) (pe_call (ok_arrows_between T) (hr.mono (by decide)) rfl T.g_arrows_between T.F_arrows_between.kp T.bd_arrows_between .nil pass0 (pa_cons (pv 0) (pa_cons (pv 1) (pa_cons (pv 2) (pa_cons (pv 3) pa_nil))))))
    (pss_one (ps_ret (pe_call (ok_changes_among T) (hr.mono (by decide)) rfl T.g_changes_among T.F_changes_among.kp T.bd_changes_among .nil pass0 (pa_cons (pv 0) (pa_cons (pv 1) (pa_cons (pv 2) (pa_cons (pv 3) (pa_cons (pv 4) pa_nil))))))))), ?_⟩)
  · obtain ⟨_, _, _, ⟨_, _, _, _, _, _, _, _, rfl, _⟩, _⟩ := h
    rfl
  · obtain ⟨H0, v, e, ⟨a, b, pm, pk, ca, cb, m, k1, rfl, h2, mm, mk, rfl⟩, k⟩ := h
    have h2 := h2.mono e
    have n4 := h2.a.wf.n4
    refine q_asgLL (ell_fn (ea_cons (ev_var rfl) (ea_cons (ev_var rfl) (ea_cons (ev_var rfl) (ea_cons (ev_var rfl) ea_nil)))) (spLL_go ⟨a, b, pm, pk, ca, cb, m, k1, rfl, h2, mm, mk, rfl⟩)) fun p bs H1 n1 => ?_
    obtain ⟨cs, hcs, hB⟩ := bx_of n1
    rw [← changes_is h2.a.wf h2.b.wf mm.th mk.th] at k
    refine s_retLL (ell_fn (ea_cons (ev_var rfl) (ea_cons (ev_var rfl) (ea_cons (ev_var rfl) (ea_cons (ev_var rfl) (ea_cons (ev_var rfl) ea_nil))))) (spLL_go ⟨a, b, pm, pk, p, ca, cb, m, k1, cs, rfl, h2.mono n1.2.1, hB, mm, mk, ?_, ?_, by rw [hcs]⟩)) fun p bs H2 n2 => k p bs H2 (n2.back n1.2.1)
    · rw [← List.length_map (f := fun r : Addr × List Nat => r.2), hcs, between_len]
      exact n4
    · rw [hcs]
      exact chc_between h2.b.wf
theorem ok_undone_both_ways (T : Txt K mg A) : FnOk P w K mg base CX0 5 A.f_undone_both_ways A.d_undone_both_ways ["category", "arrows"] (spL (R_undb A.C)) := by
  refine T.F_undone_both_ways.ok sc_undone_both_ways (fun vs H Q E h => ?_) (fun cdv B outer s H vs Q E hr h => ⟨_, (pss_one (ps_ret (pe_lc (own := [("f", 2)]) (g := gName 2)  rfl sc_undone_both_ways.nd (piListK (K := K) rfl (pv 1)) (blkOk_by (own := [("f", 2)]) (N := ["category", "arrows", "f"]) (sc := defScope s_undone_both_ways) (by decide +kernel)) (fun _ _ _ _ _ => pg_name (i := 2) sc_undone_both_ways.nd rfl (Or.inl rfl)) (fun _ _ _ _ _ => (pts_one (pt_val (pe_call (ok_can_be_undone_both_ways T) (hr.mono (by decide)) rfl T.g_can_be_undone_both_ways T.F_can_be_undone_both_ways.kp T.bd_can_be_undone_both_ways .nil pass0 (pa_cons (pv 0) (pa_cons (pv 2) pa_nil)))))) (fun _ _ _ _ _ => (pv 2))))), ?_⟩)
  · obtain ⟨_, _, _, ⟨_, _, _, _, rfl, _⟩, _⟩ := h
    rfl
  · obtain ⟨H0, v, e, ⟨b, pl, cb, l, rfl, hb, hl, l9, lt, rfl⟩, k⟩ := h
    have hb := hb.mono e
    have hl := e _ _ hl
    exact s_retL (xs := natV (l.filter (Fc01.isTurn cb))) (el_compL (K := K) (en := fun (n : Nat) => V.int (n : Int)) (l := l) (Fc01.isTurn cb) (fun (n : Nat) => V.int (n : Int)) (ev_var rfl) (sq_of hl) (by omega) (fun _ => rfl) (fun f hf H1 e1 => et_B (ev_fn (ea_cons (ev_var rfl) (ea_cons (ev_var rfl) ea_nil)) (spV_go ⟨b, cb, f, rfl, hb.mono e1, lt f hf, rfl⟩))) (fun f hf H1 e1 _ => ev_var rfl)) k
theorem ok_are_alike (T : Txt K mg A) : FnOk P w K mg base CX0 6 A.f_are_alike A.d_are_alike ["source", "target", "first", "second"] (spV (R_alike A.C)) := by
  refine T.F_are_alike.ok sc_are_alike (fun vs H Q E h => ?_) (fun cdv B outer s H vs Q E hr h => ⟨_, (pss_cons (ps_set (i := 4) sc_are_alike.nd rfl (Or.inl rfl) (pe_call (ok_arrows_between T) (hr.mono (by decide)) rfl T.g_arrows_between T.F_arrows_between.kp T.bd_arrows_between .nil pass0 (pa_cons (pv 0) (pa_cons (pv 1) (pa_cons (pv 2) (pa_cons (pv 3) pa_nil))))))
    (pss_cons (ps_setLc (i := 5) (own := [("arrows", 6)]) (g := gName 6) (tt := tYes) rfl sc_are_alike.nd rfl rfl (sw_true rfl rfl rfl (by decide +kernel)) (piListK (K := K) rfl (pv 4)) (blkOk_by (own := [("arrows", 6)]) (N := ["source", "target", "first", "second", "between", "choices", "arrows"]) (sc := defScope s_are_alike) (by decide +kernel)) (fun _ _ _ _ _ => pg_name (i := 6) sc_are_alike.nd rfl (Or.inl rfl)) (fun _ _ _ _ _ => pts_nil) (fun _ _ _ _ _ => (pe_call (ok_undone_both_ways T) (hr.mono (by decide)) rfl T.g_undone_both_ways T.F_undone_both_ways.kp T.bd_undone_both_ways .nil pass0 (pa_cons (pv 1) (pa_cons (pv 6) pa_nil)))))
    (pss_one (ps_ret (pe_cmpR op_gt (pe_callB (lenK (K := K) rfl) (by rfl) T.b_len PySem.boot_len (pa_cons (pe_call (ok_changes_among T) (hr.mono (by decide)) rfl T.g_changes_among T.F_changes_among.kp T.bd_changes_among .nil pass0 (pa_cons (pv 0) (pa_cons (pv 1) (pa_cons (pv 2) (pa_cons (pv 3) (pa_cons (pv 5) pa_nil)))))) pa_nil)) pe_int (nomark _)))))), ?_⟩)
  · obtain ⟨_, _, _, ⟨_, _, _, _, _, _, _, _, rfl, _⟩, _⟩ := h
    rfl
  · obtain ⟨H0, v, e, ⟨a, b, pm, pk, ca, cb, m, k1, rfl, h2, mm, mk, rfl⟩, k⟩ := h
    have h2 := h2.mono e
    have n4 := h2.a.wf.n4
    refine q_asgLL (ell_fn (ea_cons (ev_var rfl) (ea_cons (ev_var rfl) (ea_cons (ev_var rfl) (ea_cons (ev_var rfl) ea_nil)))) (spLL_go ⟨a, b, pm, pk, ca, cb, m, k1, rfl, h2, mm, mk, rfl⟩)) fun p bs H1 n1 => ?_
    obtain ⟨cs, hcs, hB⟩ := bx_of n1
    have h21 := h2.mono n1.2.1
    have cl : cs.length ≤ 4 := by
      rw [← List.length_map (f := fun r : Addr × List Nat => r.2), hcs, between_len]
      exact n4
    have inb : ∀ c ∈ cs, c.2.length ≤ 9 ∧ ∀ f ∈ c.2, f < cb.arrows.length := fun c hc => by
      have : c.2 ∈ betweenL ca cb m k1 := by
        rw [← hcs]
        exact List.mem_map.mpr ⟨c, hc, rfl⟩
      obtain ⟨x, _, hx⟩ := List.mem_map.mp this
      rw [← hx]
      exact ⟨hom_len9 h2.b.wf _ _, fun f hf => (hom_from hf).1⟩
    refine q_asgLL (ell_mapL (K := K) (en := fun b : Addr × List Nat => V.ref b.1) (l := cs) (fun c => natV (c.2.filter (Fc01.isTurn cb))) (ev_var rfl) (sq_of hB.1) (by have sl : sizeLine = 16777216 := rfl; omega) (fun _ => rfl) fun c hc H2 e2 => el_fn (ea_cons (ev_var rfl) (ea_cons (ev_var rfl) ea_nil)) (spL_go ⟨b, c.1, cb, c.2, rfl, h21.b.mono e2, e2 _ _ (hB.2 c hc), (inb c hc).1, (inb c hc).2, rfl⟩)) fun p2 bs2 H2 n2 => ?_
    have ecs : (cs.map fun c => natV (c.2.filter (Fc01.isTurn cb))) = ((betweenL ca cb m k1).map fun l => l.filter (Fc01.isTurn cb)).map natV := by
      rw [← hcs, List.map_map, List.map_map]
      rfl
    rw [ecs] at n2
    obtain ⟨cs2, hcs2, hB2⟩ := bx_of n2
    have g := ev_op (H := H2) (σ := [some (.ref a), some (.ref b), some (.ref pm), some (.ref pk), some (.ref p), some (.ref p2), none]) (ev_lenLL (K := K) (ell_fn (E := E0) (ea_cons (ev_var (i := 0) rfl) (ea_cons (ev_var (i := 1) rfl) (ea_cons (ev_var (i := 2) rfl) (ea_cons (ev_var (i := 3) rfl) (ea_cons (ev_var (i := 5) rfl) ea_nil))))) (spLL_go (R := R_among A.C) ⟨a, b, pm, pk, p2, ca, cb, m, k1, cs2, rfl, h21.mono n2.2.1, hB2, mm, mk, ?_, ?_, by rw [hcs2]⟩))) (ev_c (v := .int 0)) (rv_I0 (g := fun i j => .bl (decide (i > j))))
    · refine s_ret (ev_is g ?_) fun H3 e3 => k H3 ((n1.2.1.trans n2.2.1).trans e3)
      rw [List.length_map, ← alike_is h2.a.wf h2.b.wf mm.th mk.th]
      congr 1
      exact decide_eq_decide.mpr (by omega)
    · rw [← List.length_map (f := fun r : Addr × List Nat => r.2), hcs2, List.length_map, between_len]
      exact n4
    · rw [hcs2]
      exact chc_filter (fun l => l.filter (Fc01.isTurn cb)) (fun p => ⟨List.length_filter_le _ _, fun y hy => (List.mem_filter.mp hy).1⟩) (chc_between h2.b.wf)
end
end Arr
-- text B17
set_option Elab.async false
set_option linter.unusedVariables false
set_option maxRecDepth 100000
set_option maxHeartbeats 4000000
/-! # partners -/
namespace Arr
open PySem PySem.Spec PyProof.Rows L2 Evl LamX NdefX
open Fc01 (from_ to_ after hom turned)
def nay {α : Type} (p : α → Bool) (x : α) : Option Unit := if p x = true then none else some ()
theorem find_nay {α : Type} (p : α → Bool) : ∀ l : List α, l.findSome? (nay p) = if l.all p = true then none else some ()
  | [] => rfl
  | x :: l => by
    rw [List.findSome?_cons, List.all_cons]
    cases q : p x with
    | true =>
      have : nay p x = none := if_pos q
      rw [this, Bool.true_and]
      exact find_nay p l
    | false =>
      have : nay p x = some () := if_neg (by rw [q]; decide)
      rw [this]
      rfl
def R_cf1 (C : Addr) : List V → Hp → V → Prop := fun vs H v => ∃ (a pk pt : Addr) (ca : Cat) (k t : List Nat) (ar u : Nat), vs = [.ref a, .ref pk, .int (ar : Int), .int (u : Int), .ref pt] ∧ CatAt C H a ca ∧ H pk = some (.lst (natV k)) ∧ H pt = some (.lst (natV t)) ∧ t.length ≤ 9 ∧ (∀ g ∈ t, g < k.length ∧ to_ ca ar = from_ ca (k.getD g 0)) ∧ v = .bl ((t.filter fun g => after ca ar (k.getD g 0) == some u).length == 1)
def R_allcf (C : Addr) : List V → Hp → V → Prop := fun vs H v => ∃ (a b pm pk : Addr) (ca cb : Cat) (m k : List Nat) (x ar : Nat), vs = [.ref a, .ref b, .ref pm, .ref pk, .int (x : Int), .int (ar : Int)] ∧ Two C H a b pm pk ca cb m k ∧ Mp ca cb m ∧ Mp cb ca k ∧ x < ca.n ∧ ar ∈ hom ca x (k.getD (m.getD x 0) 0) ∧ v = .bl (partOk ca cb m k x ar)
def partAt (a b : Cat) (m k : List Nat) (x : Nat) : List Nat := (hom a x (k.getD (m.getD x 0) 0)).filter (partOk a b m k x)
def R_parr (C : Addr) : List V → Hp → List V → Prop := fun vs H xs => ∃ (a b pm pk : Addr) (ca cb : Cat) (m k : List Nat) (x : Nat), vs = [.ref a, .ref b, .ref pm, .ref pk, .int (x : Int)] ∧ Two C H a b pm pk ca cb m k ∧ Mp ca cb m ∧ Mp cb ca k ∧ x < ca.n ∧ xs = natV (partAt ca cb m k x)
def partC (a b : Cat) (m k : List Nat) : List (List Nat) := if [] ∈ partL a b m k then [] else partL a b m k
def R_pch (C : Addr) : List V → Hp → List (List V) → Prop := fun vs H xss => ∃ (a b pm pk : Addr) (ca cb : Cat) (m k : List Nat), vs = [.ref a, .ref b, .ref pm, .ref pk] ∧ Two C H a b pm pk ca cb m k ∧ Mp ca cb m ∧ Mp cb ca k ∧ xss = (partC ca cb m k).map natV
def backs (a b : Cat) (m k : List Nat) : List (List Nat) := amongL a a (Fc01.idMap a) (Fc01.follow m k) (partL a b m k)
def R_pchg (C : Addr) : List V → Hp → List (List V) → Prop := fun vs H xss => ∃ (a b pm pk : Addr) (ca cb : Cat) (m k : List Nat), vs = [.ref a, .ref b, .ref pm, .ref pk] ∧ Two C H a b pm pk ca cb m k ∧ Mp ca cb m ∧ Mp cb ca k ∧ xss = (backs ca cb m k).map natV
def optK : Option (List Nat × List Nat) → List Nat
  | none => [0]
  | some x => 1 :: x.1 ++ x.2
def R_fpart (C : Addr) : List V → Hp → List V → Prop := fun vs H xs => ∃ (a b pm pb : Addr) (ca cb : Cat) (m : List Nat) (cs : List (Addr × List Nat)), vs = [.ref a, .ref b, .ref pm, .ref pb] ∧ CatAt C H a ca ∧ CatAt C H b cb ∧ H pm = some (.lst (natV m)) ∧ Mp ca cb m ∧ BxAt H pb cs ∧ cs.map (·.2) = Fc01.maps cb ca ∧ xs = natV (optK (Fc01.partner ca cb m))
theorem partL_at {a b : Cat} {m k : List Nat} {x : Nat} (h : x < a.n) : (partL a b m k)[x]? = some (partAt a b m k x) := by
  unfold partL partAt
  rw [List.getElem?_map, List.getElem?_range h]
  rfl
theorem partL_len (a b : Cat) (m k : List Nat) : (partL a b m k).length = a.n := by
  unfold partL
  rw [List.length_map, List.length_range]
section
variable {P : Program} {w : World} {K : PySem.W.Frag} {mg : Str → Option Value} {base : Heap} {A : Ads} {σ : L2.St} {H : Hp} {ta tb td te tf tg : TE} {a : Addr} {c : Cat} {E : XK} {D : Ends} {tu tz : TS} {i j : Nat}
def encC (c : Addr × List Nat) : PyData := .list (natD c.2)
theorem dp_bx : ∀ {cs : List (Addr × List Nat)}, (∀ c ∈ cs, H c.1 = some (.lst (natV c.2))) → DpAll K H (refs cs) (cs.map encC)
  | [], _ => DpAll.nil
  | c :: cs, h => DpAll.cons (Dp.lst (sq_of (h c (List.mem_cons_self ..))) dp_nats) (dp_bx fun d hd => h d (List.mem_cons_of_mem _ hd))
theorem shaped_bx (cs : List (Addr × List Nat)) : SeqAt.shaped (.list (cs.map encC)) = true := by
  have h1 : PyData.canLayAll0 (cs.map encC) = true := by
    induction cs with
    | nil => rfl
    | cons n r ih =>
      show (PyData.canLay0 (.list (natD n.2)) && PyData.canLayAll0 (r.map encC)) = true
      rw [ih, Bool.and_true]
      exact SeqAt.canLay_of_shaped (shaped_nats n.2)
  have h0 : ∀ l : List Nat, PyData.depth (.list (natD l)) ≤ 1 := by
    intro l
    have : PyData.depthAll (natD l) = 0 := by
      induction l with
      | nil => rfl
      | cons n r ih =>
        show max (PyData.depth (.int (n : Int))) (PyData.depthAll (natD r)) = 0
        rw [ih]
        rfl
    show PyData.depthAll (natD l) + 1 ≤ 1
    omega
  have h2 : PyData.depthAll (cs.map encC) ≤ 1 := by
    induction cs with
    | nil => exact Nat.zero_le _
    | cons n r ih =>
      show max (PyData.depth (.list (natD n.2))) (PyData.depthAll (r.map encC)) ≤ 1
      have := h0 n.2
      have := ih (by
        have q : (PyData.canLay0 (encC n) && PyData.canLayAll0 (r.map encC)) = true := h1
        rw [Bool.and_eq_true] at q
        exact q.2)
      omega
  unfold SeqAt.shaped
  show (PyData.canLayAll0 (cs.map encC) && decide (PyData.depthAll (cs.map encC) + 1 ≤ 64)) = true
  rw [h1, Bool.true_and, decide_eq_true_eq]
  omega
theorem eqv_bx (cs : List (Addr × List Nat)) : PyData.eqvAll (cs.map encC) (natD []) = decide (cs.map (·.2) = []) := by
  cases cs with
  | nil => rfl
  | cons c r => rfl
theorem ev_eqNil {p : Addr} {cs : List (Addr × List Nat)} (h : Ev ta σ H (.ref p)) (hB : BxAt H p cs) : Ev (tOp (rEqD K) ta (tLst tNil)) σ H (.bl (decide (cs.map (·.2) = []))) :=
  ev_opL (xs := []) h (el_lst ea_nil (by show 0 ≤ 100000; decide)) fun q H1 hq e1 => fun H2 e2 Q k => ⟨.list (cs.map encC), .list (natD []), Dp.lst (sq_of (e2 _ _ (e1 _ _ hB.1))) (dp_bx fun c hc => e2 _ _ (e1 _ _ (hB.2 c hc))), Dp.lst (sq_of (e2 _ _ hq)) DpAll.nil, shaped_bx cs, shaped_nats [], by
    show Q (.bl (PyData.eqvAll (cs.map encC) (natD []))) H2
    rw [eqv_bx]
    exact k H2 (Ex.refl H2)⟩
theorem ev_neNil {p : Addr} {cs : List (Addr × List Nat)} (h : Ev ta σ H (.ref p)) (hB : BxAt H p cs) : Ev (tOp (rNeD K) ta (tLst tNil)) σ H (.bl (!decide (cs.map (·.2) = []))) :=
  ev_opL (xs := []) h (el_lst ea_nil (by show 0 ≤ 100000; decide)) fun q H1 hq e1 => fun H2 e2 Q k => ⟨.list (cs.map encC), .list (natD []), Dp.lst (sq_of (e2 _ _ (e1 _ _ hB.1))) (dp_bx fun c hc => e2 _ _ (e1 _ _ (hB.2 c hc))), Dp.lst (sq_of (e2 _ _ hq)) DpAll.nil, shaped_bx cs, shaped_nats [], by
    show Q (.bl (!PyData.eqvAll (cs.map encC) (natD []))) H2
    rw [eqv_bx]
    exact k H2 (Ex.refl H2)⟩
theorem ev_eqNilN {p : Addr} {l : List Nat} (h : Ev ta σ H (.ref p)) (hB : H p = some (.lst (natV l))) : Ev (tOp (rEqD K) ta (tLst tNil)) σ H (.bl (decide (l = []))) :=
  ev_opL (xs := []) h (el_lst ea_nil (by show 0 ≤ 100000; decide)) fun q H1 hq e1 => rv_eqNats (r := []) (e1 _ _ hB) hq
theorem ok_comes_from_one (T : Txt K mg A) : FnOk P w K mg base CX0 3 A.f_comes_from_one A.d_comes_from_one ["source", "back", "arrow", "u", "there"] (spV (R_cf1 A.C)) := by
  refine T.F_comes_from_one.ok sc_comes_from_one (fun vs H Q E h => ?_) (fun cdv B outer s H vs Q E hr h => ⟨_, (pss_one (ps_ret (pe_cmpR op_eq (pe_callB (lenK (K := K) rfl) (by rfl) T.b_len PySem.boot_len (pa_cons (pe_lc (own := [("g", 5)]) (g := gName 5)  rfl sc_comes_from_one.nd (piListK (K := K) rfl (pv 4)) (blkOk_by (own := [("g", 5)]) (N := ["source", "back", "arrow", "u", "there", "g"]) (sc := defScope s_comes_from_one) (by decide +kernel)) (fun _ _ _ _ _ => pg_name (i := 5) sc_comes_from_one.nd rfl (Or.inl rfl)) (fun _ _ _ _ _ => (pts_one (pt_cmpR op_eq (pe_meth (pv 0) T.cl T.m_made (ok_made T) (hr.mono (by decide)) T.bd_made .nil pass0 (pa_cons (pv 2) (pa_cons (pe_ix (ixListK (K := K) rfl) (pv 1) (pv 5) (fun _ _ => rfl)) pa_nil))) (pv 3) (nomark _)))) (fun _ _ _ _ _ => (pv 5))) pa_nil)) pe_int (nomark _)))), ?_⟩)
  · obtain ⟨_, _, _, ⟨_, _, _, _, _, _, _, _, rfl, _⟩, _⟩ := h
    rfl
  · obtain ⟨H0, v, e, ⟨a, pk, pt, ca, k1, t, ar, u, rfl, ha, hk, ht, t9, hg, rfl⟩, k⟩ := h
    have ha := ha.mono e
    have hk := e _ _ hk
    have ht := e _ _ ht
    refine s_ret (ev_eqN (j := 1) (ev_is (ev_lenN (K := K) (el_compL (K := K) (en := fun (n : Nat) => V.int (n : Int)) (l := t) (fun g => after ca ar (k1.getD g 0) == some u) (fun (n : Nat) => V.int (n : Int)) (ev_var rfl) (sq_of ht) (by omega) (fun _ => rfl) (fun g gm H1 e1 => et_test (ev_eqO (ev_made (ha.mono e1) (ev_var rfl) (ev_var rfl) (ev_at (ev_var rfl) (e1 _ _ hk) (ev_var rfl) (hg g gm).1) (hg g gm).2) (ev_var rfl))) (fun g gm H1 e1 _ => ev_var rfl))) (by rw [List.length_map])) ev_c) k
theorem ok_all_come_from_one (T : Txt K mg A) : FnOk P w K mg base CX0 4 A.f_all_come_from_one A.d_all_come_from_one ["source", "target", "mapping", "back", "x", "arrow"] (spV (R_allcf A.C)) := by
  refine T.F_all_come_from_one.ok sc_all_come_from_one (fun vs H Q E h => ?_) (fun cdv B outer s H vs Q E hr h => ⟨_, (pss_cons (ps_for PassesOwn.never rfl (pi_range1 rfl T.b_range (pa_cons (fldK (K := K) rfl (pv 1) rfl) pa_nil)) (pg_name (i := 6) sc_all_come_from_one.nd rfl (Or.inl rfl))
    (pss_cons (ps_set (i := 7) sc_all_come_from_one.nd rfl (Or.inl rfl) (pe_meth (pv 1) T.cl T.m_hom (ok_hom T) (hr.mono (by decide)) T.bd_hom .nil pass0 (pa_cons (pe_ix (ixListK (K := K) rfl) (pv 2) (pv 4) (fun _ _ => rfl)) (pa_cons (pv 6) pa_nil))))
    (pss_one (ps_for PassesOwn.never rfl (piListK (K := K) rfl (pe_meth (pv 0) T.cl T.m_hom (ok_hom T) (hr.mono (by decide)) T.bd_hom .nil pass0 (pa_cons (pv 4) (pa_cons (pe_ix (ixListK (K := K) rfl) (pv 3) (pv 6) (fun _ _ => rfl)) pa_nil)))) (pg_name (i := 8) sc_all_come_from_one.nd rfl (Or.inl rfl))
    (pss_one (ps_if (pt_not (pt_val (pe_call (ok_comes_from_one T) (hr.mono (by decide)) rfl T.g_comes_from_one T.F_comes_from_one.kp T.bd_comes_from_one .nil pass0 (pa_cons (pv 0) (pa_cons (pv 3) (pa_cons (pv 5) (pa_cons (pv 8) (pa_cons (pv 7) pa_nil)))))))) (pss_one (ps_ret pe_bl)) pss_nil))))))
    (pss_one (ps_ret pe_bl))), ?_⟩)
  · obtain ⟨_, _, _, ⟨_, _, _, _, _, _, _, _, _, _, rfl, _⟩, _⟩ := h
    rfl
  · obtain ⟨H0, v, e, ⟨a, b, pm, pk, ca, cb, m, k1, x, ar, rfl, h2, mm, mk, lx, har, rfl⟩, k⟩ := h
    have h2 := h2.mono e
    have n4 := h2.b.wf.n4
    have lb := h2.b.wf.len
    have la := h2.a.wf.len
    have fin := find_nay (fun y => (hom ca x (k1.getD y 0)).all fun u => ((hom cb (m.getD x 0) y).filter fun g => after ca ar (k1.getD g 0) == some u).length == 1) (List.range cb.n)
    have fin : (List.range cb.n).findSome? (nay fun y => (hom ca x (k1.getD y 0)).all fun u => ((hom cb (m.getD x 0) y).filter fun g => after ca ar (k1.getD g 0) == some u).length == 1) = if partOk ca cb m k1 x ar = true then none else some () := fin
    refine q_findR (nay fun y => (hom ca x (k1.getD y 0)).all fun u => ((hom cb (m.getD x 0) y).filter fun g => after ca ar (k1.getD g 0) == some u).length == 1) (fun σ => ∃ v6 v7 v8, σ = [some (.ref a), some (.ref b), some (.ref pm), some (.ref pk), some (.int (x : Int)), some (.int (ar : Int)), v6, v7, v8]) (ea_cons (ev_thing T h2.b (ev_var rfl)) ea_nil) (by omega) ⟨_, _, _, rfl⟩ ?_ ?_
    · rintro y σ' H1 N ly ⟨v6, v7, v8, rfl⟩ e1 hz hN
      have h21 := h2.mono e1
      refine q_asgL (el_hom h21.b (ev_var rfl) (ev_at (ev_var rfl) h21.m (ev_var rfl) (by rw [mm.len]; omega)) (ev_var rfl)) fun pt H2 hpt e2 h2t => ?_
      have h22 := h21.mono e2
      refine s_findNL (en := natE) (nay fun u => ((hom cb (m.getD x 0) y).filter fun g => after ca ar (k1.getD g 0) == some u).length == 1) (fun σ => ∃ v8, σ = [some (.ref a), some (.ref b), some (.ref pm), some (.ref pk), some (.int (x : Int)), some (.int (ar : Int)), some (.int (y : Int)), some (.ref pt), v8]) (el_hom h22.a (ev_var rfl) (ev_var rfl) (ev_at (ev_var rfl) h22.k (ev_var rfl) (by rw [mk.len]; omega))) ⟨_, rfl⟩ ?_ ?_
      · rintro u σ' H3 N3 hu ⟨v8, rfl⟩ e3 hz3 hN3
        have h23 := h22.mono e3
        refine s_when (et_not (et_B (ev_fn (ea_cons (ev_var rfl) (ea_cons (ev_var rfl) (ea_cons (ev_var rfl) (ea_cons (ev_var rfl) (ea_cons (ev_var rfl) ea_nil))))) (spV_go ⟨a, pk, pt, ca, k1, hom cb (m.getD x 0) y, ar, u, rfl, h23.a, h23.k, e3 _ _ h2t, hom_len9 h2.b.wf _ _, fun g hg => ?_, rfl⟩)))) (fun q H4 e4 => ?_) (fun q H4 e4 => ?_)
        · have g1 := hom_from hg
          exact ⟨by rw [mk.len]; exact g1.1, by rw [mk.fr g g1.1, g1.2.1, (hom_from har).2.2]⟩
        · have n3 : nay (fun u => ((hom cb (m.getD x 0) y).filter fun g => after ca ar (k1.getD g 0) == some u).length == 1) u = some () := if_neg (by
            intro z
            have z : (((hom cb (m.getD x 0) y).filter fun g => after ca ar (k1.getD g 0) == some u).length == 1) = true := z
            rw [z] at q
            cases q)
          have z3 := hz3 () n3
          rw [find_nay] at z3
          have z1 := hz () z3
          rw [fin] at z1
          have pf : partOk ca cb m k1 x ar = false := by
            cases q : partOk ca cb m k1 x ar with
            | false => rfl
            | true =>
              rw [if_pos q] at z1
              cases z1
          rw [pf] at k
          exact s_ret ev_c fun H5 e5 => k H5 ((((e1.trans e2).trans e3).trans e4).trans e5)
        · refine hN3 _ _ ⟨_, rfl⟩ e4 (if_pos ?_)
          simpa using q
      · rintro σ' H3 ⟨v8, rfl⟩ e3 hn
        rw [find_nay] at hn
        exact hN _ _ ⟨_, _, _, rfl⟩ (e2.trans e3) hn
    · rintro σ' H1 ⟨v6, v7, v8, rfl⟩ e1 hn
      rw [fin] at hn
      have pt : partOk ca cb m k1 x ar = true := by
        cases q : partOk ca cb m k1 x ar with
        | true => rfl
        | false =>
          rw [q, if_neg (by decide)] at hn
          cases hn
      rw [pt] at k
      exact s_ret ev_c fun H5 e5 => k H5 (e1.trans e5)
theorem ok_partner_arrows (T : Txt K mg A) : FnOk P w K mg base CX0 5 A.f_partner_arrows A.d_partner_arrows ["source", "target", "mapping", "back", "x"] (spL (R_parr A.C)) := by
  refine T.F_partner_arrows.ok sc_partner_arrows (fun vs H Q E h => ?_) (fun cdv B outer s H vs Q E hr h => ⟨_, (pss_cons (ps_set (i := 5) sc_partner_arrows.nd rfl (Or.inl rfl) (pe_meth (pv 0) T.cl T.m_hom (ok_hom T) (hr.mono (by decide)) T.bd_hom .nil pass0 (pa_cons (pv 4) (pa_cons (pe_ix (ixListK (K := K) rfl) (pv 3) (pe_ix (ixListK (K := K) rfl) (pv 2) (pv 4) (fun _ _ => rfl)) (fun _ _ => rfl)) pa_nil))))
    (pss_one (ps_ret (pe_lc (own := [("arrow", 6)]) (g := gName 6)  rfl sc_partner_arrows.nd (piListK (K := K) rfl (pv 5)) (blkOk_by (own := [("arrow", 6)]) (N := ["source", "target", "mapping", "back", "x", "to", "arrow"]) (sc := defScope s_partner_arrows) (by decide +kernel)) (fun _ _ _ _ _ => pg_name (i := 6) sc_partner_arrows.nd rfl (Or.inl rfl)) (fun _ _ _ _ _ => (pts_one (pt_val (pe_call (ok_all_come_from_one T) (hr.mono (by decide)) rfl T.g_all_come_from_one T.F_all_come_from_one.kp T.bd_all_come_from_one .nil pass0 (pa_cons (pv 0) (pa_cons (pv 1) (pa_cons (pv 2) (pa_cons (pv 3) (pa_cons (pv 4) (pa_cons (pv 6) pa_nil)))))))))) (fun _ _ _ _ _ => (pv 6)))))), ?_⟩)
  · obtain ⟨_, _, _, ⟨_, _, _, _, _, _, _, _, _, rfl, _⟩, _⟩ := h
    rfl
  · obtain ⟨H0, v, e, ⟨a, b, pm, pk, ca, cb, m, k1, x, rfl, h2, mm, mk, lx, rfl⟩, k⟩ := h
    have h2 := h2.mono e
    have lb := h2.b.wf.len
    have la := h2.a.wf.len
    have tx := mm.th x lx
    have l9 := hom_len9 h2.a.wf x (k1.getD (m.getD x 0) 0)
    refine q_asgL (el_hom h2.a (ev_var rfl) (ev_var rfl) (ev_at (ev_var rfl) h2.k (ev_at (ev_var rfl) h2.m (ev_var rfl) (by rw [mm.len]; omega)) (by rw [mk.len]; omega))) fun pt H1 hpt e1 h1 => ?_
    refine s_retL (xs := natV (partAt ca cb m k1 x)) (el_compL (K := K) (en := fun (n : Nat) => V.int (n : Int)) (l := hom ca x (k1.getD (m.getD x 0) 0)) (partOk ca cb m k1 x) (fun (n : Nat) => V.int (n : Int)) (ev_var rfl) (sq_of h1) (by omega) (fun _ => rfl) (fun f hf H2 e2 => ?_) (fun f hf H1 e1 _ => ev_var rfl)) fun p H2 hp e2 h2 => k.go e1 hp e2 h2
    exact et_B (ev_fn (ea_cons (ev_var rfl) (ea_cons (ev_var rfl) (ea_cons (ev_var rfl) (ea_cons (ev_var rfl) (ea_cons (ev_var rfl) (ea_cons (ev_var rfl) ea_nil)))))) (spV_go ⟨a, b, pm, pk, ca, cb, m, k1, x, f, rfl, (h2.mono e1).mono e2, mm, mk, lx, hf, rfl⟩))
theorem ok_partner_choices (T : Txt K mg A) : FnOk P w K mg base CX0 6 A.f_partner_choices A.d_partner_choices ["source", "target", "mapping", "back"] (spLL (R_pch A.C)) := by
  refine T.F_partner_choices.ok sc_partner_choices (fun vs H Q E h => ?_) (fun cdv B outer s H vs Q E hr h => ⟨_, (pss_cons (ps_set (i := 4) sc_partner_choices.nd rfl (Or.inl rfl) (pe_lst pa_nil))
    (pss_cons (ps_for PassesOwn.never rfl (pi_range1 rfl T.b_range (pa_cons (fldK (K := K) rfl (pv 0) rfl) pa_nil)) (pg_name (i := 5) sc_partner_choices.nd rfl (Or.inl rfl))
    (pss_cons (ps_set (i := 6) sc_partner_choices.nd rfl (Or.inl rfl) (pe_call (ok_partner_arrows T) (hr.mono (by decide)) rfl T.g_partner_arrows T.F_partner_arrows.kp T.bd_partner_arrows .nil pass0 (pa_cons (pv 0) (pa_cons (pv 1) (pa_cons (pv 2) (pa_cons (pv 3) (pa_cons (pv 5) pa_nil)))))))
    (pss_cons (ps_if (pt_cmpR (eqDK (K := K) rfl hr.units) (pv 6) (pe_lst pa_nil) (nomark _)) (pss_one (ps_ret (pe_lst pa_nil))) pss_nil)
    (pss_one (ps_expr (pe_bm PySem.F.plainAttrs_list PySem.F.slot_list_append PySem.F.type_list_append mt_append (pv 4) (pa_cons (pv 6) pa_nil)))))))
    (pss_one (ps_ret (pv 4))))), ?_⟩)
  · obtain ⟨_, _, _, ⟨_, _, _, _, _, _, _, _, rfl, _⟩, _⟩ := h
    rfl
  · obtain ⟨H0, v, e, ⟨a, b, pm, pk, ca, cb, m, k1, rfl, h2, mm, mk, rfl⟩, k⟩ := h
    have h2 := h2.mono e
    have n4 := h2.a.wf.n4
    refine q_asgL (el_lst ea_nil (by show 0 ≤ 100000; decide)) fun pl H1 hpl e1 h1 => ?_
    refine q_forR1 (ea_cons (ev_thing T (h2.mono e1).a (ev_var rfl)) ea_nil) (by omega) (fun i σ' H' => ∃ (v5 v6 : Option V) (cs : List (Addr × List V)), σ' = [some (.ref a), some (.ref b), some (.ref pm), some (.ref pk), some (.ref pl), v5, v6] ∧ NewLL H (((partL ca cb m k1).take i).map natV) pl cs H' ∧ [] ∉ (partL ca cb m k1).take i)
      (fun H2 e2 => ⟨_, _, [], rfl, (newLL_nil hpl e1 h1).fwd e2, by simp⟩) ?_ ?_
    · rintro i σ' H2 hi ⟨v5, v6, cs, rfl, n2, hne⟩
      have li : i < ca.n := by omega
      have pa := partL_at (b := cb) (m := m) (k := k1) li
      have h22 := h2.mono n2.2.1
      have cs4 : cs.length ≤ 4 := by
        have l1 := congrArg List.length n2.2.2.1
        rw [List.length_map, List.length_map, List.length_take] at l1
        omega
      refine q_asgL (el_fn (ea_cons (ev_var rfl) (ea_cons (ev_var rfl) (ea_cons (ev_var rfl) (ea_cons (ev_var rfl) (ea_cons (ev_var rfl) ea_nil))))) (spL_go ⟨a, b, pm, pk, ca, cb, m, k1, i, rfl, h22, mm, mk, li, rfl⟩)) fun pa1 H3 hpa e3 h3 => ?_
      refine q_when (et_test (ev_eqNilN (ev_var rfl) h3)) (fun q H4 e4 => ?_) (fun q H4 e4 => ?_)
      · rw [decide_eq_true_eq] at q
        have mem : [] ∈ partL ca cb m k1 := by
          rw [q] at pa
          exact List.mem_of_getElem? pa
        unfold partC at k
        rw [if_pos mem] at k
        exact s_retL (el_lst ea_nil (by show 0 ≤ 100000; decide)) fun p H5 hp e5 h5 => k p [] H5 ((newLL_nil hp e5 h5).back ((n2.2.1.trans e3).trans e4))
      · rw [decide_eq_false_iff_not] at q
        refine s_app (K := K) (e4 _ _ (e3 _ _ n2.2.2.2.1)) (ev_var rfl) (ev_var rfl) (by rw [refs_len]; omega) fun H5 e5 => ⟨_, _, cs ++ [(pa1, natV (partAt ca cb m k1 i))], rfl, ?_, ?_⟩
        · rw [take_succ' pa, List.map_append]
          exact n2.snoc hpa ((e3.trans e4).trans e5) (e5 _ _ (e4 _ _ h3))
        · rw [take_succ' pa, List.mem_append, List.mem_singleton]
          rintro (z | z)
          · exact hne z
          · exact q z.symm
    · rintro σ' H2 ⟨v5, v6, cs, rfl, n2, hne⟩
      have full : (partL ca cb m k1).take ((ca.n : Int)).toNat = partL ca cb m k1 := List.take_of_length_le (by rw [partL_len]; omega)
      rw [full] at n2 hne
      unfold partC at k
      rw [if_neg hne] at k
      exact s_ret (ev_var rfl) fun H3 e3 => k pl cs H3 (n2.fwd e3)
theorem ok_partner_changes (T : Txt K mg A) : FnOk P w K mg base CX0 7 A.f_partner_changes A.d_partner_changes ["source", "target", "mapping", "back"] (spLL (R_pchg A.C)) := by
  refine T.F_partner_changes.ok sc_partner_changes (fun vs H Q E h => ?_) (fun cdv B outer s H vs Q E hr h => ⟨_, (pss_cons (ps_set (i := 4) sc_partner_changes.nd rfl (Or.inl rfl) (pe_call (ok_partner_choices T) (hr.mono (by decide)) rfl T.g_partner_choices T.F_partner_choices.kp T.bd_partner_choices .nil pass0 (pa_cons (pv 0) (pa_cons (pv 1) (pa_cons (pv 2) (pa_cons (pv 3) pa_nil))))))
    (pss_cons (ps_if (pt_cmpR (eqDK (K := K) rfl hr.units) (pv 4) (pe_lst pa_nil) (nomark _)) (pss_one (ps_ret (pe_lst pa_nil))) pss_nil)
    (pss_cons (ps_set (i := 5) sc_partner_changes.nd rfl (Or.inl rfl) (pe_listRg rfl (by rfl) T.b_list (prg_1 (by rfl) T.b_range (pe_meth0 (pv 0) T.cl T.m_arrow_count (ok_arrow_count T) (hr.mono (by decide)) T.bd_arrow_count .nil pass0))))
    (pss_cons (ps_setLc (i := 6) (own := [("goes", 7)]) (g := gName 7) (tt := tYes) rfl sc_partner_changes.nd rfl rfl (sw_true rfl rfl rfl (by decide +kernel)) (piListK (K := K) rfl (pv 2)) (blkOk_by (own := [("goes", 7)]) (N := ["source", "target", "mapping", "back", "choices", "itself", "there_and_back", "goes"]) (sc := defScope s_partner_changes) (by decide +kernel)) (fun _ _ _ _ _ => pg_name (i := 7) sc_partner_changes.nd rfl (Or.inl rfl)) (fun _ _ _ _ _ => pts_nil) (fun _ _ _ _ _ => (pe_ix (ixListK (K := K) rfl) (pv 3) (pv 7) (fun _ _ => rfl))))
    (pss_one (ps_ret (pe_call (ok_changes_among T) (hr.mono (by decide)) rfl T.g_changes_among T.F_changes_among.kp T.bd_changes_among .nil pass0 (pa_cons (pv 0) (pa_cons (pv 0) (pa_cons (pv 5) (pa_cons (pv 6) (pa_cons (pv 4) pa_nil)))))))))))), ?_⟩)
  · obtain ⟨_, _, _, ⟨_, _, _, _, _, _, _, _, rfl, _⟩, _⟩ := h
    rfl
  · obtain ⟨H0, v, e, ⟨a, b, pm, pk, ca, cb, m, k1, rfl, h2, mm, mk, rfl⟩, k⟩ := h
    have h2 := h2.mono e
    have wa := h2.a.wf
    have wb := h2.b.wf
    have n4 := wa.n4
    have n1 := wa.n1
    have l9 := wa.l9
    refine q_asgLL (ell_fn (ea_cons (ev_var rfl) (ea_cons (ev_var rfl) (ea_cons (ev_var rfl) (ea_cons (ev_var rfl) ea_nil)))) (spLL_go ⟨a, b, pm, pk, ca, cb, m, k1, rfl, h2, mm, mk, rfl⟩)) fun p bs H1 n1' => ?_
    obtain ⟨cs, hcs, hB⟩ := bx_of n1'
    have h21 := h2.mono n1'.2.1
    refine q_when (et_test (ev_eqNil (ev_var rfl) hB)) (fun q H2 e2 => ?_) (fun q H2 e2 => ?_)
    · rw [decide_eq_true_eq, hcs] at q
      have mem : [] ∈ partL ca cb m k1 := Classical.byContradiction fun z => by
        unfold partC at q
        rw [if_neg z] at q
        have := congrArg List.length q
        rw [partL_len] at this
        simp only [List.length_nil] at this
        omega
      have z : backs ca cb m k1 = [] := among_nil _ _ mem
      rw [z] at k
      exact s_retL (el_lst ea_nil (by show 0 ≤ 100000; decide)) fun p H5 hp e5 h5 => k p [] H5 ((newLL_nil hp e5 h5).back (n1'.2.1.trans e2))
    · rw [decide_eq_false_iff_not, hcs] at q
      have nm : [] ∉ partL ca cb m k1 := fun z => q (by unfold partC; rw [if_pos z])
      have hc2 : cs.map (·.2) = partL ca cb m k1 := by
        rw [hcs]
        unfold partC
        rw [if_neg nm]
      have h22 := h21.mono e2
      refine q_asgL (el_lrg (ev_arrow_count h22.a (ev_var rfl)) (by omega)) fun p5 H3 hp5 e3 h3 => ?_
      have h23 := h22.mono e3
      refine q_asgL (xs := natV (Fc01.follow m k1)) ?_ fun p6 H4 hp6 e4 h4 => ?_
      · have q := el_mapL (K := K) (σ := [some (.ref a), some (.ref b), some (.ref pm), some (.ref pk), some (.ref p), some (.ref p5), none, none]) (H := H3) (j := 7) (vs := [7]) (te := tOp (rIxL K) (tVar 3) (tVar 7)) (en := fun (n : Nat) => V.int (n : Int)) (l := m) (fun y => V.int ((k1.getD y 0 : Nat) : Int)) (ev_var (i := 2) rfl) (sq_of h23.m) (by rw [mm.len]; omega) (fun _ => rfl) fun y hy H4 e4 => ev_at (ev_var (i := 3) rfl) (e4 _ _ h23.k) (ev_var (i := 7) rfl) (by
          obtain ⟨f, lf, rfl⟩ := List.mem_iff_getElem.mp hy
          have := mm.lt f (by rw [← mm.len]; exact lf)
          rw [List.getD_eq_getElem?_getD, List.getElem?_eq_getElem lf] at this
          rw [mk.len]
          exact this)
        have eq : natV (Fc01.follow m k1) = m.map fun y => V.int ((k1.getD y 0 : Nat) : Int) := by
          unfold natV Fc01.follow
          rw [List.map_map]
          rfl
        rw [eq]
        exact q
      · refine s_retLL (ell_fn (ea_cons (ev_var rfl) (ea_cons (ev_var rfl) (ea_cons (ev_var rfl) (ea_cons (ev_var rfl) (ea_cons (ev_var rfl) ea_nil))))) (spLL_go ⟨a, a, p5, p6, p, ca, ca, Fc01.idMap ca, Fc01.follow m k1, cs, rfl, ⟨(h23.mono e4).a, (h23.mono e4).a, e4 _ _ h3, h4⟩, hB.mono ((e2.trans e3).trans e4), mp_id wa, mp_follow wa wb mm mk, ?_, ?_, by rw [hc2]; rfl⟩)) fun p bs H5 n5 => k p bs H5 (n5.back (((n1'.2.1.trans e2).trans e3).trans e4))
        · rw [← List.length_map (f := fun r : Addr × List Nat => r.2), hc2, partL_len]
          exact n4
        · rw [hc2]
          exact chc_part wa mm.len
theorem backs_len {a b : Cat} {m k : List Nat} {w : List Nat} (h : w ∈ backs a b m k) : w.length = a.n := by
  have := among_len (a := a) (b := a) (partL a b m k) 0 [[]] (by simp) w h
  rw [this, partL_len, Nat.zero_add]
theorem ok_first_partner (T : Txt K mg A) : FnOk P w K mg base CX0 8 A.f_first_partner A.d_first_partner ["source", "target", "mapping", "backs"] (spL (R_fpart A.C)) := by
  refine T.F_first_partner.ok sc_first_partner (fun vs H Q E h => ?_) (fun cdv B outer s H vs Q E hr h => ⟨_, (pss_cons (ps_for PassesOwn.never rfl (piListK (K := K) rfl (pv 3)) (pg_name (i := 4) sc_first_partner.nd rfl (Or.inl rfl))
    (pss_cons (ps_set (i := 5) sc_first_partner.nd rfl (Or.inl rfl) (pe_call (ok_partner_changes T) (hr.mono (by decide)) rfl T.g_partner_changes T.F_partner_changes.kp T.bd_partner_changes .nil pass0 (pa_cons (pv 0) (pa_cons (pv 1) (pa_cons (pv 2) (pa_cons (pv 4) pa_nil))))))
    (pss_one (ps_if (pt_cmpR (neDK (K := K) rfl hr.units) (pv 5) (pe_lst pa_nil) (nomark _)) (pss_one (ps_ret (pe_op op_cat (pe_op op_cat (pe_lst (pa_cons pe_int pa_nil)) (pv 4)) (pe_ix (ixListK (K := K) rfl) (pv 5) pe_int (fun _ _ => rfl))))) pss_nil))))
    (pss_one (ps_ret (pe_lst (pa_cons pe_int pa_nil))))), ?_⟩)
  · obtain ⟨_, _, _, ⟨_, _, _, _, _, _, _, _, rfl, _⟩, _⟩ := h
    rfl
  · obtain ⟨H0, v, e, ⟨a, b, pm, pb, ca, cb, m, cs, rfl, ha, hb, hm, mm, hB, hcs, rfl⟩, k⟩ := h
    have ha := ha.mono e
    have hb := hb.mono e
    have hm := e _ _ hm
    have hB := hB.mono e
    have wa := ha.wf
    have wb := hb.wf
    have n4 := wa.n4
    have l9 := wb.l9
    have mps : ∀ c ∈ cs, Mp cb ca c.2 := fun c hc => mp_of wb wa (by rw [← hcs]; exact List.mem_map.mpr ⟨c, hc, rfl⟩)
    have fin : Fc01.partner ca cb m = cs.findSome? fun c => ((backs ca cb m c.2).head?).map fun w => (c.2, w) := by
      rw [partner_is wa wb mm, ← hcs, List.findSome?_map]
      rfl
    refine q_findL (K := K) (en := fun c : Addr × List Nat => V.ref c.1) (l := cs) (fun c => ((backs ca cb m c.2).head?).map fun w => (c.2, w)) (fun σ => ∃ v4 v5, σ = [some (.ref a), some (.ref b), some (.ref pm), some (.ref pb), v4, v5]) (ev_var rfl) (sq_of hB.1) ⟨_, _, rfl⟩ ?_ ?_
    · rintro c σ' H1 N hc ⟨v4, v5, rfl⟩ e1 hz hN
      have mc := mps c hc
      refine q_asgLL (ell_fn (ea_cons (ev_var rfl) (ea_cons (ev_var rfl) (ea_cons (ev_var rfl) (ea_cons (ev_var rfl) ea_nil)))) (spLL_go ⟨a, b, pm, c.1, ca, cb, m, c.2, rfl, ⟨ha.mono e1, hb.mono e1, e1 _ _ hm, e1 _ _ (hB.2 c hc)⟩, mm, mc, rfl⟩)) fun p bs H2 n2 => ?_
      obtain ⟨ds, hds, hD⟩ := bx_of n2
      refine s_when (et_test (ev_neNil (ev_var rfl) hD)) (fun q H3 e3 => ?_) (fun q H3 e3 => ?_)
      · cases ds with
        | nil => cases q
        | cons d dt =>
          have hd : (backs ca cb m c.2).head? = some d.2 := by
            rw [← hds]
            rfl
          have dl : d.2.length = ca.n := backs_len (List.mem_of_mem_head? hd)
          have z := hz (c.2, d.2) (by rw [hd]; rfl)
          rw [← fin] at z
          rw [z] at k
          have ek : natV (optK (some (c.2, d.2))) = [.int 1] ++ natV c.2 ++ natV d.2 := by
            show natV (1 :: c.2 ++ d.2) = _
            unfold natV
            rw [List.map_append]
            rfl
          rw [ek] at k
          have e3' := n2.2.1.trans e3
          refine s_retL (el_cat (el_cat (el_lst (ea_cons ev_c ea_nil) (by show 1 ≤ 100000; decide)) (ev_var rfl) (e3' _ _ (e1 _ _ (hB.2 c hc))) (by rw [natV_len, mc.len]; show 1 + _ ≤ 100000; omega)) (ev_op (ev_var rfl) (ev_c (v := .int 0)) (rv_ixL (K := K) (sq_of (e3 _ _ hD.1)) (atI_nat (xs := refs (d :: dt)) (j := 0) (v := .ref d.1) rfl))) (e3 _ _ (hD.2 d (List.mem_cons_self ..))) (by rw [List.length_append, natV_len, natV_len, mc.len, dl]; show 1 + _ + _ ≤ 100000; omega)) fun p H4 hp e4 h4 => k.go (e1.trans e3') hp e4 h4
      · refine hN _ _ ⟨_, _, rfl⟩ (n2.2.1.trans e3) ?_
        have q : ds.map (·.2) = [] := by simpa using q
        rw [hds] at q
        rw [q]
        rfl
    · rintro σ' H1 ⟨v4, v5, rfl⟩ e1 hn
      rw [fin, hn] at k
      exact s_retL (el_lst (ea_cons ev_c ea_nil) (by show 1 ≤ 100000; decide)) fun p H3 hp e3 h3 => k.go e1 hp e3 h3
end
end Arr
-- text B7
set_option Elab.async false
set_option linter.unusedVariables false
set_option maxRecDepth 100000
set_option maxHeartbeats 4000000
/-! # the pair, and the calls that change it -/
namespace Arr
open PySem PySem.Spec PyProof.Rows L2 Evl LamX NdefX
open Fc01 (from_ to_ after hom turned catAt withCat)
def intV (l : List Int) : List V := l.map V.int
/-- where a category lies -/
structure Loc where
  a : Addr
  dx : Addr
  ab : Addr
  ae : Addr
  at_ : Addr
  m : Mm
def Loc.fp (l : Loc) : List Addr := [l.a, l.ab, l.ae, l.at_]
def CatL (C : Addr) (k : Nat) (H : Hp) (l : Loc) (c : Cat) : Prop := CatF C H l.a l.dx l.ab l.ae l.at_ c l.m ∧ MOk k c l.m
structure PairL (C : Addr) (k : Nat) (H : Hp) (ap : Addr) (s : Fc01.St) (l0 l1 : Loc) : Prop where
  nd : (ap :: (l0.fp ++ l1.fp)).Nodup
  lst : H ap = some (.lst [.ref l0.a, .ref l1.a])
  c0 : CatL C k H l0 s.a
  c1 : CatL C k H l1 s.b
def PairAt (C : Addr) (k : Nat) (H : Hp) (ap : Addr) (s : Fc01.St) (fp : List Addr) : Prop := ∃ l0 l1, fp = ap :: (l0.fp ++ l1.fp) ∧ PairL C k H ap s l0 l1
theorem CatL.mono {C : Addr} {k : Nat} {H H' : Hp} {l : Loc} {c : Cat} (e : Ex H H') (h : CatL C k H l c) : CatL C k H' l c := ⟨h.1.mono e, h.2⟩
theorem MOk.more {k j : Nat} {c : Cat} {m : Mm} (h : MOk k c m) (l : k ≤ j) : MOk j c m := ⟨h.1, h.2.1, Nat.le_trans h.2.2.1 l, h.2.2.2⟩
theorem CatL.more {C : Addr} {k j : Nat} {H : Hp} {l : Loc} {c : Cat} (h : CatL C k H l c) (q : k ≤ j) : CatL C j H l c := ⟨h.1, h.2.more q⟩
theorem PairL.mono {C : Addr} {k : Nat} {H H' : Hp} {ap : Addr} {s : Fc01.St} {l0 l1 : Loc} (e : Ex H H') (h : PairL C k H ap s l0 l1) : PairL C k H' ap s l0 l1 := ⟨h.nd, e _ _ h.lst, h.c0.mono e, h.c1.mono e⟩
theorem PairL.more {C : Addr} {k j : Nat} {H : Hp} {ap : Addr} {s : Fc01.St} {l0 l1 : Loc} (h : PairL C k H ap s l0 l1) (q : k ≤ j) : PairL C j H ap s l0 l1 := ⟨h.nd, h.lst, h.c0.more q, h.c1.more q⟩
theorem CatL.known {C : Addr} {k : Nat} {H : Hp} {l : Loc} {c : Cat} (h : CatL C k H l c) {b : Addr} (hb : b ∈ l.fp) : ∃ o, H b = some o := by
  simp only [Loc.fp, List.mem_cons, List.not_mem_nil, or_false] at hb
  rcases hb with rfl | rfl | rfl | rfl
  · exact ⟨_, h.1.obj⟩
  · exact ⟨_, h.1.beg⟩
  · exact ⟨_, h.1.en⟩
  · exact ⟨_, h.1.tol⟩
theorem PairL.known {C : Addr} {k : Nat} {H : Hp} {ap : Addr} {s : Fc01.St} {l0 l1 : Loc} (h : PairL C k H ap s l0 l1) {b : Addr} (hb : b ∈ ap :: (l0.fp ++ l1.fp)) : ∃ o, H b = some o := by
  rcases List.mem_cons.mp hb with rfl | hb
  · exact ⟨_, h.lst⟩
  rcases List.mem_append.mp hb with hb | hb
  · exact h.c0.known hb
  · exact h.c1.known hb
/-- a category keeps where its own places are untouched -/
theorem CatL.keep {C : Addr} {k : Nat} {H H' : Hp} {l : Loc} {c : Cat} (h : CatL C k H l c) (q : ∀ b ∈ l.fp, H' b = H b) : CatL C k H' l c := by
  refine ⟨⟨?_, ?_, ?_, ?_, h.1.ne⟩, h.2⟩
  · rw [q l.a (by simp [Loc.fp])]
    exact h.1.obj
  · rw [q l.ab (by simp [Loc.fp])]
    exact h.1.beg
  · rw [q l.ae (by simp [Loc.fp])]
    exact h.1.en
  · rw [q l.at_ (by simp [Loc.fp])]
    exact h.1.tol
/-- the i-th category of the pair -/
def locAt (i : Nat) (l0 l1 : Loc) : Loc := if i = 0 then l0 else l1
theorem PairL.cat {C : Addr} {k : Nat} {H : Hp} {ap : Addr} {s : Fc01.St} {l0 l1 : Loc} (h : PairL C k H ap s l0 l1) (i : Nat) : CatL C k H (locAt i l0 l1) (catAt s i) := by
  unfold locAt catAt
  by_cases q : i = 0
  · rw [if_pos q, if_pos q]
    exact h.c0
  · rw [if_neg q, if_neg q]
    exact h.c1
theorem PairL.at {C : Addr} {k : Nat} {H : Hp} {ap : Addr} {s : Fc01.St} {l0 l1 : Loc} (h : PairL C k H ap s l0 l1) {i : Nat} (hi : i ≤ 1) : ([.ref l0.a, .ref l1.a] : List V)[i]? = some (.ref (locAt i l0 l1).a) := by
  have : i = 0 ∨ i = 1 := by omega
  rcases this with rfl | rfl <;> rfl
/-- changed in its place -/
theorem PairL.put {C : Addr} {k : Nat} {H H' : Hp} {ap : Addr} {s : Fc01.St} {l0 l1 : Loc} (h : PairL C k H ap s l0 l1) {i j : Nat} {c' : Cat} {m' : Mm} {ws : List Addr} (hk : k ≤ j) (fr : Fr H H' ws) (hw : ∀ b ∈ ws, b ∈ (locAt i l0 l1).fp)
    (hc : CatF C H' (locAt i l0 l1).a (locAt i l0 l1).dx (locAt i l0 l1).ab (locAt i l0 l1).ae (locAt i l0 l1).at_ c' m') (hm : MOk j c' m') :
    ∃ l0' l1', l0'.fp = l0.fp ∧ l1'.fp = l1.fp ∧ PairL C j H' ap (withCat s i c') l0' l1' := by
  obtain ⟨n1, n2⟩ := List.nodup_cons.mp h.nd
  obtain ⟨n3, n4, n5⟩ := List.nodup_append.mp n2
  have hl : H' ap = H ap := by
    rw [h.lst]
    refine fr _ _ h.lst fun z => n1 ?_
    have := hw _ z
    unfold locAt at this
    by_cases q : i = 0
    · rw [if_pos q] at this
      exact List.mem_append_left _ this
    · rw [if_neg q] at this
      exact List.mem_append_right _ this
  unfold locAt at hw hc
  unfold withCat
  by_cases q : i = 0
  · simp only [if_pos q] at hw hc ⊢
    refine ⟨{ l0 with m := m' }, l1, rfl, rfl, h.nd, by rw [hl]; exact h.lst, ⟨hc, hm⟩, (h.c1.more hk).keep fun b hb => ?_⟩
    obtain ⟨o, ho⟩ := h.c1.known hb
    rw [ho]
    exact fr _ _ ho fun z => n5 b (hw b z) b hb rfl
  · simp only [if_neg q] at hw hc ⊢
    refine ⟨l0, { l1 with m := m' }, rfl, rfl, h.nd, by rw [hl]; exact h.lst, (h.c0.more hk).keep fun b hb => ?_, ⟨hc, hm⟩⟩
    obtain ⟨o, ho⟩ := h.c0.known hb
    rw [ho]
    exact fr _ _ ho fun z => n5 b hb b (hw b z) rfl
theorem nodup4 {C : Addr} {k : Nat} {H : Hp} {l : Loc} {c : Cat} (h : CatL C k H l c) : l.fp.Nodup := by
  have n1 := ne_of h.1.obj h.1.beg (fun z => nomatch z)
  have n2 := ne_of h.1.obj h.1.en (fun z => nomatch z)
  have n3 := ne_of h.1.obj h.1.tol (fun z => nomatch z)
  have n4 := ne_of h.1.beg h.1.tol (fun z => nomatch z)
  have n5 := ne_of h.1.en h.1.tol (fun z => nomatch z)
  have n6 := h.1.ne
  simp [Loc.fp, n1, n2, n3, n4, n5, n6]
/-- another one in its place -/
theorem PairL.new {C : Addr} {k : Nat} {H H' : Hp} {ap : Addr} {s : Fc01.St} {l0 l1 : Loc} (h : PairL C k H ap s l0 l1) {i j : Nat} {c' : Cat} {l : Loc} (hi : i ≤ 1) (hk : k ≤ j) (e : Ex H H') (hc : CatL C j H' l c') (hn : ∀ b ∈ l.fp, H b = none) :
    ∃ l0' l1', (∀ b ∈ l0'.fp ++ l1'.fp, b ∈ l0.fp ++ l1.fp ∨ H b = none) ∧ PairL C j (upd H' ap (.lst (([.ref l0.a, .ref l1.a] : List V).set i (.ref l.a)))) ap (withCat s i c') l0' l1' := by
  obtain ⟨n1, n2⟩ := List.nodup_cons.mp h.nd
  obtain ⟨n3, n4, n5⟩ := List.nodup_append.mp n2
  have nap : ¬ ap ∈ l.fp := fun z => by
    have := hn _ z
    rw [h.lst] at this
    cases this
  have kp : ∀ {l' : Loc} {c : Cat} {o : HO}, ¬ ap ∈ l'.fp → CatL C j H' l' c → CatL C j (upd H' ap o) l' c := fun hz hc => hc.keep fun b hb => upd_ne fun z => hz (by rw [← z]; exact hb)
  have : i = 0 ∨ i = 1 := by omega
  rcases this with rfl | rfl
  · refine ⟨l, l1, fun b hb => ?_, ⟨?_, upd_same, kp nap hc, kp (fun z => n1 (List.mem_append_right _ z)) ((h.c1.mono e).more hk)⟩⟩
    · rcases List.mem_append.mp hb with hb | hb
      · exact Or.inr (hn b hb)
      · exact Or.inl (List.mem_append_right _ hb)
    · refine List.nodup_cons.mpr ⟨fun z => ?_, List.nodup_append.mpr ⟨nodup4 hc, n4, fun b hb b' hb' z => ?_⟩⟩
      · rcases List.mem_append.mp z with z | z
        · exact nap z
        · exact n1 (List.mem_append_right _ z)
      · obtain ⟨o, ho⟩ := h.c1.known hb'
        rw [← z, hn b hb] at ho
        cases ho
  · refine ⟨l0, l, fun b hb => ?_, ⟨?_, upd_same, kp (fun z => n1 (List.mem_append_left _ z)) ((h.c0.mono e).more hk), kp nap hc⟩⟩
    · rcases List.mem_append.mp hb with hb | hb
      · exact Or.inl (List.mem_append_left _ hb)
      · exact Or.inr (hn b hb)
    · refine List.nodup_cons.mpr ⟨fun z => ?_, List.nodup_append.mpr ⟨n3, nodup4 hc, fun b hb b' hb' z => ?_⟩⟩
      · rcases List.mem_append.mp z with z | z
        · exact n1 (List.mem_append_left _ z)
        · exact nap z
      · obtain ⟨o, ho⟩ := h.c0.known hb
        rw [z, hn b' hb'] at ho
        cases ho
/-- what a handler wants and gives -/
def Kont (C : Addr) (H : Hp) (ap : Addr) (k : Nat) (fp : List Addr) (r : Fc01.St × List Int) (Q : VK) : Prop :=
  ∀ H' p fp', PairAt C (k + 1) H' ap r.1 fp' → H' p = some (.lst (intV r.2)) → ¬ p ∈ fp' → (∀ b ∈ fp', b ∈ fp ∨ H b = none) → Fr H H' fp → (∀ b o, H b = some o → ¬ b ∈ fp → b ≠ p) → Q (.ref p) H'
/-- the same, with tables of code objects -/
def KontT (A : Ads) (H : Hp) (ap : Addr) (k : Nat) (fp : List Addr) (r : Fc01.St × List Int) (Q : VK) : Prop :=
  ∀ H' p fp', PairAt A.C (k + 1) H' ap r.1 fp' → H' p = some (.lst (intV r.2)) → ¬ p ∈ fp' → (∀ b ∈ fp', b ∈ fp ∨ H b = none) → Fr (strip H) H' fp → Tabs (tabs A) H' → (∀ b o, H b = some o → ¬ b ∈ fp → b ≠ p) → Q (.ref p) H'
def spHand (A : Ads) (mk : List Nat → Option Fc01.Call) : Sp := fun vs H Q _ => ∃ ap an s fp k zs call, vs = [.ref ap, .ref an] ∧ PairAt A.C k H ap s fp ∧ k < 40 ∧ H an = some (.lst (natV zs)) ∧ ¬ an ∈ fp ∧ mk zs = some call ∧ zs.headD 0 ≤ 1 ∧ Tabs (tabs A) H ∧ KontT A H ap k fp (Fc01.step s call) Q
def plain (o : HO) : Prop := (∃ xs, o = .lst xs) ∨ (∃ C dx fs, o = .ins C dx fs) ∨ ∃ ks, o = .dT ks
theorem CatL.plain {C : Addr} {k : Nat} {H : Hp} {l : Loc} {c : Cat} (h : CatL C k H l c) {b : Addr} (hb : b ∈ l.fp) : ∃ o, H b = some o ∧ Arr.plain o := by
  simp only [Loc.fp, List.mem_cons, List.not_mem_nil, or_false] at hb
  rcases hb with rfl | rfl | rfl | rfl
  · exact ⟨_, h.1.obj, Or.inr (Or.inl ⟨_, _, _, rfl⟩)⟩
  · exact ⟨_, h.1.beg, Or.inl ⟨_, rfl⟩⟩
  · exact ⟨_, h.1.en, Or.inl ⟨_, rfl⟩⟩
  · exact ⟨_, h.1.tol, Or.inr (Or.inr ⟨_, rfl⟩)⟩
theorem PairL.plain {C : Addr} {k : Nat} {H : Hp} {ap : Addr} {s : Fc01.St} {l0 l1 : Loc} (h : PairL C k H ap s l0 l1) {b : Addr} (hb : b ∈ ap :: (l0.fp ++ l1.fp)) : ∃ o, H b = some o ∧ Arr.plain o := by
  rcases List.mem_cons.mp hb with rfl | hb
  · exact ⟨_, h.lst, Or.inl ⟨_, rfl⟩⟩
  rcases List.mem_append.mp hb with hb | hb
  · exact h.c0.plain hb
  · exact h.c1.plain hb
/-- the tables are no part of the pair -/
theorem tabs_fr {A : Ads} {C : Addr} {k : Nat} {H H' : Hp} {ap : Addr} {s : Fc01.St} {fp : List Addr} (t : Tabs (tabs A) H) (hP : PairAt C k H ap s fp) (fr : Fr H H' fp) : Tabs (tabs A) H' := fun q hq => by
  obtain ⟨l0, l1, rfl, hL⟩ := hP
  obtain ⟨ps, h1, h2, h3⟩ := t q hq
  have keep : ∀ {b : Addr} {u : HO}, H b = some u → ¬ plain u → H' b = some u := fun {b u} hb hu => fr b u hb fun z => by
    obtain ⟨o, ho, po⟩ := hL.plain z
    rw [hb] at ho
    cases ho
    exact hu po
  refine ⟨ps, keep h1 (fun z => by rcases z with ⟨_, z⟩ | ⟨_, _, _, z⟩ | ⟨_, z⟩ <;> cases z), h2, fun pos cv hc => ?_⟩
  obtain ⟨c, e1, e2⟩ := h3 pos cv hc
  exact ⟨c, e1, keep e2 (fun z => by unfold CodeO at z; rcases z with ⟨_, z⟩ | ⟨_, _, _, z⟩ | ⟨_, z⟩ <;> cases z)⟩
theorem KontT.old {A : Ads} {H : Hp} {ap : Addr} {k j : Nat} {fp : List Addr} {r : Fc01.St × List Int} {Q : VK} {s : Fc01.St} (kk : KontT A H ap k fp r Q) (hT : Tabs (tabs A) H) (hP : PairAt A.C j H ap s fp) : Kont A.C H ap k fp r Q := fun H' p fp' h1 h2 h3 h4 h5 h6 =>
  kk H' p fp' h1 h2 h3 h4 (fun b o q nb => h5 b o (strip_some q).1 nb) (tabs_fr hT hP h5) h6
theorem CatL.strip {C : Addr} {k : Nat} {H : Hp} {l : Loc} {c : Cat} (h : CatL C k H l c) : CatL C k (strip H) l c :=
  ⟨⟨strip_of h.1.obj (fun _ z => by cases z), strip_of h.1.beg (fun _ z => by cases z), strip_of h.1.en (fun _ z => by cases z), strip_of h.1.tol (fun _ z => by cases z), h.1.ne⟩, h.2⟩
theorem PairL.strip {C : Addr} {k : Nat} {H : Hp} {ap : Addr} {s : Fc01.St} {l0 l1 : Loc} (h : PairL C k H ap s l0 l1) : PairL C k (strip H) ap s l0 l1 := ⟨h.nd, strip_of h.lst (fun _ z => by cases z), h.c0.strip, h.c1.strip⟩
/-- nothing but the tables was changed -/
theorem KontT.pureT {A : Ads} {H H' : Hp} {ap p : Addr} {k : Nat} {fp : List Addr} {r : Fc01.St × List Int} {Q : VK} {s : Fc01.St} (kk : KontT A H ap k fp r Q) (hP : PairAt A.C k H ap s fp) (hr : r.1 = s) (e : Ex (Arr.strip H) H') (hp : H p = none) (t : Tabs (tabs A) H') (h : H' p = some (.lst (intV r.2))) : Q (.ref p) H' := by
  obtain ⟨l0, l1, rfl, hL⟩ := hP
  refine kk H' p _ ⟨l0, l1, rfl, ?_⟩ h (fun z => ?_) (fun b hb => Or.inl hb) (fun b o q _ => e b o q) t (fun b o q _ => ne_of_none q hp)
  · rw [hr]
    exact (hL.strip.mono e).more (Nat.le_succ k)
  · obtain ⟨o, ho⟩ := hL.known z
    rw [hp] at ho
    cases ho
/-- nothing was changed -/
theorem Kont.pure {C : Addr} {H H' : Hp} {ap p : Addr} {k : Nat} {fp : List Addr} {r : Fc01.St × List Int} {Q : VK} {s : Fc01.St} (kk : Kont C H ap k fp r Q) (hP : PairAt C k H ap s fp) (hr : r.1 = s) (e : Ex H H') (hp : H p = none) (h : H' p = some (.lst (intV r.2))) : Q (.ref p) H' := by
  obtain ⟨l0, l1, rfl, hL⟩ := hP
  refine kk H' p _ ⟨l0, l1, rfl, ?_⟩ h (fun z => ?_) (fun b hb => Or.inl hb) (fun b o q _ => e b o q) (fun b o q _ => ne_of_none q hp)
  · rw [hr]
    exact (hL.mono e).more (Nat.le_succ k)
  · obtain ⟨o, ho⟩ := hL.known z
    rw [hp] at ho
    cases ho
section
variable {P : Program} {w : World} {K : PySem.W.Frag} {mg : Str → Option Value} {base : Heap} {A : Ads} {σ : L2.St} {H : Hp} {ta tb td te tf tg : TE} {a : Addr} {c : Cat} {E : XK}
theorem ev_num {an : Addr} {zs : List Nat} {j z : Nat} (h : Ev ta σ H (.ref an)) (hn : H an = some (.lst (natV zs))) (hz : zs[j]? = some z) : Ev (tOp (rIxL K) ta (tC (.int (j : Int)))) σ H (.int (z : Int)) :=
  ev_op h ev_c (rv_ixL (sq_of hn) (atI_nat (by unfold natV; rw [List.getElem?_map, hz]; rfl)))
theorem ev_catOf {ap : Addr} {k i : Nat} {s : Fc01.St} {l0 l1 : Loc} (h : PairL A.C k H ap s l0 l1) (hi : i ≤ 1) (ha : Ev ta σ H (.ref ap)) (hb : Ev tb σ H (.int (i : Int))) : Ev (tOp (rIxL K) ta tb) σ H (.ref (locAt i l0 l1).a) :=
  ev_op ha hb (rv_ixL (sq_of h.lst) (atI_nat (h.at hi)))
theorem CatL.cat {C : Addr} {k : Nat} {l : Loc} (h : CatL C k H l c) (hk : k ≤ 100) : CatAt C H l.a c := catAt_of h.1 h.2 hk
end
end Arr
-- text B8
set_option Elab.async false
set_option linter.unusedVariables false
set_option maxRecDepth 100000
set_option maxHeartbeats 4000000
/-! # the calls start, arrow, make, check, kinds, hom, turn -/
namespace Arr
open PySem PySem.Spec PyProof.Rows L2 Evl LamX NdefX
open Fc01 (from_ to_ after hom turned catAt withCat)
def mkStart : List Nat → Option Fc01.Call
  | [i, n] => some (.start i n)
  | _ => none
def mkArrow : List Nat → Option Fc01.Call
  | [i, x, y] => some (.arrow i x y)
  | _ => none
def mkMake : List Nat → Option Fc01.Call
  | [i, f, g, h] => some (.make i f g h)
  | _ => none
def mkCheck : List Nat → Option Fc01.Call
  | [i] => some (.check i)
  | _ => none
def mkKinds : List Nat → Option Fc01.Call
  | [i, f] => some (.kinds i f)
  | _ => none
def mkHom : List Nat → Option Fc01.Call
  | [i, x, y] => some (.hom i x y)
  | _ => none
def mkTurn : List Nat → Option Fc01.Call
  | [i] => some (.turn i)
  | _ => none
/-! ## the entries told -/
theorem look_put (m : Mm) (f g h a b : Nat) : look (putM m f g h) a b = if a = f ∧ b = g then some h else look m a b := by
  have e := valV_put (encM m) (key f g) (key a b) (.int (h : Int))
  rw [putK_enc, look_enc, look_enc] at e
  by_cases q : a = f ∧ b = g
  · rw [if_pos q]
    rw [if_pos (key_inj.mpr q)] at e
    cases z : look (putM m f g h) a b with
    | none =>
      rw [z] at e
      cases e
    | some u =>
      rw [z] at e
      have e : V.int (u : Int) = V.int (h : Int) := Option.some.inj e
      injection e with e
      congr 1
      omega
  · rw [if_neg q]
    rw [if_neg fun z => q (key_inj.mp z)] at e
    cases z : look (putM m f g h) a b with
    | none =>
      rw [z] at e
      cases z2 : look m a b with
      | none => rfl
      | some v =>
        rw [z2] at e
        cases e
    | some u =>
      rw [z] at e
      cases z2 : look m a b with
      | none =>
        rw [z2] at e
        cases e
      | some v =>
        rw [z2] at e
        have e : V.int (u : Int) = V.int (v : Int) := Option.some.inj e
        injection e with e
        congr 1
        omega
theorem look_cons (m : Mm) (f g h a b : Nat) : look (((f, g), h) :: m.filter fun x => x.1 != (f, g)) a b = if a = f ∧ b = g then some h else look m a b := by
  by_cases q : a = f ∧ b = g
  · rw [if_pos q, look_pos (by rw [q.1, q.2])]
  · rw [if_neg q, look_neg (fun z => q (by injection z with z1 z2; exact ⟨z1.symm, z2.symm⟩))]
    induction m with
    | nil => rfl
    | cons p r ih =>
      rw [List.filter_cons]
      by_cases z : p.1 = (f, g)
      · rw [if_neg (by simp [z]), ih, look_neg (fun y => q (by rw [z] at y; injection y with z1 z2; exact ⟨z1.symm, z2.symm⟩))]
      · rw [if_pos (by simpa using z)]
        by_cases y : p.1 = (a, b)
        · rw [look_pos y, look_pos y]
        · rw [look_neg y, look_neg y, ih]
theorem putM_keys (m : Mm) (f g h : Nat) : (putM m f g h).map (·.1) = if (m.any fun x => decide (x.1 = (f, g))) = true then m.map (·.1) else m.map (·.1) ++ [(f, g)] := by
  unfold putM
  by_cases q : (m.any fun x => decide (x.1 = (f, g))) = true
  · rw [if_pos q, if_pos q, List.map_map]
    congr 1
    funext x
    show (if x.1 = (f, g) then (x.1, h) else x).1 = x.1
    split <;> rfl
  · rw [if_neg q, if_neg q, List.map_append]
    rfl
theorem mok_put {k : Nat} {c : Cat} {m : Mm} (hm : MOk k c m) {f g h : Nat} (lh : h < c.arrows.length) : MOk (k + 1) ⟨c.n, c.arrows, ((f, g), h) :: c.makes.filter fun x => x.1 != (f, g)⟩ (putM m f g h) := by
  obtain ⟨h1, h2, h3, wf⟩ := hm
  refine ⟨?_, fun a b => ?_, ?_, ⟨wf.n1, wf.n4, wf.len, wf.l9, wf.own, wf.ends, fun a b u e => ?_⟩⟩
  · rw [putM_keys]
    by_cases q : (m.any fun x => decide (x.1 = (f, g))) = true
    · rw [if_pos q]
      exact h1
    · rw [if_neg q]
      refine nd_snoc h1 fun z => q ?_
      obtain ⟨x, hx, e⟩ := List.mem_map.mp z
      exact List.any_eq_true.mpr ⟨x, hx, decide_eq_true e⟩
  · rw [look_put]
    show _ = look (((f, g), h) :: c.makes.filter fun x => x.1 != (f, g)) a b
    rw [look_cons, h2]
  · unfold putM
    split
    · rw [List.length_map]
      omega
    · rw [List.length_append]
      show m.length + 1 ≤ k + 1
      omega
  · have e : look (((f, g), h) :: c.makes.filter fun x => x.1 != (f, g)) a b = some u := e
    rw [look_cons] at e
    by_cases q : a = f ∧ b = g
    · rw [if_pos q] at e
      cases e
      exact lh
    · rw [if_neg q] at e
      exact wf.mks a b u e
section
variable {P : Program} {w : World} {K : PySem.W.Frag} {mg : Str → Option Value} {base : Heap} {A : Ads} {σ : L2.St} {H : Hp} {ta tb td te tf tg tp ti : TE} {a : Addr} {c : Cat} {E : XK}
/-- xs[j] = C(n) -/
theorem q_setMk {C ap : Addr} {n j : Nat} {xs : List V} {D : Ends} {tz : TS} (h : Ev ta σ H (.int (n : Int))) (hn : n ≤ 4) (ho : Ev tp σ H (.ref ap)) (hi : Ev ti σ H (.int (j : Int))) (hl : H ap = some (.lst xs)) (hj : j < xs.length)
    (k : ∀ H2 x dx ab ae at_, H x = none → H ab = none → H ae = none → H at_ = none → CatF C H2 x dx ab ae at_ (Fc01.begin_ n) [] → Ex H H2 → tz D σ (upd H2 ap (.lst (xs.set j (.ref x))))) :
    tSeq (tAsg (tMake C (spInit C) [] E (tCons ta tNil)) (gSub tp ti L2.rSetL)) tz D σ H :=
  h H (Ex.refl H) _ fun H1 e1 => by
    intro x dxx nx ndx nex
    refine ⟨x, dxx, n, rfl, hn, upd_same, fun H2 ab2 ae2 at2 f1 f2 f3 F2 fr => ⟨rfl, ?_⟩⟩
    obtain ⟨_, f1⟩ := upd_nn f1
    obtain ⟨_, f1⟩ := upd_nn f1
    obtain ⟨_, f2⟩ := upd_nn f2
    obtain ⟨_, f2⟩ := upd_nn f2
    obtain ⟨_, f3⟩ := upd_nn f3
    obtain ⟨_, f3⟩ := upd_nn f3
    have e2 : Ex H1 H2 := fun b o e => fr b o (by rw [upd_ne (ne_of_none e nx), upd_ne (ne_of_none e ndx)]; exact e) (fun z => ne_of_none e nx (List.mem_singleton.mp z))
    refine ho H2 (e1.trans e2) _ fun H3 e3 => hi H3 ((e1.trans e2).trans e3) _ fun H4 e4 => ⟨ap, xs, (j : Int), j, rfl, rfl, (((e1.trans e2).trans e3).trans e4) _ _ hl, ixN_nat hj, ?_⟩
    exact k H4 x dxx ab2 ae2 at2 (fresh_back e1 nx) (fresh_back e1 f1) (fresh_back e1 f2) (fresh_back e1 f3) (F2.mono (e3.trans e4)) (((e1.trans e2).trans e3).trans e4)
theorem fp_sub {l0 l1 : Loc} {ap b : Addr} {i : Nat} (h : b ∈ (locAt i l0 l1).fp) : b ∈ ap :: (l0.fp ++ l1.fp) := by
  unfold locAt at h
  split at h
  · exact List.mem_cons_of_mem _ (List.mem_append_left _ h)
  · exact List.mem_cons_of_mem _ (List.mem_append_right _ h)
theorem ret1 {D : Ends} {v : V} (h : Ev te σ H v) (k : ∀ p H1, H p = none → Ex H H1 → H1 p = some (.lst [v]) → D.rt (.ref p) H1) : tRet (tLst (tCons te tNil)) D σ H := s_retL (el_lst (ea_cons h ea_nil) (by show 1 ≤ 100000; decide)) k
theorem ok_answer_start (T : Txt K mg A) : FnOk P w K mg base CX0 3 A.f_answer_start A.d_answer_start ["pair", "numbers"] (spHand A mkStart) := by
  refine T.F_answer_start.ok sc_answer_start (fun vs H Q E h => ?_) (fun cdv B outer s H vs Q E hr h => ⟨_, (pss_cons (ps_set (i := 2) sc_answer_start.nd rfl (Or.inl rfl) (pe_ix (ixListK (K := K) rfl) (pv 1) pe_int (fun _ _ => rfl)))
    (pss_cons (ps_if (PW.pt (pw_or (pt_cmpR op_lt (pv 2) pe_int (nomark _)) (pw_or1 (pt_cmpR op_gt (pv 2) (pe_glob (v := .int (4)) rfl T.c_MOST_THINGS.choose_spec ⟨_, rfl⟩) (nomark _))))) (pss_one (ps_ret (pe_lst (pa_cons (pe_glob (v := .int (-1)) rfl T.c_DOES_NOT_FIT.choose_spec ⟨_, rfl⟩) pa_nil)))) pss_nil)
    (pss_cons (ps_asg (pe_make T.mkC (ok___init__ T) (hr.mono (by decide)) rfl T.gC T.bd___init__ .nil pass0 (pa_cons (pv 2) pa_nil)) (pg_sub (pv 0) (pe_ix (ixListK (K := K) rfl) (pv 1) pe_int (fun _ _ => rfl)) set_list))
    (pss_one (ps_ret (pe_lst (pa_cons (pv 2) pa_nil))))))), ?_⟩)
  · obtain ⟨_, _, _, _, _, _, _, rfl, _⟩ := h
    rfl
  · obtain ⟨ap, an, st, fp, k, zs, call, rfl, hP, hk, hn, nan, hmk, hi, hT, kk⟩ := h
    have kk := kk.old hT hP
    obtain ⟨i, n, rfl, rfl⟩ : ∃ i n, zs = [i, n] ∧ call = .start i n := by
      match zs, hmk with
      | [i, n], hmk => exact ⟨i, n, rfl, (Option.some.inj hmk).symm⟩
    have hi : i ≤ 1 := hi
    refine q_asg (ev_num (j := 1) (ev_var rfl) hn rfl) fun H1 e1 => ?_
    have st1 : Fc01.step st (.start i n) = if n = 0 ∨ 4 < n then (st, [-1]) else (withCat st i (Fc01.begin_ n), [(n : Int)]) := if_neg (by omega)
    refine q_when (et_or (et_test (ev_op (ev_var rfl) ev_c rv_I0)) fun _ => et_test (ev_op (ev_var rfl) ev_c rv_I0)) (fun b H2 e2 => ?_) (fun b H2 e2 => ?_)
    · have bad : n = 0 ∨ 4 < n := by
        rw [Bool.or_eq_true, decide_eq_true_eq, decide_eq_true_eq] at b
        omega
      rw [st1, if_pos bad] at kk
      exact ret1 ev_c fun p H3 hp e3 h3 => kk.pure hP rfl ((e1.trans e2).trans e3) (fresh_back (e1.trans e2) hp) h3
    · have good : ¬ (n = 0 ∨ 4 < n) := by
        rw [Bool.or_eq_false_iff, decide_eq_false_iff_not, decide_eq_false_iff_not] at b
        omega
      rw [st1, if_neg good] at kk
      obtain ⟨l0, l1, rfl, hL⟩ := hP
      have hL2 := hL.mono (e1.trans e2)
      refine q_setMk (ev_var rfl) (by omega) (ev_var rfl) (ev_num (j := 0) (ev_var rfl) ((e1.trans e2) _ _ hn) rfl) hL2.lst (by show i < 2; omega) fun H3 x dx ab ae at_ nx n1 n2 n3 F3 e3 => ?_
      have hc : CatL A.C (k + 1) H3 ⟨x, dx, ab, ae, at_, []⟩ (Fc01.begin_ n) := ⟨F3, (mok_begin (by omega) (by omega)).more (Nat.zero_le _)⟩
      obtain ⟨l0', l1', hf, hN⟩ := hL2.new hi (Nat.le_succ k) e3 hc (by simp [Loc.fp, nx, n1, n2, n3])
      have fr : Fr H (upd H3 ap (.lst (([.ref l0.a, .ref l1.a] : List V).set i (.ref x)))) (ap :: (l0.fp ++ l1.fp)) := fun b o q nb => by
        rw [upd_ne fun z => nb (by rw [z]; exact List.mem_cons_self ..)]
        exact ((e1.trans e2).trans e3) _ _ q
      refine ret1 (ev_var rfl) fun p H4 hp e4 h4 => kk H4 p _ ⟨l0', l1', rfl, hN.mono e4⟩ h4 (fun z => ?_) (fun b hb => ?_) (fun b o q nb => e4 _ _ (fr b o q nb)) (fun b o q nb => ne_of_none (fr b o q nb) hp)
      · obtain ⟨o, ho⟩ := hN.known z
        rw [hp] at ho
        cases ho
      · rcases List.mem_cons.mp hb with rfl | hb
        · exact Or.inl (List.mem_cons_self ..)
        · rcases hf b hb with z | z
          · exact Or.inl (List.mem_cons_of_mem _ z)
          · exact Or.inr (fresh_back (e1.trans e2) z)
theorem ret_meth {C b dx : Addr} {fs : List (Str × V)} {m : Str} {sp : Sp} {vs : List V} {tr : TA} {D : Ends} (h : Ev ta σ H (.ref b)) (ho : H b = some (.ins C dx fs)) (l : fs.lookup m = none) (ha : EvA tr σ H vs)
    (k : ∀ H1, Ex H H1 → sp (.ref b :: vs) H1 (fun v H2 => 1 ≤ sizeLine ∧ ∀ p, H2 p = none → D.rt (.ref p) (upd H2 p (.lst [v]))) E) : tRet (tLst (tCons (tMeth C m sp [] E ta tr) tNil)) D σ H :=
  h H (Ex.refl H) _ fun H1 e1 => ⟨b, dx, fs, rfl, e1 b _ ho, l, ha H1 e1 _ fun H2 e2 => by
    rw [List.append_nil]
    exact k H2 (e1.trans e2)⟩
theorem isArrow_iff (c : Cat) (f : Nat) : Fc01.isArrow c f = decide ((f : Int) < (c.arrows.length : Int)) := by
  unfold Fc01.isArrow
  rw [dec_lt]
theorem ok_answer_arrow (T : Txt K mg A) : FnOk P w K mg base CX0 3 A.f_answer_arrow A.d_answer_arrow ["pair", "numbers"] (spHand A mkArrow) := by
  refine T.F_answer_arrow.ok sc_answer_arrow (fun vs H Q E h => ?_) (fun cdv B outer s H vs Q E hr h => ⟨_, (pss_cons (ps_set (i := 2) sc_answer_arrow.nd rfl (Or.inl rfl) (pe_ix (ixListK (K := K) rfl) (pv 0) (pe_ix (ixListK (K := K) rfl) (pv 1) pe_int (fun _ _ => rfl)) (fun _ _ => rfl)))
    (pss_cons (ps_set (i := 3) sc_answer_arrow.nd rfl (Or.inl rfl) (pe_ix (ixListK (K := K) rfl) (pv 1) pe_int (fun _ _ => rfl)))
    (pss_cons (ps_set (i := 4) sc_answer_arrow.nd rfl (Or.inl rfl) (pe_ix (ixListK (K := K) rfl) (pv 1) pe_int (fun _ _ => rfl)))
    (pss_cons (ps_if (PW.pt (pw_or (pt_not (pt_val (pe_meth (pv 2) T.cl T.m_has_thing (ok_has_thing T) (hr.mono (by decide)) T.bd_has_thing .nil pass0 (pa_cons (pv 3) pa_nil)))) (pw_or1 (pt_not (pt_val (pe_meth (pv 2) T.cl T.m_has_thing (ok_has_thing T) (hr.mono (by decide)) T.bd_has_thing .nil pass0 (pa_cons (pv 4) pa_nil))))))) (pss_one (ps_ret (pe_lst (pa_cons (pe_glob (v := .int (-1)) rfl T.c_DOES_NOT_FIT.choose_spec ⟨_, rfl⟩) pa_nil)))) pss_nil)
    (pss_cons (ps_if (pt_cmpR op_eq (pe_meth0 (pv 2) T.cl T.m_arrow_count (ok_arrow_count T) (hr.mono (by decide)) T.bd_arrow_count .nil pass0) (pe_glob (v := .int (9)) rfl T.c_MOST_ARROWS.choose_spec ⟨_, rfl⟩) (nomark _)) (pss_one (ps_ret (pe_lst (pa_cons (pe_glob (v := .int (-5)) rfl T.c_TOO_MANY_ARROWS.choose_spec ⟨_, rfl⟩) pa_nil)))) pss_nil)
    (pss_one (ps_ret (pe_lst (pa_cons (pe_meth (pv 2) T.cl T.m_add_arrow (ok_add_arrow T) (hr.mono (by decide)) T.bd_add_arrow .nil pass0 (pa_cons (pv 3) (pa_cons (pv 4) pa_nil))) pa_nil))))))))), ?_⟩)
  · obtain ⟨_, _, _, _, _, _, _, rfl, _⟩ := h
    rfl
  · obtain ⟨ap, an, st, fp, k, zs, call, rfl, hP, hk, hn, nan, hmk, hi, hT, kk⟩ := h
    have kk := kk.old hT hP
    obtain ⟨i, x, y, rfl, rfl⟩ : ∃ i x y, zs = [i, x, y] ∧ call = .arrow i x y := by
      match zs, hmk with
      | [i, x, y], hmk => exact ⟨i, x, y, rfl, (Option.some.inj hmk).symm⟩
    have hi : i ≤ 1 := hi
    have st1 : Fc01.step st (.arrow i x y) = if (catAt st i).n ≤ x ∨ (catAt st i).n ≤ y then (st, [-1]) else if 9 ≤ (catAt st i).arrows.length then (st, [-5]) else (withCat st i ⟨(catAt st i).n, (catAt st i).arrows ++ [(x, y)], (catAt st i).makes⟩, [((catAt st i).arrows.length : Int)]) := if_neg (by omega)
    obtain ⟨l0, l1, rfl, hL⟩ := id hP
    refine q_asg (ev_catOf hL hi (ev_var rfl) (ev_num (j := 0) (ev_var rfl) hn rfl)) fun H1 e1 => ?_
    refine q_asg (ev_num (j := 1) (ev_var rfl) (e1 _ _ hn) rfl) fun H2 e2 => ?_
    refine q_asg (ev_num (j := 2) (ev_var rfl) ((e1.trans e2) _ _ hn) rfl) fun H3 e3 => ?_
    have e3 := (e1.trans e2).trans e3
    have hcL := hL.cat i
    have hc := hcL.cat (by omega)
    have wf := hc.wf
    refine q_when (et_or (et_not (et_B (ev_has_thing (hc.mono e3) (ev_var rfl) (ev_var rfl)))) fun _ => et_not (et_B (ev_has_thing (hc.mono e3) (ev_var rfl) (ev_var rfl)))) (fun b H4 e4 => ?_) (fun b H4 e4 => ?_)
    · have bad : (catAt st i).n ≤ x ∨ (catAt st i).n ≤ y := by
        rw [Bool.or_eq_true, Bool.not_eq_true', Bool.not_eq_true', decide_eq_false_iff_not, decide_eq_false_iff_not] at b
        omega
      rw [st1, if_pos bad] at kk
      exact ret1 ev_c fun p H5 hp e5 h5 => kk.pure hP rfl ((e3.trans e4).trans e5) (fresh_back (e3.trans e4) hp) h5
    have good : ¬ ((catAt st i).n ≤ x ∨ (catAt st i).n ≤ y) := by
      rw [Bool.or_eq_false_iff, Bool.not_eq_false', Bool.not_eq_false', decide_eq_true_eq, decide_eq_true_eq] at b
      omega
    rw [st1, if_neg good] at kk
    have e4 := e3.trans e4
    refine q_when (et_test (ev_eqN (j := 9) (ev_arrow_count (hc.mono e4) (ev_var rfl)) ev_c)) (fun b H5 e5 => ?_) (fun b H5 e5 => ?_)
    · have n9 : (catAt st i).arrows.length = 9 := by simpa using b
      rw [if_pos (by omega)] at kk
      exact ret1 ev_c fun p H6 hp e6 h6 => kk.pure hP rfl ((e4.trans e5).trans e6) (fresh_back (e4.trans e5) hp) h6
    · have n9 : ¬ (catAt st i).arrows.length = 9 := by simpa using b
      have l9 := wf.l9
      rw [if_neg (by omega)] at kk
      have e5 := e4.trans e5
      have hL5 := hL.mono e5
      refine ret_meth (ev_var rfl) (e5 _ _ hcL.1.obj) (cF_no (by decide +kernel) (by decide +kernel) (by decide +kernel) (by decide +kernel)) (ea_cons (ev_var rfl) (ea_cons (ev_var rfl) ea_nil)) fun H7 e7 => ?_
      have e7 := e5.trans e7
      refine ⟨_, _, _, _, _, _, _, k, x, y, rfl, (hcL.mono e7).1, hcL.2, by omega, by omega, by omega, by omega, fun H8 F8 fr => ⟨by show 1 ≤ sizeLine; decide, fun p hp => ?_⟩⟩
      obtain ⟨l0', l1', g0, g1, hN⟩ := (hL.mono e7).put (j := k + 1) (Nat.le_succ k) fr (by
        intro b hb
        simp only [List.mem_cons, List.not_mem_nil, or_false] at hb
        rcases hb with rfl | rfl <;> simp [Loc.fp]) F8 ((mok_add hcL.2 (by omega) (by omega) (by omega)).more (Nat.le_succ k))
      have fr2 : Fr H H8 (ap :: (l0.fp ++ l1.fp)) := fun b o q nb => fr _ _ (e7 _ _ q) fun z => nb (fp_sub (i := i) (by
        simp only [List.mem_cons, List.not_mem_nil, or_false] at z
        rcases z with rfl | rfl <;> simp [Loc.fp]))
      refine kk _ p (ap :: (l0'.fp ++ l1'.fp)) ⟨l0', l1', rfl, hN.mono (Ex.new hp)⟩ upd_same (fun z => ?_) (fun b hb => Or.inl ?_) (fun b o q nb => Ex.new hp _ _ (fr2 b o q nb)) (fun b o q nb => ne_of_none (fr2 b o q nb) hp)
      · obtain ⟨o, ho⟩ := hN.known z
        rw [hp] at ho
        cases ho
      · rw [← g0, ← g1]
        exact hb
theorem ok_answer_make (T : Txt K mg A) : FnOk P w K mg base CX0 3 A.f_answer_make A.d_answer_make ["pair", "numbers"] (spHand A mkMake) := by
  refine T.F_answer_make.ok sc_answer_make (fun vs H Q E h => ?_) (fun cdv B outer s H vs Q E hr h => ⟨_, (pss_cons (ps_set (i := 2) sc_answer_make.nd rfl (Or.inr rfl) (pe_ix (ixListK (K := K) rfl) (pv 0) (pe_ix (ixListK (K := K) rfl) (pv 1) pe_int (fun _ _ => rfl)) (fun _ _ => rfl)))
    (pss_cons (ps_set (i := 3) sc_answer_make.nd rfl (Or.inl rfl) (pe_ix (ixListK (K := K) rfl) (pv 1) pe_int (fun _ _ => rfl)))
    (pss_cons (ps_set (i := 4) sc_answer_make.nd rfl (Or.inl rfl) (pe_ix (ixListK (K := K) rfl) (pv 1) pe_int (fun _ _ => rfl)))
    (pss_cons (ps_set (i := 5) sc_answer_make.nd rfl (Or.inl rfl) (pe_ix (ixListK (K := K) rfl) (pv 1) pe_int (fun _ _ => rfl)))
    (pss_cons (ps_if (pt_not (pt_val (pe_callB (allK (K := K) rfl rfl) (by rfl) T.b_all (by decide +kernel) (pa_cons (pe_lc (own := [("named", 6)]) (g := gName 6) (tt := tYes) rfl sc_answer_make.nd (piTupK (K := K) rfl (pe_tup (pa_cons (pv 3) (pa_cons (pv 4) (pa_cons (pv 5) pa_nil))))) (blkOk_by (own := [("named", 6)]) (N := ["pair", "numbers", "category", "f", "g", "h", "named"]) (sc := defScope s_answer_make) (by decide +kernel)) (fun _ _ _ _ _ => pg_name (i := 6) sc_answer_make.nd rfl (Or.inl rfl)) (fun _ _ _ _ _ => pts_nil) (fun _ _ _ _ _ => (pe_meth (pv 2) T.cl T.m_has_arrow (ok_has_arrow T) (hr.mono (by decide)) T.bd_has_arrow .nil pass0 (pa_cons (pv 6) pa_nil)))) pa_nil)))) (pss_one (ps_ret (pe_lst (pa_cons (pe_glob (v := .int (-3)) rfl T.c_NO_SUCH_ARROW.choose_spec ⟨_, rfl⟩) pa_nil)))) pss_nil)
    (pss_cons (ps_if (PW.pt (pw_or (pt_val (pe_meth (pv 2) T.cl T.m_is_own (ok_is_own T) (hr.mono (by decide)) T.bd_is_own .nil pass0 (pa_cons (pv 3) pa_nil))) (pw_or (pt_val (pe_meth (pv 2) T.cl T.m_is_own (ok_is_own T) (hr.mono (by decide)) T.bd_is_own .nil pass0 (pa_cons (pv 4) pa_nil))) (pw_or1 (pt_not (pt_val (pe_meth (pv 2) T.cl T.m_meet (ok_meet T) (hr.mono (by decide)) T.bd_meet .nil pass0 (pa_cons (pv 3) (pa_cons (pv 4) pa_nil))))))))) (pss_one (ps_ret (pe_lst (pa_cons (pe_glob (v := .int (-1)) rfl T.c_DOES_NOT_FIT.choose_spec ⟨_, rfl⟩) pa_nil)))) pss_nil)
    (pss_cons (ps_expr (pe_meth (pv 2) T.cl T.m_tell (ok_tell T) (hr.mono (by decide)) T.bd_tell .nil pass0 (pa_cons (pv 3) (pa_cons (pv 4) (pa_cons (pv 5) pa_nil)))))
    (pss_one (ps_ret (pe_lst (pa_cons (pv 5) pa_nil))))))))))), ?_⟩)
  · obtain ⟨_, _, _, _, _, _, _, rfl, _⟩ := h
    rfl
  · obtain ⟨ap, an, st, fp, k, zs, call, rfl, hP, hk, hn, nan, hmk, hi, hT, kk⟩ := h
    have kk := kk.old hT hP
    obtain ⟨i, f, g, h, rfl, rfl⟩ : ∃ i f g h, zs = [i, f, g, h] ∧ call = .make i f g h := by
      match zs, hmk with
      | [i, f, g, h], hmk => exact ⟨i, f, g, h, rfl, (Option.some.inj hmk).symm⟩
    have hi : i ≤ 1 := hi
    have st1 : Fc01.step st (.make i f g h) = if Fc01.isArrow (catAt st i) f = false ∨ Fc01.isArrow (catAt st i) g = false ∨ Fc01.isArrow (catAt st i) h = false then (st, [-3]) else if f < (catAt st i).n ∨ g < (catAt st i).n ∨ to_ (catAt st i) f ≠ from_ (catAt st i) g then (st, [-1]) else
        (withCat st i ⟨(catAt st i).n, (catAt st i).arrows, ((f, g), h) :: (catAt st i).makes.filter fun x => x.1 != (f, g)⟩, [(h : Int)]) := if_neg (by omega)
    obtain ⟨l0, l1, rfl, hL⟩ := id hP
    refine q_asg (ev_catOf hL hi (ev_var rfl) (ev_num (j := 0) (ev_var rfl) hn rfl)) fun H1 e1 => ?_
    refine q_asg (ev_num (j := 1) (ev_var rfl) (e1 _ _ hn) rfl) fun H2 e2 => ?_
    refine q_asg (ev_num (j := 2) (ev_var rfl) ((e1.trans e2) _ _ hn) rfl) fun H3 e3 => ?_
    have e3 := (e1.trans e2).trans e3
    refine q_asg (ev_num (j := 3) (ev_var rfl) (e3 _ _ hn) rfl) fun H4 e4 => ?_
    have e4 := e3.trans e4
    have hcL := hL.cat i
    have hc := hcL.cat (by omega)
    generalize hcc : catAt st i = c at st1 hcL hc
    have lst : EvL (tLc (iTup K (tTup (tCons (tVar 3) (tCons (tVar 4) (tCons (tVar 5) tNil))))) (gName 6) tYes (tMeth A.C "has_arrow" (spV (R_has_arrow A.C)) [] E0 (tVar 2) (tCons (tVar 6) tNil)) [6])
        [some (.ref ap), some (.ref an), some (.ref (locAt i l0 l1).a), some (.int (f : Int)), some (.int (g : Int)), some (.int (h : Int)), none] H4 (([f, g, h].map fun z => Fc01.isArrow c z).map V.bl) := by
      rw [← map_bl]
      refine el_mapNU (en := natE) _ (eu_tup (ea_cons (ev_var rfl) (ea_cons (ev_var rfl) (ea_cons (ev_var rfl) ea_nil))) (by show 3 ≤ 100000; decide)) (by show 3 ≤ 40000; decide) (fun _ => rfl) fun z _ H5 e5 => ?_
      rw [isArrow_iff]
      exact ev_has_arrow (hc.mono (e4.trans e5)) (ev_var rfl) (ev_var rfl)
    refine q_when (et_not (et_B (ev_allL lst))) (fun b H5 e5 => ?_) (fun b H5 e5 => ?_)
    · have bad : Fc01.isArrow c f = false ∨ Fc01.isArrow c g = false ∨ Fc01.isArrow c h = false := by
        cases q1 : Fc01.isArrow c f <;> cases q2 : Fc01.isArrow c g <;> cases q3 : Fc01.isArrow c h <;> simp [q1, q2, q3] at b ⊢
      rw [st1, if_pos bad] at kk
      exact ret1 ev_c fun p H6 hp e6 h6 => kk.pure hP rfl ((e4.trans e5).trans e6) (fresh_back (e4.trans e5) hp) h6
    have good : Fc01.isArrow c f = true ∧ Fc01.isArrow c g = true ∧ Fc01.isArrow c h = true := by
      cases q1 : Fc01.isArrow c f <;> cases q2 : Fc01.isArrow c g <;> cases q3 : Fc01.isArrow c h <;> simp [q1, q2, q3] at b ⊢
    rw [st1, if_neg (by rw [good.1, good.2.1, good.2.2]; simp)] at kk
    obtain ⟨lf, lg, lh⟩ : f < c.arrows.length ∧ g < c.arrows.length ∧ h < c.arrows.length := by
      unfold Fc01.isArrow at good
      simpa using good
    have e5 := e4.trans e5
    have hc5 := hc.mono e5
    refine q_when (et_or (et_B (ev_is_own hc5 (ev_var rfl) (ev_var rfl))) fun _ => et_or (et_B (ev_is_own hc5 (ev_var rfl) (ev_var rfl))) fun _ => et_not (et_B (ev_meet hc5 (ev_var rfl) (ev_var rfl) (ev_var rfl) lf lg))) (fun b H6 e6 => ?_) (fun b H6 e6 => ?_)
    · have bad : f < c.n ∨ g < c.n ∨ to_ c f ≠ from_ c g := by
        rw [Bool.or_eq_true, Bool.or_eq_true, Bool.not_eq_true', dec_lt, dec_lt, decide_eq_true_eq, decide_eq_true_eq, beq_eq_false_iff_ne] at b
        exact b
      rw [if_pos bad] at kk
      exact ret1 ev_c fun p H7 hp e7 h7 => kk.pure hP rfl ((e5.trans e6).trans e7) (fresh_back (e5.trans e6) hp) h7
    · have good2 : ¬ (f < c.n ∨ g < c.n ∨ to_ c f ≠ from_ c g) := by
        rw [Bool.or_eq_false_iff, Bool.or_eq_false_iff, Bool.not_eq_false', dec_lt, dec_lt, decide_eq_false_iff_not, decide_eq_false_iff_not, beq_iff_eq] at b
        rintro (z | z | z)
        · exact b.1 z
        · exact b.2.1 z
        · exact z b.2.2
      rw [if_neg good2] at kk
      have e6 := e5.trans e6
      refine s_meth (D := { nx := _, rt := _ }) (ev_var rfl) (e6 _ _ hcL.1.obj) (cF_no (by decide +kernel) (by decide +kernel) (by decide +kernel) (by decide +kernel)) (ea_cons (ev_var rfl) (ea_cons (ev_var rfl) (ea_cons (ev_var rfl) ea_nil))) fun H7 e7 => ?_
      have e7 := e6.trans e7
      refine ⟨_, _, _, _, _, _, _, f, g, h, rfl, (hcL.mono e7).1, by have := hcL.2.2.2.1; omega, fun H8 F8 fr => ?_⟩
      have F9 : CatF A.C H8 (locAt i l0 l1).a (locAt i l0 l1).dx (locAt i l0 l1).ab (locAt i l0 l1).ae (locAt i l0 l1).at_ ⟨c.n, c.arrows, ((f, g), h) :: c.makes.filter fun x => x.1 != (f, g)⟩ (putM (locAt i l0 l1).m f g h) := ⟨F8.obj, F8.beg, F8.en, F8.tol, F8.ne⟩
      obtain ⟨l0', l1', g0, g1, hN⟩ := (hL.mono e7).put (j := k + 1) (Nat.le_succ k) fr (by
        intro b hb
        rw [List.mem_singleton.mp hb]
        simp [Loc.fp]) F9 (mok_put hcL.2 lh)
      have fr2 : Fr H H8 (ap :: (l0.fp ++ l1.fp)) := fun b o q nb => fr _ _ (e7 _ _ q) fun z => nb (fp_sub (i := i) (by
        rw [List.mem_singleton.mp z]
        simp [Loc.fp]))
      refine ret1 (ev_var rfl) fun p H10 hp e10 h10 => kk _ p (ap :: (l0'.fp ++ l1'.fp)) ⟨l0', l1', rfl, hN.mono e10⟩ h10 (fun z => ?_) (fun b hb => Or.inl ?_) (fun b o q nb => e10 _ _ (fr2 b o q nb)) (fun b o q nb => ne_of_none (fr2 b o q nb) hp)
      · obtain ⟨o, ho⟩ := hN.known z
        rw [hp] at ho
        cases ho
      · rw [← g0, ← g1]
        exact hb
theorem natV_ints (l : List Nat) : natV l = intV (Fc01.ints l) := by
  unfold natV intV Fc01.ints
  rw [List.map_map]
  rfl
theorem ok_answer_check (T : Txt K mg A) : FnOk P w K mg base CX0 6 A.f_answer_check A.d_answer_check ["pair", "numbers"] (spHand A mkCheck) := by
  refine T.F_answer_check.ok sc_answer_check (fun vs H Q E h => ?_) (fun cdv B outer s H vs Q E hr h => ⟨_, (pss_one (ps_ret (pe_call (ok_first_fault T) (hr.mono (by decide)) rfl T.g_first_fault T.F_first_fault.kp T.bd_first_fault .nil pass0 (pa_cons (pe_ix (ixListK (K := K) rfl) (pv 0) (pe_ix (ixListK (K := K) rfl) (pv 1) pe_int (fun _ _ => rfl)) (fun _ _ => rfl)) pa_nil)))), ?_⟩)
  · obtain ⟨_, _, _, _, _, _, _, rfl, _⟩ := h
    rfl
  · obtain ⟨ap, an, st, fp, k, zs, call, rfl, hP, hk, hn, nan, hmk, hi, hT, kk⟩ := h
    have kk := kk.old hT hP
    obtain ⟨i, rfl, rfl⟩ : ∃ i, zs = [i] ∧ call = .check i := by
      match zs, hmk with
      | [i], hmk => exact ⟨i, rfl, (Option.some.inj hmk).symm⟩
    have hi : i ≤ 1 := hi
    obtain ⟨l0, l1, rfl, hL⟩ := id hP
    have hc := (hL.cat i).cat (by omega)
    refine s_retL (el_fn (ea_cons (ev_catOf hL hi (ev_var rfl) (ev_num (j := 0) (ev_var rfl) hn rfl)) ea_nil) (spL_go ⟨_, _, rfl, hc, rfl⟩)) fun p H1 hp e1 h1 => ?_
    refine kk.pure hP rfl e1 hp (h1.trans ?_)
    show some (HO.lst (natV ((Fc01.fault (catAt st i)).getD [0]))) = some (HO.lst (intV (if 1 < i then [-2] else match Fc01.fault (catAt st i) with
      | none => [0]
      | some l => Fc01.ints l)))
    rw [if_neg (by omega)]
    cases Fc01.fault (catAt st i) with
    | none => rfl
    | some l => exact congrArg (fun z => some (HO.lst z)) (natV_ints l)
theorem asked_pos {s : Fc01.St} {i : Nat} {f : Cat → List Int} (hi : i ≤ 1) (h : (Fc01.fault (catAt s i)).isNone = false) : Fc01.asked s i f = (s, [-6]) := by
  unfold Fc01.asked
  rw [if_neg (by omega), if_pos (by cases q : Fc01.fault (catAt s i) <;> simp [q] at h ⊢)]
theorem asked_neg {s : Fc01.St} {i : Nat} {f : Cat → List Int} (hi : i ≤ 1) (h : (Fc01.fault (catAt s i)).isNone = true) : Fc01.asked s i f = (s, f (catAt s i)) := by
  unfold Fc01.asked
  rw [if_neg (by omega), if_neg (by cases q : Fc01.fault (catAt s i) <;> simp [q] at h ⊢)]
theorem ok_answer_turn (T : Txt K mg A) : FnOk P w K mg base CX0 4 A.f_answer_turn A.d_answer_turn ["pair", "numbers"] (spHand A mkTurn) := by
  refine T.F_answer_turn.ok sc_answer_turn (fun vs H Q E h => ?_) (fun cdv B outer s H vs Q E hr h => ⟨_, (pss_cons (ps_set (i := 2) sc_answer_turn.nd rfl (Or.inl rfl) (pe_meth0 (pe_ix (ixListK (K := K) rfl) (pv 0) (pe_ix (ixListK (K := K) rfl) (pv 1) pe_int (fun _ _ => rfl)) (fun _ _ => rfl)) T.cl T.m_turned (ok_turned T) (hr.mono (by decide)) T.bd_turned .nil pass0))
    (pss_cons (ps_asg (pv 2) (pg_sub (pv 0) (pe_ix (ixListK (K := K) rfl) (pv 1) pe_int (fun _ _ => rfl)) set_list))
    (pss_one (ps_ret (pe_lst (pa_cons (pe_meth0 (pv 2) T.cl T.m_arrow_count (ok_arrow_count T) (hr.mono (by decide)) T.bd_arrow_count .nil pass0) pa_nil)))))), ?_⟩)
  · obtain ⟨_, _, _, _, _, _, _, rfl, _⟩ := h
    rfl
  · obtain ⟨ap, an, st, fp, k, zs, call, rfl, hP, hk, hn, nan, hmk, hi, hT, kk⟩ := h
    have kk := kk.old hT hP
    obtain ⟨i, rfl, rfl⟩ : ∃ i, zs = [i] ∧ call = .turn i := by
      match zs, hmk with
      | [i], hmk => exact ⟨i, rfl, (Option.some.inj hmk).symm⟩
    have hi : i ≤ 1 := hi
    have st1 : Fc01.step st (.turn i) = (withCat st i (turned (catAt st i)), [((catAt st i).arrows.length : Int)]) := if_neg (by omega)
    rw [st1] at kk
    obtain ⟨l0, l1, rfl, hL⟩ := hP
    have hcL := hL.cat i
    refine q_turn (ev_catOf hL hi (ev_var rfl) (ev_num (j := 0) (ev_var rfl) hn rfl)) hcL.1 hcL.2 (by omega) fun H1 a' dx' ab' ae' at' n1 n2 n3 n4 F1 e1 => ?_
    have hL1 := hL.mono e1
    refine q_setL hL1.lst (ev_var rfl) (ev_var rfl) (ev_num (j := 0) (ev_var rfl) (e1 _ _ hn) rfl) (by show i < 2; omega) fun H2 e2 => ?_
    have hc : CatL A.C (k + 1) H2 ⟨a', dx', ab', ae', at', revM (locAt i l0 l1).m⟩ (turned (catAt st i)) := ⟨F1.mono e2, (mok_turned hcL.2).more (Nat.le_succ k)⟩
    obtain ⟨l0', l1', hf, hN⟩ := hL.new hi (Nat.le_succ k) (e1.trans e2) hc (by simp [Loc.fp, n1, n2, n3, n4])
    have hcN := hN.cat i
    have lA : (locAt i l0' l1').a = a' ∨ True := Or.inr trivial
    have hcat : CatAt A.C (upd H2 ap (.lst (([.ref l0.a, .ref l1.a] : List V).set i (.ref a')))) a' (turned (catAt st i)) := by
      have nap : a' ≠ ap := fun z => by rw [z, hL.lst] at n1; cases n1
      have nab : ab' ≠ ap := fun z => by rw [z, hL.lst] at n2; cases n2
      have nae : ae' ≠ ap := fun z => by rw [z, hL.lst] at n3; cases n3
      have nat : at' ≠ ap := fun z => by rw [z, hL.lst] at n4; cases n4
      exact catAt_of (k := k + 1) ⟨(upd_ne nap).trans hc.1.obj, (upd_ne nab).trans hc.1.beg, (upd_ne nae).trans hc.1.en, (upd_ne nat).trans hc.1.tol, hc.1.ne⟩ hc.2 (by omega)
    have fr : Fr H (upd H2 ap (.lst (([.ref l0.a, .ref l1.a] : List V).set i (.ref a')))) (ap :: (l0.fp ++ l1.fp)) := fun b o q nb => by
      rw [upd_ne fun z => nb (by rw [z]; exact List.mem_cons_self ..)]
      exact (e1.trans e2) _ _ q
    refine ret1 (ev_is (ev_arrow_count hcat (ev_var rfl)) (by rw [len_turned])) fun p H4 hp e4 h4 => kk H4 p _ ⟨l0', l1', rfl, hN.mono e4⟩ h4 (fun z => ?_) (fun b hb => ?_) (fun b o q nb => e4 _ _ (fr b o q nb)) (fun b o q nb => ne_of_none (fr b o q nb) hp)
    · obtain ⟨o, ho⟩ := hN.known z
      rw [hp] at ho
      cases ho
    · rcases List.mem_cons.mp hb with rfl | hb
      · exact Or.inl (List.mem_cons_self ..)
      · rcases hf b hb with z | z
        · exact Or.inl (List.mem_cons_of_mem _ z)
        · exact Or.inr z
end
end Arr
-- text B8b
set_option Elab.async false
set_option linter.unusedVariables false
set_option maxRecDepth 100000
set_option maxHeartbeats 4000000
/-! # the calls last, product; which def stands where -/
namespace Arr
open PySem PySem.Spec PyProof.Rows L2 Evl LamX NdefX
open Fc01 (from_ to_ after hom turned catAt withCat)
def mkLast : List Nat → Option Fc01.Call
  | [i] => some (.last i)
  | _ => none
def mkPullback : List Nat → Option Fc01.Call
  | [i, f, g] => some (.pullback i f g)
  | _ => none
def mkEqualizer : List Nat → Option Fc01.Call
  | [i, f, g] => some (.equalizer i f g)
  | _ => none
def mkSwap : List Nat → Option Fc01.Call
  | [] => some .swap
  | _ => none
def refA (c : Cat) (zs : List Nat) : Int := if (Fc01.fault c).isNone = true then (if zs.all (Fc01.isArrow c) = true then 0 else -3) else -6
def refT (c : Cat) (zs : List Nat) : Int := if (Fc01.fault c).isNone = true then (if zs.all (fun x => decide (x < c.n)) = true then 0 else -1) else -6
def R_refA (C : Addr) : List V → Hp → V → Prop := fun vs H v => ∃ (a pn : Addr) (c : Cat) (zs : List Nat), vs = [.ref a, .ref pn] ∧ CatAt C H a c ∧ (H pn = some (.lst (natV zs)) ∨ H pn = some (.tup (natV zs))) ∧ zs.length ≤ 9 ∧ v = .int (refA c zs)
def R_refT (C : Addr) : List V → Hp → V → Prop := fun vs H v => ∃ (a pn : Addr) (c : Cat) (zs : List Nat), vs = [.ref a, .ref pn] ∧ CatAt C H a c ∧ H pn = some (.lst (natV zs)) ∧ zs.length ≤ 9 ∧ v = .int (refT c zs)
def mkProduct : List Nat → Option Fc01.Call
  | [i, x, y] => some (.product i x y)
  | _ => none
/-- two defs of unlike names lie apart -/
theorem fun_ne {K : PySem.W.Frag} {x x' q q' : Str} {s s' : Stmt} {f f' : Addr} {fd fd' : FuncData} (F : Fun K x q s f fd) (F' : Fun K x' q' s' f' fd') (h : ¬ x = x') : f ≠ f' := by
  intro e
  subst e
  obtain ⟨oc, od, kV, doc, pm, an, cdv, ct, osl, rfl, lk, _⟩ := F.ex
  obtain ⟨oc', od', kV', doc', pm', an', cdv', ct', osl', rfl, lk', _⟩ := F'.ex
  rw [lk] at lk'
  injection lk' with e1
  injection e1 with _ _ e2 _
  injection e2 with e3
  exact h (congrArg FuncData.name e3)
section
variable {P : Program} {w : World} {K : PySem.W.Frag} {mg : Str → Option Value} {base : Heap} {A : Ads} {σ : L2.St} {H : Hp} {ta tb td te tf tg tp ti : TE} {a : Addr} {c : Cat} {E : XK}
theorem el_mapT {vs : List Nat} {j : Nat} {tl : TE} {α : Type} {en : α → V} {l : List α} {a : Addr} (fv : α → V) (h : Ev tl σ H (.ref a)) (hx : SqT K H a (l.map en)) (hz : l.length ≤ 40000) (hw : ∀ x, wipe ((wipe σ vs).set j (some x)) vs = wipe σ vs)
    (he : ∀ x ∈ l, ∀ H1, Ex H H1 → Ev te ((wipe σ vs).set j (some (en x))) H1 (fv x)) : EvL (tLc (iTup K tl) (gName j) tYes te vs) σ H (l.map fv) := by
  have q := el_compT (K := K) (t := tYes) (fun _ => true) fv h hx hz hw (fun _ _ _ _ => et_yes) (fun x hx H1 e1 _ => he x hx H1 e1)
  rw [filter_yes] at q
  exact q
theorem ok_refusal_of_arrows (T : Txt K mg A) : FnOk P w K mg base CX0 7 A.f_refusal_of_arrows A.d_refusal_of_arrows ["category", "arrows"] (spV (R_refA A.C)) := by
  refine T.F_refusal_of_arrows.ok sc_refusal_of_arrows (fun vs H Q E h => ?_) (fun cdv B outer s H vs Q E hr h => ?_)
  · obtain ⟨_, _, _, ⟨_, _, _, _, rfl, _⟩, _⟩ := h
    rfl
  · obtain ⟨H0, v, e, ⟨a, pn, c, zs, rfl, hc, hn, z9, rfl⟩, k⟩ := h
    have hc := hc.mono e
    unfold refA at k
    rcases hn with hn | hn
    · refine ⟨_, (pss_cons (ps_if (pt_not (pt_val (pe_call (ok_is_category T) (hr.mono (by decide)) rfl T.g_is_category T.F_is_category.kp T.bd_is_category .nil pass0 (pa_cons (pv 0) pa_nil)))) (pss_one (ps_ret (pe_glob (v := .int (-6)) rfl T.c_NO_CATEGORY.choose_spec ⟨_, rfl⟩))) pss_nil)
    (pss_cons (ps_if (pt_not (pt_val (pe_callB (allK (K := K) rfl rfl) (by rfl) T.b_all (by decide +kernel) (pa_cons (pe_lc (own := [("f", 2)]) (g := gName 2) (tt := tYes) rfl sc_refusal_of_arrows.nd (piListK (K := K) rfl (pv 1)) (blkOk_by (own := [("f", 2)]) (N := ["category", "arrows", "f"]) (sc := defScope s_refusal_of_arrows) (by decide +kernel)) (fun _ _ _ _ _ => pg_name (i := 2) sc_refusal_of_arrows.nd rfl (Or.inl rfl)) (fun _ _ _ _ _ => pts_nil) (fun _ _ _ _ _ => (pe_meth (pv 0) T.cl T.m_has_arrow (ok_has_arrow T) (hr.mono (by decide)) T.bd_has_arrow .nil pass0 (pa_cons (pv 2) pa_nil)))) pa_nil)))) (pss_one (ps_ret (pe_glob (v := .int (-3)) rfl T.c_NO_SUCH_ARROW.choose_spec ⟨_, rfl⟩))) pss_nil)
    (pss_one (ps_ret (pe_glob (v := .int (0)) rfl T.c_NOT_REFUSED.choose_spec ⟨_, rfl⟩))))), ?_⟩
      refine q_when (et_not (et_B (ev_is_category hc (ev_var rfl)))) (fun q H1 e1 => ?_) (fun q H1 e1 => ?_)
      · rw [if_neg (by intro z; rw [z] at q; cases q)] at k
        exact s_ret ev_c fun H2 e2 => k H2 (e1.trans e2)
      rw [if_pos (by simpa using q)] at k
      have lst : EvL (tLc (iList K (tVar 1)) (gName 2) tYes (tMeth A.C "has_arrow" (spV (R_has_arrow A.C)) [] E0 (tVar 0) (tCons (tVar 2) tNil)) [2]) [some (.ref a), some (.ref pn), none] H1 ((zs.map (Fc01.isArrow c)).map V.bl) := by
        rw [← map_bl]
        refine el_mapL (K := K) (en := natE) (l := zs) _ (ev_var rfl) (sq_of (e1 _ _ (e _ _ hn))) (by omega) (fun _ => rfl) fun z _ H5 e5 => ?_
        rw [isArrow_iff]
        exact ev_has_arrow (hc.mono (e1.trans e5)) (ev_var rfl) (ev_var rfl)
      refine q_when (et_not (et_B (ev_allL lst))) (fun q H2 e2 => ?_) (fun q H2 e2 => ?_)
      · rw [if_neg (by rw [List.all_map] at q; simpa using q)] at k
        exact s_ret ev_c fun H3 e3 => k H3 ((e1.trans e2).trans e3)
      · rw [if_pos (by rw [List.all_map] at q; simpa using q)] at k
        exact s_ret ev_c fun H3 e3 => k H3 ((e1.trans e2).trans e3)
    · refine ⟨_, (pss_cons (ps_if (pt_not (pt_val (pe_call (ok_is_category T) (hr.mono (by decide)) rfl T.g_is_category T.F_is_category.kp T.bd_is_category .nil pass0 (pa_cons (pv 0) pa_nil)))) (pss_one (ps_ret (pe_glob (v := .int (-6)) rfl T.c_NO_CATEGORY.choose_spec ⟨_, rfl⟩))) pss_nil)
    (pss_cons (ps_if (pt_not (pt_val (pe_callB (allK (K := K) rfl rfl) (by rfl) T.b_all (by decide +kernel) (pa_cons (pe_lc (own := [("f", 2)]) (g := gName 2) (tt := tYes) rfl sc_refusal_of_arrows.nd (piTupK (K := K) rfl (pv 1)) (blkOk_by (own := [("f", 2)]) (N := ["category", "arrows", "f"]) (sc := defScope s_refusal_of_arrows) (by decide +kernel)) (fun _ _ _ _ _ => pg_name (i := 2) sc_refusal_of_arrows.nd rfl (Or.inl rfl)) (fun _ _ _ _ _ => pts_nil) (fun _ _ _ _ _ => (pe_meth (pv 0) T.cl T.m_has_arrow (ok_has_arrow T) (hr.mono (by decide)) T.bd_has_arrow .nil pass0 (pa_cons (pv 2) pa_nil)))) pa_nil)))) (pss_one (ps_ret (pe_glob (v := .int (-3)) rfl T.c_NO_SUCH_ARROW.choose_spec ⟨_, rfl⟩))) pss_nil)
    (pss_one (ps_ret (pe_glob (v := .int (0)) rfl T.c_NOT_REFUSED.choose_spec ⟨_, rfl⟩))))), ?_⟩
      refine q_when (et_not (et_B (ev_is_category hc (ev_var rfl)))) (fun q H1 e1 => ?_) (fun q H1 e1 => ?_)
      · rw [if_neg (by intro z; rw [z] at q; cases q)] at k
        exact s_ret ev_c fun H2 e2 => k H2 (e1.trans e2)
      rw [if_pos (by simpa using q)] at k
      have lst : EvL (tLc (iTup K (tVar 1)) (gName 2) tYes (tMeth A.C "has_arrow" (spV (R_has_arrow A.C)) [] E0 (tVar 0) (tCons (tVar 2) tNil)) [2]) [some (.ref a), some (.ref pn), none] H1 ((zs.map (Fc01.isArrow c)).map V.bl) := by
        rw [← map_bl]
        refine el_mapT (K := K) (en := natE) (l := zs) _ (ev_var rfl) (st_of (e1 _ _ (e _ _ hn))) (by omega) (fun _ => rfl) fun z _ H5 e5 => ?_
        rw [isArrow_iff]
        exact ev_has_arrow (hc.mono (e1.trans e5)) (ev_var rfl) (ev_var rfl)
      refine q_when (et_not (et_B (ev_allL lst))) (fun q H2 e2 => ?_) (fun q H2 e2 => ?_)
      · rw [if_neg (by rw [List.all_map] at q; simpa using q)] at k
        exact s_ret ev_c fun H3 e3 => k H3 ((e1.trans e2).trans e3)
      · rw [if_pos (by rw [List.all_map] at q; simpa using q)] at k
        exact s_ret ev_c fun H3 e3 => k H3 ((e1.trans e2).trans e3)
theorem ok_refusal_of_things (T : Txt K mg A) : FnOk P w K mg base CX0 7 A.f_refusal_of_things A.d_refusal_of_things ["category", "things"] (spV (R_refT A.C)) := by
  refine T.F_refusal_of_things.ok sc_refusal_of_things (fun vs H Q E h => ?_) (fun cdv B outer s H vs Q E hr h => ?_)
  · obtain ⟨_, _, _, ⟨_, _, _, _, rfl, _⟩, _⟩ := h
    rfl
  · obtain ⟨H0, v, e, ⟨a, pn, c, zs, rfl, hc, hn, z9, rfl⟩, k⟩ := h
    have hc := hc.mono e
    unfold refT at k
    refine ⟨_, (pss_cons (ps_if (pt_not (pt_val (pe_call (ok_is_category T) (hr.mono (by decide)) rfl T.g_is_category T.F_is_category.kp T.bd_is_category .nil pass0 (pa_cons (pv 0) pa_nil)))) (pss_one (ps_ret (pe_glob (v := .int (-6)) rfl T.c_NO_CATEGORY.choose_spec ⟨_, rfl⟩))) pss_nil)
    (pss_cons (ps_if (pt_not (pt_val (pe_callB (allK (K := K) rfl rfl) (by rfl) T.b_all (by decide +kernel) (pa_cons (pe_lc (own := [("x", 2)]) (g := gName 2) (tt := tYes) rfl sc_refusal_of_things.nd (piListK (K := K) rfl (pv 1)) (blkOk_by (own := [("x", 2)]) (N := ["category", "things", "x"]) (sc := defScope s_refusal_of_things) (by decide +kernel)) (fun _ _ _ _ _ => pg_name (i := 2) sc_refusal_of_things.nd rfl (Or.inl rfl)) (fun _ _ _ _ _ => pts_nil) (fun _ _ _ _ _ => (pe_meth (pv 0) T.cl T.m_has_thing (ok_has_thing T) (hr.mono (by decide)) T.bd_has_thing .nil pass0 (pa_cons (pv 2) pa_nil)))) pa_nil)))) (pss_one (ps_ret (pe_glob (v := .int (-1)) rfl T.c_DOES_NOT_FIT.choose_spec ⟨_, rfl⟩))) pss_nil)
    (pss_one (ps_ret (pe_glob (v := .int (0)) rfl T.c_NOT_REFUSED.choose_spec ⟨_, rfl⟩))))), ?_⟩
    refine q_when (et_not (et_B (ev_is_category hc (ev_var rfl)))) (fun q H1 e1 => ?_) (fun q H1 e1 => ?_)
    · rw [if_neg (by intro z; rw [z] at q; cases q)] at k
      exact s_ret ev_c fun H2 e2 => k H2 (e1.trans e2)
    rw [if_pos (by simpa using q)] at k
    have lst : EvL (tLc (iList K (tVar 1)) (gName 2) tYes (tMeth A.C "has_thing" (spV (R_has_thing A.C)) [] E0 (tVar 0) (tCons (tVar 2) tNil)) [2]) [some (.ref a), some (.ref pn), none] H1 ((zs.map (fun x => decide (x < c.n))).map V.bl) := by
      rw [← map_bl]
      refine el_mapL (K := K) (en := natE) (l := zs) _ (ev_var rfl) (sq_of (e1 _ _ (e _ _ hn))) (by omega) (fun _ => rfl) fun z _ H5 e5 => ?_
      rw [← dec_lt]
      exact ev_has_thing (hc.mono (e1.trans e5)) (ev_var rfl) (ev_var rfl)
    refine q_when (et_not (et_B (ev_allL lst))) (fun q H2 e2 => ?_) (fun q H2 e2 => ?_)
    · rw [if_neg (by rw [List.all_map] at q; simpa using q)] at k
      exact s_ret ev_c fun H3 e3 => k H3 ((e1.trans e2).trans e3)
    · rw [if_pos (by rw [List.all_map] at q; simpa using q)] at k
      exact s_ret ev_c fun H3 e3 => k H3 ((e1.trans e2).trans e3)
theorem ev_fnL2 {sp : Sp} {xs : List V} {x z : V} (ha : Ev ta σ H x) (h : EvL te σ H xs) (hs : ∀ p H1, Ex H H1 → H1 p = some (.lst xs) → SpV sp [x, .ref p] H1 z) : Ev (tCall sp [] E (tCons ta (tCons te tNil))) σ H z := fun H1 e Q q =>
  ha H1 e _ fun H2 e2 => h H2 (e.trans e2) _ fun p H3 hp e3 h3 => by
    show sp ([x, .ref p] ++ []) H3 Q E
    rw [List.append_nil]
    exact hs p H3 ((e.trans e2).trans e3) h3 H3 (Ex.refl H3) Q (fun H4 e4 => q H4 ((e2.trans e3).trans e4)) E
theorem ev_fnU2 {sp : Sp} {xs : List V} {x z : V} (ha : Ev ta σ H x) (h : EvU te σ H xs) (hs : ∀ p H1, Ex H H1 → H1 p = some (.tup xs) → SpV sp [x, .ref p] H1 z) : Ev (tCall sp [] E (tCons ta (tCons te tNil))) σ H z := fun H1 e Q q =>
  ha H1 e _ fun H2 e2 => h H2 (e.trans e2) _ fun p H3 hp e3 h3 => by
    show sp ([x, .ref p] ++ []) H3 Q E
    rw [List.append_nil]
    exact hs p H3 ((e.trans e2).trans e3) h3 H3 (Ex.refl H3) Q (fun H4 e4 => q H4 ((e2.trans e3).trans e4)) E
/-- numbers[1:] -/
theorem el_rest {an : Addr} {i : Nat} {zs : List Nat} (h : Ev ta σ H (.ref an)) (hn : H an = some (.lst (natV (i :: zs)))) : EvL (tSl (rSlL K) ta (tPart (tC (.int 1))) tNoPart) σ H (natV zs) := by
  have sl := el_sl (K := K) (H := H) (σ := σ) h (eo_some (ev_c (v := .int ((1 : Nat) : Int)))) eo_none (sq_of hn)
  rw [cut_from] at sl
  exact sl
theorem refA_cases (c : Cat) (zs : List Nat) : ((Fc01.fault c).isNone = false ∧ refA c zs = -6) ∨ ((Fc01.fault c).isNone = true ∧ zs.all (Fc01.isArrow c) = false ∧ refA c zs = -3) ∨ ((Fc01.fault c).isNone = true ∧ zs.all (Fc01.isArrow c) = true ∧ refA c zs = 0) := by
  unfold refA
  cases (Fc01.fault c).isNone <;> cases zs.all (Fc01.isArrow c) <;> simp
theorem refT_cases (c : Cat) (zs : List Nat) : ((Fc01.fault c).isNone = false ∧ refT c zs = -6) ∨ ((Fc01.fault c).isNone = true ∧ zs.all (fun x => decide (x < c.n)) = false ∧ refT c zs = -1) ∨ ((Fc01.fault c).isNone = true ∧ zs.all (fun x => decide (x < c.n)) = true ∧ refT c zs = 0) := by
  unfold refT
  cases (Fc01.fault c).isNone <;> cases zs.all (fun x => decide (x < c.n)) <;> simp
theorem et_ne0 {r : Int} (h : Ev ta σ H (.int r)) : EvT (tTest (tOp rNe ta (tC (.int 0)))) σ H (decide (r ≠ 0)) := et_test (ev_is (ev_op h ev_c (rv_ne rfl)) (by
  by_cases q : r = 0
  · subst q
    rfl
  · have : ¬ (V.int r = V.int 0) := fun z => q (by injection z)
    simp [q]))
theorem s_retLT {tr : TA} {vs xs : List V} {R : List V → Hp → List V → Prop} {D : Ends} (ha : EvA tr σ H vs) (hR : R vs H xs) (hT : Tabs (tabs A) H) (k : RetLT A xs H D.rt) : tRet (tCall (spLT A R) [] E tr) D σ H :=
  ha H (Ex.refl H) _ fun H1 e1 => by
    rw [List.append_nil]
    exact ⟨H, xs, e1, hR, hT.ext e1, fun p H2 hp e2 nn t h => k p H2 (fresh_back e1 hp) ((strip_ex e1).trans e2) (fun b hb => fresh_back e1 (nn b hb)) t h⟩
theorem ok_answer_last (T : Txt K mg A) : FnOk P w K mg base CX0 7 A.f_answer_last A.d_answer_last ["pair", "numbers"] (spHand A mkLast) := by
  refine T.F_answer_last.ok sc_answer_last (fun vs H Q E h => ?_) (fun cdv B outer s H vs Q E hr h => ⟨_, (pss_cons (ps_set (i := 2) sc_answer_last.nd rfl (Or.inl rfl) (pe_ix (ixListK (K := K) rfl) (pv 0) (pe_ix (ixListK (K := K) rfl) (pv 1) pe_int (fun _ _ => rfl)) (fun _ _ => rfl)))
    (pss_cons (ps_if (pt_not (pt_val (pe_call (ok_is_category T) (hr.mono (by decide)) rfl T.g_is_category T.F_is_category.kp T.bd_is_category .nil pass0 (pa_cons (pv 2) pa_nil)))) (pss_one (ps_ret (pe_lst (pa_cons (pe_glob (v := .int (-6)) rfl T.c_NO_CATEGORY.choose_spec ⟨_, rfl⟩) pa_nil)))) pss_nil)
    (pss_one (ps_ret (pe_call (ok_last_thing T) (hr.mono (by decide)) rfl T.g_last_thing T.F_last_thing.kp T.bd_last_thing .nil pass0 (pa_cons (pv 2) pa_nil)))))), ?_⟩)
  · obtain ⟨_, _, _, _, _, _, _, rfl, _⟩ := h
    rfl
  · obtain ⟨ap, an, st, fp, k, zs, call, rfl, hP, hk, hn, nan, hmk, hi, hT, kk⟩ := h
    have kk := kk.old hT hP
    obtain ⟨i, rfl, rfl⟩ : ∃ i, zs = [i] ∧ call = .last i := by
      match zs, hmk with
      | [i], hmk => exact ⟨i, rfl, (Option.some.inj hmk).symm⟩
    have hi : i ≤ 1 := hi
    have st1 : Fc01.step st (.last i) = Fc01.asked st i fun c => match Fc01.last c with
      | none => [0]
      | some x => Fc01.ints [1, x] := rfl
    obtain ⟨l0, l1, rfl, hL⟩ := id hP
    have hc := (hL.cat i).cat (by omega)
    refine q_asg (ev_catOf hL hi (ev_var rfl) (ev_num (j := 0) (ev_var rfl) hn rfl)) fun H1 e1 => ?_
    refine q_when (et_not (et_B (ev_is_category (hc.mono e1) (ev_var rfl)))) (fun b H3 e3 => ?_) (fun b H3 e3 => ?_)
    · rw [st1, asked_pos hi (by simpa using b)] at kk
      exact ret1 ev_c fun p H6 hp e6 h6 => kk.pure hP rfl ((e1.trans e3).trans e6) (fresh_back (e1.trans e3) hp) h6
    rw [st1, asked_neg hi (by simpa using b)] at kk
    refine s_retL (el_fn (ea_cons (ev_var rfl) ea_nil) (spL_go ⟨_, _, rfl, hc.mono (e1.trans e3), rfl⟩)) fun p H4 hp e4 h4 => kk.pure hP rfl ((e1.trans e3).trans e4) (fresh_back (e1.trans e3) hp) (h4.trans ?_)
    cases Fc01.last (catAt st i) <;> rfl
theorem ok_answer_kinds (T : Txt K mg A) : FnOk P w K mg base CX0 8 A.f_answer_kinds A.d_answer_kinds ["pair", "numbers"] (spHand A mkKinds) := by
  refine T.F_answer_kinds.ok sc_answer_kinds (fun vs H Q E h => ?_) (fun cdv B outer s H vs Q E hr h => ⟨_, (pss_cons (ps_set (i := 2) sc_answer_kinds.nd rfl (Or.inl rfl) (pe_ix (ixListK (K := K) rfl) (pv 0) (pe_ix (ixListK (K := K) rfl) (pv 1) pe_int (fun _ _ => rfl)) (fun _ _ => rfl)))
    (pss_cons (ps_set (i := 3) sc_answer_kinds.nd rfl (Or.inl rfl) (pe_call (ok_refusal_of_arrows T) (hr.mono (by decide)) rfl T.g_refusal_of_arrows T.F_refusal_of_arrows.kp T.bd_refusal_of_arrows .nil pass0 (pa_cons (pv 2) (pa_cons (pe_slice (slListK (K := K) rfl) (pv 1) (po_some pe_int) po_none) pa_nil))))
    (pss_cons (ps_if (pt_cmpR op_ne (pv 3) (pe_glob (v := .int (0)) rfl T.c_NOT_REFUSED.choose_spec ⟨_, rfl⟩) (nomark _)) (pss_one (ps_ret (pe_lst (pa_cons (pv 3) pa_nil)))) pss_nil)
    (pss_one (ps_ret (pe_lst (pa_cons (pe_call (ok_kinds_of T) (hr.mono (by decide)) rfl T.g_kinds_of T.F_kinds_of.kp T.bd_kinds_of .nil pass0 (pa_cons (pv 2) (pa_cons (pe_ix (ixListK (K := K) rfl) (pv 1) pe_int (fun _ _ => rfl)) pa_nil))) pa_nil))))))), ?_⟩)
  · obtain ⟨_, _, _, _, _, _, _, rfl, _⟩ := h
    rfl
  · obtain ⟨ap, an, st, fp, k, zs, call, rfl, hP, hk, hn, nan, hmk, hi, hT, kk⟩ := h
    obtain ⟨i, f, rfl, rfl⟩ : ∃ i f, zs = [i, f] ∧ call = .kinds i f := by
      match zs, hmk with
      | [i, f], hmk => exact ⟨i, f, rfl, (Option.some.inj hmk).symm⟩
    have hi : i ≤ 1 := hi
    have st1 : Fc01.step st (.kinds i f) = Fc01.asked st i fun c => if Fc01.isArrow c f = false then [-3] else [(Fc01.kinds c f : Int)] := rfl
    obtain ⟨l0, l1, rfl, hL⟩ := id hP
    have hcL := hL.cat i
    have hc := hcL.cat (by omega)
    refine q_asg (ev_catOf hL hi (ev_var rfl) (ev_num (j := 0) (ev_var rfl) hn rfl)) fun H1 e1 => ?_
    refine q_asg (ev_fnL2 (ev_var rfl) (el_rest (K := K) (ev_var rfl) (e1 _ _ hn)) fun p H2 e2 h2 => spV_go ⟨_, p, _, [f], rfl, (hc.mono e1).mono e2, Or.inl h2, by show 1 ≤ 9; decide, rfl⟩) fun H2 e2 => ?_
    have e2 := e1.trans e2
    have kk1 := kk.old hT hP
    refine q_when (et_ne0 (ev_var rfl)) (fun b H3 e3 => ?_) (fun b H3 e3 => ?_)
    · rw [decide_eq_true_eq] at b
      rcases refA_cases (catAt st i) [f] with ⟨f0, r0⟩ | ⟨f0, a0, r0⟩ | ⟨f0, a0, r0⟩
      · rw [st1, asked_pos hi f0] at kk1
        rw [r0]
        exact ret1 (ev_var rfl) fun p H6 hp e6 h6 => kk1.pure hP rfl ((e2.trans e3).trans e6) (fresh_back (e2.trans e3) hp) h6
      · rw [st1, asked_neg hi f0, if_pos (by simpa using a0)] at kk1
        rw [r0]
        exact ret1 (ev_var rfl) fun p H6 hp e6 h6 => kk1.pure hP rfl ((e2.trans e3).trans e6) (fresh_back (e2.trans e3) hp) h6
      · exact absurd r0 b
    have e3 := e2.trans e3
    rw [decide_eq_false_iff_not, Decidable.not_not] at b
    obtain ⟨f0, a0⟩ : (Fc01.fault (catAt st i)).isNone = true ∧ Fc01.isArrow (catAt st i) f = true := by
      rcases refA_cases (catAt st i) [f] with ⟨f0, r0⟩ | ⟨f0, a0, r0⟩ | ⟨f0, a0, r0⟩
      · rw [r0] at b
        cases b
      · rw [r0] at b
        cases b
      · exact ⟨f0, by simpa using a0⟩
    rw [st1, asked_neg hi f0, if_neg (by rw [a0]; decide)] at kk1
    exact ret1 (ev_kinds (hcL.mono e3).1 hcL.2 (by omega) (by simpa [Fc01.isArrow] using a0) (ev_var rfl) (ev_num (j := 1) (ev_var rfl) (e3 _ _ hn) rfl)) fun p H6 hp e6 h6 => kk1.pure hP rfl (e3.trans e6) (fresh_back e3 hp) h6
theorem ok_answer_hom (T : Txt K mg A) : FnOk P w K mg base CX0 8 A.f_answer_hom A.d_answer_hom ["pair", "numbers"] (spHand A mkHom) := by
  refine T.F_answer_hom.ok sc_answer_hom (fun vs H Q E h => ?_) (fun cdv B outer s H vs Q E hr h => ⟨_, (pss_cons (ps_set (i := 2) sc_answer_hom.nd rfl (Or.inl rfl) (pe_ix (ixListK (K := K) rfl) (pv 0) (pe_ix (ixListK (K := K) rfl) (pv 1) pe_int (fun _ _ => rfl)) (fun _ _ => rfl)))
    (pss_cons (ps_set (i := 3) sc_answer_hom.nd rfl (Or.inl rfl) (pe_call (ok_refusal_of_things T) (hr.mono (by decide)) rfl T.g_refusal_of_things T.F_refusal_of_things.kp T.bd_refusal_of_things .nil pass0 (pa_cons (pv 2) (pa_cons (pe_slice (slListK (K := K) rfl) (pv 1) (po_some pe_int) po_none) pa_nil))))
    (pss_cons (ps_if (pt_cmpR op_ne (pv 3) (pe_glob (v := .int (0)) rfl T.c_NOT_REFUSED.choose_spec ⟨_, rfl⟩) (nomark _)) (pss_one (ps_ret (pe_lst (pa_cons (pv 3) pa_nil)))) pss_nil)
    (pss_cons (ps_set (i := 4) sc_answer_hom.nd rfl (Or.inl rfl) (pe_meth (pv 2) T.cl T.m_hom (ok_hom T) (hr.mono (by decide)) T.bd_hom .nil pass0 (pa_cons (pe_ix (ixListK (K := K) rfl) (pv 1) pe_int (fun _ _ => rfl)) (pa_cons (pe_ix (ixListK (K := K) rfl) (pv 1) pe_int (fun _ _ => rfl)) pa_nil))))
    (pss_one (ps_ret (pe_op op_cat (pe_lst (pa_cons (pe_callB (lenK (K := K) rfl) (by rfl) T.b_len PySem.boot_len (pa_cons (pv 4) pa_nil)) pa_nil)) (pv 4)))))))), ?_⟩)
  · obtain ⟨_, _, _, _, _, _, _, rfl, _⟩ := h
    rfl
  · obtain ⟨ap, an, st, fp, k, zs, call, rfl, hP, hk, hn, nan, hmk, hi, hT, kk⟩ := h
    obtain ⟨i, x, y, rfl, rfl⟩ : ∃ i x y, zs = [i, x, y] ∧ call = .hom i x y := by
      match zs, hmk with
      | [i, x, y], hmk => exact ⟨i, x, y, rfl, (Option.some.inj hmk).symm⟩
    have hi : i ≤ 1 := hi
    have st1 : Fc01.step st (.hom i x y) = Fc01.asked st i fun c => if c.n ≤ x ∨ c.n ≤ y then [-1] else Fc01.told (hom c x y) := rfl
    obtain ⟨l0, l1, rfl, hL⟩ := id hP
    have hcL := hL.cat i
    have hc := hcL.cat (by omega)
    refine q_asg (ev_catOf hL hi (ev_var rfl) (ev_num (j := 0) (ev_var rfl) hn rfl)) fun H1 e1 => ?_
    refine q_asg (ev_fnL2 (ev_var rfl) (el_rest (K := K) (ev_var rfl) (e1 _ _ hn)) fun p H2 e2 h2 => spV_go ⟨_, p, _, [x, y], rfl, (hc.mono e1).mono e2, h2, by show 2 ≤ 9; decide, rfl⟩) fun H2 e2 => ?_
    have e2 := e1.trans e2
    have kk1 := kk.old hT hP
    refine q_when (et_ne0 (ev_var rfl)) (fun b H3 e3 => ?_) (fun b H3 e3 => ?_)
    · rw [decide_eq_true_eq] at b
      rcases refT_cases (catAt st i) [x, y] with ⟨f0, r0⟩ | ⟨f0, a0, r0⟩ | ⟨f0, a0, r0⟩
      · rw [st1, asked_pos hi f0] at kk1
        rw [r0]
        exact ret1 (ev_var rfl) fun p H6 hp e6 h6 => kk1.pure hP rfl ((e2.trans e3).trans e6) (fresh_back (e2.trans e3) hp) h6
      · rw [st1, asked_neg hi f0, if_pos (by
          by_cases q1 : x < (catAt st i).n
          · by_cases q2 : y < (catAt st i).n
            · simp [q1, q2] at a0
            · omega
          · omega)] at kk1
        rw [r0]
        exact ret1 (ev_var rfl) fun p H6 hp e6 h6 => kk1.pure hP rfl ((e2.trans e3).trans e6) (fresh_back (e2.trans e3) hp) h6
      · exact absurd r0 b
    have e3 := e2.trans e3
    rw [decide_eq_false_iff_not, Decidable.not_not] at b
    obtain ⟨f0, a0⟩ : (Fc01.fault (catAt st i)).isNone = true ∧ x < (catAt st i).n ∧ y < (catAt st i).n := by
      rcases refT_cases (catAt st i) [x, y] with ⟨f0, r0⟩ | ⟨f0, a0, r0⟩ | ⟨f0, a0, r0⟩
      · rw [r0] at b
        cases b
      · rw [r0] at b
        cases b
      · exact ⟨f0, by simpa using a0⟩
    rw [st1, asked_neg hi f0, if_neg (by omega)] at kk1
    refine q_asgL (el_hom (hc.mono e3) (ev_var rfl) (ev_num (j := 1) (ev_var rfl) (e3 _ _ hn) rfl) (ev_num (j := 2) (ev_var rfl) (e3 _ _ hn) rfl)) fun p H6 hp e6 h6 => ?_
    have hl := hom_len (catAt st i) x y
    have l9 := hc.wf.l9
    refine s_retL (el_cat (el_lst (ea_cons (ev_len (ev_var rfl) (sq_of h6)) ea_nil) (by show 1 ≤ 100000; decide)) (ev_var rfl) h6 (by rw [List.length_map]; show 1 + _ ≤ 100000; omega)) fun q H7 hq e7 h7 => ?_
    refine kk1.pure hP rfl ((e3.trans e6).trans e7) (fresh_back (e3.trans e6) hq) (h7.trans ?_)
    unfold Fc01.told
    rw [← natV_ints, List.length_map]
    rfl
theorem ok_answer_product (T : Txt K mg A) (B : Tbs base mg A) : FnOk P w K mg base CX0 8 A.f_answer_product A.d_answer_product ["pair", "numbers"] (spHand A mkProduct) := by
  refine T.F_answer_product.ok sc_answer_product (fun vs H Q E h => ?_) (fun cdv Ar outer s H vs Q E hr h => ⟨_, (pss_cons (ps_set (i := 2) sc_answer_product.nd rfl (Or.inl rfl) (pe_ix (ixListK (K := K) rfl) (pv 0) (pe_ix (ixListK (K := K) rfl) (pv 1) pe_int (fun _ _ => rfl)) (fun _ _ => rfl)))
    (pss_cons (ps_set (i := 3) sc_answer_product.nd rfl (Or.inl rfl) (pe_call (ok_refusal_of_things T) (hr.mono (by decide)) rfl T.g_refusal_of_things T.F_refusal_of_things.kp T.bd_refusal_of_things .nil pass0 (pa_cons (pv 2) (pa_cons (pe_slice (slListK (K := K) rfl) (pv 1) (po_some pe_int) po_none) pa_nil))))
    (pss_cons (ps_if (pt_cmpR op_ne (pv 3) (pe_glob (v := .int (0)) rfl T.c_NOT_REFUSED.choose_spec ⟨_, rfl⟩) (nomark _)) (pss_one (ps_ret (pe_lst (pa_cons (pv 3) pa_nil)))) pss_nil)
    (pss_one (ps_ret (pe_call (ok_first_product T B) (hr.mono (by decide)) rfl T.g_first_product T.F_first_product.kp T.bd_first_product .nil pass0 (pa_cons (pv 2) (pa_cons (pe_ix (ixListK (K := K) rfl) (pv 1) pe_int (fun _ _ => rfl)) (pa_cons (pe_ix (ixListK (K := K) rfl) (pv 1) pe_int (fun _ _ => rfl)) pa_nil))))))))), ?_⟩)
  · obtain ⟨_, _, _, _, _, _, _, rfl, _⟩ := h
    rfl
  · obtain ⟨ap, an, st, fp, k, zs, call, rfl, hP, hk, hn, nan, hmk, hi, hT, kk⟩ := h
    obtain ⟨i, x, y, rfl, rfl⟩ : ∃ i x y, zs = [i, x, y] ∧ call = .product i x y := by
      match zs, hmk with
      | [i, x, y], hmk => exact ⟨i, x, y, rfl, (Option.some.inj hmk).symm⟩
    have hi : i ≤ 1 := hi
    have st1 : Fc01.step st (.product i x y) = Fc01.asked st i fun c => if c.n ≤ x ∨ c.n ≤ y then [-1] else match Fc01.product c x y with
      | none => [0]
      | some p => Fc01.ints [1, p.1, p.2] := rfl
    obtain ⟨l0, l1, rfl, hL⟩ := id hP
    have hcL := hL.cat i
    have hc := hcL.cat (by omega)
    refine q_asg (ev_catOf hL hi (ev_var rfl) (ev_num (j := 0) (ev_var rfl) hn rfl)) fun H1 e1 => ?_
    refine q_asg (ev_fnL2 (ev_var rfl) (el_rest (K := K) (ev_var rfl) (e1 _ _ hn)) fun p H2 e2 h2 => spV_go ⟨_, p, _, [x, y], rfl, (hc.mono e1).mono e2, h2, by show 2 ≤ 9; decide, rfl⟩) fun H2 e2 => ?_
    have e2 := e1.trans e2
    have kk1 := kk.old hT hP
    refine q_when (et_ne0 (ev_var rfl)) (fun b H3 e3 => ?_) (fun b H3 e3 => ?_)
    · rw [decide_eq_true_eq] at b
      rcases refT_cases (catAt st i) [x, y] with ⟨f0, r0⟩ | ⟨f0, a0, r0⟩ | ⟨f0, a0, r0⟩
      · rw [st1, asked_pos hi f0] at kk1
        rw [r0]
        exact ret1 (ev_var rfl) fun p H6 hp e6 h6 => kk1.pure hP rfl ((e2.trans e3).trans e6) (fresh_back (e2.trans e3) hp) h6
      · rw [st1, asked_neg hi f0, if_pos (by
          by_cases q1 : x < (catAt st i).n
          · by_cases q2 : y < (catAt st i).n
            · simp [q1, q2] at a0
            · omega
          · omega)] at kk1
        rw [r0]
        exact ret1 (ev_var rfl) fun p H6 hp e6 h6 => kk1.pure hP rfl ((e2.trans e3).trans e6) (fresh_back (e2.trans e3) hp) h6
      · exact absurd r0 b
    have e3 := e2.trans e3
    rw [decide_eq_false_iff_not, Decidable.not_not] at b
    obtain ⟨f0, a0⟩ : (Fc01.fault (catAt st i)).isNone = true ∧ x < (catAt st i).n ∧ y < (catAt st i).n := by
      rcases refT_cases (catAt st i) [x, y] with ⟨f0, r0⟩ | ⟨f0, a0, r0⟩ | ⟨f0, a0, r0⟩
      · rw [r0] at b
        cases b
      · rw [r0] at b
        cases b
      · exact ⟨f0, by simpa using a0⟩
    rw [st1, asked_neg hi f0, if_neg (by omega)] at kk
    refine s_retLT (ea_cons (ev_var rfl) (ea_cons (ev_num (j := 1) (ev_var rfl) (e3 _ _ hn) rfl) (ea_cons (ev_num (j := 2) (ev_var rfl) (e3 _ _ hn) rfl) ea_nil))) ⟨_, _, x, y, rfl, hc.mono e3, rfl⟩ (hT.ext e3) fun p H6 hp e6 nn t6 h6 => kk.pureT hP rfl ((strip_ex e3).trans e6) (fresh_back e3 hp) t6 (h6.trans ?_)
    cases Fc01.product (catAt st i) x y <;> rfl
theorem ok_answer_pullback (T : Txt K mg A) (B : Tbs base mg A) : FnOk P w K mg base CX0 8 A.f_answer_pullback A.d_answer_pullback ["pair", "numbers"] (spHand A mkPullback) := by
  refine T.F_answer_pullback.ok sc_answer_pullback (fun vs H Q E h => ?_) (fun cdv Ar outer s H vs Q E hr h => ⟨_, (pss_cons (ps_set (i := 2) sc_answer_pullback.nd rfl (Or.inl rfl) (pe_ix (ixListK (K := K) rfl) (pv 0) (pe_ix (ixListK (K := K) rfl) (pv 1) pe_int (fun _ _ => rfl)) (fun _ _ => rfl)))
    (pss_cons (ps_set (i := 3) sc_answer_pullback.nd rfl (Or.inl rfl) (pe_ix (ixListK (K := K) rfl) (pv 1) pe_int (fun _ _ => rfl)))
    (pss_cons (ps_set (i := 4) sc_answer_pullback.nd rfl (Or.inl rfl) (pe_ix (ixListK (K := K) rfl) (pv 1) pe_int (fun _ _ => rfl)))
    (pss_cons (ps_set (i := 5) sc_answer_pullback.nd rfl (Or.inl rfl) (pe_call (ok_refusal_of_arrows T) (hr.mono (by decide)) rfl T.g_refusal_of_arrows T.F_refusal_of_arrows.kp T.bd_refusal_of_arrows .nil pass0 (pa_cons (pv 2) (pa_cons (pe_tup (pa_cons (pv 3) (pa_cons (pv 4) pa_nil))) pa_nil))))
    (pss_cons (ps_if (pt_cmpR op_ne (pv 5) (pe_glob (v := .int (0)) rfl T.c_NOT_REFUSED.choose_spec ⟨_, rfl⟩) (nomark _)) (pss_one (ps_ret (pe_lst (pa_cons (pv 5) pa_nil)))) pss_nil)
    (pss_cons (ps_if (pt_cmpR op_ne (pe_ix (ixListK (K := K) rfl) (fldK (K := K) rfl (pv 2) rfl) (pv 3) (fun _ _ => rfl)) (pe_ix (ixListK (K := K) rfl) (fldK (K := K) rfl (pv 2) rfl) (pv 4) (fun _ _ => rfl)) (nomark _)) (pss_one (ps_ret (pe_lst (pa_cons (pe_glob (v := .int (-1)) rfl T.c_DOES_NOT_FIT.choose_spec ⟨_, rfl⟩) pa_nil)))) pss_nil)
    (pss_one (ps_ret (pe_call (ok_first_pullback T B) (hr.mono (by decide)) rfl T.g_first_pullback T.F_first_pullback.kp T.bd_first_pullback .nil pass0 (pa_cons (pv 2) (pa_cons (pv 3) (pa_cons (pv 4) pa_nil)))))))))))), ?_⟩)
  · obtain ⟨_, _, _, _, _, _, _, rfl, _⟩ := h
    rfl
  · obtain ⟨ap, an, st, fp, k, zs, call, rfl, hP, hk, hn, nan, hmk, hi, hT, kk⟩ := h
    obtain ⟨i, f, g, rfl, rfl⟩ : ∃ i f g, zs = [i, f, g] ∧ call = .pullback i f g := by
      match zs, hmk with
      | [i, f, g], hmk => exact ⟨i, f, g, rfl, (Option.some.inj hmk).symm⟩
    have hi : i ≤ 1 := hi
    have st1 : Fc01.step st (.pullback i f g) = Fc01.asked st i fun c => if Fc01.isArrow c f = false ∨ Fc01.isArrow c g = false then [-3] else if to_ c f ≠ to_ c g then [-1] else match Fc01.pullback c f g with
      | none => [0]
      | some p => Fc01.ints [1, p.1, p.2] := rfl
    obtain ⟨l0, l1, rfl, hL⟩ := id hP
    have hcL := hL.cat i
    have hc := hcL.cat (by omega)
    refine q_asg (ev_catOf hL hi (ev_var rfl) (ev_num (j := 0) (ev_var rfl) hn rfl)) fun H1 e1 => ?_
    refine q_asg (ev_num (j := 1) (ev_var rfl) (e1 _ _ hn) rfl) fun H2 e2 => ?_
    refine q_asg (ev_num (j := 2) (ev_var rfl) ((e1.trans e2) _ _ hn) rfl) fun H3 e3 => ?_
    have e1 := (e1.trans e2).trans e3
    refine q_asg (ev_fnU2 (ev_var rfl) (eu_tup (ea_cons (ev_var rfl) (ea_cons (ev_var rfl) ea_nil)) (by show 2 ≤ 100000; decide)) fun p H2 e2 h2 => spV_go ⟨_, p, _, [f, g], rfl, (hc.mono e1).mono e2, Or.inr h2, by show 2 ≤ 9; decide, rfl⟩) fun H2 e2 => ?_
    have e2 := e1.trans e2
    have kk1 := kk.old hT hP
    refine q_when (et_ne0 (ev_var rfl)) (fun b H3 e3 => ?_) (fun b H3 e3 => ?_)
    · rw [decide_eq_true_eq] at b
      rcases refA_cases (catAt st i) [f, g] with ⟨f0, r0⟩ | ⟨f0, a0, r0⟩ | ⟨f0, a0, r0⟩
      · rw [st1, asked_pos hi f0] at kk1
        rw [r0]
        exact ret1 (ev_var rfl) fun p H6 hp e6 h6 => kk1.pure hP rfl ((e2.trans e3).trans e6) (fresh_back (e2.trans e3) hp) h6
      · rw [st1, asked_neg hi f0, if_pos (by
          cases q1 : Fc01.isArrow (catAt st i) f <;> cases q2 : Fc01.isArrow (catAt st i) g <;> simp [q1, q2] at a0 ⊢)] at kk1
        rw [r0]
        exact ret1 (ev_var rfl) fun p H6 hp e6 h6 => kk1.pure hP rfl ((e2.trans e3).trans e6) (fresh_back (e2.trans e3) hp) h6
      · exact absurd r0 b
    have e3 := e2.trans e3
    rw [decide_eq_false_iff_not, Decidable.not_not] at b
    obtain ⟨f0, a0⟩ : (Fc01.fault (catAt st i)).isNone = true ∧ Fc01.isArrow (catAt st i) f = true ∧ Fc01.isArrow (catAt st i) g = true := by
      rcases refA_cases (catAt st i) [f, g] with ⟨f0, r0⟩ | ⟨f0, a0, r0⟩ | ⟨f0, a0, r0⟩
      · rw [r0] at b
        cases b
      · rw [r0] at b
        cases b
      · exact ⟨f0, by simpa using a0⟩
    obtain ⟨lf, lg⟩ : f < (catAt st i).arrows.length ∧ g < (catAt st i).arrows.length := by
      unfold Fc01.isArrow at a0
      simpa using a0
    rw [st1, asked_neg hi f0, if_neg (by rw [a0.1, a0.2]; simp)] at kk kk1
    have hc3 := hc.mono e3
    refine q_when (et_test (ev_neN (ev_end T hc3 (ev_var rfl) (ev_var rfl) lf) (ev_end T hc3 (ev_var rfl) (ev_var rfl) lg))) (fun b H4 e4 => ?_) (fun b H4 e4 => ?_)
    · rw [if_pos (by simpa using b)] at kk1
      exact ret1 ev_c fun p H6 hp e6 h6 => kk1.pure hP rfl ((e3.trans e4).trans e6) (fresh_back (e3.trans e4) hp) h6
    · rw [if_neg (by simpa using b)] at kk
      have e4 := e3.trans e4
      refine s_retLT (ea_cons (ev_var rfl) (ea_cons (ev_var rfl) (ea_cons (ev_var rfl) ea_nil))) ⟨_, _, f, g, rfl, hc.mono e4, lf, lg, rfl⟩ (hT.ext e4) fun p H6 hp e6 nn t6 h6 => kk.pureT hP rfl ((strip_ex e4).trans e6) (fresh_back e4 hp) t6 (h6.trans ?_)
      cases Fc01.pullback (catAt st i) f g <;> rfl
theorem ok_answer_equalizer (T : Txt K mg A) : FnOk P w K mg base CX0 8 A.f_answer_equalizer A.d_answer_equalizer ["pair", "numbers"] (spHand A mkEqualizer) := by
  refine T.F_answer_equalizer.ok sc_answer_equalizer (fun vs H Q E h => ?_) (fun cdv B outer s H vs Q E hr h => ⟨_, (pss_cons (ps_set (i := 2) sc_answer_equalizer.nd rfl (Or.inl rfl) (pe_ix (ixListK (K := K) rfl) (pv 0) (pe_ix (ixListK (K := K) rfl) (pv 1) pe_int (fun _ _ => rfl)) (fun _ _ => rfl)))
    (pss_cons (ps_set (i := 3) sc_answer_equalizer.nd rfl (Or.inl rfl) (pe_ix (ixListK (K := K) rfl) (pv 1) pe_int (fun _ _ => rfl)))
    (pss_cons (ps_set (i := 4) sc_answer_equalizer.nd rfl (Or.inl rfl) (pe_ix (ixListK (K := K) rfl) (pv 1) pe_int (fun _ _ => rfl)))
    (pss_cons (ps_set (i := 5) sc_answer_equalizer.nd rfl (Or.inl rfl) (pe_call (ok_refusal_of_arrows T) (hr.mono (by decide)) rfl T.g_refusal_of_arrows T.F_refusal_of_arrows.kp T.bd_refusal_of_arrows .nil pass0 (pa_cons (pv 2) (pa_cons (pe_tup (pa_cons (pv 3) (pa_cons (pv 4) pa_nil))) pa_nil))))
    (pss_cons (ps_if (pt_cmpR op_ne (pv 5) (pe_glob (v := .int (0)) rfl T.c_NOT_REFUSED.choose_spec ⟨_, rfl⟩) (nomark _)) (pss_one (ps_ret (pe_lst (pa_cons (pv 5) pa_nil)))) pss_nil)
    (pss_cons (ps_if (pt_not (pt_val (pe_meth (pv 2) T.cl T.m_leads (ok_leads T) (hr.mono (by decide)) T.bd_leads .nil pass0 (pa_cons (pv 3) (pa_cons (pe_ix (ixListK (K := K) rfl) (fldK (K := K) rfl (pv 2) rfl) (pv 4) (fun _ _ => rfl)) (pa_cons (pe_ix (ixListK (K := K) rfl) (fldK (K := K) rfl (pv 2) rfl) (pv 4) (fun _ _ => rfl)) pa_nil)))))) (pss_one (ps_ret (pe_lst (pa_cons (pe_glob (v := .int (-1)) rfl T.c_DOES_NOT_FIT.choose_spec ⟨_, rfl⟩) pa_nil)))) pss_nil)
    (pss_one (ps_ret (pe_call (ok_first_equalizer T) (hr.mono (by decide)) rfl T.g_first_equalizer T.F_first_equalizer.kp T.bd_first_equalizer .nil pass0 (pa_cons (pv 2) (pa_cons (pv 3) (pa_cons (pv 4) pa_nil)))))))))))), ?_⟩)
  · obtain ⟨_, _, _, _, _, _, _, rfl, _⟩ := h
    rfl
  · obtain ⟨ap, an, st, fp, k, zs, call, rfl, hP, hk, hn, nan, hmk, hi, hT, kk⟩ := h
    obtain ⟨i, f, g, rfl, rfl⟩ : ∃ i f g, zs = [i, f, g] ∧ call = .equalizer i f g := by
      match zs, hmk with
      | [i, f, g], hmk => exact ⟨i, f, g, rfl, (Option.some.inj hmk).symm⟩
    have hi : i ≤ 1 := hi
    have st1 : Fc01.step st (.equalizer i f g) = Fc01.asked st i fun c => if Fc01.isArrow c f = false ∨ Fc01.isArrow c g = false then [-3] else if c.arrows[f]? ≠ c.arrows[g]? then [-1] else match Fc01.equalizer c f g with
      | none => [0]
      | some e => Fc01.ints [1, e] := rfl
    obtain ⟨l0, l1, rfl, hL⟩ := id hP
    have hcL := hL.cat i
    have hc := hcL.cat (by omega)
    refine q_asg (ev_catOf hL hi (ev_var rfl) (ev_num (j := 0) (ev_var rfl) hn rfl)) fun H1 e1 => ?_
    refine q_asg (ev_num (j := 1) (ev_var rfl) (e1 _ _ hn) rfl) fun H2 e2 => ?_
    refine q_asg (ev_num (j := 2) (ev_var rfl) ((e1.trans e2) _ _ hn) rfl) fun H3 e3 => ?_
    have e1 := (e1.trans e2).trans e3
    refine q_asg (ev_fnU2 (ev_var rfl) (eu_tup (ea_cons (ev_var rfl) (ea_cons (ev_var rfl) ea_nil)) (by show 2 ≤ 100000; decide)) fun p H2 e2 h2 => spV_go ⟨_, p, _, [f, g], rfl, (hc.mono e1).mono e2, Or.inr h2, by show 2 ≤ 9; decide, rfl⟩) fun H2 e2 => ?_
    have e2 := e1.trans e2
    have kk1 := kk.old hT hP
    refine q_when (et_ne0 (ev_var rfl)) (fun b H3 e3 => ?_) (fun b H3 e3 => ?_)
    · rw [decide_eq_true_eq] at b
      rcases refA_cases (catAt st i) [f, g] with ⟨f0, r0⟩ | ⟨f0, a0, r0⟩ | ⟨f0, a0, r0⟩
      · rw [st1, asked_pos hi f0] at kk1
        rw [r0]
        exact ret1 (ev_var rfl) fun p H6 hp e6 h6 => kk1.pure hP rfl ((e2.trans e3).trans e6) (fresh_back (e2.trans e3) hp) h6
      · rw [st1, asked_neg hi f0, if_pos (by
          cases q1 : Fc01.isArrow (catAt st i) f <;> cases q2 : Fc01.isArrow (catAt st i) g <;> simp [q1, q2] at a0 ⊢)] at kk1
        rw [r0]
        exact ret1 (ev_var rfl) fun p H6 hp e6 h6 => kk1.pure hP rfl ((e2.trans e3).trans e6) (fresh_back (e2.trans e3) hp) h6
      · exact absurd r0 b
    have e3 := e2.trans e3
    rw [decide_eq_false_iff_not, Decidable.not_not] at b
    obtain ⟨f0, a0⟩ : (Fc01.fault (catAt st i)).isNone = true ∧ Fc01.isArrow (catAt st i) f = true ∧ Fc01.isArrow (catAt st i) g = true := by
      rcases refA_cases (catAt st i) [f, g] with ⟨f0, r0⟩ | ⟨f0, a0, r0⟩ | ⟨f0, a0, r0⟩
      · rw [r0] at b
        cases b
      · rw [r0] at b
        cases b
      · exact ⟨f0, by simpa using a0⟩
    obtain ⟨lf, lg⟩ : f < (catAt st i).arrows.length ∧ g < (catAt st i).arrows.length := by
      unfold Fc01.isArrow at a0
      simpa using a0
    rw [st1, asked_neg hi f0, if_neg (by rw [a0.1, a0.2]; simp)] at kk1
    have hc3 := hc.mono e3
    refine q_when (et_not (et_B (ev_leads hc3 (ev_var rfl) (ev_var rfl) (ev_beg T hc3 (ev_var rfl) (ev_var rfl) lg) (ev_end T hc3 (ev_var rfl) (ev_var rfl) lg) lf))) (fun b H4 e4 => ?_) (fun b H4 e4 => ?_)
    · rw [← arrows_at lg] at b
      rw [if_pos (by simpa using b)] at kk1
      exact ret1 ev_c fun p H6 hp e6 h6 => kk1.pure hP rfl ((e3.trans e4).trans e6) (fresh_back (e3.trans e4) hp) h6
    · rw [← arrows_at lg] at b
      have b : (catAt st i).arrows[f]? = (catAt st i).arrows[g]? := by simpa using b
      rw [if_neg (by rw [b]; simp)] at kk1
      have e4 := e3.trans e4
      have ff : from_ (catAt st i) f = from_ (catAt st i) g := by
        rw [arrows_at lf, arrows_at lg] at b
        injection b with b
        injection b
      refine s_retL (el_fn (ea_cons (ev_var rfl) (ea_cons (ev_var rfl) (ea_cons (ev_var rfl) ea_nil))) (spL_go ⟨_, _, f, g, rfl, hc.mono e4, lf, lg, ff, rfl⟩)) fun p H6 hp e6 h6 => kk1.pure hP rfl (e4.trans e6) (fresh_back e4 hp) (h6.trans ?_)
      cases Fc01.equalizer (catAt st i) f g <;> rfl
end
end Arr
-- text B8c
set_option Elab.async false
set_option linter.unusedVariables false
set_option maxRecDepth 100000
set_option maxHeartbeats 4000000
/-! # the calls maps, nth, changes, alike, partner, swap -/
namespace Arr
open PySem PySem.Spec PyProof.Rows L2 Evl LamX NdefX
open Fc01 (from_ to_ after hom turned catAt withCat)
def mkMaps : List Nat → Option Fc01.Call
  | [i] => some (.maps i)
  | _ => none
def mkNth : List Nat → Option Fc01.Call
  | [i, k] => some (.nth i k)
  | _ => none
def mkChanges : List Nat → Option Fc01.Call
  | [i, k, l] => some (.changes i k l)
  | _ => none
def mkAlike : List Nat → Option Fc01.Call
  | [i, k, l] => some (.alike i k l)
  | _ => none
def mkPartner : List Nat → Option Fc01.Call
  | [i, k] => some (.partner i k)
  | _ => none
theorem noP_cat {c : Cat} (wf : Wf c) (h : (Fc01.fault c).isNone = true) : NoP c := noP_of wf (by
  rw [fault_eq] at h
  cases q : fp c with
  | none => rfl
  | some l =>
    rw [q] at h
    cases h)
theorem CatL.catK {C : Addr} {k : Nat} {H : Hp} {l : Loc} {c : Cat} (h : CatL C k H l c) (hk : k ≤ 40) : CatK C 40 H l.a c := CatK.more ⟨l.dx, l.ab, l.ae, l.at_, l.m, h.1, h.2⟩ hk
def R_both (C : Addr) : List V → Hp → V → Prop := fun vs H v => ∃ (ap a b : Addr) (ca cb : Cat), vs = [.ref ap] ∧ H ap = some (.lst [.ref a, .ref b]) ∧ CatAt C H a ca ∧ CatAt C H b cb ∧ v = .bl ((Fc01.fault ca).isNone && (Fc01.fault cb).isNone)
def gMap (a b : Cat) (ms : List (List Nat)) : List Int := Fc01.ints (ms.getD 0 [])
def gCh (a b : Cat) (ms : List (List Nat)) : List Int := ((Fc01.changes a b (ms.getD 0 []) (ms.getD 1 [])).length : Int) :: Fc01.ints ((Fc01.changes a b (ms.getD 0 []) (ms.getD 1 [])).headD [])
def gAl (a b : Cat) (ms : List (List Nat)) : List Int := [if Fc01.isAlike a b (ms.getD 0 []) (ms.getD 1 []) = true then 1 else 0]
def gPa (a b : Cat) (ms : List (List Nat)) : List Int := if Fc01.MANY < (Fc01.maps b a).length then [-7] else Fc01.ints (optK (Fc01.partner a b (ms.getD 0 [])))
def ofMaps (g : Cat → Cat → List (List Nat) → List Int) (zs : List Nat) (a b : Cat) : List Int := if zs.all (fun z => decide (z < (Fc01.maps a b).length)) = true then g a b (zs.map fun z => (Fc01.maps a b).getD z []) else [-3]
def RetTl (A : Ads) (cs : List (Addr × List Nat)) (xs : List Int) (H : Hp) (Q : VK) : Prop := ∀ q H2, (H q = none ∨ ∃ c ∈ cs, q = c.1) → Ex (strip H) H2 → Tabs (tabs A) H2 → H2 q = some (.lst (intV xs)) → Q (.ref q) H2
def spTell1 (A : Ads) (n : Nat) (g : Cat → Cat → List (List Nat) → List Int) : Sp := fun vs H Q _ => ∃ (a b p : Addr) (ca cb : Cat) (cs : List (Addr × List Nat)), vs = [.ref a, .ref b, .ref p] ∧ CatK A.C 40 H a ca ∧ CatK A.C 40 H b cb ∧ NoP ca ∧ NoP cb ∧ BxAt H p cs ∧ (∀ c ∈ cs, c.2 ∈ Fc01.maps ca cb) ∧ cs.length = n ∧ Tabs (tabs A) H ∧ RetTl A cs (g ca cb (cs.map (·.2))) H Q
/-- which def tells what -/
def tellS (A : Ads) (f : Addr) : Option Sp := if f = A.f_tell_mapping then some (spTell1 A 1 gMap) else if f = A.f_tell_changes then some (spTell1 A 2 gCh) else if f = A.f_tell_alike then some (spTell1 A 2 gAl) else if f = A.f_tell_partner then some (spTell1 A 1 gPa) else none
def spOf (A : Ads) : Sp := fun vs H Q _ => ∃ (ap an f : Addr) (s : Fc01.St) (fp : List Addr) (k i n : Nat) (zs : List Nat) (g : Cat → Cat → List (List Nat) → List Int), vs = [.ref ap, .ref an, .ref f] ∧ tellS A f = some (spTell1 A n g) ∧ PairAt A.C k H ap s fp ∧ k < 40 ∧ H an = some (.lst (natV (i :: zs))) ∧ zs.length = n ∧ 1 ≤ n ∧ n ≤ 9 ∧ i ≤ 1 ∧ Tabs (tabs A) H ∧ KontT A H ap k fp (Fc01.between s i (ofMaps g zs)) Q
theorem between_bad {s : Fc01.St} {i : Nat} {f : Cat → Cat → List Int} (hi : i ≤ 1) (h : ((Fc01.fault s.a).isNone && (Fc01.fault s.b).isNone) = false) : Fc01.between s i f = (s, [-6]) := by
  unfold Fc01.between
  rw [if_neg (by omega), if_pos]
  cases q1 : Fc01.fault s.a <;> cases q2 : Fc01.fault s.b <;> simp [q1, q2] at h ⊢
theorem between_ok {s : Fc01.St} {i : Nat} {f : Cat → Cat → List Int} (hi : i ≤ 1) (h : ((Fc01.fault s.a).isNone && (Fc01.fault s.b).isNone) = true) : Fc01.between s i f = (s, f (catAt s i) (catAt s (1 - i))) := by
  unfold Fc01.between
  rw [if_neg (by omega), if_neg]
  cases q1 : Fc01.fault s.a <;> cases q2 : Fc01.fault s.b <;> simp [q1, q2] at h ⊢
theorem cat_none {s : Fc01.St} (h : ((Fc01.fault s.a).isNone && (Fc01.fault s.b).isNone) = true) (i : Nat) : (Fc01.fault (catAt s i)).isNone = true := by
  rw [Bool.and_eq_true] at h
  unfold catAt
  split
  · exact h.1
  · exact h.2
theorem max_ex : ∀ {zs : List Nat}, 1 ≤ zs.length → ∃ M, M ∈ zs ∧ ∀ y ∈ zs, y ≤ M
  | [x], _ => ⟨x, List.mem_singleton.mpr rfl, fun y hy => Nat.le_of_eq (List.mem_singleton.mp hy)⟩
  | x :: y :: r, _ => by
    obtain ⟨M, h1, h2⟩ := max_ex (zs := y :: r) (by simp)
    by_cases q : M ≤ x
    · refine ⟨x, List.mem_cons_self .., fun z hz => ?_⟩
      rcases List.mem_cons.mp hz with rfl | hz
      · exact Nat.le_refl _
      · exact Nat.le_trans (h2 z hz) q
    · refine ⟨M, List.mem_cons_of_mem _ h1, fun z hz => ?_⟩
      rcases List.mem_cons.mp hz with rfl | hz
      · omega
      · exact h2 z hz
section
variable {P : Program} {w : World} {K : PySem.W.Frag} {mg : Str → Option Value} {base : Heap} {A : Ads} {σ : L2.St} {H : Hp} {ta tb td te tf tg tp ti t0 t1 t2 t3 : TE} {a b : Addr} {c ca cb : Cat} {E : XK} {D : Ends} {tz : TS} {i : Nat}
theorem run_boxes {Q : VK} (ka : CatK A.C 40 H a ca) (kb : CatK A.C 40 H b cb) (na : NoP ca) (nb : NoP cb) (hT : Tabs (tabs A) H) (ha : Ev ta σ H (.ref a)) (hb : Ev tb σ H (.ref b))
    (k : ∀ p ds H2, H p = none → Ex (strip H) H2 → (∀ b, H2 b = none → H b = none) → Tabs (tabs A) H2 → BoxesAt H2 p ds → Stands (ds.map boxN) ca.arrows.length (Fc01.maps ca cb) → (∀ d ∈ ds, whole (boxN d) = true) → ds.length ≤ sizeLine → Q (.ref p) H2) : tCall (spBoxes A) [] E (tCons ta (tCons tb tNil)) σ H Q :=
  ha H (Ex.refl H) _ fun H1 e1 => hb H1 e1 _ fun H2 e2 => ⟨H, a, b, ca, cb, e1.trans e2, rfl, ka, kb, na, nb, hT.ext (e1.trans e2), fun p ds D H3 hp e3 nn t3 hB sD cD hds => by
    have e12 := e1.trans e2
    have wa := ka.at.wf
    have wb := kb.at.wf
    obtain ⟨ma, oka⟩ := ka.mok
    obtain ⟨mb, okb⟩ := kb.mok
    refine k p ds H3 (fresh_back e12 hp) ((strip_ex e12).trans e3) (fun b hb => fresh_back e12 (nn b hb)) t3 hB ?_ ?_ ?_
    · rw [hds]
      exact stands_maps wa wb na sD cD
    · intro d hd
      refine boxes_whole (a := ca) (b := cb) (ts := threes ca) (D := D) _ ?_
      rw [← hds]
      exact List.mem_map.mpr ⟨d, hd, rfl⟩
    · have := boxes_le (ts := threes ca) okb (Nat.le_refl _) nb oka (Nat.le_refl _) na sD
      rw [← hds, List.length_map] at this
      have sl : sizeLine = 16777216 := rfl
      omega⟩
theorem ev_countB {p : Addr} {ds : List BxN} {n : Nat} {S : List (List Nat)} (h : Ev ta σ H (.ref p)) (hB : BoxesAt H p ds) (st : Stands (ds.map boxN) n S) : Ev (tCall (spV R_count) [] E (tCons ta tNil)) σ H (.int (S.length : Int)) :=
  ev_is (ev_fn (ea_cons h ea_nil) (spV_go (R := R_count) ⟨p, ds, rfl, hB, fun d hd => st.len9 (boxN d) (List.mem_map.mpr ⟨d, hd, rfl⟩), rfl⟩)) (by rw [st.total])
theorem el_fnLL4 {sp : Sp} {xs : List V} {x0 x1 x2 : V} {xss : List (List V)} (h0 : Ev t0 σ H x0) (h1 : Ev t1 σ H x1) (h2 : Ev t2 σ H x2) (h3 : EvLL t3 σ H xss) (hs : ∀ p bs H1, NewLL H xss p bs H1 → SpL sp [x0, x1, x2, .ref p] H1 xs) : EvL (tCall sp [] E (tCons t0 (tCons t1 (tCons t2 (tCons t3 tNil))))) σ H xs := fun H1 e Q q =>
  h0 H1 e _ fun H2 e2 => h1 H2 (e.trans e2) _ fun H3 e3 => h2 H3 ((e.trans e2).trans e3) _ fun H4 e4 => h3 H4 (((e.trans e2).trans e3).trans e4) _ fun p bs H5 n5 => by
    show sp ([x0, x1, x2, .ref p] ++ []) H5 Q E
    rw [List.append_nil]
    exact hs p bs H5 (n5.back (((e.trans e2).trans e3).trans e4)) H5 (Ex.refl H5) Q (fun p H6 hp e6 h6 => q p H6 (fresh_back ((e2.trans e3).trans (e4.trans n5.2.1)) hp) (((e2.trans e3).trans (e4.trans n5.2.1)).trans e6) h6) E
/-- asked[j] -/
theorem ev_asked {p : Addr} {cs : List (Addr × List Nat)} {j : Nat} {c : Addr × List Nat} (h : Ev ta σ H (.ref p)) (hB : BxAt H p cs) (hj : cs[j]? = some c) : Ev (tOp (rIxL K) ta (tC (.int (j : Int)))) σ H (.ref c.1) :=
  ev_op h ev_c (rv_ixL (sq_of hB.1) (atI_nat (by unfold refs; rw [List.getElem?_map, hj]; rfl)))
theorem ok_both_are_categories (T : Txt K mg A) : FnOk P w K mg base CX0 7 A.f_both_are_categories A.d_both_are_categories ["pair"] (spV (R_both A.C)) := by
  refine T.F_both_are_categories.ok sc_both_are_categories (fun vs H Q E h => ?_) (fun cdv B outer s H vs Q E hr h => ⟨_, (pss_one (ps_ret (pe_and (pe_call (ok_is_category T) (hr.mono (by decide)) rfl T.g_is_category T.F_is_category.kp T.bd_is_category .nil pass0 (pa_cons (pe_ix (ixListK (K := K) rfl) (pv 0) pe_int (fun _ _ => rfl)) pa_nil)) (pe_one (pe_call (ok_is_category T) (hr.mono (by decide)) rfl T.g_is_category T.F_is_category.kp T.bd_is_category .nil pass0 (pa_cons (pe_ix (ixListK (K := K) rfl) (pv 0) pe_int (fun _ _ => rfl)) pa_nil)))))), ?_⟩)
  · obtain ⟨_, _, _, ⟨_, _, _, _, _, rfl, _⟩, _⟩ := h
    rfl
  · obtain ⟨H0, v, e, ⟨ap, a, b, ca, cb, rfl, hl, ha, hb, rfl⟩, k⟩ := h
    have hl := e _ _ hl
    exact s_ret (ev_andV (ev_is_category (ha.mono e) (ev_op (ev_var rfl) (ev_c (v := .int ((0 : Nat) : Int))) (rv_ixL (K := K) (sq_of hl) (atI_nat rfl)))) fun _ => ev_is_category (hb.mono e) (ev_op (ev_var rfl) (ev_c (v := .int ((1 : Nat) : Int))) (rv_ixL (K := K) (sq_of hl) (atI_nat rfl)))) k
theorem ev_both {ap : Addr} {k : Nat} {s : Fc01.St} {l0 l1 : Loc} (h : PairL A.C k H ap s l0 l1) (hk : k ≤ 100) (ha : Ev ta σ H (.ref ap)) : Ev (tCall (spV (R_both A.C)) [] E (tCons ta tNil)) σ H (.bl ((Fc01.fault s.a).isNone && (Fc01.fault s.b).isNone)) :=
  ev_fn (ea_cons ha ea_nil) (spV_go ⟨ap, l0.a, l1.a, s.a, s.b, rfl, h.lst, h.c0.cat hk, h.c1.cat hk, rfl⟩)
/-- pair[1 - numbers[0]] -/
theorem ev_other {an ap : Addr} {zs : List Nat} {k i : Nat} {s : Fc01.St} {l0 l1 : Loc} (h : PairL A.C k H ap s l0 l1) (hi : i ≤ 1) (ha : Ev ta σ H (.ref ap)) (hb : Ev tb σ H (.ref an)) (hn : H an = some (.lst (natV (i :: zs)))) : Ev (tOp (rIxL K) ta (tOp (rI0 fun i j => .int (i - j)) (tC (.int 1)) (tOp (rIxL K) tb (tC (.int 0))))) σ H (.ref (locAt (1 - i) l0 l1).a) :=
  ev_catOf h (by omega) ha (ev_is (ev_op ev_c (ev_num (j := 0) hb hn rfl) rv_I0) (by
    show V.int (1 - (i : Int)) = V.int ((1 - i : Nat) : Int)
    congr 1
    omega))
theorem ok_answer_maps (T : Txt K mg A) (B : Tbs base mg A) : FnOk P w K mg base CX0 8 A.f_answer_maps A.d_answer_maps ["pair", "numbers"] (spHand A mkMaps) := by
  refine T.F_answer_maps.ok sc_answer_maps (fun vs H Q E h => ?_) (fun cdv Ar outer s H vs Q E hr h => ⟨_, (pss_cons (ps_if (pt_not (pt_val (pe_call (ok_both_are_categories T) (hr.mono (by decide)) rfl T.g_both_are_categories T.F_both_are_categories.kp T.bd_both_are_categories .nil pass0 (pa_cons (pv 0) pa_nil)))) (pss_one (ps_ret (pe_lst (pa_cons (pe_glob (v := .int (-6)) rfl T.c_NO_CATEGORY.choose_spec ⟨_, rfl⟩) pa_nil)))) pss_nil)
    (pss_one (ps_ret (pe_lst (pa_cons (pe_call (ok_mapping_count T) (hr.mono (by decide)) rfl T.g_mapping_count T.F_mapping_count.kp T.bd_mapping_count .nil pass0 (pa_cons (pe_call (ok_boxes_of T B) (hr.mono (by decide)) rfl T.g_boxes_of T.F_boxes_of.kp T.bd_boxes_of .nil pass0 (pa_cons (pe_ix (ixListK (K := K) rfl) (pv 0) (pe_ix (ixListK (K := K) rfl) (pv 1) pe_int (fun _ _ => rfl)) (fun _ _ => rfl)) (pa_cons (pe_ix (ixListK (K := K) rfl) (pv 0) (pe_op op_sub pe_int (pe_ix (ixListK (K := K) rfl) (pv 1) pe_int (fun _ _ => rfl))) (fun _ _ => rfl)) pa_nil))) pa_nil)) pa_nil))))), ?_⟩)
  · obtain ⟨_, _, _, _, _, _, _, rfl, _⟩ := h
    rfl
  · obtain ⟨ap, an, st, fp, k, zs, call, rfl, hP, hk, hn, nan, hmk, hi, hT, kk⟩ := h
    obtain ⟨i, rfl, rfl⟩ : ∃ i, zs = [i] ∧ call = .maps i := by
      match zs, hmk with
      | [i], hmk => exact ⟨i, rfl, (Option.some.inj hmk).symm⟩
    have hi : i ≤ 1 := hi
    have st1 : Fc01.step st (.maps i) = Fc01.between st i fun a b => [((Fc01.maps a b).length : Int)] := rfl
    obtain ⟨l0, l1, rfl, hL⟩ := id hP
    have kk1 := kk.old hT hP
    refine q_when (et_not (et_B (ev_both hL (by omega) (ev_var rfl)))) (fun q H1 e1 => ?_) (fun q H1 e1 => ?_)
    · rw [st1, between_bad hi (by rw [Bool.not_eq_true'] at q; exact q)] at kk1
      exact ret1 ev_c fun p H6 hp e6 h6 => kk1.pure hP rfl (e1.trans e6) (fresh_back e1 hp) h6
    · have q : ((Fc01.fault st.a).isNone && (Fc01.fault st.b).isNone) = true := by
        rw [Bool.not_eq_false'] at q
        exact q
      rw [st1, between_ok hi q] at kk
      have hL1 := hL.mono e1
      have c0 := hL1.cat i
      have c1 := hL1.cat (1 - i)
      refine run_boxes (E := E0) (c0.catK (by omega)) (c1.catK (by omega)) (noP_cat (c0.cat (by omega)).wf (cat_none q i)) (noP_cat (c1.cat (by omega)).wf (cat_none q (1 - i))) (hT.ext e1) (ev_catOf hL1 hi (ev_var rfl) (ev_num (j := 0) (ev_var rfl) (e1 _ _ hn) rfl)) (ev_other hL1 hi (ev_var rfl) (ev_var rfl) (e1 _ _ hn)) fun p ds H2 hp e2 nn2 t2 hB sd hw hz => ?_
      refine ⟨H2, .int ((Fc01.maps (catAt st i) (catAt st (1 - i))).length : Int), Ex.refl H2, ⟨p, ds, rfl, hB, fun d hd => sd.len9 (boxN d) (List.mem_map.mpr ⟨d, hd, rfl⟩), by rw [sd.total]⟩, fun H3 e3 => ⟨by show 1 ≤ sizeLine; decide, fun r hr3 => ?_⟩⟩
      exact kk.pureT hP rfl (((strip_ex e1).trans e2).trans (e3.trans (Ex.new hr3))) (fresh_back e1 (nn2 r (fresh_back e3 hr3))) ((t2.ext e3).ext (Ex.new hr3)) upd_same
theorem ok_tell_mapping (T : Txt K mg A) (B : Tbs base mg A) : FnOk P w K mg base CX0 1 A.f_tell_mapping A.d_tell_mapping ["source", "target", "asked"] (spTell1 A 1 gMap) := by
  refine T.F_tell_mapping.ok sc_tell_mapping (fun vs H Q E h => ?_) (fun cdv Ar outer s H vs Q E hr h => ⟨_, (pss_one (ps_ret (pe_ix (ixListK (K := K) rfl) (pv 2) pe_int (fun _ _ => rfl)))), ?_⟩)
  · obtain ⟨_, _, _, _, _, _, rfl, _⟩ := h
    rfl
  · obtain ⟨a, b, p, ca, cb, cs, rfl, ka, kb, na, nb, hB, hm, hl, hT, k⟩ := h
    match cs, hl with
    | [c], _ =>
      refine s_ret (ev_asked (j := 0) (ev_var rfl) hB rfl) fun H1 e1 => k c.1 H1 (Or.inr ⟨c, List.mem_singleton.mpr rfl, rfl⟩) (Ex.N e1) (hT.ext e1) ?_
      rw [e1 _ _ (hB.2 c (List.mem_singleton.mpr rfl)), natV_ints]
      rfl
theorem ok_tell_changes (T : Txt K mg A) (B : Tbs base mg A) : FnOk P w K mg base CX0 7 A.f_tell_changes A.d_tell_changes ["source", "target", "asked"] (spTell1 A 2 gCh) := by
  refine T.F_tell_changes.ok sc_tell_changes (fun vs H Q E h => ?_) (fun cdv Ar outer s H vs Q E hr h => ⟨_, (pss_cons (ps_set (i := 3) sc_tell_changes.nd rfl (Or.inl rfl) (pe_call (ok_all_changes T) (hr.mono (by decide)) rfl T.g_all_changes T.F_all_changes.kp T.bd_all_changes .nil pass0 (pa_cons (pv 0) (pa_cons (pv 1) (pa_cons (pe_ix (ixListK (K := K) rfl) (pv 2) pe_int (fun _ _ => rfl)) (pa_cons (pe_ix (ixListK (K := K) rfl) (pv 2) pe_int (fun _ _ => rfl)) pa_nil))))))
    (pss_cons (ps_if (pt_cmpR (eqDK (K := K) rfl hr.units) (pv 3) (pe_lst pa_nil) (nomark _)) (pss_one (ps_ret (pe_lst (pa_cons pe_int pa_nil)))) pss_nil)
    (pss_one (ps_ret (pe_op op_cat (pe_lst (pa_cons (pe_callB (lenK (K := K) rfl) (by rfl) T.b_len PySem.boot_len (pa_cons (pv 3) pa_nil)) pa_nil)) (pe_ix (ixListK (K := K) rfl) (pv 3) pe_int (fun _ _ => rfl))))))), ?_⟩)
  · obtain ⟨_, _, _, _, _, _, rfl, _⟩ := h
    rfl
  · obtain ⟨a, b, p, ca, cb, cs, rfl, ka, kb, na, nb, hB, hm, hl, hT, k⟩ := h
    match cs, hl with
    | [c, d], _ =>
      have wa := ka.at.wf
      have wb := kb.at.wf
      have m1 := mp_of wa wb (hm c (by simp))
      have m2 := mp_of wa wb (hm d (by simp))
      have h2 : Two A.C H a b c.1 d.1 ca cb c.2 d.2 := ⟨ka.at, kb.at, hB.2 c (by simp), hB.2 d (by simp)⟩
      have n4 := wa.n4
      refine q_asgLL (ell_fn (ea_cons (ev_var rfl) (ea_cons (ev_var rfl) (ea_cons (ev_asked (j := 0) (ev_var rfl) hB rfl) (ea_cons (ev_asked (j := 1) (ev_var rfl) hB rfl) ea_nil)))) (spLL_go ⟨a, b, c.1, d.1, ca, cb, c.2, d.2, rfl, h2, m1, m2, rfl⟩)) fun pf bs H1 n1 => ?_
      obtain ⟨fs, hfs, hF⟩ := bx_of n1
      refine q_when (et_test (ev_eqNil (ev_var rfl) hF)) (fun q H2 e2 => ?_) (fun q H2 e2 => ?_)
      · rw [decide_eq_true_eq, hfs] at q
        refine ret1 ev_c fun r H3 hr3 e3 h3 => k r H3 (Or.inl (fresh_back (n1.2.1.trans e2) hr3)) (Ex.N ((n1.2.1.trans e2).trans e3)) (hT.ext ((n1.2.1.trans e2).trans e3)) (h3.trans ?_)
        show _ = some (HO.lst (intV (((Fc01.changes ca cb c.2 d.2).length : Int) :: Fc01.ints ((Fc01.changes ca cb c.2 d.2).headD []))))
        rw [q]
        rfl
      · rw [decide_eq_false_iff_not] at q
        cases fs with
        | nil => exact (q rfl).elim
        | cons f fr =>
          have fl : f.2.length = ca.n := changes_len wa wb m1.th m2.th _ (by rw [← hfs]; exact List.mem_cons_self ..)
          refine s_retL (el_cat (el_lst (ea_cons (ev_len (K := K) (ev_var rfl) (sq_of (e2 _ _ hF.1))) ea_nil) (by show 1 ≤ 100000; decide)) (ev_op (ev_var rfl) (ev_c (v := .int 0)) (rv_ixL (K := K) (sq_of (e2 _ _ hF.1)) (atI_nat (xs := refs (f :: fr)) (j := 0) (v := .ref f.1) rfl))) (e2 _ _ (hF.2 f (List.mem_cons_self ..))) (by rw [natV_len, fl]; show 1 + _ ≤ 100000; omega)) fun r H3 hr3 e3 h3 => k r H3 (Or.inl (fresh_back (n1.2.1.trans e2) hr3)) (Ex.N ((n1.2.1.trans e2).trans e3)) (hT.ext ((n1.2.1.trans e2).trans e3)) (h3.trans ?_)
          show _ = some (HO.lst (intV (((Fc01.changes ca cb c.2 d.2).length : Int) :: Fc01.ints ((Fc01.changes ca cb c.2 d.2).headD []))))
          rw [← hfs, natV_ints, refs_len, List.length_map]
          rfl
theorem ok_tell_alike (T : Txt K mg A) (B : Tbs base mg A) : FnOk P w K mg base CX0 7 A.f_tell_alike A.d_tell_alike ["source", "target", "asked"] (spTell1 A 2 gAl) := by
  refine T.F_tell_alike.ok sc_tell_alike (fun vs H Q E h => ?_) (fun cdv Ar outer s H vs Q E hr h => ⟨_, (pss_cons (ps_if (pt_val (pe_call (ok_are_alike T) (hr.mono (by decide)) rfl T.g_are_alike T.F_are_alike.kp T.bd_are_alike .nil pass0 (pa_cons (pv 0) (pa_cons (pv 1) (pa_cons (pe_ix (ixListK (K := K) rfl) (pv 2) pe_int (fun _ _ => rfl)) (pa_cons (pe_ix (ixListK (K := K) rfl) (pv 2) pe_int (fun _ _ => rfl)) pa_nil)))))) (pss_one (ps_ret (pe_lst (pa_cons pe_int pa_nil)))) pss_nil)
    (pss_one (ps_ret (pe_lst (pa_cons pe_int pa_nil))))), ?_⟩)
  · obtain ⟨_, _, _, _, _, _, rfl, _⟩ := h
    rfl
  · obtain ⟨a, b, p, ca, cb, cs, rfl, ka, kb, na, nb, hB, hm, hl, hT, k⟩ := h
    match cs, hl with
    | [c, d], _ =>
      have wa := ka.at.wf
      have wb := kb.at.wf
      have m1 := mp_of wa wb (hm c (by simp))
      have m2 := mp_of wa wb (hm d (by simp))
      have h2 : Two A.C H a b c.1 d.1 ca cb c.2 d.2 := ⟨ka.at, kb.at, hB.2 c (by simp), hB.2 d (by simp)⟩
      refine q_when (et_B (ev_fn (ea_cons (ev_var rfl) (ea_cons (ev_var rfl) (ea_cons (ev_asked (j := 0) (ev_var rfl) hB rfl) (ea_cons (ev_asked (j := 1) (ev_var rfl) hB rfl) ea_nil)))) (spV_go ⟨a, b, c.1, d.1, ca, cb, c.2, d.2, rfl, h2, m1, m2, rfl⟩))) (fun q H1 e1 => ?_) (fun q H1 e1 => ?_)
      · refine ret1 ev_c fun r H3 hr3 e3 h3 => k r H3 (Or.inl (fresh_back e1 hr3)) (Ex.N (e1.trans e3)) (hT.ext (e1.trans e3)) (h3.trans ?_)
        show _ = some (HO.lst (intV [if Fc01.isAlike ca cb c.2 d.2 = true then 1 else 0]))
        rw [if_pos q]
        rfl
      · refine ret1 ev_c fun r H3 hr3 e3 h3 => k r H3 (Or.inl (fresh_back e1 hr3)) (Ex.N (e1.trans e3)) (hT.ext (e1.trans e3)) (h3.trans ?_)
        show _ = some (HO.lst (intV [if Fc01.isAlike ca cb c.2 d.2 = true then 1 else 0]))
        rw [if_neg (by rw [q]; decide)]
        rfl
theorem ok_tell_partner (T : Txt K mg A) (B : Tbs base mg A) : FnOk P w K mg base CX0 9 A.f_tell_partner A.d_tell_partner ["source", "target", "asked"] (spTell1 A 1 gPa) := by
  refine T.F_tell_partner.ok sc_tell_partner (fun vs H Q E h => ?_) (fun cdv Ar outer s H vs Q E hr h => ⟨_, (pss_cons (ps_set (i := 3) sc_tell_partner.nd rfl (Or.inl rfl) (pe_call (ok_boxes_of T B) (hr.mono (by decide)) rfl T.g_boxes_of T.F_boxes_of.kp T.bd_boxes_of .nil pass0 (pa_cons (pv 1) (pa_cons (pv 0) pa_nil))))
    (pss_cons (ps_if (pt_cmpR op_gt (pe_call (ok_mapping_count T) (hr.mono (by decide)) rfl T.g_mapping_count T.F_mapping_count.kp T.bd_mapping_count .nil pass0 (pa_cons (pv 3) pa_nil)) (pe_glob (v := .int (2000)) rfl T.c_MOST_MAPPINGS_BACK.choose_spec ⟨_, rfl⟩) (nomark _)) (pss_one (ps_ret (pe_lst (pa_cons (pe_glob (v := .int (-7)) rfl T.c_TOO_MANY_MAPPINGS.choose_spec ⟨_, rfl⟩) pa_nil)))) pss_nil)
    (pss_one (ps_ret (pe_call (ok_first_partner T) (hr.mono (by decide)) rfl T.g_first_partner T.F_first_partner.kp T.bd_first_partner .nil pass0 (pa_cons (pv 0) (pa_cons (pv 1) (pa_cons (pe_ix (ixListK (K := K) rfl) (pv 2) pe_int (fun _ _ => rfl)) (pa_cons (pe_call (ok_all_mappings T) (hr.mono (by decide)) rfl T.g_all_mappings T.F_all_mappings.kp T.bd_all_mappings .nil pass0 (pa_cons (pv 3) pa_nil)) pa_nil))))))))), ?_⟩)
  · obtain ⟨_, _, _, _, _, _, rfl, _⟩ := h
    rfl
  · obtain ⟨a, b, p, ca, cb, cs, rfl, ka, kb, na, nb, hB, hm, hl, hT, k⟩ := h
    match cs, hl with
    | [c], _ =>
      have wa := ka.at.wf
      have wb := kb.at.wf
      have m1 := mp_of wa wb (hm c (by simp))
      refine run_boxes (E := E0) kb ka nb na hT (ev_var rfl) (ev_var rfl) fun px ds H2 hpx e2 nn2 t2 hD sd hw hz => ?_
      have ka2 := (ka.strip.mono e2).at
      have kb2 := (kb.strip.mono e2).at
      have hp2 : BxAt H2 p [c] := BxAt.mono e2 ⟨strip_of hB.1 (fun _ z => by cases z), fun c hc => strip_of (hB.2 c hc) (fun _ z => by cases z)⟩
      show tSeq _ _ _ _ _
      refine q_when (et_test (ev_op (ev_countB (ev_var rfl) hD sd) ev_c (rv_I0 (g := fun i j => .bl (decide (i > j)))))) (fun q H3 e3 => ?_) (fun q H3 e3 => ?_)
      · rw [decide_eq_true_eq] at q
        refine ret1 ev_c fun r H4 hr4 e4 h4 => k r H4 (Or.inl (nn2 r (fresh_back e3 hr4))) (e2.trans (e3.trans e4)) ((t2.ext e3).ext e4) (h4.trans ?_)
        show _ = some (HO.lst (intV (if Fc01.MANY < (Fc01.maps cb ca).length then [-7] else _)))
        rw [if_pos (by show 2000 < _; omega)]
        rfl
      · rw [decide_eq_false_iff_not] at q
        have ll : (Fc01.maps cb ca).length ≤ 2000 := by omega
        refine s_retL (xs := natV (optK (Fc01.partner ca cb c.2))) (el_fnLL4 (ev_var rfl) (ev_var rfl) (ev_asked (j := 0) (ev_var rfl) (hp2.mono e3) rfl) (ell_fn (ea_cons (ev_var rfl) ea_nil) (spLL_go ⟨px, ds, cb.arrows.length, Fc01.maps cb ca, rfl, hD.mono e3, sd, hw, ll, rfl⟩)) fun pm bs H4 n4 => ?_) fun r H5 hr5 e5 h5 => k r H5 (Or.inl (nn2 r (fresh_back e3 hr5))) (e2.trans (e3.trans e5)) ((t2.ext e3).ext e5) (h5.trans ?_)
        · obtain ⟨rs, hrs, hR⟩ := bx_of n4
          have e4 := e3.trans n4.2.1
          exact spL_go ⟨a, b, c.1, pm, ca, cb, c.2, rs, rfl, ka2.mono e4, kb2.mono e4, e4 _ _ (hp2.2 c (by simp)), m1, hR, hrs, rfl⟩
        · show _ = some (HO.lst (intV (if Fc01.MANY < (Fc01.maps cb ca).length then [-7] else Fc01.ints (optK (Fc01.partner ca cb c.2)))))
          rw [if_neg (by show ¬ 2000 < _; omega), natV_ints]
theorem tells (T : Txt K mg A) (B : Tbs base mg A) : ∀ f sp, tellS A f = some sp → Held P w K mg base 9 f sp := fun f sp h => by
  unfold tellS at h
  split at h
  · next e =>
    cases h
    rw [e]
    exact ⟨_, _, (ok_tell_mapping T B).mono (by decide), T.F_tell_mapping.kp, T.bd_tell_mapping⟩
  split at h
  · next e =>
    cases h
    rw [e]
    exact ⟨_, _, (ok_tell_changes T B).mono (by decide), T.F_tell_changes.kp, T.bd_tell_changes⟩
  split at h
  · next e =>
    cases h
    rw [e]
    exact ⟨_, _, (ok_tell_alike T B).mono (by decide), T.F_tell_alike.kp, T.bd_tell_alike⟩
  split at h
  · next e =>
    cases h
    rw [e]
    exact ⟨_, _, (ok_tell_partner T B).mono (by decide), T.F_tell_partner.kp, T.bd_tell_partner⟩
  · cases h
end
end Arr
-- text B8d
set_option Elab.async false
set_option linter.unusedVariables false
set_option maxRecDepth 100000
set_option maxHeartbeats 4000000
/-! # the calls nth, changes, alike, partner, swap -/
namespace Arr
open PySem PySem.Spec PyProof.Rows L2 Evl LamX NdefX
open Fc01 (from_ to_ after hom turned catAt withCat)
section
variable {P : Program} {w : World} {K : PySem.W.Frag} {mg : Str → Option Value} {base : Heap} {A : Ads} {σ : L2.St} {H : Hp} {ta tb td te tf tg tp ti t0 t1 t2 t3 : TE} {a b : Addr} {c ca cb : Cat} {E : XK} {D : Ends} {tz : TS} {i : Nat}
/-- max of a new list -/
theorem ev_maxN {zs : List Nat} {M : Nat} (h : EvL te σ H (natV zs)) (h1 : M ∈ zs) (h2 : ∀ y ∈ zs, y ≤ M) : Ev (tCB (rMax K) (tCons te tNil)) σ H (.int (M : Int)) := fun H1 e Q q =>
  h H1 e _ fun p H2 hp e2 h3 => ⟨p, zs.map fun (n : Nat) => (n : Int), rfl, by rw [natV_int]; exact sq_of h3, by rw [List.length_map]; exact List.length_pos_of_mem h1, fun m hm hy => by
    obtain ⟨m', hm', rfl⟩ := List.mem_map.mp hm
    have l1 := h2 m' hm'
    have l2 := hy (M : Int) (List.mem_map.mpr ⟨M, h1, rfl⟩)
    have : m' = M := by omega
    rw [this]
    exact q H2 e2⟩
theorem ok_answer_of_mappings (T : Txt K mg A) (B : Tbs base mg A) : FnOk P w K mg base CX0 10 A.f_answer_of_mappings A.d_answer_of_mappings ["pair", "numbers", "tell"] (spOf A) := by
  refine T.F_answer_of_mappings.ok sc_answer_of_mappings (fun vs H Q E h => ?_) (fun cdv Ar outer s H vs Q E hr h => ⟨_, (pss_cons (ps_if (pt_not (pt_val (pe_call (ok_both_are_categories T) (hr.mono (by decide)) rfl T.g_both_are_categories T.F_both_are_categories.kp T.bd_both_are_categories .nil pass0 (pa_cons (pv 0) pa_nil)))) (pss_one (ps_ret (pe_lst (pa_cons (pe_glob (v := .int (-6)) rfl T.c_NO_CATEGORY.choose_spec ⟨_, rfl⟩) pa_nil)))) pss_nil)
    (pss_cons (ps_set (i := 3) sc_answer_of_mappings.nd rfl (Or.inl rfl) (pe_ix (ixListK (K := K) rfl) (pv 0) (pe_ix (ixListK (K := K) rfl) (pv 1) pe_int (fun _ _ => rfl)) (fun _ _ => rfl)))
    (pss_cons (ps_set (i := 4) sc_answer_of_mappings.nd rfl (Or.inl rfl) (pe_ix (ixListK (K := K) rfl) (pv 0) (pe_op op_sub pe_int (pe_ix (ixListK (K := K) rfl) (pv 1) pe_int (fun _ _ => rfl))) (fun _ _ => rfl)))
    (pss_cons (ps_set (i := 5) sc_answer_of_mappings.nd rfl (Or.inr rfl) (pe_call (ok_boxes_of T B) (hr.mono (by decide)) rfl T.g_boxes_of T.F_boxes_of.kp T.bd_boxes_of .nil pass0 (pa_cons (pv 3) (pa_cons (pv 4) pa_nil))))
    (pss_cons (ps_if (pt_cmpR op_ge (pe_callB (rMaxLK (K := K) rfl rfl) (by rfl) T.b_max (by decide +kernel) (pa_cons (pe_slice (slListK (K := K) rfl) (pv 1) (po_some pe_int) po_none) pa_nil)) (pe_call (ok_mapping_count T) (hr.mono (by decide)) rfl T.g_mapping_count T.F_mapping_count.kp T.bd_mapping_count .nil pass0 (pa_cons (pv 5) pa_nil)) (nomark _)) (pss_one (ps_ret (pe_lst (pa_cons (pe_glob (v := .int (-3)) rfl T.c_NO_SUCH_MAPPING.choose_spec ⟨_, rfl⟩) pa_nil)))) pss_nil)
    (pss_one (ps_ret (pe_callA (i := 2) (tells T B) (hr.mono (by decide)) rfl (Or.inl rfl) (pa_cons (pv 3) (pa_cons (pv 4) (pa_cons (pe_lc (own := [("k", 6)]) (g := gName 6) (tt := tYes) rfl sc_answer_of_mappings.nd (piListK (K := K) rfl (pe_slice (slListK (K := K) rfl) (pv 1) (po_some pe_int) po_none)) (blkOk_by (own := [("k", 6)]) (N := ["pair", "numbers", "tell", "source", "target", "boxes", "k"]) (sc := defScope s_answer_of_mappings) (by decide +kernel)) (fun _ _ _ _ _ => pg_name (i := 6) sc_answer_of_mappings.nd rfl (Or.inl rfl)) (fun _ _ _ _ _ => pts_nil) (fun _ _ _ _ _ => (pe_call (ok_mapping_at T) (hr.mono (by decide)) rfl T.g_mapping_at T.F_mapping_at.kp T.bd_mapping_at .nil pass0 (pa_cons (pv 5) (pa_cons (pv 6) pa_nil))))) pa_nil))))))))))), ?_⟩)
  · obtain ⟨_, _, _, _, _, _, _, _, _, _, rfl, _⟩ := h
    rfl
  · obtain ⟨ap, an, f, st, fp, k, i, n, zs, g, rfl, hS, hP, hk, hn, hz, n1, n9, hi, hT, kk⟩ := h
    obtain ⟨l0, l1, rfl, hL⟩ := id hP
    have kk1 := kk.old hT hP
    refine q_when (et_not (et_B (ev_both hL (by omega) (ev_var rfl)))) (fun q H1 e1 => ?_) (fun q H1 e1 => ?_)
    · rw [between_bad hi (by rw [Bool.not_eq_true'] at q; exact q)] at kk1
      exact ret1 ev_c fun p H6 hp e6 h6 => kk1.pure hP rfl (e1.trans e6) (fresh_back e1 hp) h6
    rw [Bool.not_eq_false'] at q
    rw [between_ok hi q] at kk
    have hL1 := hL.mono e1
    refine q_asg (ev_catOf hL1 hi (ev_var rfl) (ev_num (j := 0) (ev_var rfl) (e1 _ _ hn) rfl)) fun H2 e2 => ?_
    have e2 := e1.trans e2
    have hL2 := hL.mono e2
    refine q_asg (ev_other hL2 hi (ev_var rfl) (ev_var rfl) (e2 _ _ hn)) fun H3 e3 => ?_
    have e3 := e2.trans e3
    have hL3 := hL.mono e3
    have c0 := hL3.cat i
    have c1 := hL3.cat (1 - i)
    have na := noP_cat (c0.cat (by omega)).wf (cat_none q i)
    have nb := noP_cat (c1.cat (by omega)).wf (cat_none q (1 - i))
    generalize catAt st i = ca at c0 na kk
    generalize catAt st (1 - i) = cb at c1 nb kk
    have ka := c0.catK (by omega)
    have kb := c1.catK (by omega)
    refine run_boxes (E := E0) ka kb na nb (hT.ext e3) (ev_var rfl) (ev_var rfl) fun px ds H4 hpx e4 nn4 t4 hD sd hw hzz => ?_
    have e34 : Ex (strip H) H4 := (strip_ex e3).trans e4
    have nn34 : ∀ b, H4 b = none → H b = none := fun b hb => fresh_back e3 (nn4 b hb)
    have hn4 : H4 an = some (.lst (natV (i :: zs))) := e34 _ _ (strip_of hn (fun _ z => by cases z))
    obtain ⟨M, m1, m2⟩ := max_ex (zs := zs) (by omega)
    show tSeq _ _ _ _ _
    refine q_when (et_test (ev_op (ev_maxN (K := K) (el_rest (K := K) (ev_var rfl) hn4) m1 m2) (ev_countB (ev_var rfl) hD sd) (rv_I0 (g := fun i j => .bl (decide (i ≥ j)))))) (fun b H5 e5 => ?_) (fun b H5 e5 => ?_)
    · rw [decide_eq_true_eq] at b
      have no : ofMaps g zs ca cb = [-3] := if_neg fun z => by
        rw [List.all_eq_true] at z
        have := z M m1
        rw [decide_eq_true_eq] at this
        omega
      rw [no] at kk
      exact ret1 ev_c fun r H6 hr6 e6 h6 => kk.pureT hP rfl (e34.trans (e5.trans e6)) (nn34 r (fresh_back e5 hr6)) ((t4.ext e5).ext e6) h6
    · rw [decide_eq_false_iff_not] at b
      have lt : ∀ z ∈ zs, z < (Fc01.maps ca cb).length := fun z hz => by
        have := m2 z hz
        omega
      have yes : ofMaps g zs ca cb = g ca cb (zs.map fun z => (Fc01.maps ca cb).getD z []) := if_pos (by
        rw [List.all_eq_true]
        exact fun z hz => decide_eq_true (lt z hz))
      rw [yes] at kk
      refine ⟨f, _, rfl, hS, _, rfl, _, rfl, ?_⟩
      have comp := ell_mapNL (K := K) (σ := [some (.ref ap), some (.ref an), some (.ref f), some (.ref (locAt i l0 l1).a), some (.ref (locAt (1 - i) l0 l1).a), some (.ref px), none]) (H := H5) (j := 6) (vs := [6]) (te := tCall (spL R_mapat) [] E0 (tCons (tVar 5) (tCons (tVar 6) tNil))) (en := fun (n : Nat) => V.int (n : Int)) (l := zs) (fun z => natV ((Fc01.maps ca cb).getD z []))
        (el_rest (K := K) (i := i) (ev_var (i := 1) rfl) (e5 _ _ hn4)) (by have sl : sizeLine = 16777216 := rfl; omega) (fun _ => rfl) (fun z hz H6 e6 => el_fn (ea_cons (ev_var (i := 5) rfl) (ea_cons (ev_var (i := 6) rfl) ea_nil)) (spL_go ⟨px, ds, z, ca.arrows.length, Fc01.maps ca cb, (Fc01.maps ca cb).getD z [], rfl, (hD.mono e5).mono e6, hzz, sd, by
          rw [List.getD_eq_getElem?_getD, List.getElem?_eq_getElem (lt z hz)]
          rfl, rfl⟩))
      refine comp H5 (Ex.refl H5) _ fun pa bs H6 n6 => ?_
      have n6 : NewLL H5 ((zs.map fun z => (Fc01.maps ca cb).getD z []).map natV) pa bs H6 := by
        rw [List.map_map]
        exact n6
      obtain ⟨rs, hrs, hrf, hrb⟩ := told_by n6.2.2.1
      have hB : BxAt H6 pa rs := ⟨by rw [hrf]; exact n6.2.2.2.1, fun c hc => (n6.2.2.2.2 _ (hrb c hc)).2.2⟩
      have e56 := e5.trans n6.2.1
      refine ⟨(locAt i l0 l1).a, (locAt (1 - i) l0 l1).a, pa, ca, cb, rs, rfl, (ka.strip.mono e4).mono e56, (kb.strip.mono e4).mono e56, na, nb, hB, fun c hc => ?_, ?_, t4.ext e56, fun r H7 hr7 e7 t7 h7 => ?_⟩
      · have : c.2 ∈ zs.map fun z => (Fc01.maps ca cb).getD z [] := by
          rw [← hrs]
          exact List.mem_map.mpr ⟨c, hc, rfl⟩
        obtain ⟨z, hz, e⟩ := List.mem_map.mp this
        rw [← e, List.getD_eq_getElem?_getD, List.getElem?_eq_getElem (lt z hz)]
        exact List.getElem_mem (lt z hz)
      · rw [← List.length_map (f := fun r : Addr × List Nat => r.2), hrs, List.length_map, hz]
      · have fr6 : H5 r = none := by
          rcases hr7 with z | ⟨c, hc, rfl⟩
          · exact fresh_back n6.2.1 z
          · exact (n6.2.2.2.2 _ (hrb c hc)).1
        rw [hrs] at h7
        exact kk.pureT hP rfl (exN_trans (e34.trans e56) e7) (nn34 r (fresh_back e5 fr6)) t7 h7
theorem tell_map (A : Ads) : tellS A A.f_tell_mapping = some (spTell1 A 1 gMap) := if_pos rfl
theorem tell_ch (T : Txt K mg A) : tellS A A.f_tell_changes = some (spTell1 A 2 gCh) := by
  unfold tellS
  rw [if_neg (fun_ne T.F_tell_changes T.F_tell_mapping (by decide +kernel)), if_pos rfl]
theorem tell_al (T : Txt K mg A) : tellS A A.f_tell_alike = some (spTell1 A 2 gAl) := by
  unfold tellS
  rw [if_neg (fun_ne T.F_tell_alike T.F_tell_mapping (by decide +kernel)), if_neg (fun_ne T.F_tell_alike T.F_tell_changes (by decide +kernel)), if_pos rfl]
theorem tell_pa (T : Txt K mg A) : tellS A A.f_tell_partner = some (spTell1 A 1 gPa) := by
  unfold tellS
  rw [if_neg (fun_ne T.F_tell_partner T.F_tell_mapping (by decide +kernel)), if_neg (fun_ne T.F_tell_partner T.F_tell_changes (by decide +kernel)), if_neg (fun_ne T.F_tell_partner T.F_tell_alike (by decide +kernel)), if_pos rfl]
theorem getD_lt {S : List (List Nat)} {k : Nat} (h : k < S.length) : S[k]? = some (S.getD k []) := by
  rw [List.getD_eq_getElem?_getD, List.getElem?_eq_getElem h]
  rfl
theorem nth_is (st : Fc01.St) (i k : Nat) : Fc01.step st (.nth i k) = Fc01.between st i (ofMaps gMap [k]) := by
  have st1 : Fc01.step st (.nth i k) = Fc01.between st i fun a b => match (Fc01.maps a b)[k]? with
    | none => [-3]
    | some m => Fc01.ints m := rfl
  rw [st1]
  congr 1
  funext a b
  unfold ofMaps gMap
  by_cases h : k < (Fc01.maps a b).length
  · rw [if_pos (by simpa using h), getD_lt h]
    rfl
  · rw [if_neg (by simpa using h), List.getElem?_eq_none (by omega)]
theorem two_is {a b : Cat} {k l : Nat} {g : Cat → Cat → List (List Nat) → List Int} {r : List Nat → List Nat → List Int} (hr : ∀ m o, g a b [m, o] = r m o) :
    (match (Fc01.maps a b)[k]?, (Fc01.maps a b)[l]? with | some m, some o => r m o | _, _ => [-3]) = ofMaps g [k, l] a b := by
  unfold ofMaps
  by_cases h : k < (Fc01.maps a b).length
  · by_cases h2 : l < (Fc01.maps a b).length
    · rw [if_pos (by simp [h, h2]), getD_lt h, getD_lt h2]
      exact (hr _ _).symm
    · rw [if_neg (by simp [h2]), getD_lt h, List.getElem?_eq_none (by omega)]
  · rw [if_neg (by simp [h]), List.getElem?_eq_none (by omega)]
theorem changes_st (st : Fc01.St) (i k l : Nat) : Fc01.step st (.changes i k l) = Fc01.between st i (ofMaps gCh [k, l]) := by
  have st1 : Fc01.step st (.changes i k l) = Fc01.between st i fun a b => match (Fc01.maps a b)[k]?, (Fc01.maps a b)[l]? with
    | some m, some o => ((Fc01.changes a b m o).length : Int) :: Fc01.ints ((Fc01.changes a b m o).headD [])
    | _, _ => [-3] := rfl
  rw [st1]
  congr 1
  funext a b
  exact two_is (g := gCh) (r := fun m o => ((Fc01.changes a b m o).length : Int) :: Fc01.ints ((Fc01.changes a b m o).headD [])) fun m o => rfl
theorem alike_st (st : Fc01.St) (i k l : Nat) : Fc01.step st (.alike i k l) = Fc01.between st i (ofMaps gAl [k, l]) := by
  have st1 : Fc01.step st (.alike i k l) = Fc01.between st i fun a b => match (Fc01.maps a b)[k]?, (Fc01.maps a b)[l]? with
    | some m, some o => [if Fc01.isAlike a b m o = true then 1 else 0]
    | _, _ => [-3] := rfl
  rw [st1]
  congr 1
  funext a b
  exact two_is (g := gAl) (r := fun m o => [if Fc01.isAlike a b m o = true then 1 else 0]) fun m o => rfl
theorem partner_st (st : Fc01.St) (i k : Nat) : Fc01.step st (.partner i k) = Fc01.between st i (ofMaps gPa [k]) := by
  have st1 : Fc01.step st (.partner i k) = Fc01.between st i fun a b => match (Fc01.maps a b)[k]? with
    | none => [-3]
    | some m => if Fc01.MANY < (Fc01.maps b a).length then [-7] else match Fc01.partner a b m with
      | none => [0]
      | some x => Fc01.ints (1 :: x.1 ++ x.2) := rfl
  rw [st1]
  congr 1
  funext a b
  unfold ofMaps gPa
  by_cases h : k < (Fc01.maps a b).length
  · rw [if_pos (by simpa using h), getD_lt h]
    show (if Fc01.MANY < (Fc01.maps b a).length then [-7] else _) = if Fc01.MANY < (Fc01.maps b a).length then [-7] else _
    congr 1
    show _ = Fc01.ints (optK (Fc01.partner a b ((Fc01.maps a b).getD k [])))
    cases Fc01.partner a b ((Fc01.maps a b).getD k []) <;> rfl
  · rw [if_neg (by simpa using h), List.getElem?_eq_none (by omega)]
theorem ok_answer_nth (T : Txt K mg A) (B : Tbs base mg A) : FnOk P w K mg base CX0 11 A.f_answer_nth A.d_answer_nth ["pair", "numbers"] (spHand A mkNth) := by
  refine T.F_answer_nth.ok sc_answer_nth (fun vs H Q E h => ?_) (fun cdv Ar outer s H vs Q E hr h => ⟨_, (pss_one (ps_ret (pe_call (ok_answer_of_mappings T B) (hr.mono (by decide)) rfl T.g_answer_of_mappings T.F_answer_of_mappings.kp T.bd_answer_of_mappings .nil pass0 (pa_cons (pv 0) (pa_cons (pv 1) (pa_cons (pe_glob (v := .ref A.f_tell_mapping) rfl T.g_tell_mapping rfl) pa_nil)))))), ?_⟩)
  · obtain ⟨_, _, _, _, _, _, _, rfl, _⟩ := h
    rfl
  · obtain ⟨ap, an, st, fp, k, zs, call, rfl, hP, hk, hn, nan, hmk, hi, hT, kk⟩ := h
    obtain ⟨i, z, rfl, rfl⟩ : ∃ i z, zs = [i, z] ∧ call = .nth i z := by
      match zs, hmk with
      | [i, z], hmk => exact ⟨i, z, rfl, (Option.some.inj hmk).symm⟩
    rw [nth_is] at kk
    exact ⟨_, rfl, _, rfl, ap, an, A.f_tell_mapping, st, fp, k, i, 1, [z], gMap, rfl, tell_map A, hP, hk, hn, rfl, by decide, by decide, hi, hT, kk⟩
theorem ok_answer_changes (T : Txt K mg A) (B : Tbs base mg A) : FnOk P w K mg base CX0 11 A.f_answer_changes A.d_answer_changes ["pair", "numbers"] (spHand A mkChanges) := by
  refine T.F_answer_changes.ok sc_answer_changes (fun vs H Q E h => ?_) (fun cdv Ar outer s H vs Q E hr h => ⟨_, (pss_one (ps_ret (pe_call (ok_answer_of_mappings T B) (hr.mono (by decide)) rfl T.g_answer_of_mappings T.F_answer_of_mappings.kp T.bd_answer_of_mappings .nil pass0 (pa_cons (pv 0) (pa_cons (pv 1) (pa_cons (pe_glob (v := .ref A.f_tell_changes) rfl T.g_tell_changes rfl) pa_nil)))))), ?_⟩)
  · obtain ⟨_, _, _, _, _, _, _, rfl, _⟩ := h
    rfl
  · obtain ⟨ap, an, st, fp, k, zs, call, rfl, hP, hk, hn, nan, hmk, hi, hT, kk⟩ := h
    obtain ⟨i, z, y, rfl, rfl⟩ : ∃ i z y, zs = [i, z, y] ∧ call = .changes i z y := by
      match zs, hmk with
      | [i, z, y], hmk => exact ⟨i, z, y, rfl, (Option.some.inj hmk).symm⟩
    rw [changes_st] at kk
    exact ⟨_, rfl, _, rfl, ap, an, A.f_tell_changes, st, fp, k, i, 2, [z, y], gCh, rfl, tell_ch T, hP, hk, hn, rfl, by decide, by decide, hi, hT, kk⟩
theorem ok_answer_alike (T : Txt K mg A) (B : Tbs base mg A) : FnOk P w K mg base CX0 11 A.f_answer_alike A.d_answer_alike ["pair", "numbers"] (spHand A mkAlike) := by
  refine T.F_answer_alike.ok sc_answer_alike (fun vs H Q E h => ?_) (fun cdv Ar outer s H vs Q E hr h => ⟨_, (pss_one (ps_ret (pe_call (ok_answer_of_mappings T B) (hr.mono (by decide)) rfl T.g_answer_of_mappings T.F_answer_of_mappings.kp T.bd_answer_of_mappings .nil pass0 (pa_cons (pv 0) (pa_cons (pv 1) (pa_cons (pe_glob (v := .ref A.f_tell_alike) rfl T.g_tell_alike rfl) pa_nil)))))), ?_⟩)
  · obtain ⟨_, _, _, _, _, _, _, rfl, _⟩ := h
    rfl
  · obtain ⟨ap, an, st, fp, k, zs, call, rfl, hP, hk, hn, nan, hmk, hi, hT, kk⟩ := h
    obtain ⟨i, z, y, rfl, rfl⟩ : ∃ i z y, zs = [i, z, y] ∧ call = .alike i z y := by
      match zs, hmk with
      | [i, z, y], hmk => exact ⟨i, z, y, rfl, (Option.some.inj hmk).symm⟩
    rw [alike_st] at kk
    exact ⟨_, rfl, _, rfl, ap, an, A.f_tell_alike, st, fp, k, i, 2, [z, y], gAl, rfl, tell_al T, hP, hk, hn, rfl, by decide, by decide, hi, hT, kk⟩
theorem ok_answer_partner (T : Txt K mg A) (B : Tbs base mg A) : FnOk P w K mg base CX0 11 A.f_answer_partner A.d_answer_partner ["pair", "numbers"] (spHand A mkPartner) := by
  refine T.F_answer_partner.ok sc_answer_partner (fun vs H Q E h => ?_) (fun cdv Ar outer s H vs Q E hr h => ⟨_, (pss_one (ps_ret (pe_call (ok_answer_of_mappings T B) (hr.mono (by decide)) rfl T.g_answer_of_mappings T.F_answer_of_mappings.kp T.bd_answer_of_mappings .nil pass0 (pa_cons (pv 0) (pa_cons (pv 1) (pa_cons (pe_glob (v := .ref A.f_tell_partner) rfl T.g_tell_partner rfl) pa_nil)))))), ?_⟩)
  · obtain ⟨_, _, _, _, _, _, _, rfl, _⟩ := h
    rfl
  · obtain ⟨ap, an, st, fp, k, zs, call, rfl, hP, hk, hn, nan, hmk, hi, hT, kk⟩ := h
    obtain ⟨i, z, rfl, rfl⟩ : ∃ i z, zs = [i, z] ∧ call = .partner i z := by
      match zs, hmk with
      | [i, z], hmk => exact ⟨i, z, rfl, (Option.some.inj hmk).symm⟩
    rw [partner_st] at kk
    exact ⟨_, rfl, _, rfl, ap, an, A.f_tell_partner, st, fp, k, i, 1, [z], gPa, rfl, tell_pa T, hP, hk, hn, rfl, by decide, by decide, hi, hT, kk⟩
theorem ok_answer_swap (T : Txt K mg A) : FnOk P w K mg base CX0 1 A.f_answer_swap A.d_answer_swap ["pair", "numbers"] (spHand A mkSwap) := by
  refine T.F_answer_swap.ok sc_answer_swap (fun vs H Q E h => ?_) (fun cdv B outer s H vs Q E hr h => ⟨_, (pss_cons (ps_expr (pe_bm0 PySem.F.plainAttrs_list PySem.F.slot_list_reverse PySem.F.type_list_reverse mt_reverse (pv 0)))
    (pss_one (ps_ret (pe_lst (pa_cons pe_int pa_nil))))), ?_⟩)
  · obtain ⟨_, _, _, _, _, _, _, rfl, _⟩ := h
    rfl
  · obtain ⟨ap, an, st, fp, k, zs, call, rfl, hP, hk, hn, nan, hmk, hi, hT, kk⟩ := h
    obtain ⟨rfl, rfl⟩ : zs = [] ∧ call = .swap := by
      match zs, hmk with
      | [], hmk => exact ⟨rfl, (Option.some.inj hmk).symm⟩
    have kk := kk.old hT hP
    obtain ⟨l0, l1, rfl, hL⟩ := hP
    refine ⟨_, rfl, Or.inl ⟨rfl, _, sq_of hL.lst⟩, ap, _, rfl, rfl, hL.lst, ?_⟩
    obtain ⟨n1, n2⟩ := List.nodup_cons.mp hL.nd
    have hsub : ∀ b, b ∈ l1.fp ++ l0.fp → b ∈ l0.fp ++ l1.fp := fun b hb => by
      rcases List.mem_append.mp hb with z | z
      · exact List.mem_append_right _ z
      · exact List.mem_append_left _ z
    have ne : ∀ b, b ∈ l0.fp ++ l1.fp → upd H ap (.lst ([.ref l0.a, .ref l1.a] : List V).reverse) b = H b := fun b hb => upd_ne fun z => n1 (by rw [← z]; exact hb)
    have hN : PairL A.C (k + 1) (upd H ap (.lst ([.ref l0.a, .ref l1.a] : List V).reverse)) ap ⟨st.b, st.a⟩ l1 l0 := by
      refine ⟨List.nodup_cons.mpr ⟨fun z => n1 (hsub _ z), ?_⟩, upd_same, (hL.c1.more (Nat.le_succ k)).keep fun b hb => ne b (List.mem_append_right _ hb), (hL.c0.more (Nat.le_succ k)).keep fun b hb => ne b (List.mem_append_left _ hb)⟩
      obtain ⟨n3, n4, n5⟩ := List.nodup_append.mp n2
      exact List.nodup_append.mpr ⟨n4, n3, fun b hb b' hb' z => n5 b' hb' b hb z.symm⟩
    have fr : Fr H (upd H ap (.lst ([.ref l0.a, .ref l1.a] : List V).reverse)) (ap :: (l0.fp ++ l1.fp)) := fun b o q nb => by
      rw [upd_ne fun z => nb (by rw [z]; exact List.mem_cons_self ..)]
      exact q
    refine ret1 (σ := [some (.ref ap), some (.ref an)]) ev_c fun p H4 hp e4 h4 => kk H4 p _ ⟨l1, l0, rfl, hN.mono e4⟩ h4 (fun z => ?_) (fun b hb => Or.inl ?_) (fun b o q nb => e4 _ _ (fr b o q nb)) (fun b o q nb => ne_of_none (fr b o q nb) hp)
    · obtain ⟨o, ho⟩ := hN.known z
      rw [hp] at ho
      cases ho
    · rcases List.mem_cons.mp hb with rfl | hb
      · exact List.mem_cons_self ..
      · exact List.mem_cons_of_mem _ (hsub b hb)
end
end Arr
-- text S3
set_option Elab.async false
set_option linter.unusedVariables false
set_option maxRecDepth 100000
/-! # the list of calls: how it is cut, call by call -/
namespace Arr
open PyFc01 (shape)
def mkOf (q : Nat) (zs : List Nat) : Option Fc01.Call := match q, zs with
  | 0, [i, n] => some (.start i n)
  | 1, [i, x, y] => some (.arrow i x y)
  | 2, [i, f, g, h] => some (.make i f g h)
  | 3, [i] => some (.check i)
  | 4, [i, f] => some (.kinds i f)
  | 5, [i, x, y] => some (.hom i x y)
  | 6, [i] => some (.turn i)
  | 7, [i] => some (.last i)
  | 8, [i, x, y] => some (.product i x y)
  | 9, [i, f, g] => some (.pullback i f g)
  | 10, [i, f, g] => some (.equalizer i f g)
  | 11, [i] => some (.maps i)
  | 12, [i, k] => some (.nth i k)
  | 13, [i, k, l] => some (.changes i k l)
  | 14, [i, k, l] => some (.alike i k l)
  | 15, [i, k] => some (.partner i k)
  | 16, [] => some .swap
  | _, _ => none
def lens : List Nat := [2, 3, 4, 1, 2, 3, 1, 1, 3, 3, 3, 1, 2, 3, 3, 2, 0]
theorem whole_id (c : List (List Int)) : PyFc01.whole c = c := by
  unfold PyFc01.whole
  split <;> rfl
theorem map_whole (cs : List (List (List Int))) : cs.map PyFc01.whole = cs := by
  have : PyFc01.whole = id := funext whole_id
  rw [this, List.map_id]
theorem shape_nat : ∀ q : Nat, q ≤ 16 → shape (q : Int) = (lens[q]?).map fun n => (n, 0)
  | 0, _ => rfl
  | 1, _ => rfl
  | 2, _ => rfl
  | 3, _ => rfl
  | 4, _ => rfl
  | 5, _ => rfl
  | 6, _ => rfl
  | 7, _ => rfl
  | 8, _ => rfl
  | 9, _ => rfl
  | 10, _ => rfl
  | 11, _ => rfl
  | 12, _ => rfl
  | 13, _ => rfl
  | 14, _ => rfl
  | 15, _ => rfl
  | 16, _ => rfl
  | q + 17, h => by omega
theorem shape_out {p : Int} (h : ¬ (0 ≤ p ∧ p ≤ 16)) : shape p = none := by
  unfold shape
  repeat rw [if_neg (by omega)]
theorem shape_row {p : Int} {n k : Nat} (h : shape p = some (n, k)) : k = 0 ∧ ∃ q : Nat, p = (q : Int) ∧ q ≤ 16 ∧ lens[q]? = some n := by
  by_cases hp : 0 ≤ p ∧ p ≤ 16
  · obtain ⟨q, rfl⟩ : ∃ q : Nat, p = (q : Int) := ⟨p.toNat, by omega⟩
    rw [shape_nat q (by omega)] at h
    cases e : lens[q]? with
    | none =>
      rw [e] at h
      cases h
    | some u =>
      rw [e] at h
      cases h
      exact ⟨rfl, q, rfl, by omega, e⟩
  · rw [shape_out hp] at h
    cases h
theorem nat_ge {z : Int} (h : Fc01Neutral.nat z = true) : ∃ n : Nat, z = (n : Int) ∧ n < 4294967296 := by
  unfold Fc01Neutral.nat at h
  rw [Bool.and_eq_true, decide_eq_true_eq, decide_eq_true_eq] at h
  exact ⟨z.toNat, by omega, by omega⟩
theorem nats_ex : ∀ {l : List Int}, Fc01Neutral.nats l = true → ∃ zs : List Nat, l = zs.map fun (n : Nat) => (n : Int)
  | [], _ => ⟨[], rfl⟩
  | z :: l, h => by
    have h : (Fc01Neutral.nat z && Fc01Neutral.nats l) = true := h
    rw [Bool.and_eq_true] at h
    obtain ⟨n, rfl, _⟩ := nat_ge h.1
    obtain ⟨zs, rfl⟩ := nats_ex h.2
    exact ⟨n :: zs, rfl⟩
theorem nats_toNat : ∀ {l : List Int}, Fc01Neutral.nats l = true → l = (l.map Int.toNat).map fun (n : Nat) => (n : Int)
  | [], _ => rfl
  | z :: l, h => by
    have h : (Fc01Neutral.nat z && Fc01Neutral.nats l) = true := h
    rw [Bool.and_eq_true] at h
    obtain ⟨n, rfl, _⟩ := nat_ge h.1
    show (n : Int) :: l = ((n : Int).toNat : Int) :: ((l.map Int.toNat).map fun (n : Nat) => (n : Int))
    rw [← nats_toNat h.2]
    rfl
/-- a call's numbers -/
theorem callOf_ex {q : Nat} {args : List Int} {x : Fc01.Call} (h : Fc01Neutral.callOf ((q : Int) :: args) = some x) : ∃ zs : List Nat, args = zs.map (fun (n : Nat) => (n : Int)) ∧ mkOf q zs = some x := by
  unfold Fc01Neutral.callOf at h
  split at h
  all_goals (try (rename_i heq; obtain ⟨hq, ha⟩ := List.cons.inj heq; subst ha))
  all_goals (try (split at h; rotate_left; (cases h); rename_i hn; refine ⟨_, nats_toNat hn, ?_⟩))
  all_goals (try (cases h; done))
  all_goals (try (refine ⟨[], rfl, ?_⟩))
  all_goals first | ((have e : q = 0 := by omega); subst e; exact h) | ((have e : q = 1 := by omega); subst e; exact h) | ((have e : q = 2 := by omega); subst e; exact h) | ((have e : q = 3 := by omega); subst e; exact h) | ((have e : q = 4 := by omega); subst e; exact h) | ((have e : q = 5 := by omega); subst e; exact h) | ((have e : q = 6 := by omega); subst e; exact h) | ((have e : q = 7 := by omega); subst e; exact h) | ((have e : q = 8 := by omega); subst e; exact h) | ((have e : q = 9 := by omega); subst e; exact h) | ((have e : q = 10 := by omega); subst e; exact h) | ((have e : q = 11 := by omega); subst e; exact h) | ((have e : q = 12 := by omega); subst e; exact h) | ((have e : q = 13 := by omega); subst e; exact h) | ((have e : q = 14 := by omega); subst e; exact h) | ((have e : q = 15 := by omega); subst e; exact h) | ((have e : q = 16 := by omega); subst e; exact h)
/-- one call of the list -/
theorem call_cut {p : Int} {r : List Int} {c : List (List Int)} {t : List Int} (h : PyFlat.call shape (p :: r) = some (c, t)) : ∃ q n : Nat, p = (q : Int) ∧ q ≤ 16 ∧ lens[q]? = some n ∧ n ≤ r.length ∧ c = [p :: r.take n] ∧ t = r.drop n := by
  unfold PyFlat.call at h
  dsimp only at h
  cases e : shape p with
  | none =>
    rw [e] at h
    cases h
  | some nk =>
    obtain ⟨n, k⟩ := nk
    obtain ⟨rfl, q, hq, lq, hn⟩ := shape_row e
    rw [e] at h
    dsimp only at h
    by_cases l : r.length < n
    · rw [if_pos l] at h
      cases h
    · rw [if_neg l] at h
      have h : some ((p :: r.take n) :: [], r.drop n) = some (c, t) := h
      have h := Option.some.inj h
      exact ⟨q, n, hq, lq, hn, by omega, (congrArg Prod.fst h).symm, (congrArg Prod.snd h).symm⟩
/-- the first call, and the others -/
theorem calls_cons {f : Nat} {p : Int} {r : List Int} {raw : List (List (List Int))} (h : PyFlat.calls shape f (p :: r) = some raw) :
    ∃ f' q n raw', f = f' + 1 ∧ p = ((q : Nat) : Int) ∧ q ≤ 16 ∧ lens[q]? = some n ∧ n ≤ r.length ∧ raw = [p :: r.take n] :: raw' ∧ PyFlat.calls shape f' (r.drop n) = some raw' := by
  cases f with
  | zero =>
    unfold PyFlat.calls at h
    cases h
  | succ f' =>
    unfold PyFlat.calls at h
    cases e : PyFlat.call shape (p :: r) with
    | none =>
      rw [e] at h
      cases h
    | some ct =>
      obtain ⟨c, t⟩ := ct
      obtain ⟨q, n, hq, lq, hn, ln, rfl, rfl⟩ := call_cut e
      rw [e] at h
      dsimp only at h
      cases e2 : PyFlat.calls shape f' (r.drop n) with
      | none =>
        rw [e2] at h
        cases h
      | some cs =>
        rw [e2] at h
        exact ⟨f', q, n, cs, rfl, hq, lq, hn, ln, (Option.some.inj h).symm, e2⟩
/-- the specification's answers, played from a state -/
def play (s : Fc01.St) (raw : List (List (List Int))) : List Int := PyFlat.told (PyFlat.played (fun s c => Fc01Neutral.step s (c.headD [])) s raw)
theorem play_nil (s : Fc01.St) : play s [] = [] := rfl
theorem play_cons {s : Fc01.St} {c : List Int} {raw : List (List (List Int))} {x : Fc01.Call} (h : Fc01Neutral.callOf c = some x) : play s ([c] :: raw) = ((Fc01.step s x).2.length : Int) :: ((Fc01.step s x).2 ++ play (Fc01.step s x).1 raw) := by
  have e : Fc01Neutral.step s c = Fc01.step s x := by
    unfold Fc01Neutral.step
    rw [h]
  show PyFlat.told ((Fc01Neutral.step s c).2 :: PyFlat.played (fun s c => Fc01Neutral.step s (c.headD [])) (Fc01Neutral.step s c).1 raw) = _
  rw [e]
  rfl
/-- what is asked of a list of calls, and what is due -/
theorem asked_of {l : List Int} (h : PyFc01.answers_asked l = true) : ∃ raw, PyFlat.calls shape l.length l = some raw ∧ raw.length ≤ 40 ∧ (∀ c ∈ raw, (Fc01Neutral.callOf (c.headD [])).isSome = true) ∧ PyFc01.answers l = play Fc01.init raw ∧ (play Fc01.init raw).length ≤ 10000000 := by
  unfold PyFc01.answers_asked at h
  cases e : PyFlat.calls shape l.length l with
  | none =>
    rw [e] at h
    cases h
  | some raw =>
    rw [e] at h
    dsimp only at h
    rw [map_whole, Bool.and_eq_true, Bool.and_eq_true, Bool.and_eq_true, Bool.and_eq_true] at h
    obtain ⟨⟨⟨⟨_, h1⟩, _⟩, h2⟩, h3⟩ := h
    have ea : PyFc01.answers l = play Fc01.init raw := by
      unfold PyFc01.answers PyFc01.calls
      rw [e]
      dsimp only
      rw [map_whole]
      rfl
    refine ⟨raw, rfl, of_decide_eq_true h1, fun c hc => ?_, ea, ?_⟩
    · unfold Fc01Neutral.asked at h2
      rw [Bool.and_eq_true, List.all_eq_true] at h2
      exact h2.1 _ (List.mem_map.mpr ⟨c, hc, rfl⟩)
    · rw [← ea]
      exact of_decide_eq_true h3
end Arr
-- text B9
set_option Elab.async false
set_option linter.unusedVariables false
set_option maxRecDepth 100000
set_option maxHeartbeats 4000000
/-! # the list of calls -/
namespace Arr
open PySem PySem.Spec PyProof.Rows L2 Evl LamX NdefX
open Fc01 (from_ to_ after hom turned catAt withCat)
/-- one call -/
def spCall (A : Ads) : Sp := fun vs H Q _ => ∃ ap an s fp k q zs call, vs = [.ref ap, .int ((q : Nat) : Int), .ref an] ∧ PairAt A.C k H ap s fp ∧ k < 40 ∧ H an = some (.lst (natV zs)) ∧ ¬ an ∈ fp ∧ mkOf q zs = some call ∧ Tabs (tabs A) H ∧ KontT A H ap k fp (Fc01.step s call) Q
theorem KontT.mono {A : Ads} {H H1 : Hp} {ap : Addr} {k : Nat} {fp : List Addr} {r : Fc01.St × List Int} {Q : VK} (e : Ex H H1) (kk : KontT A H ap k fp r Q) : KontT A H1 ap k fp r Q := fun H' p fp' h1 h2 h3 h4 h5 h6 h7 =>
  kk H' p fp' h1 h2 h3 (fun b hb => by
    rcases h4 b hb with z | z
    · exact Or.inl z
    · exact Or.inr (fresh_back e z)) (fun b o q nb => h5 b o (strip_ex e b o q) nb) h6 (fun b o q nb => h7 b o (e b o q) nb)
theorem strip_none {H : Hp} {b : Addr} (h : H b = none) : strip H b = none := by
  unfold strip
  rw [h]
theorem sql_strip {K : PySem.W.Frag} {H : Hp} {a : Addr} {xs : List V} (h : SqL K H a xs) : SqL K (strip H) a xs := by
  rcases h with (h | ⟨o, h⟩) | h
  · exact Or.inl (Or.inl (strip_of h (fun _ z => by cases z)))
  · exact Or.inl (Or.inr ⟨o, strip_of h (fun _ z => by cases z)⟩)
  · exact Or.inr h
/-- all calls -/
def spAns (A : Ads) (K : PySem.W.Frag) : Sp := fun vs H Q _ => ∃ (a : Addr) (ns : List Int), vs = [.ref a] ∧ SqL K H a (intV ns) ∧ ns.length ≤ 240 ∧ PyFc01.answers_asked ns = true ∧ Tabs (tabs A) H ∧
  ∀ (H' : Hp) (p : Addr), H' p = some (.lst (intV (PyFc01.answers ns))) → Q (.ref p) H'
theorem cut_nat {xs : List V} {lo n : Nat} (h : lo + n ≤ xs.length) : cutV xs (some (lo : Int)) (some ((lo + n : Nat) : Int)) = (xs.drop lo).take n := by
  unfold cutV
  rw [HT.sIx_nat, HT.sIx_nat, Nat.min_eq_left (by omega), Nat.min_eq_left (by omega)]
  congr 1
  omega
theorem intV_nat (zs : List Nat) : intV (zs.map fun (n : Nat) => (n : Int)) = natV zs := by
  unfold intV natV
  rw [List.map_map]
  rfl
section
variable {P : Program} {w : World} {K : PySem.W.Frag} {mg : Str → Option Value} {base : Heap} {A : Ads} {σ : L2.St} {H : Hp} {ta tb td te tf tg tp ti : TE} {a : Addr} {c : Cat} {E : XK}
/-- C(n), as a part -/
theorem mk_run {C : Addr} {n : Nat} {Q : VK} (h : Ev ta σ H (.int (n : Int))) (hn : n ≤ 4)
    (k : ∀ H2 x dx ab ae at_, H x = none → H ab = none → H ae = none → H at_ = none → CatF C H2 x dx ab ae at_ (Fc01.begin_ n) [] → Ex H H2 → Q (.ref x) H2) : tMake C (spInit C) [] E (tCons ta tNil) σ H Q :=
  h H (Ex.refl H) _ fun H1 e1 => by
    intro x dxx nx ndx nex
    refine ⟨x, dxx, n, rfl, hn, upd_same, fun H2 ab2 ae2 at2 f1 f2 f3 F2 fr => ⟨rfl, ?_⟩⟩
    obtain ⟨_, f1⟩ := upd_nn f1
    obtain ⟨_, f1⟩ := upd_nn f1
    obtain ⟨_, f2⟩ := upd_nn f2
    obtain ⟨_, f2⟩ := upd_nn f2
    obtain ⟨_, f3⟩ := upd_nn f3
    obtain ⟨_, f3⟩ := upd_nn f3
    have e2 : Ex H1 H2 := fun b o e => fr b o (by rw [upd_ne (ne_of_none e nx), upd_ne (ne_of_none e ndx)]; exact e) (fun z => ne_of_none e nx (List.mem_singleton.mp z))
    exact k H2 x dxx ab2 ae2 at2 (fresh_back e1 nx) (fresh_back e1 f1) (fresh_back e1 f2) (fresh_back e1 f3) F2 (e1.trans e2)
/-- xs.append(e), up to the line -/
theorem q_appB {l : Addr} {xs : List V} {v : V} {D : Ends} {tz : TS} (hl : H l = some (.lst xs)) (ha : Ev ta σ H (.ref l)) (h : Ev te σ H v) (hz : xs.length < sizeLine) (k : ∀ H1, Ex H H1 → tz D σ (upd H1 l (.lst (xs ++ [v])))) :
    tSeq (tDrop (tBM K "list" rAppend ta (tCons te tNil))) tz D σ H := ha H (Ex.refl H) _ fun H1 e1 =>
  ⟨Or.inl ⟨rfl, xs, sq_of (e1 l _ hl)⟩, h H1 e1 _ fun H2 e2 => ⟨l, xs, v, rfl, rfl, e2 l _ (e1 l _ hl), hz, k H2 (e1.trans e2)⟩⟩
/-- xs.extend(ys) -/
theorem q_ext {l b : Addr} {xs ys : List V} {D : Ends} {tz : TS} (hl : H l = some (.lst xs)) (hb : H b = some (.lst ys)) (ha : Ev ta σ H (.ref l)) (h : Ev te σ H (.ref b)) (hz : xs.length + ys.length ≤ sizeLine) (k : ∀ H1, Ex H H1 → tz D σ (upd H1 l (.lst (xs ++ ys)))) :
    tSeq (tDrop (tBM K "list" rExtend ta (tCons te tNil))) tz D σ H := ha H (Ex.refl H) _ fun H1 e1 =>
  ⟨Or.inl ⟨rfl, xs, sq_of (e1 l _ hl)⟩, h H1 e1 _ fun H2 e2 => ⟨l, b, xs, ys, rfl, rfl, e2 l _ (e1 l _ hl), (e1.trans e2) b _ hb, hz, k H2 (e1.trans e2)⟩⟩
/-- x = [C(1), C(1)] -/
theorem q_pair {C : Addr} {i : Nat} {D : Ends} {tz : TS} (k : ∀ H2 ap l0 l1, H2 ap = some (.lst [.ref l0.a, .ref l1.a]) → PairL C 0 H2 ap Fc01.init l0 l1 → (∀ b ∈ ap :: (l0.fp ++ l1.fp), H b = none) → Ex H H2 → tz D (σ.set i (some (.ref ap))) H2) :
    tSeq (tAsg (tLst (tCons (tMake C (spInit C) [] E (tCons (tC (.int 1)) tNil)) (tCons (tMake C (spInit C) [] E (tCons (tC (.int 1)) tNil)) tNil))) (gName i)) tz D σ H := by
  have mk : ∀ (H : Hp) (Q : VK), (∀ H2 x dx ab ae at_, H x = none → H ab = none → H ae = none → H at_ = none → CatF C H2 x dx ab ae at_ (Fc01.begin_ 1) [] → Ex H H2 → Q (.ref x) H2) → tMake C (spInit C) [] E (tCons (tC (.int 1)) tNil) σ H Q :=
    fun H Q k => mk_run (n := 1) ev_c (by decide) k
  generalize tMake C (spInit C) [] E (tCons (tC (.int 1)) tNil) = te at mk ⊢
  refine mk H _ fun H1 x0 dx0 ab0 ae0 at0 n1 n2 n3 n4 F0 e1 => ?_
  refine mk H1 _ fun H2 x1 dx1 ab1 ae1 at1 n5 n6 n7 n8 F1 e2 => ?_
  refine ⟨by show 2 ≤ sizeLine; decide, fun ap hap => ?_⟩
  have c0 : CatL C 0 (upd H2 ap (.lst [.ref x0, .ref x1])) ⟨x0, dx0, ab0, ae0, at0, []⟩ (Fc01.begin_ 1) := ⟨F0.mono (e2.trans (Ex.new hap)), mok_begin (by decide) (by decide)⟩
  have c1 : CatL C 0 (upd H2 ap (.lst [.ref x0, .ref x1])) ⟨x1, dx1, ab1, ae1, at1, []⟩ (Fc01.begin_ 1) := ⟨F1.mono (Ex.new hap), mok_begin (by decide) (by decide)⟩
  have nd : (ap :: ((⟨x0, dx0, ab0, ae0, at0, []⟩ : Loc).fp ++ (⟨x1, dx1, ab1, ae1, at1, []⟩ : Loc).fp)).Nodup := by
    have f0 : ∀ b ∈ (⟨x0, dx0, ab0, ae0, at0, []⟩ : Loc).fp, ∃ o, H1 b = some o := fun b hb => CatL.known (k := 0) ⟨F0, mok_begin (by decide) (by decide)⟩ hb
    have f1 : ∀ b ∈ (⟨x1, dx1, ab1, ae1, at1, []⟩ : Loc).fp, ∃ o, H2 b = some o := fun b hb => CatL.known (k := 0) ⟨F1, mok_begin (by decide) (by decide)⟩ hb
    have g1 : ∀ b ∈ (⟨x1, dx1, ab1, ae1, at1, []⟩ : Loc).fp, H1 b = none := by simp [Loc.fp, n5, n6, n7, n8]
    refine List.nodup_cons.mpr ⟨fun z => ?_, List.nodup_append.mpr ⟨nodup4 c0, nodup4 c1, fun b hb b' hb' z => ?_⟩⟩
    · rcases List.mem_append.mp z with z | z
      · obtain ⟨o, ho⟩ := f0 _ z
        rw [e2 _ _ ho] at hap
        cases hap
      · obtain ⟨o, ho⟩ := f1 _ z
        rw [ho] at hap
        cases hap
    · obtain ⟨o, ho⟩ := f0 _ hb
      rw [z, g1 _ hb'] at ho
      cases ho
  refine k _ ap ⟨x0, dx0, ab0, ae0, at0, []⟩ ⟨x1, dx1, ab1, ae1, at1, []⟩ upd_same ⟨nd, upd_same, c0, c1⟩ (fun b hb => ?_) ((e1.trans e2).trans (Ex.new hap))
  rcases List.mem_cons.mp hb with rfl | hb
  · exact fresh_back (e1.trans e2) hap
  · simp only [Loc.fp, List.mem_append, List.mem_cons, List.not_mem_nil, or_false] at hb
    rcases hb with (rfl | rfl | rfl | rfl) | (rfl | rfl | rfl | rfl)
    · exact n1
    · exact n2
    · exact n3
    · exact n4
    · exact fresh_back e1 n5
    · exact fresh_back e1 n6
    · exact fresh_back e1 n7
    · exact fresh_back e1 n8
/-- x = f(p, q, a new list) -/
theorem q_call3 {sp : Sp} {v1 v2 : V} {xs : List V} {i : Nat} {D : Ends} {tz : TS} (h1 : Ev ta σ H v1) (h2 : Ev tb σ H v2) (h3 : EvL td σ H xs) (k : ∀ p H1, H p = none → Ex H H1 → H1 p = some (.lst xs) → sp [v1, v2, .ref p] H1 (fun v H2 => tz D (σ.set i (some v)) H2) E) :
    tSeq (tAsg (tCall sp [] E (tCons ta (tCons tb (tCons td tNil)))) (gName i)) tz D σ H :=
  h1 H (Ex.refl H) _ fun H1 e1 => h2 H1 e1 _ fun H2 e2 => h3 H2 (e1.trans e2) _ fun p H3 hp e3 hx => k p H3 (fresh_back (e1.trans e2) hp) ((e1.trans e2).trans e3) hx
theorem PairAt.upd {C : Addr} {k : Nat} {ap ag : Addr} {s : Fc01.St} {fp : List Addr} {o : HO} (h : PairAt C k H ap s fp) (n : ¬ ag ∈ fp) : PairAt C k (L2.upd H ag o) ap s fp := by
  obtain ⟨l0, l1, rfl, hL⟩ := h
  have ne : ∀ b ∈ ap :: (l0.fp ++ l1.fp), L2.upd H ag o b = H b := fun b hb => upd_ne fun z => n (by rw [← z]; exact hb)
  exact ⟨l0, l1, rfl, hL.nd, by rw [ne _ (List.mem_cons_self ..)]; exact hL.lst, hL.c0.keep fun b hb => ne b (List.mem_cons_of_mem _ (List.mem_append_left _ hb)), hL.c1.keep fun b hb => ne b (List.mem_cons_of_mem _ (List.mem_append_right _ hb))⟩
theorem PairAt.mono {C : Addr} {k : Nat} {H' : Hp} {ap : Addr} {s : Fc01.St} {fp : List Addr} (e : Ex H H') (h : PairAt C k H ap s fp) : PairAt C k H' ap s fp := by
  obtain ⟨l0, l1, rfl, hL⟩ := h
  exact ⟨l0, l1, rfl, hL.mono e⟩
/-- what holds between two calls -/
structure Wl (A : Ads) (H0 : Hp) (a ap ag : Addr) (ns : List Int) (m : Nat) (σ : L2.St) (H : Hp) : Prop where
  ex : ∃ (at_ j f : Nat) (s : Fc01.St) (fp : List Addr) (out : List Int) (raw : List (List (List Int))) (v1 v2 v3 : Option V), σ = [some (.ref a), some (.ref ap), some (.ref ag), some (.int (at_ : Int)), v1, v2, v3] ∧
    PairAt A.C j H ap s fp ∧ (∀ b ∈ fp, strip H0 b = none) ∧ ¬ ag ∈ fp ∧ H0 ag = none ∧ H ag = some (.lst (intV out)) ∧ Ex (strip H0) H ∧ Tabs (tabs A) H ∧ at_ ≤ ns.length ∧ PyFlat.calls PyFc01.shape f (ns.drop at_) = some raw ∧ (∀ c ∈ raw, (Fc01Neutral.callOf (c.headD [])).isSome = true) ∧
    out ++ play s raw = PyFc01.answers ns ∧ (PyFc01.answers ns).length ≤ 10000000 ∧ j + raw.length ≤ 40 ∧ m = raw.length
theorem intV_len (l : List Int) : (intV l).length = l.length := by unfold intV; rw [List.length_map]
theorem intV_app (l r : List Int) : intV (l ++ r) = intV l ++ intV r := by unfold intV; rw [List.map_append]
theorem intV_at {l : List Int} {i : Nat} {z : Int} (h : l[i]? = some z) : (intV l)[i]? = some (.int z) := by unfold intV; rw [List.getElem?_map, h]; rfl
theorem ev_neNilN {p : Addr} {l : List Nat} (h : Ev ta σ H (.ref p)) (hB : H p = some (.lst (natV l))) : Ev (tOp (rNeD K) ta (tLst tNil)) σ H (.bl (!decide (l = []))) :=
  ev_opL (xs := []) h (el_lst ea_nil (by show 0 ≤ 100000; decide)) fun q H1 hq e1 => rv_neNats (r := []) (e1 _ _ hB) hq
theorem len_row {q n : Nat} (h : lens[q]? = some n) : ([.int 2, .int 3, .int 4, .int 1, .int 2, .int 3, .int 1, .int 1, .int 3, .int 3, .int 3, .int 1, .int 2, .int 3, .int 3, .int 2, .int 0] : List V)[q]? = some (.int (n : Int)) := by
  have e : ([.int 2, .int 3, .int 4, .int 1, .int 2, .int 3, .int 1, .int 1, .int 3, .int 3, .int 3, .int 1, .int 2, .int 3, .int 3, .int 2, .int 0] : List V) = lens.map fun (n : Nat) => V.int (n : Int) := rfl
  rw [e, List.getElem?_map, h]
  rfl
theorem held_one {f : Addr} {sp : Sp} {k : Nat} (h : Held P w K mg base k f sp) : ∀ f' sp', (fun g => if g = f then some sp else none) f' = some sp' → Held P w K mg base k f' sp' := fun f' sp' e => by
  have e : (if f' = f then some sp else none) = some sp' := e
  split at e
  · next q =>
    cases e
    rw [q]
    exact h
  · cases e
theorem row_of (T : Txt K mg A) (B : Tbs base mg A) {q : Nat} {zs : List Nat} {call : Fc01.Call} (h : mkOf q zs = some call) : ∃ f mk, ([.ref A.f_answer_start, .ref A.f_answer_arrow, .ref A.f_answer_make, .ref A.f_answer_check, .ref A.f_answer_kinds, .ref A.f_answer_hom, .ref A.f_answer_turn, .ref A.f_answer_last, .ref A.f_answer_product, .ref A.f_answer_pullback, .ref A.f_answer_equalizer, .ref A.f_answer_maps, .ref A.f_answer_nth, .ref A.f_answer_changes, .ref A.f_answer_alike, .ref A.f_answer_partner, .ref A.f_answer_swap] : List V)[q]? = some (.ref f) ∧ Held P w K mg base 11 f (spHand A mk) ∧ mk zs = some call := by
  unfold mkOf at h
  split at h
  · exact ⟨_, mkStart, rfl, ⟨_, _, (ok_answer_start T).mono (by decide), T.F_answer_start.kp, T.bd_answer_start⟩, h⟩
  · exact ⟨_, mkArrow, rfl, ⟨_, _, (ok_answer_arrow T).mono (by decide), T.F_answer_arrow.kp, T.bd_answer_arrow⟩, h⟩
  · exact ⟨_, mkMake, rfl, ⟨_, _, (ok_answer_make T).mono (by decide), T.F_answer_make.kp, T.bd_answer_make⟩, h⟩
  · exact ⟨_, mkCheck, rfl, ⟨_, _, (ok_answer_check T).mono (by decide), T.F_answer_check.kp, T.bd_answer_check⟩, h⟩
  · exact ⟨_, mkKinds, rfl, ⟨_, _, (ok_answer_kinds T).mono (by decide), T.F_answer_kinds.kp, T.bd_answer_kinds⟩, h⟩
  · exact ⟨_, mkHom, rfl, ⟨_, _, (ok_answer_hom T).mono (by decide), T.F_answer_hom.kp, T.bd_answer_hom⟩, h⟩
  · exact ⟨_, mkTurn, rfl, ⟨_, _, (ok_answer_turn T).mono (by decide), T.F_answer_turn.kp, T.bd_answer_turn⟩, h⟩
  · exact ⟨_, mkLast, rfl, ⟨_, _, (ok_answer_last T).mono (by decide), T.F_answer_last.kp, T.bd_answer_last⟩, h⟩
  · exact ⟨_, mkProduct, rfl, ⟨_, _, (ok_answer_product T B).mono (by decide), T.F_answer_product.kp, T.bd_answer_product⟩, h⟩
  · exact ⟨_, mkPullback, rfl, ⟨_, _, (ok_answer_pullback T B).mono (by decide), T.F_answer_pullback.kp, T.bd_answer_pullback⟩, h⟩
  · exact ⟨_, mkEqualizer, rfl, ⟨_, _, (ok_answer_equalizer T).mono (by decide), T.F_answer_equalizer.kp, T.bd_answer_equalizer⟩, h⟩
  · exact ⟨_, mkMaps, rfl, ⟨_, _, (ok_answer_maps T B).mono (by decide), T.F_answer_maps.kp, T.bd_answer_maps⟩, h⟩
  · exact ⟨_, mkNth, rfl, ⟨_, _, (ok_answer_nth T B).mono (by decide), T.F_answer_nth.kp, T.bd_answer_nth⟩, h⟩
  · exact ⟨_, mkChanges, rfl, ⟨_, _, (ok_answer_changes T B).mono (by decide), T.F_answer_changes.kp, T.bd_answer_changes⟩, h⟩
  · exact ⟨_, mkAlike, rfl, ⟨_, _, (ok_answer_alike T B).mono (by decide), T.F_answer_alike.kp, T.bd_answer_alike⟩, h⟩
  · exact ⟨_, mkPartner, rfl, ⟨_, _, (ok_answer_partner T B).mono (by decide), T.F_answer_partner.kp, T.bd_answer_partner⟩, h⟩
  · exact ⟨_, mkSwap, rfl, ⟨_, _, (ok_answer_swap T).mono (by decide), T.F_answer_swap.kp, T.bd_answer_swap⟩, h⟩
  · cases h
theorem step_far {s : Fc01.St} {q : Nat} {zs : List Nat} {call : Fc01.Call} (h : mkOf q zs = some call) (hz : 1 < zs.headD 0) : Fc01.step s call = (s, [-2]) := by
  unfold mkOf at h
  split at h
  · cases h
    exact if_pos hz
  · cases h
    exact if_pos hz
  · cases h
    exact if_pos hz
  · cases h
    exact congrArg (Prod.mk s) (if_pos hz)
  · cases h
    exact congrArg (Prod.mk s) (if_pos hz)
  · cases h
    exact congrArg (Prod.mk s) (if_pos hz)
  · cases h
    exact if_pos hz
  · cases h
    exact congrArg (Prod.mk s) (if_pos hz)
  · cases h
    exact congrArg (Prod.mk s) (if_pos hz)
  · cases h
    exact congrArg (Prod.mk s) (if_pos hz)
  · cases h
    exact congrArg (Prod.mk s) (if_pos hz)
  · cases h
    exact congrArg (Prod.mk s) (if_pos hz)
  · cases h
    exact congrArg (Prod.mk s) (if_pos hz)
  · cases h
    exact congrArg (Prod.mk s) (if_pos hz)
  · cases h
    exact congrArg (Prod.mk s) (if_pos hz)
  · cases h
    exact congrArg (Prod.mk s) (if_pos hz)
  · simp at hz
  · cases h
theorem ok_answer_call (T : Txt K mg A) (B : Tbs base mg A) : FnOk P w K mg base CX0 12 A.f_answer_call A.d_answer_call ["pair", "call", "numbers"] (spCall A) := by
  refine T.F_answer_call.ok sc_answer_call (fun vs H Q E h => ?_) (fun cdv Ar outer s H vs Q E hr h => ?_)
  · obtain ⟨_, _, _, _, _, _, _, _, rfl, _⟩ := h
    rfl
  · obtain ⟨ap, an, st, fp, k, q, zs, call, rfl, hP, hk, hn, nan, hmk, hT, kk⟩ := h
    obtain ⟨f, mk, hrow, hH, hmk2⟩ := row_of (P := P) (w := w) T B hmk
    have held : Txt K mg A → Tbs base mg A → ∀ f' sp', (fun g => if g = f then some (spHand A mk) else none) f' = some sp' → Held P w K mg base 11 f' sp' := fun _ _ => held_one hH
    refine ⟨_, (pss_cons (ps_if (PW.pt (pw_and (pt_cmpR (neDK (K := K) rfl hr.units) (pv 2) (pe_lst pa_nil) (nomark _)) (pw_and1 (pt_cmpR op_gt (pe_ix (ixListK (K := K) rfl) (pv 2) pe_int (fun _ _ => rfl)) pe_int (nomark _))))) (pss_one (ps_ret (pe_lst (pa_cons (pe_glob (v := .int (-2)) rfl T.c_NO_SUCH_NUMBER.choose_spec ⟨_, rfl⟩) pa_nil)))) pss_nil)
    (pss_cons (ps_set (i := 3) sc_answer_call.nd rfl (Or.inl rfl) (pe_ix (ixTupK (K := K) rfl) (pe_glob (v := .ref A.a_ANSWERS) rfl T.c_ANSWERS rfl) (pv 1) (fun _ _ => rfl)))
    (pss_one (ps_ret (pe_callA (i := 3) (held T B) (hr.mono (by decide)) rfl (Or.inl rfl) (pa_cons (pv 0) (pa_cons (pv 2) pa_nil))))))), ?_⟩
    have kk1 := kk.old hT hP
    have tst : EvT (tAnd (tTest (tOp (rNeD K) (tVar 2) (tLst tNil))) (tTest (tOp (rI0 fun i j => .bl (decide (i > j))) (tOp (rIxL K) (tVar 2) (tC (.int 0))) (tC (.int 1))))) [some (.ref ap), some (.int (q : Int)), some (.ref an), none] H (!decide (zs = []) && decide (1 < zs.headD 0)) := by
      refine et_and (et_test (ev_neNilN (ev_var rfl) hn)) fun z => ?_
      cases zs with
      | nil => cases z
      | cons x r => exact et_test (ev_is (ev_op (ev_num (j := 0) (ev_var rfl) hn rfl) ev_c rv_I0) (by
          show V.bl (decide ((x : Int) > 1)) = V.bl (decide (1 < x))
          congr 1
          exact decide_eq_decide.mpr (by omega)))
    refine q_when tst (fun b H1 e1 => ?_) (fun b H1 e1 => ?_)
    · rw [Bool.and_eq_true, decide_eq_true_eq] at b
      rw [step_far hmk b.2] at kk1
      exact ret1 ev_c fun p H6 hp e6 h6 => kk1.pure hP rfl (e1.trans e6) (fresh_back e1 hp) h6
    · have hle : zs.headD 0 ≤ 1 := by
        cases zs with
        | nil => exact Nat.zero_le _
        | cons x r =>
          have b : decide (1 < x) = false := b
          rw [decide_eq_false_iff_not] at b
          show x ≤ 1
          omega
      refine q_asg (ev_op ev_c (ev_var rfl) (rv_ixT (T.s_ANSWERS _) (atI_nat hrow))) fun H2 e2 => ?_
      have e2 := e1.trans e2
      obtain ⟨l0, l1, rfl, hL⟩ := hP
      exact ⟨f, spHand A mk, rfl, if_pos rfl, _, rfl, _, rfl, ap, an, st, _, k, zs, call, rfl, ⟨l0, l1, rfl, hL.mono e2⟩, hk, e2 _ _ hn, nan, hmk2, hle, hT.ext e2, kk.mono e2⟩
theorem ok_answers (T : Txt K mg A) (B : Tbs base mg A) : FnOk P w K mg base CX0 13 A.f_answers A.d_answers ["calls"] (spAns A K) := by
  refine T.F_answers.ok sc_answers (fun vs H Q E h => ?_) (fun cdv Ar outer s H vs Q E hr h => ⟨_, (pss_cons (ps_set (i := 1) sc_answers.nd rfl (Or.inl rfl) (pe_lst (pa_cons (pe_make T.mkC (ok___init__ T) (hr.mono (by decide)) rfl T.gC T.bd___init__ .nil pass0 (pa_cons pe_int pa_nil)) (pa_cons (pe_make T.mkC (ok___init__ T) (hr.mono (by decide)) rfl T.gC T.bd___init__ .nil pass0 (pa_cons pe_int pa_nil)) pa_nil))))
    (pss_cons (ps_set (i := 2) sc_answers.nd rfl (Or.inl rfl) (pe_lst pa_nil))
    (pss_cons (ps_set (i := 3) sc_answers.nd rfl (Or.inl rfl) pe_int)
    (pss_cons (ps_while PassesOwn.never (pt_cmpR op_lt (pv 3) (pe_callB (lenK (K := K) rfl) (by rfl) T.b_len PySem.boot_len (pa_cons (pv 0) pa_nil)) (nomark _)) (pss_cons (ps_set (i := 4) sc_answers.nd rfl (Or.inl rfl) (pe_ix (ixListK (K := K) rfl) (pv 0) (pv 3) (fun _ _ => rfl)))
    (pss_cons (ps_set (i := 5) sc_answers.nd rfl (Or.inl rfl) (pe_op op_add (pe_op op_add (pv 3) pe_int) (pe_ix (ixTupK (K := K) rfl) (pe_glob (v := .ref A.a_LENGTHS) rfl T.c_LENGTHS rfl) (pv 4) (fun _ _ => rfl))))
    (pss_cons (ps_set (i := 6) sc_answers.nd rfl (Or.inl rfl) (pe_call (ok_answer_call T B) (hr.mono (by decide)) rfl T.g_answer_call T.F_answer_call.kp T.bd_answer_call .nil pass0 (pa_cons (pv 1) (pa_cons (pv 4) (pa_cons (pe_slice (slListK (K := K) rfl) (pv 0) (po_some (pe_op op_add (pv 3) pe_int)) (po_some (pv 5))) pa_nil)))))
    (pss_cons (ps_expr (pe_bm PySem.F.plainAttrs_list PySem.F.slot_list_append PySem.F.type_list_append mt_append (pv 2) (pa_cons (pe_callB (lenK (K := K) rfl) (by rfl) T.b_len PySem.boot_len (pa_cons (pv 6) pa_nil)) pa_nil)))
    (pss_cons (ps_expr (pe_bm PySem.F.plainAttrs_list PySem.F.slot_list_extend PySem.F.type_list_extend mt_extend (pv 2) (pa_cons (pv 6) pa_nil)))
    (pss_one (ps_set (i := 3) sc_answers.nd rfl (Or.inl rfl) (pv 5)))))))))
    (pss_one (ps_ret (pv 2))))))), ?_⟩)
  · obtain ⟨_, _, rfl, _⟩ := h
    rfl
  · obtain ⟨a, ns, rfl, hS, hlen, hask, hT, kk⟩ := h
    obtain ⟨raw0, hp0, hl0, ha0, hans, hbig⟩ := asked_of hask
    have slen : sizeLine = 16777216 := rfl
    refine q_pair fun H1 ap l0 l1 _ hL hfree e1 => ?_
    refine q_asgL (el_lst ea_nil (by show 0 ≤ 100000; decide)) fun ag H2 hag e2 hg => ?_
    refine q_asg ev_c fun H3 e3 => ?_
    have start : Wl A H a ap ag ns raw0.length [some (.ref a), some (.ref ap), some (.ref ag), some (.int ((0 : Nat) : Int)), none, none, none] H3 := by
      refine ⟨0, 0, ns.length, Fc01.init, _, [], raw0, none, none, none, rfl, ⟨l0, l1, rfl, hL.mono (e2.trans e3)⟩, fun b hb => strip_none (hfree b hb), fun z => ?_, fresh_back e1 hag, e3 _ _ hg, Ex.N ((e1.trans e2).trans e3), hT.ext ((e1.trans e2).trans e3), Nat.zero_le _, hp0, ha0, ?_, ?_, by omega, rfl⟩
      · obtain ⟨o, ho⟩ := hL.known z
        rw [hag] at ho
        cases ho
      · rw [hans]
        rfl
      · rw [hans]
        exact hbig
    refine q_while (Wl A H a ap ag ns) raw0.length start fun m σ' H' W => ?_
    obtain ⟨at_, j, f, st, fp, out, raw, v1, v2, v3, rfl, hP, hfp, nag, ag0, hout, ex, tW, lat, hc, hask2, htot, hbig2, hj, rfl⟩ := W
    have hS' := ex_l ex (sql_strip hS)
    refine ⟨decide ((at_ : Int) < ((intV ns).length : Int)), et_test (ev_op (ev_var rfl) (ev_len (ev_var rfl) hS') rv_I0), fun b H4 e4 => ?_, fun b H4 e4 => ?_⟩
    · -- one call
      have lt : at_ < ns.length := by
        rw [decide_eq_true_eq, intV_len] at b
        omega
      obtain ⟨p, hp⟩ : ∃ p, ns[at_]? = some p := ⟨ns[at_], List.getElem?_eq_getElem lt⟩
      have hd : ns.drop at_ = p :: ns.drop (at_ + 1) := by
        rw [List.drop_eq_getElem_cons lt]
        congr 1
        rw [List.getElem?_eq_getElem lt] at hp
        exact Option.some.inj hp
      rw [hd] at hc
      obtain ⟨f', q, n, raw', rfl, rfl, lq, hn, ln, rfl, hc'⟩ := calls_cons hc
      have hco := hask2 _ (List.mem_cons_self ..)
      obtain ⟨call, hcall⟩ := Option.isSome_iff_exists.mp hco
      have hcall : Fc01Neutral.callOf ((q : Int) :: (ns.drop (at_ + 1)).take n) = some call := hcall
      obtain ⟨zs, hzs, hmk⟩ := callOf_ex hcall
      have hpl : play st ([(q : Int) :: (ns.drop (at_ + 1)).take n] :: raw') = _ := play_cons hcall
      rw [List.length_drop] at ln
      refine ⟨fun σ2 H2 => ∃ m', m' < raw'.length + 1 ∧ Wl A H a ap ag ns m' σ2 H2, fun σ2 H2 z => z, ?_⟩
      refine q_asg (ev_op (ev_var rfl) (ev_var rfl) (rv_ixL (ex_l e4 hS') (atI_nat (intV_at hp)))) fun H5 e5 => ?_
      have e5 := e4.trans e5
      refine q_asg (v := .int (((at_ + 1 + n : Nat) : Nat) : Int)) (ev_is (ev_op (ev_op (ev_var rfl) ev_c rv_I0) (ev_op ev_c (ev_var rfl) (rv_ixT (T.s_LENGTHS _) (atI_nat (j := q) (v := .int (n : Int)) ?_))) rv_I0) ?_) fun H6 e6 => ?_
      · exact len_row hn
      · show V.int ((at_ : Int) + 1 + (n : Int)) = _
        congr 1
      have e6 := e5.trans e6
      refine q_call3 (ev_var rfl) (ev_var rfl) (el_sl (K := K) (ev_var rfl) (eo_some (i := ((at_ + 1 : Nat) : Int)) (ev_is (ev_op (ev_var rfl) ev_c rv_I0) rfl)) (eo_some (ev_var rfl)) (ex_l e6 hS')) fun an H7 han e7 h7 => ?_
      rw [cut_nat (by rw [intV_len]; omega)] at h7
      have h7 : H7 an = some (.lst (natV zs)) := by
        rw [h7, ← intV_nat, ← hzs]
        unfold intV
        rw [List.map_take, List.map_drop]
      have e7 := e6.trans e7
      obtain ⟨l0', l1', rfl, hL'⟩ := hP
      refine ⟨ap, an, st, _, j, q, zs, call, rfl, ⟨l0', l1', rfl, hL'.mono e7⟩, by simp at hj; omega, h7, fun z => ?_, hmk, tW.ext e7, ?_⟩
      · obtain ⟨o, ho⟩ := (hL'.mono e6).known z
        rw [han] at ho
        cases ho
      intro H8 p8 fp8 hP8 hr8 np8 hf8 fr8 t8 fresh8
      have hag7 := e7 _ _ hout
      have nag8 : ag ≠ p8 := fresh8 _ _ hag7 nag
      have hout8 : H8 ag = some (.lst (intV out)) := fr8 _ _ (strip_of hag7 (fun _ z => by cases z)) nag
      have ex7 : Ex (strip H) H7 := ex.trans e7
      have ex8 : Ex (strip H) H8 := fun b o hb => fr8 _ _ (strip_of (ex7 _ _ hb) (strip_some hb).2) fun z => by
        rw [hfp b z] at hb
        cases hb
      have ag0' : strip H ag = none := by
        cases z : strip H ag with
        | none => rfl
        | some o =>
          have := (strip_some z).1
          rw [ag0] at this
          cases this
      have tot : out ++ (((Fc01.step st call).2.length : Int) :: ((Fc01.step st call).2 ++ play (Fc01.step st call).1 raw')) = PyFc01.answers ns := by
        rw [← hpl]
        exact htot
      have sz : out.length + 1 + (Fc01.step st call).2.length ≤ 10000000 := by
        have := congrArg List.length tot
        simp only [List.length_append, List.length_cons] at this
        omega
      refine q_appB (K := K) hout8 (ev_var rfl) (ev_len (ev_var rfl) (sq_of hr8)) (by rw [intV_len]; omega) fun H9 e9 => ?_
      refine q_ext (K := K) (b := p8) upd_same ((upd_ne nag8.symm).trans (e9 _ _ hr8)) (ev_var rfl) (ev_var rfl) (by rw [List.length_append, intV_len, intV_len]; show out.length + 1 + _ ≤ sizeLine; omega) fun H10 e10 => ?_
      refine s_asg (ev_var rfl) fun H11 e11 => ⟨raw'.length, by omega, ?_⟩
      have nag9 : ¬ ag ∈ fp8 := fun z => by
        rcases hf8 _ z with z | z
        · exact nag z
        · rw [hag7] at z
          cases z
      refine ⟨at_ + 1 + n, j + 1, f', (Fc01.step st call).1, fp8, out ++ (((Fc01.step st call).2.length : Int) :: (Fc01.step st call).2), raw', _, _, _, rfl, ((((hP8.mono e9).upd nag9).mono e10).upd nag9).mono e11, fun b hb => ?_, nag9, ag0, ?_, ?_, ?_, by omega, ?_, fun c hc => hask2 c (List.mem_cons_of_mem _ hc), ?_, hbig2, ?_, rfl⟩
      · rcases hf8 b hb with z | z
        · exact hfp b z
        · exact fresh_back ex7 z
      · refine e11 _ _ (upd_same.trans ?_)
        rw [intV_app, List.append_assoc, intV_len]
        rfl
      · exact ((Ex.mut ((Ex.mut (ex8.trans e9) ag0').trans e10) ag0').trans e11)
      · exact ((tabs_upd ((tabs_upd (t8.ext e9) (e9 _ _ hout8)).ext e10) (e10 _ _ upd_same)).ext e11)
      · rw [List.drop_drop] at hc'
        exact hc'
      · rw [← tot]
        simp
      · simp only [List.length_cons] at hj
        omega
    · -- the end
      have lt : at_ = ns.length := by
        rw [decide_eq_false_iff_not, intV_len] at b
        omega
      rw [lt, List.drop_length] at hc
      have hr : raw = [] := by
        unfold PyFlat.calls at hc
        cases f <;> exact (Option.some.inj hc).symm
      rw [hr, play_nil, List.append_nil] at htot
      exact s_ret (ev_var rfl) fun H5 e5 => kk H5 ag (by rw [← htot]; exact (e4.trans e5) _ _ hout)
end
end Arr
-- text Z0
set_option Elab.async false
set_option linter.unusedVariables false
set_option maxRecDepth 100000
set_option maxHeartbeats 4000000
/-! # the end, where the program keeps tables of code objects -/
namespace Arr
open PySem PySem.Spec PyProof.Rows L2 Evl LamX NdefX
open PySem.W (WData Codec OpenSpec WellAll ReadsW CodeHd Frag)
theorem tabIn_mk {K : Frag} {x : Str} {f c P : Addr} {oc oc2 : Value} {od od2 : Option Addr} {fd : FuncData} {sl sl2 : Array (Option Value)} {vs : Array Value} (h1 : PySem.W.nsIn K mainGlobals x = some (some (.ref f))) (h2 : K.lookup f = some ⟨oc, od, .func fd, sl⟩) (h3 : fd.code = .ref c)
    (h4 : K.lookup c = some ⟨oc2, od2, .fields vs, sl2⟩) (h5 : vs[11]? = some (.ref P)) : PySem.W.tabIn K x = some (c, P) := by
  unfold PySem.W.tabIn
  rw [h1]
  dsimp only
  rw [h2]
  dsimp only
  rw [h3]
  dsimp only
  rw [h4]
  dsimp only
  rw [h5]
abbrev emptyTab : Obj := { cls := .none, data := .fields #[] }
/-- where the tables lie -/
def spots (tbs : List (Addr × Addr)) : List Addr := tbs.map (·.2)
/-- the tables, as the top has left them: empty, unwritten in K, each of its code object -/
structure Laid (K : Frag) (hp : Heap) (tbs : List (Addr × Addr)) : Prop where
  empty : ∀ t ∈ tbs, hp.get? t.2 = some emptyTab
  off : ∀ t ∈ tbs, K.lookup t.2 = none
  code : ∀ t ∈ tbs, CodeHd hp t.1 t.2
section
variable {P : Program} {w : World} {K : Frag} {hp : Heap} {tbs : List (Addr × Addr)} {mg mb : Str → Option Value} {Ar : List Addr} {b : Addr} {o : Obj}
theorem Laid.spot (L : Laid K hp tbs) (hb : b ∈ spots tbs) : hp.get? b = some emptyTab := by
  unfold spots at hb
  rw [List.mem_map] at hb
  obtain ⟨t, ht, rfl⟩ := hb
  exact L.empty t ht
theorem Laid.notK (L : Laid K hp tbs) (q : K.lookup b = some o) : ¬ b ∈ spots tbs := fun hb => by
  unfold spots at hb
  rw [List.mem_map] at hb
  obtain ⟨t, ht, rfl⟩ := hb
  rw [L.off t ht] at q
  cases q
/-- the arguments with the tables beside them -/
def beside (tbs : List (Addr × Addr)) (H0 : Hp) : Hp := fun b => if b ∈ spots tbs then some (.tbl #[]) else H0 b
theorem beside_in {H0 : Hp} (hb : b ∈ spots tbs) : beside tbs H0 b = some (.tbl #[]) := by
  unfold beside
  rw [if_pos hb]
theorem beside_out {H0 : Hp} (hb : ¬ b ∈ spots tbs) : beside tbs H0 b = H0 b := by
  unfold beside
  rw [if_neg hb]
/-- an argument's object: a list or a tuple, not in K -/
theorem arg_seq (ar : ∀ x ∈ Ar, ArgOb hp Ar x) {u : HO} (q : argH K hp Ar b = some u) (e : hp.get? b = some o) : K.lookup b = none ∧ (∃ us n, o.data = .seq us n) ∧ (∀ (P : Program) (w : World) (H : Hp), ObjOk P w H hp b u) ∧ ∃ o' u', u = .frz o' u' := by
  have ⟨nk, vs, lv, ov, cases2⟩ := argH_is ar q
  refine ⟨nk, ?_⟩
  rcases cases2 with ⟨g, hu⟩ | ⟨g, hu⟩
  all_goals
    rw [g] at e
    injection e with e
    subst e hu
  · exact ⟨⟨_, _, rfl⟩, fun P w H => ⟨g, (List.length_map ..).symm ▸ lv, vs, _, vals_toV ov, g⟩, _, _, rfl⟩
  · exact ⟨⟨_, _, rfl⟩, fun P w H => ⟨g, (List.length_map ..).symm ▸ lv, vs, vals_toV ov, _, g, rfl, _, rfl⟩, _, _, rfl⟩
theorem arg_has {u : HO} (ar : ∀ x ∈ Ar, ArgOb hp Ar x) (q : argH K hp Ar b = some u) : ∃ o, hp.get? b = some o := by
  have ⟨_, vs, _, _, cases2⟩ := argH_is ar q
  rcases cases2 with ⟨g, _⟩ | ⟨g, _⟩
  · exact ⟨_, g⟩
  · exact ⟨_, g⟩
theorem arg_off (L : Laid K hp tbs) (ar : ∀ x ∈ Ar, ArgOb hp Ar x) {u : HO} (q : argH K hp Ar b = some u) : ¬ b ∈ spots tbs := fun hb => by
  have ⟨_, ⟨us, n, d⟩, _⟩ := arg_seq ar q (L.spot hb)
  cases d
theorem beside_ex (L : Laid K hp tbs) (ar : ∀ x ∈ Ar, ArgOb hp Ar x) : Ex (argH K hp Ar) (beside tbs (argH K hp Ar)) := fun x u q => (beside_out (arg_off L ar q)).trans q
theorem beside_ok (L : Laid K hp tbs) (ar : ∀ x ∈ Ar, ArgOb hp Ar x) : HOk P w (beside tbs (argH K hp Ar)) hp := fun x u q => by
  by_cases hx : x ∈ spots tbs
  · rw [beside_in hx] at q
    injection q with q
    subst q
    exact L.spot hx
  · rw [beside_out hx] at q
    have ⟨o, g⟩ := arg_has ar q
    exact (arg_seq ar q g).2.2.1 P w _
theorem beside_kinds (ar : ∀ x ∈ Ar, ArgOb hp Ar x) (x : Addr) (hx : ¬ x ∈ spots tbs) {u : HO} (q : beside tbs (argH K hp Ar) x = some u) : ∃ o' u', u = .frz o' u' := by
  rw [beside_out hx] at q
  have ⟨o, g⟩ := arg_has ar q
  exact (arg_seq ar q g).2.2.2
/-- what is neither a sequence nor an empty table stays in the hidden heap -/
theorem hid_stays (L : Laid K hp tbs) (ar : ∀ x ∈ Ar, ArgOb hp Ar x) (e : hp.get? b = some o) (n1 : ∀ us n, o.data ≠ .seq us n) (n2 : o.data ≠ .fields #[]) : (hidT hp (beside tbs (argH K hp Ar))).get? b = some o := by
  refine hidT_get e ?_
  by_cases hb : b ∈ spots tbs
  · rw [L.spot hb] at e
    injection e with e
    subst e
    exact (n2 rfl).elim
  · rw [beside_out hb]
    cases q : argH K hp Ar b with
    | none => rfl
    | some u =>
      have ⟨_, ⟨us, n, d⟩, _⟩ := arg_seq ar q e
      exact (n1 us n d).elim
theorem hid_ns (L : Laid K hp tbs) (ar : ∀ x ∈ Ar, ArgOb hp Ar x) {m : Str → Option Value} (n : hp.Ns b m) : (hidT hp (beside tbs (argH K hp Ar))).Ns b m := by
  obtain ⟨o, es, ep, g, d, more⟩ := n
  refine ⟨o, es, ep, hid_stays L ar g ?_ ?_, d, more⟩
  all_goals
    intros
    rw [d]
    intro z
    cases z
theorem hid_K (L : Laid K hp tbs) (ar : ∀ x ∈ Ar, ArgOb hp Ar x) (kin : K.In hp) : K.In (hidT hp (beside tbs (argH K hp Ar))) := fun x o q => by
  refine hidT_get (kin x o q) ?_
  rw [beside_out (L.notK q)]
  cases z : argH K hp Ar x with
  | none => rfl
  | some u =>
    have y := (arg_seq ar z (kin x o q)).1
    rw [y] at q
    cases q
theorem hid_tab (L : Laid K hp tbs) (ar : ∀ x ∈ Ar, ArgOb hp Ar x) (gns : hp.Ns mainGlobals mg) (bm : ∃ (m : Addr) (ob : Obj), mg "__builtins__" = some (.ref m) ∧ m ≠ builtinsNs ∧ hp.get? m = some ob ∧ ob.cls = .type "module" ∧ ob.dict = some builtinsNs ∧ ob.data = .plain) {t : Addr × Addr} (ht : t ∈ tbs) : TabB (hidT hp (beside tbs (argH K hp Ar))) mg t.1 t.2 where
  code := by
    have ⟨o, us, fi, a1, fl, a2, a3, a4, a5, g, c1, c2, c3, c4⟩ := L.code t ht
    refine ⟨o, us, fi, a1, fl, a2, a3, a4, a5, hid_stays L ar g ?_ ?_, c1, c2, c3, c4⟩
    · intro us n z
      rw [c2] at z
      cases z
    · intro z
      rw [c2] at z
      injection z with z
      rw [z] at c3
      simp at c3
  bm := by
    obtain ⟨m, ob, i1, i2, i3, i4, i5, i6⟩ := bm
    refine ⟨m, ob, i1, i2, fun z => ?_, fun z => ?_, hid_stays L ar i3 ?_ ?_, i4, i5, i6⟩
    · obtain ⟨o, es, ep, g, d, _⟩ := gns
      rw [z, g] at i3
      injection i3 with i3
      rw [← i3, d] at i6
      cases i6
    · rw [z, L.empty t ht] at i3
      injection i3 with i3
      rw [← i3] at i6
      cases i6
    all_goals
      intros
      rw [i6]
      intro z
      cases z
  gP := fun z => by
    obtain ⟨o, es, ep, g, d, _⟩ := gns
    rw [z, L.empty t ht] at g
    injection g with g
    rw [← g] at d
    cases d
/-- what the program may count on at its call -/
theorem hid_env (L : Laid K hp tbs) (ar : ∀ x ∈ Ar, ArgOb hp Ar x) (kin : K.In hp) (gns : hp.Ns mainGlobals mg) (bns : hp.Ns builtinsNs mb) (boots : ∀ x : Str, x ≠ "__name__" → mb x = bootBuiltins x) (nolim : hp.NoLimit) {sh : Shared} (hsh : sh.heap = hp) (bare : sh.gens = #[]) :
    Env0 P w K mg (hidT hp (beside tbs (argH K hp Ar))) callerA [] sh (beside tbs (argH K hp Ar)) := by
  have lim : (hidT hp (beside tbs (argH K hp Ar))).NoLimit := by
    obtain ⟨mc, n1, n2⟩ := nolim
    exact ⟨mc, hid_ns L ar n1, n2⟩
  have mo : L2.Mod K mg (hidT hp (beside tbs (argH K hp Ar))) := ⟨hid_K L ar kin, hid_ns L ar gns, ⟨mb, hid_ns L ar bns, boots⟩, lim⟩
  subst hsh
  refine ⟨rfl, mo, fun x o q => of_hidT q, Nat.le_of_eq (hidT_size _ _), trivial, ?_, beside_ok L ar, .of_eq bare⟩
  intro x hx
  cases hx
end
/-- one call of the program's function, its tables empty at first -/
theorem call_tables {P : Program} {w : World} {K : Frag} {mg mb : Str → Option Value} {k : Nat} {fa : Addr} {tbs : List (Addr × Addr)} {fd : FuncData} {ps : List Str} {sp : Sp} {sh : Shared} {vals : List Value} {ds : List WData} {R : PySem.W.WRecords} {cl : Str → Option Addr} {due : WData}
    (L : Laid K sh.heap tbs) (kin : K.In sh.heap) (gns : sh.heap.Ns mainGlobals mg) (bns : sh.heap.Ns builtinsNs mb) (boots : ∀ x : Str, x ≠ "__name__" → mb x = bootBuiltins x) (nolim : sh.heap.NoLimit) (bare : sh.gens = #[])
    (bm : ∃ (m : Addr) (ob : Obj), mg "__builtins__" = some (.ref m) ∧ m ≠ builtinsNs ∧ sh.heap.get? m = some ob ∧ ob.cls = .type "module" ∧ ob.dict = some builtinsNs ∧ ob.data = .plain)
    (well : WellAll w.params sh.heap vals ds) (pl : plWs ds = true) (light : ∀ d ∈ ds, d.weight ≤ 1048576) (room : Room k callerA)
    (fn : ∀ base : Heap, (∀ t ∈ tbs, TabB base mg t.1 t.2) → FnOk P w K mg base CX0 k fa fd ps sp) (binds : ∀ (s : Shared) (us : List Value), us.length = ps.length → BindsTo s fd ⟨us, []⟩ (ps.zip us)) (arity : ds.length = ps.length)
    (said : ∀ (H0 H : Hp) (xs : List V), Ex H0 H → (∀ t ∈ tbs, H t.2 = some (.tbl #[])) → DwAll K H0 xs ds → sp xs H (fun v H' => Dw K H' v due) E0) :
    codeAny (model P w) callerA (.call (.ref fa) ⟨vals, []⟩) (fun r s' => ∃ u as, r = .ok (.ret u) ∧ ReadsW R cl s'.heap u due as ∧ OldK sh.heap s'.heap ∧ s'.os = sh.os ∧ AllBare s'.gens) sh := by
  have ⟨Ar, okU, ar⟩ := area_all ds vals well pl light
  have dw := dw_all kin ar ds vals well pl okU
  have go := (fn _ fun t ht => hid_tab L ar gns bm ht).run callerA [] sh (beside tbs (argH K sh.heap Ar)) ⟨vals, []⟩ vals (vals.map toV) _ E0 room (hid_env L ar kin gns bns boots nolim rfl bare)
    (binds sh vals (by rw [wellAll_len well, arity])) (vals_toV okU) (said _ _ _ (beside_ex L ar) (fun t ht => beside_in (List.mem_map.mpr ⟨t, ht, rfl⟩)) dw)
  refine codeAny_mono go fun r s' x => ?_
  match r, x with
  | .ok (.ret u), x =>
    obtain ⟨v, H', sameOs, bare', un, ok', rel, isD⟩ := x
    have same : ∀ b o, ¬ b ∈ spots tbs → sh.heap.get? b = some o → s'.heap.get? b = some o := fun b o nb g => by
      cases q : beside tbs (argH K sh.heap Ar) b with
      | none => exact un.keep b o g q (fun z => by cases z) (fun z => by cases z)
      | some u2 =>
        have ⟨ob, u3, eu⟩ := beside_kinds ar b nb q
        subst eu
        have g1 := (beside_ok (P := P) (w := w) L ar b _ q).1
        have g2 := (ok' b _ (un.frzs b ob _ q)).1
        rw [g1] at g
        injection g with g
        subst g
        exact g2
    have grew : ∀ b ∈ spots tbs, ∃ vs : Array Value, s'.heap.get? b = some { emptyTab with data := .fields vs } := fun b hb => by
      have ⟨vs, z⟩ := un.tbls b #[] (beside_in hb)
      exact ⟨_, ok' b _ z⟩
    have ⟨as, rd⟩ := Dw.reads (R := R) (cl := cl) ok' (fun b o q => same b o (L.notK q) (kin b o q)) due v u isD rel
    refine ⟨u, as, rfl, rd, ⟨fun b o g => ?_, fun b o g => ?_⟩, sameOs, bare'⟩
    all_goals by_cases hb : b ∈ spots tbs
    · have ⟨vs, z⟩ := grew b hb
      have g0 := L.spot hb
      rw [g0] at g
      injection g with g
      subst g
      unfold spots at hb
      rw [List.mem_map] at hb
      obtain ⟨t, ht, rfl⟩ := hb
      refine Or.inr (Or.inl ⟨((L.code t ht).tab g0).isCodeTable, rfl, #[], vs, rfl, ?_⟩)
      rw [Array.empty_append]
      exact z
    · exact Or.inl (same b o hb g)
    · have ⟨vs, z⟩ := grew b hb
      exact ⟨_, z⟩
    · exact ⟨o, same b o hb g⟩
/-- what is known of the row's def at the head's heap -/
def SpecAt (r : OpenSpec) (w : World) (K : Frag) (k : Nat) (ps : List Str) (mg : Str → Option Value) (fa : Addr) (hp : Heap) : Prop :=
  ∃ (fd : FuncData) (tbs : List (Addr × Addr)) (sp : Sp), Laid K hp tbs ∧ (∀ (s : Shared) (us : List Value), us.length = ps.length → BindsTo s fd ⟨us, []⟩ (ps.zip us)) ∧
    (∀ (H0 H : Hp) (xs : List V) (x : Codec.denoteAll r.args), Ex H0 H → (∀ t ∈ tbs, H t.2 = some (.tbl #[])) → Codec.withinAll r.args x = true → Codec.app r.args r.asked x = true → DwAll K H0 xs (Codec.encAll r.args x) → sp xs H (fun v H' => Dw K H' v (r.ret.enc (Codec.app r.args r.f x))) E0) ∧
    ∀ base : Heap, (∀ t ∈ tbs, TabB base mg t.1 t.2) → FnOk r.prog w K mg base CX0 k fa fd ps sp
theorem walk_specT {r : OpenSpec} {k : Nat} {q : Program} {loose : List Str} {XP : (Str → Option Value) → Heap → Prop} {YP : World → Heap → Prop} {d : DefRec} {K : Params → Frag} {ps : List Str} (said : r.wellSaid = true) (arity : r.args.length = ps.length) (room : Room k callerA) (kin : ∀ (w : World) (h : Heap), YP w h → (K w.params).In h)
    (at_ : ∀ (w : World) (mg : Str → Option Value) (fa : Addr) (hp : Heap), YP w hp → (K w.params).In hp → hp.Ns mainGlobals mg → mg d.name = some (.ref fa) → (∀ (x : Str) (c P : Addr), PySem.W.tabIn (K w.params) x = some (c, P) → ((recsOf q).find? (fun e => e.name == x)).isSome = true → CodeHd hp c P ∧ hp.get? P = some emptyTab) → SpecAt r w (K w.params) k ps mg fa hp) :
    PySem.W.WalkOS q loose XP YP r d [] (fun f vs => PySem.call f vs) := by
  intro w boot sh mg mb G Y fa o pm cd doc dV kV _ _ _ _ named bare args vals as pre lay _ well _
  have ⟨x, dec, ask⟩ := PySem.W.os_pre_some pre
  have ⟨enc, within⟩ := Codec.encAll_of_decAll r.args args x dec
  subst enc
  have X := kin w _ Y
  have ⟨fd, tbs, sp, L, binds, tells, fn⟩ := at_ w mg fa _ Y X G.T.g named (by
    intro y c P ht found
    rw [Option.isSome_iff_exists] at found
    obtain ⟨e, he⟩ := found
    exact PySem.W.tab_of G.T X he ht)
  have go := call_tables (R := []) (cl := classAt boot.heap) (due := r.ret.enc (Codec.app r.args r.f x)) L X G.T.g G.T.b G.T.builtins G.T.nolimit bare G.T.bmain well (pl_encAll _ _) (layable_weight lay) room fn binds (by rw [encAll_len, arity]) fun H0 H xs e t dw => tells H0 H xs x e t within ask dw
  refine PySem.W.enter_call (codeAny_mono go ?_)
  rintro r' s' ⟨u, as', rfl, reads, old, os, gens⟩
  refine ⟨Or.inl ⟨u, _, as', rfl, fun _ => rfl, reads, ?_, fun z => ?_⟩, old, os, gens⟩
  · rw [OpenSpec.post_iff said within]
  · cases z
end Arr
-- text Z1
set_option Elab.async false
set_option linter.unusedVariables false
set_option maxRecDepth 100000
set_option maxHeartbeats 8000000
/-! # the end: what the top has written -/
namespace Arr
open PySem PySem.Spec PyProof.Rows L2 Evl LamX NdefX
open PySem.W (Codec)
theorem ans_sp {K : PySem.W.Frag} {A : Ads} {H0 H : Hp} {xs : List V} (a : Codec.denoteAll PySem.Challenge.rw_arrowsmake_s01_answers.args) (ex : Ex H0 H) (hT : Tabs (tabs A) H) (hwi : Codec.withinAll PySem.Challenge.rw_arrowsmake_s01_answers.args a = true) (hask : Codec.app PySem.Challenge.rw_arrowsmake_s01_answers.args PySem.Challenge.rw_arrowsmake_s01_answers.asked a = true) (hx : DwAll K H0 xs (Codec.encAll PySem.Challenge.rw_arrowsmake_s01_answers.args a)) :
    spAns A K xs H (fun v H' => Dw K H' v (PySem.Challenge.rw_arrowsmake_s01_answers.ret.enc (Codec.app PySem.Challenge.rw_arrowsmake_s01_answers.args PySem.Challenge.rw_arrowsmake_s01_answers.f a))) fun _ _ _ => False := by
  cases hx with
  | cons h1 h2 =>
    cases h2
    cases h1 with
    | lst hs ha =>
      have e := L2.ints_dw a.1 _ ha
      subst e
      have q : ((Codec.inLen 0 240 a.1 && a.1.all (Codec.inInt 0 4294967295)) && true) = true := hwi
      rw [Bool.and_eq_true, Bool.and_eq_true] at q
      exact ⟨_, a.1, rfl, ex_l ex hs, (Codec.inNat_iff.mp q.1.1).2, hask, hT, fun H' p hp => .lst (L2.SqL.of hp) (L2.dw_ints _)⟩
theorem all_mk {w : World} {K : PySem.W.Frag} {h : Heap} {mg : Str → Option Value} {fa C : Addr} {rec : Str → Bool} (X : K.In h) (G : h.Ns mainGlobals mg) (hfa : mg "answers" = some (.ref fa)) (tf : ∀ (x : Str) (c P : Addr), PySem.W.tabIn K x = some (c, P) → rec x = true → PySem.W.CodeHd h c P ∧ h.get? P = some { cls := .none, data := .fields #[] })
    {f___init__ : Addr} {od___init__ an___init__ : Option Addr} {sl___init__ : Array (Option Value)} {oc___init__ kV___init__ dc___init__ pm___init__ cd___init__ ct___init__ : Value}
    {f_arrow_count : Addr} {od_arrow_count an_arrow_count : Option Addr} {sl_arrow_count : Array (Option Value)} {oc_arrow_count kV_arrow_count dc_arrow_count pm_arrow_count cd_arrow_count ct_arrow_count : Value}
    {f_has_thing : Addr} {od_has_thing an_has_thing : Option Addr} {sl_has_thing : Array (Option Value)} {oc_has_thing kV_has_thing dc_has_thing pm_has_thing cd_has_thing ct_has_thing : Value}
    {f_has_arrow : Addr} {od_has_arrow an_has_arrow : Option Addr} {sl_has_arrow : Array (Option Value)} {oc_has_arrow kV_has_arrow dc_has_arrow pm_has_arrow cd_has_arrow ct_has_arrow : Value}
    {f_is_own : Addr} {od_is_own an_is_own : Option Addr} {sl_is_own : Array (Option Value)} {oc_is_own kV_is_own dc_is_own pm_is_own cd_is_own ct_is_own : Value}
    {f_add_arrow : Addr} {od_add_arrow an_add_arrow : Option Addr} {sl_add_arrow : Array (Option Value)} {oc_add_arrow kV_add_arrow dc_add_arrow pm_add_arrow cd_add_arrow ct_add_arrow : Value}
    {f_tell : Addr} {od_tell an_tell : Option Addr} {sl_tell : Array (Option Value)} {oc_tell kV_tell dc_tell pm_tell cd_tell ct_tell : Value}
    {f_leads : Addr} {od_leads an_leads : Option Addr} {sl_leads : Array (Option Value)} {oc_leads kV_leads dc_leads pm_leads cd_leads ct_leads : Value}
    {f_meet : Addr} {od_meet an_meet : Option Addr} {sl_meet : Array (Option Value)} {oc_meet kV_meet dc_meet pm_meet cd_meet ct_meet : Value}
    {f_made : Addr} {od_made an_made : Option Addr} {sl_made : Array (Option Value)} {oc_made kV_made dc_made pm_made cd_made ct_made : Value}
    {f_hom : Addr} {od_hom an_hom : Option Addr} {sl_hom : Array (Option Value)} {oc_hom kV_hom dc_hom pm_hom cd_hom ct_hom : Value}
    {f_turned : Addr} {od_turned an_turned : Option Addr} {sl_turned : Array (Option Value)} {oc_turned kV_turned dc_turned pm_turned cd_turned ct_turned : Value}
    {f_keeps_apart : Addr} {od_keeps_apart an_keeps_apart : Option Addr} {sl_keeps_apart : Array (Option Value)} {oc_keeps_apart kV_keeps_apart dc_keeps_apart pm_keeps_apart cd_keeps_apart ct_keeps_apart : Value}
    {f_arrows_back : Addr} {od_arrows_back an_arrows_back : Option Addr} {sl_arrows_back : Array (Option Value)} {oc_arrows_back kV_arrows_back dc_arrows_back pm_arrows_back cd_arrows_back ct_arrows_back : Value}
    {f_undone_by : Addr} {od_undone_by an_undone_by : Option Addr} {sl_undone_by : Array (Option Value)} {oc_undone_by kV_undone_by dc_undone_by pm_undone_by cd_undone_by ct_undone_by : Value}
    {f_can_be_undone : Addr} {od_can_be_undone an_can_be_undone : Option Addr} {sl_can_be_undone : Array (Option Value)} {oc_can_be_undone kV_can_be_undone dc_can_be_undone pm_can_be_undone cd_can_be_undone ct_can_be_undone : Value}
    {f_can_be_undone_both_ways : Addr} {od_can_be_undone_both_ways an_can_be_undone_both_ways : Option Addr} {sl_can_be_undone_both_ways : Array (Option Value)} {oc_can_be_undone_both_ways kV_can_be_undone_both_ways dc_can_be_undone_both_ways pm_can_be_undone_both_ways cd_can_be_undone_both_ways ct_can_be_undone_both_ways : Value}
    {f_makes_itself : Addr} {od_makes_itself an_makes_itself : Option Addr} {sl_makes_itself : Array (Option Value)} {oc_makes_itself kV_makes_itself dc_makes_itself pm_makes_itself cd_makes_itself ct_makes_itself : Value}
    {f_kinds_of : Addr} {od_kinds_of an_kinds_of : Option Addr} {sl_kinds_of : Array (Option Value)} {oc_kinds_of kV_kinds_of dc_kinds_of pm_kinds_of cd_kinds_of ct_kinds_of : Value}
    {f_fits : Addr} {od_fits an_fits : Option Addr} {sl_fits : Array (Option Value)} {oc_fits kV_fits dc_fits pm_fits cd_fits ct_fits : Value}
    {f_arrows_up_to : Addr} {od_arrows_up_to an_arrows_up_to : Option Addr} {sl_arrows_up_to : Array (Option Value)} {oc_arrows_up_to kV_arrows_up_to dc_arrows_up_to pm_arrows_up_to cd_arrows_up_to ct_arrows_up_to : Value}
    {f_longer_changes : Addr} {od_longer_changes an_longer_changes : Option Addr} {sl_longer_changes : Array (Option Value)} {oc_longer_changes kV_longer_changes dc_longer_changes pm_longer_changes cd_longer_changes ct_longer_changes : Value}
    {f_changes_among : Addr} {od_changes_among an_changes_among : Option Addr} {sl_changes_among : Array (Option Value)} {oc_changes_among kV_changes_among dc_changes_among pm_changes_among cd_changes_among ct_changes_among : Value}
    {f_arrows_between : Addr} {od_arrows_between an_arrows_between : Option Addr} {sl_arrows_between : Array (Option Value)} {oc_arrows_between kV_arrows_between dc_arrows_between pm_arrows_between cd_arrows_between ct_arrows_between : Value}
    {f_all_changes : Addr} {od_all_changes an_all_changes : Option Addr} {sl_all_changes : Array (Option Value)} {oc_all_changes kV_all_changes dc_all_changes pm_all_changes cd_all_changes ct_all_changes : Value}
    {f_undone_both_ways : Addr} {od_undone_both_ways an_undone_both_ways : Option Addr} {sl_undone_both_ways : Array (Option Value)} {oc_undone_both_ways kV_undone_both_ways dc_undone_both_ways pm_undone_both_ways cd_undone_both_ways ct_undone_both_ways : Value}
    {f_are_alike : Addr} {od_are_alike an_are_alike : Option Addr} {sl_are_alike : Array (Option Value)} {oc_are_alike kV_are_alike dc_are_alike pm_are_alike cd_are_alike ct_are_alike : Value}
    {f_comes_from_one : Addr} {od_comes_from_one an_comes_from_one : Option Addr} {sl_comes_from_one : Array (Option Value)} {oc_comes_from_one kV_comes_from_one dc_comes_from_one pm_comes_from_one cd_comes_from_one ct_comes_from_one : Value}
    {f_all_come_from_one : Addr} {od_all_come_from_one an_all_come_from_one : Option Addr} {sl_all_come_from_one : Array (Option Value)} {oc_all_come_from_one kV_all_come_from_one dc_all_come_from_one pm_all_come_from_one cd_all_come_from_one ct_all_come_from_one : Value}
    {f_partner_arrows : Addr} {od_partner_arrows an_partner_arrows : Option Addr} {sl_partner_arrows : Array (Option Value)} {oc_partner_arrows kV_partner_arrows dc_partner_arrows pm_partner_arrows cd_partner_arrows ct_partner_arrows : Value}
    {f_partner_choices : Addr} {od_partner_choices an_partner_choices : Option Addr} {sl_partner_choices : Array (Option Value)} {oc_partner_choices kV_partner_choices dc_partner_choices pm_partner_choices cd_partner_choices ct_partner_choices : Value}
    {f_partner_changes : Addr} {od_partner_changes an_partner_changes : Option Addr} {sl_partner_changes : Array (Option Value)} {oc_partner_changes kV_partner_changes dc_partner_changes pm_partner_changes cd_partner_changes ct_partner_changes : Value}
    {f_first_partner : Addr} {od_first_partner an_first_partner : Option Addr} {sl_first_partner : Array (Option Value)} {oc_first_partner kV_first_partner dc_first_partner pm_first_partner cd_first_partner ct_first_partner : Value}
    {f_is_last : Addr} {od_is_last an_is_last : Option Addr} {sl_is_last : Array (Option Value)} {oc_is_last kV_is_last dc_is_last pm_is_last cd_is_last ct_is_last : Value}
    {f_last_thing : Addr} {od_last_thing an_last_thing : Option Addr} {sl_last_thing : Array (Option Value)} {oc_last_thing kV_last_thing dc_last_thing pm_last_thing cd_last_thing ct_last_thing : Value}
    {f_comes_by_one : Addr} {od_comes_by_one an_comes_by_one : Option Addr} {sl_comes_by_one : Array (Option Value)} {oc_comes_by_one kV_comes_by_one dc_comes_by_one pm_comes_by_one cd_comes_by_one ct_comes_by_one : Value}
    {f_all_come_by : Addr} {od_all_come_by an_all_come_by : Option Addr} {sl_all_come_by : Array (Option Value)} {oc_all_come_by kV_all_come_by dc_all_come_by pm_all_come_by cd_all_come_by ct_all_come_by : Value}
    {f_first_pair : Addr} {od_first_pair an_first_pair : Option Addr} {sl_first_pair : Array (Option Value)} {oc_first_pair kV_first_pair dc_first_pair pm_first_pair cd_first_pair ct_first_pair : Value}
    {f_first_product : Addr} {od_first_product an_first_product : Option Addr} {sl_first_product : Array (Option Value)} {oc_first_product kV_first_product dc_first_product pm_first_product cd_first_product ct_first_product : Value}
    {f_first_pullback : Addr} {od_first_pullback an_first_pullback : Option Addr} {sl_first_pullback : Array (Option Value)} {oc_first_pullback kV_first_pullback dc_first_pullback pm_first_pullback cd_first_pullback ct_first_pullback : Value}
    {f_first_equalizer : Addr} {od_first_equalizer an_first_equalizer : Option Addr} {sl_first_equalizer : Array (Option Value)} {oc_first_equalizer kV_first_equalizer dc_first_equalizer pm_first_equalizer cd_first_equalizer ct_first_equalizer : Value}
    {f_made_threes : Addr} {od_made_threes an_made_threes : Option Addr} {sl_made_threes : Array (Option Value)} {oc_made_threes kV_made_threes dc_made_threes pm_made_threes cd_made_threes ct_made_threes : Value}
    {f_tied_arrows : Addr} {od_tied_arrows an_tied_arrows : Option Addr} {sl_tied_arrows : Array (Option Value)} {oc_tied_arrows kV_tied_arrows dc_tied_arrows pm_tied_arrows cd_tied_arrows ct_tied_arrows : Value}
    {f_most_tied : Addr} {od_most_tied an_most_tied : Option Addr} {sl_most_tied : Array (Option Value)} {oc_most_tied kV_most_tied dc_most_tied pm_most_tied cd_most_tied ct_most_tied : Value}
    {f_settled_first : Addr} {od_settled_first an_settled_first : Option Addr} {sl_settled_first : Array (Option Value)} {oc_settled_first kV_settled_first dc_settled_first pm_settled_first cd_settled_first ct_settled_first : Value}
    {f_side_by_side : Addr} {od_side_by_side an_side_by_side : Option Addr} {sl_side_by_side : Array (Option Value)} {oc_side_by_side kV_side_by_side dc_side_by_side pm_side_by_side cd_side_by_side ct_side_by_side : Value}
    {f_holds : Addr} {od_holds an_holds : Option Addr} {sl_holds : Array (Option Value)} {oc_holds kV_holds dc_holds pm_holds cd_holds ct_holds : Value}
    {f_with_settled : Addr} {od_with_settled an_with_settled : Option Addr} {sl_with_settled : Array (Option Value)} {oc_with_settled kV_with_settled dc_with_settled pm_with_settled cd_with_settled ct_with_settled : Value}
    {f_choices : Addr} {od_choices an_choices : Option Addr} {sl_choices : Array (Option Value)} {oc_choices kV_choices dc_choices pm_choices cd_choices ct_choices : Value}
    {f_settle : Addr} {od_settle an_settle : Option Addr} {sl_settle : Array (Option Value)} {oc_settle kV_settle dc_settle pm_settle cd_settle ct_settle : Value}
    {f_box_of : Addr} {od_box_of an_box_of : Option Addr} {sl_box_of : Array (Option Value)} {oc_box_of kV_box_of dc_box_of pm_box_of cd_box_of ct_box_of : Value}
    {f_boxes_of : Addr} {od_boxes_of an_boxes_of : Option Addr} {sl_boxes_of : Array (Option Value)} {oc_boxes_of kV_boxes_of dc_boxes_of pm_boxes_of cd_boxes_of ct_boxes_of : Value}
    {f_ways_from : Addr} {od_ways_from an_ways_from : Option Addr} {sl_ways_from : Array (Option Value)} {oc_ways_from kV_ways_from dc_ways_from pm_ways_from cd_ways_from ct_ways_from : Value}
    {f_mapping_count : Addr} {od_mapping_count an_mapping_count : Option Addr} {sl_mapping_count : Array (Option Value)} {oc_mapping_count kV_mapping_count dc_mapping_count pm_mapping_count cd_mapping_count ct_mapping_count : Value}
    {f_boxes_with : Addr} {od_boxes_with an_boxes_with : Option Addr} {sl_boxes_with : Array (Option Value)} {oc_boxes_with kV_boxes_with dc_boxes_with pm_boxes_with cd_boxes_with ct_boxes_with : Value}
    {f_mapping_at : Addr} {od_mapping_at an_mapping_at : Option Addr} {sl_mapping_at : Array (Option Value)} {oc_mapping_at kV_mapping_at dc_mapping_at pm_mapping_at cd_mapping_at ct_mapping_at : Value}
    {f_mappings_in : Addr} {od_mappings_in an_mappings_in : Option Addr} {sl_mappings_in : Array (Option Value)} {oc_mappings_in kV_mappings_in dc_mappings_in pm_mappings_in cd_mappings_in ct_mappings_in : Value}
    {f_all_mappings : Addr} {od_all_mappings an_all_mappings : Option Addr} {sl_all_mappings : Array (Option Value)} {oc_all_mappings kV_all_mappings dc_all_mappings pm_all_mappings cd_all_mappings ct_all_mappings : Value}
    {f_fault_of_pair : Addr} {od_fault_of_pair an_fault_of_pair : Option Addr} {sl_fault_of_pair : Array (Option Value)} {oc_fault_of_pair kV_fault_of_pair dc_fault_of_pair pm_fault_of_pair cd_fault_of_pair ct_fault_of_pair : Value}
    {f_first_fault_of_pairs : Addr} {od_first_fault_of_pairs an_first_fault_of_pairs : Option Addr} {sl_first_fault_of_pairs : Array (Option Value)} {oc_first_fault_of_pairs kV_first_fault_of_pairs dc_first_fault_of_pairs pm_first_fault_of_pairs cd_first_fault_of_pairs ct_first_fault_of_pairs : Value}
    {f_same_both_ways : Addr} {od_same_both_ways an_same_both_ways : Option Addr} {sl_same_both_ways : Array (Option Value)} {oc_same_both_ways kV_same_both_ways dc_same_both_ways pm_same_both_ways cd_same_both_ways ct_same_both_ways : Value}
    {f_first_fault_of_threes : Addr} {od_first_fault_of_threes an_first_fault_of_threes : Option Addr} {sl_first_fault_of_threes : Array (Option Value)} {oc_first_fault_of_threes kV_first_fault_of_threes dc_first_fault_of_threes pm_first_fault_of_threes cd_first_fault_of_threes ct_first_fault_of_threes : Value}
    {f_first_fault : Addr} {od_first_fault an_first_fault : Option Addr} {sl_first_fault : Array (Option Value)} {oc_first_fault kV_first_fault dc_first_fault pm_first_fault cd_first_fault ct_first_fault : Value}
    {f_is_category : Addr} {od_is_category an_is_category : Option Addr} {sl_is_category : Array (Option Value)} {oc_is_category kV_is_category dc_is_category pm_is_category cd_is_category ct_is_category : Value}
    {f_answer_start : Addr} {od_answer_start an_answer_start : Option Addr} {sl_answer_start : Array (Option Value)} {oc_answer_start kV_answer_start dc_answer_start pm_answer_start cd_answer_start ct_answer_start : Value}
    {f_answer_arrow : Addr} {od_answer_arrow an_answer_arrow : Option Addr} {sl_answer_arrow : Array (Option Value)} {oc_answer_arrow kV_answer_arrow dc_answer_arrow pm_answer_arrow cd_answer_arrow ct_answer_arrow : Value}
    {f_answer_make : Addr} {od_answer_make an_answer_make : Option Addr} {sl_answer_make : Array (Option Value)} {oc_answer_make kV_answer_make dc_answer_make pm_answer_make cd_answer_make ct_answer_make : Value}
    {f_answer_check : Addr} {od_answer_check an_answer_check : Option Addr} {sl_answer_check : Array (Option Value)} {oc_answer_check kV_answer_check dc_answer_check pm_answer_check cd_answer_check ct_answer_check : Value}
    {f_refusal_of_arrows : Addr} {od_refusal_of_arrows an_refusal_of_arrows : Option Addr} {sl_refusal_of_arrows : Array (Option Value)} {oc_refusal_of_arrows kV_refusal_of_arrows dc_refusal_of_arrows pm_refusal_of_arrows cd_refusal_of_arrows ct_refusal_of_arrows : Value}
    {f_refusal_of_things : Addr} {od_refusal_of_things an_refusal_of_things : Option Addr} {sl_refusal_of_things : Array (Option Value)} {oc_refusal_of_things kV_refusal_of_things dc_refusal_of_things pm_refusal_of_things cd_refusal_of_things ct_refusal_of_things : Value}
    {f_answer_kinds : Addr} {od_answer_kinds an_answer_kinds : Option Addr} {sl_answer_kinds : Array (Option Value)} {oc_answer_kinds kV_answer_kinds dc_answer_kinds pm_answer_kinds cd_answer_kinds ct_answer_kinds : Value}
    {f_answer_hom : Addr} {od_answer_hom an_answer_hom : Option Addr} {sl_answer_hom : Array (Option Value)} {oc_answer_hom kV_answer_hom dc_answer_hom pm_answer_hom cd_answer_hom ct_answer_hom : Value}
    {f_answer_turn : Addr} {od_answer_turn an_answer_turn : Option Addr} {sl_answer_turn : Array (Option Value)} {oc_answer_turn kV_answer_turn dc_answer_turn pm_answer_turn cd_answer_turn ct_answer_turn : Value}
    {f_answer_last : Addr} {od_answer_last an_answer_last : Option Addr} {sl_answer_last : Array (Option Value)} {oc_answer_last kV_answer_last dc_answer_last pm_answer_last cd_answer_last ct_answer_last : Value}
    {f_answer_product : Addr} {od_answer_product an_answer_product : Option Addr} {sl_answer_product : Array (Option Value)} {oc_answer_product kV_answer_product dc_answer_product pm_answer_product cd_answer_product ct_answer_product : Value}
    {f_answer_pullback : Addr} {od_answer_pullback an_answer_pullback : Option Addr} {sl_answer_pullback : Array (Option Value)} {oc_answer_pullback kV_answer_pullback dc_answer_pullback pm_answer_pullback cd_answer_pullback ct_answer_pullback : Value}
    {f_answer_equalizer : Addr} {od_answer_equalizer an_answer_equalizer : Option Addr} {sl_answer_equalizer : Array (Option Value)} {oc_answer_equalizer kV_answer_equalizer dc_answer_equalizer pm_answer_equalizer cd_answer_equalizer ct_answer_equalizer : Value}
    {f_both_are_categories : Addr} {od_both_are_categories an_both_are_categories : Option Addr} {sl_both_are_categories : Array (Option Value)} {oc_both_are_categories kV_both_are_categories dc_both_are_categories pm_both_are_categories cd_both_are_categories ct_both_are_categories : Value}
    {f_answer_maps : Addr} {od_answer_maps an_answer_maps : Option Addr} {sl_answer_maps : Array (Option Value)} {oc_answer_maps kV_answer_maps dc_answer_maps pm_answer_maps cd_answer_maps ct_answer_maps : Value}
    {f_answer_of_mappings : Addr} {od_answer_of_mappings an_answer_of_mappings : Option Addr} {sl_answer_of_mappings : Array (Option Value)} {oc_answer_of_mappings kV_answer_of_mappings dc_answer_of_mappings pm_answer_of_mappings cd_answer_of_mappings ct_answer_of_mappings : Value}
    {f_tell_mapping : Addr} {od_tell_mapping an_tell_mapping : Option Addr} {sl_tell_mapping : Array (Option Value)} {oc_tell_mapping kV_tell_mapping dc_tell_mapping pm_tell_mapping cd_tell_mapping ct_tell_mapping : Value}
    {f_tell_changes : Addr} {od_tell_changes an_tell_changes : Option Addr} {sl_tell_changes : Array (Option Value)} {oc_tell_changes kV_tell_changes dc_tell_changes pm_tell_changes cd_tell_changes ct_tell_changes : Value}
    {f_tell_alike : Addr} {od_tell_alike an_tell_alike : Option Addr} {sl_tell_alike : Array (Option Value)} {oc_tell_alike kV_tell_alike dc_tell_alike pm_tell_alike cd_tell_alike ct_tell_alike : Value}
    {f_tell_partner : Addr} {od_tell_partner an_tell_partner : Option Addr} {sl_tell_partner : Array (Option Value)} {oc_tell_partner kV_tell_partner dc_tell_partner pm_tell_partner cd_tell_partner ct_tell_partner : Value}
    {f_answer_nth : Addr} {od_answer_nth an_answer_nth : Option Addr} {sl_answer_nth : Array (Option Value)} {oc_answer_nth kV_answer_nth dc_answer_nth pm_answer_nth cd_answer_nth ct_answer_nth : Value}
    {f_answer_changes : Addr} {od_answer_changes an_answer_changes : Option Addr} {sl_answer_changes : Array (Option Value)} {oc_answer_changes kV_answer_changes dc_answer_changes pm_answer_changes cd_answer_changes ct_answer_changes : Value}
    {f_answer_alike : Addr} {od_answer_alike an_answer_alike : Option Addr} {sl_answer_alike : Array (Option Value)} {oc_answer_alike kV_answer_alike dc_answer_alike pm_answer_alike cd_answer_alike ct_answer_alike : Value}
    {f_answer_partner : Addr} {od_answer_partner an_answer_partner : Option Addr} {sl_answer_partner : Array (Option Value)} {oc_answer_partner kV_answer_partner dc_answer_partner pm_answer_partner cd_answer_partner ct_answer_partner : Value}
    {f_answer_swap : Addr} {od_answer_swap an_answer_swap : Option Addr} {sl_answer_swap : Array (Option Value)} {oc_answer_swap kV_answer_swap dc_answer_swap pm_answer_swap cd_answer_swap ct_answer_swap : Value}
    {f_answer_call : Addr} {od_answer_call an_answer_call : Option Addr} {sl_answer_call : Array (Option Value)} {oc_answer_call kV_answer_call dc_answer_call pm_answer_call cd_answer_call ct_answer_call : Value}
    {f_answers : Addr} {od_answers an_answers : Option Addr} {sl_answers : Array (Option Value)} {oc_answers kV_answers dc_answers pm_answers cd_answers ct_answers : Value}
    {tk_NOT_TOLD : Tok}
    {tk_LEADS_ELSEWHERE : Tok}
    {tk_NOT_THE_SAME : Tok}
    {tk_NOT_REFUSED : Tok}
    {tk_DOES_NOT_FIT : Tok}
    {tk_NO_SUCH_NUMBER : Tok}
    {tk_NO_SUCH_ARROW : Tok}
    {tk_NO_SUCH_MAPPING : Tok}
    {tk_TOO_MANY_ARROWS : Tok}
    {tk_NO_CATEGORY : Tok}
    {tk_TOO_MANY_MAPPINGS : Tok}
    {tk_MOST_THINGS : Tok}
    {tk_MOST_ARROWS : Tok}
    {tk_MOST_MAPPINGS_BACK : Tok}
    {a_LENGTHS : Addr} {its_LENGTHS : Array Value} {n_LENGTHS : Nat} {odt_LENGTHS : Option Addr} {slt_LENGTHS : Array (Option Value)}
    {a_ANSWERS : Addr} {its_ANSWERS : Array Value} {n_ANSWERS : Nat} {odt_ANSWERS : Option Addr} {slt_ANSWERS : Array (Option Value)}
    {tc_first_product tp_first_product : Addr} {toc_first_product : Value} {tod_first_product : Option Addr} {tvs_first_product : Array Value} {tsl_first_product : Array (Option Value)}
    {tc_first_pullback tp_first_pullback : Addr} {toc_first_pullback : Value} {tod_first_pullback : Option Addr} {tvs_first_pullback : Array Value} {tsl_first_pullback : Array (Option Value)}
    {tc_most_tied tp_most_tied : Addr} {toc_most_tied : Value} {tod_most_tied : Option Addr} {tvs_most_tied : Array Value} {tsl_most_tied : Array (Option Value)}
    (aC : PySem.W.nsIn K mainGlobals "Category" = some (some (.ref C)))
    (a___init__ : PySem.W.findIn K (.ref C) "__init__" = some (some (.ref f___init__)))
    (i___init__ : PySem.W.isFn K (.ref f___init__) = true)
    (l___init__ : K.lookup f___init__ = some ⟨oc___init__, od___init__, .func (PySem.W.fnOf "__init__" "Category.__init__" (defArgs s___init__) (defBody s___init__) (defScope s___init__) .none kV___init__ dc___init__ pm___init__ an___init__ cd___init__ ct___init__), sl___init__⟩)
    (c___init__ : PySem.W.codeIn K cd___init__ "Category.__init__" = true)
    (k___init__ : PySem.W.keepIn K (.ref f___init__) = true)
    (a_arrow_count : PySem.W.findIn K (.ref C) "arrow_count" = some (some (.ref f_arrow_count)))
    (i_arrow_count : PySem.W.isFn K (.ref f_arrow_count) = true)
    (l_arrow_count : K.lookup f_arrow_count = some ⟨oc_arrow_count, od_arrow_count, .func (PySem.W.fnOf "arrow_count" "Category.arrow_count" (defArgs s_arrow_count) (defBody s_arrow_count) (defScope s_arrow_count) .none kV_arrow_count dc_arrow_count pm_arrow_count an_arrow_count cd_arrow_count ct_arrow_count), sl_arrow_count⟩)
    (c_arrow_count : PySem.W.codeIn K cd_arrow_count "Category.arrow_count" = true)
    (k_arrow_count : PySem.W.keepIn K (.ref f_arrow_count) = true)
    (a_has_thing : PySem.W.findIn K (.ref C) "has_thing" = some (some (.ref f_has_thing)))
    (i_has_thing : PySem.W.isFn K (.ref f_has_thing) = true)
    (l_has_thing : K.lookup f_has_thing = some ⟨oc_has_thing, od_has_thing, .func (PySem.W.fnOf "has_thing" "Category.has_thing" (defArgs s_has_thing) (defBody s_has_thing) (defScope s_has_thing) .none kV_has_thing dc_has_thing pm_has_thing an_has_thing cd_has_thing ct_has_thing), sl_has_thing⟩)
    (c_has_thing : PySem.W.codeIn K cd_has_thing "Category.has_thing" = true)
    (k_has_thing : PySem.W.keepIn K (.ref f_has_thing) = true)
    (a_has_arrow : PySem.W.findIn K (.ref C) "has_arrow" = some (some (.ref f_has_arrow)))
    (i_has_arrow : PySem.W.isFn K (.ref f_has_arrow) = true)
    (l_has_arrow : K.lookup f_has_arrow = some ⟨oc_has_arrow, od_has_arrow, .func (PySem.W.fnOf "has_arrow" "Category.has_arrow" (defArgs s_has_arrow) (defBody s_has_arrow) (defScope s_has_arrow) .none kV_has_arrow dc_has_arrow pm_has_arrow an_has_arrow cd_has_arrow ct_has_arrow), sl_has_arrow⟩)
    (c_has_arrow : PySem.W.codeIn K cd_has_arrow "Category.has_arrow" = true)
    (k_has_arrow : PySem.W.keepIn K (.ref f_has_arrow) = true)
    (a_is_own : PySem.W.findIn K (.ref C) "is_own" = some (some (.ref f_is_own)))
    (i_is_own : PySem.W.isFn K (.ref f_is_own) = true)
    (l_is_own : K.lookup f_is_own = some ⟨oc_is_own, od_is_own, .func (PySem.W.fnOf "is_own" "Category.is_own" (defArgs s_is_own) (defBody s_is_own) (defScope s_is_own) .none kV_is_own dc_is_own pm_is_own an_is_own cd_is_own ct_is_own), sl_is_own⟩)
    (c_is_own : PySem.W.codeIn K cd_is_own "Category.is_own" = true)
    (k_is_own : PySem.W.keepIn K (.ref f_is_own) = true)
    (a_add_arrow : PySem.W.findIn K (.ref C) "add_arrow" = some (some (.ref f_add_arrow)))
    (i_add_arrow : PySem.W.isFn K (.ref f_add_arrow) = true)
    (l_add_arrow : K.lookup f_add_arrow = some ⟨oc_add_arrow, od_add_arrow, .func (PySem.W.fnOf "add_arrow" "Category.add_arrow" (defArgs s_add_arrow) (defBody s_add_arrow) (defScope s_add_arrow) .none kV_add_arrow dc_add_arrow pm_add_arrow an_add_arrow cd_add_arrow ct_add_arrow), sl_add_arrow⟩)
    (c_add_arrow : PySem.W.codeIn K cd_add_arrow "Category.add_arrow" = true)
    (k_add_arrow : PySem.W.keepIn K (.ref f_add_arrow) = true)
    (a_tell : PySem.W.findIn K (.ref C) "tell" = some (some (.ref f_tell)))
    (i_tell : PySem.W.isFn K (.ref f_tell) = true)
    (l_tell : K.lookup f_tell = some ⟨oc_tell, od_tell, .func (PySem.W.fnOf "tell" "Category.tell" (defArgs s_tell) (defBody s_tell) (defScope s_tell) .none kV_tell dc_tell pm_tell an_tell cd_tell ct_tell), sl_tell⟩)
    (c_tell : PySem.W.codeIn K cd_tell "Category.tell" = true)
    (k_tell : PySem.W.keepIn K (.ref f_tell) = true)
    (a_leads : PySem.W.findIn K (.ref C) "leads" = some (some (.ref f_leads)))
    (i_leads : PySem.W.isFn K (.ref f_leads) = true)
    (l_leads : K.lookup f_leads = some ⟨oc_leads, od_leads, .func (PySem.W.fnOf "leads" "Category.leads" (defArgs s_leads) (defBody s_leads) (defScope s_leads) .none kV_leads dc_leads pm_leads an_leads cd_leads ct_leads), sl_leads⟩)
    (c_leads : PySem.W.codeIn K cd_leads "Category.leads" = true)
    (k_leads : PySem.W.keepIn K (.ref f_leads) = true)
    (a_meet : PySem.W.findIn K (.ref C) "meet" = some (some (.ref f_meet)))
    (i_meet : PySem.W.isFn K (.ref f_meet) = true)
    (l_meet : K.lookup f_meet = some ⟨oc_meet, od_meet, .func (PySem.W.fnOf "meet" "Category.meet" (defArgs s_meet) (defBody s_meet) (defScope s_meet) .none kV_meet dc_meet pm_meet an_meet cd_meet ct_meet), sl_meet⟩)
    (c_meet : PySem.W.codeIn K cd_meet "Category.meet" = true)
    (k_meet : PySem.W.keepIn K (.ref f_meet) = true)
    (a_made : PySem.W.findIn K (.ref C) "made" = some (some (.ref f_made)))
    (i_made : PySem.W.isFn K (.ref f_made) = true)
    (l_made : K.lookup f_made = some ⟨oc_made, od_made, .func (PySem.W.fnOf "made" "Category.made" (defArgs s_made) (defBody s_made) (defScope s_made) .none kV_made dc_made pm_made an_made cd_made ct_made), sl_made⟩)
    (c_made : PySem.W.codeIn K cd_made "Category.made" = true)
    (k_made : PySem.W.keepIn K (.ref f_made) = true)
    (a_hom : PySem.W.findIn K (.ref C) "hom" = some (some (.ref f_hom)))
    (i_hom : PySem.W.isFn K (.ref f_hom) = true)
    (l_hom : K.lookup f_hom = some ⟨oc_hom, od_hom, .func (PySem.W.fnOf "hom" "Category.hom" (defArgs s_hom) (defBody s_hom) (defScope s_hom) .none kV_hom dc_hom pm_hom an_hom cd_hom ct_hom), sl_hom⟩)
    (c_hom : PySem.W.codeIn K cd_hom "Category.hom" = true)
    (k_hom : PySem.W.keepIn K (.ref f_hom) = true)
    (a_turned : PySem.W.findIn K (.ref C) "turned" = some (some (.ref f_turned)))
    (i_turned : PySem.W.isFn K (.ref f_turned) = true)
    (l_turned : K.lookup f_turned = some ⟨oc_turned, od_turned, .func (PySem.W.fnOf "turned" "Category.turned" (defArgs s_turned) (defBody s_turned) (defScope s_turned) .none kV_turned dc_turned pm_turned an_turned cd_turned ct_turned), sl_turned⟩)
    (c_turned : PySem.W.codeIn K cd_turned "Category.turned" = true)
    (k_turned : PySem.W.keepIn K (.ref f_turned) = true)
    (a_keeps_apart : PySem.W.nsIn K mainGlobals "keeps_apart" = some (some (.ref f_keeps_apart)))
    (l_keeps_apart : K.lookup f_keeps_apart = some ⟨oc_keeps_apart, od_keeps_apart, .func (PySem.W.fnOf "keeps_apart" "keeps_apart" (defArgs s_keeps_apart) (defBody s_keeps_apart) (defScope s_keeps_apart) .none kV_keeps_apart dc_keeps_apart pm_keeps_apart an_keeps_apart cd_keeps_apart ct_keeps_apart), sl_keeps_apart⟩)
    (c_keeps_apart : PySem.W.codeIn K cd_keeps_apart "keeps_apart" = true)
    (k_keeps_apart : PySem.W.keepIn K (.ref f_keeps_apart) = true)
    (a_arrows_back : PySem.W.nsIn K mainGlobals "arrows_back" = some (some (.ref f_arrows_back)))
    (l_arrows_back : K.lookup f_arrows_back = some ⟨oc_arrows_back, od_arrows_back, .func (PySem.W.fnOf "arrows_back" "arrows_back" (defArgs s_arrows_back) (defBody s_arrows_back) (defScope s_arrows_back) .none kV_arrows_back dc_arrows_back pm_arrows_back an_arrows_back cd_arrows_back ct_arrows_back), sl_arrows_back⟩)
    (c_arrows_back : PySem.W.codeIn K cd_arrows_back "arrows_back" = true)
    (k_arrows_back : PySem.W.keepIn K (.ref f_arrows_back) = true)
    (a_undone_by : PySem.W.nsIn K mainGlobals "undone_by" = some (some (.ref f_undone_by)))
    (l_undone_by : K.lookup f_undone_by = some ⟨oc_undone_by, od_undone_by, .func (PySem.W.fnOf "undone_by" "undone_by" (defArgs s_undone_by) (defBody s_undone_by) (defScope s_undone_by) .none kV_undone_by dc_undone_by pm_undone_by an_undone_by cd_undone_by ct_undone_by), sl_undone_by⟩)
    (c_undone_by : PySem.W.codeIn K cd_undone_by "undone_by" = true)
    (k_undone_by : PySem.W.keepIn K (.ref f_undone_by) = true)
    (a_can_be_undone : PySem.W.nsIn K mainGlobals "can_be_undone" = some (some (.ref f_can_be_undone)))
    (l_can_be_undone : K.lookup f_can_be_undone = some ⟨oc_can_be_undone, od_can_be_undone, .func (PySem.W.fnOf "can_be_undone" "can_be_undone" (defArgs s_can_be_undone) (defBody s_can_be_undone) (defScope s_can_be_undone) .none kV_can_be_undone dc_can_be_undone pm_can_be_undone an_can_be_undone cd_can_be_undone ct_can_be_undone), sl_can_be_undone⟩)
    (c_can_be_undone : PySem.W.codeIn K cd_can_be_undone "can_be_undone" = true)
    (k_can_be_undone : PySem.W.keepIn K (.ref f_can_be_undone) = true)
    (a_can_be_undone_both_ways : PySem.W.nsIn K mainGlobals "can_be_undone_both_ways" = some (some (.ref f_can_be_undone_both_ways)))
    (l_can_be_undone_both_ways : K.lookup f_can_be_undone_both_ways = some ⟨oc_can_be_undone_both_ways, od_can_be_undone_both_ways, .func (PySem.W.fnOf "can_be_undone_both_ways" "can_be_undone_both_ways" (defArgs s_can_be_undone_both_ways) (defBody s_can_be_undone_both_ways) (defScope s_can_be_undone_both_ways) .none kV_can_be_undone_both_ways dc_can_be_undone_both_ways pm_can_be_undone_both_ways an_can_be_undone_both_ways cd_can_be_undone_both_ways ct_can_be_undone_both_ways), sl_can_be_undone_both_ways⟩)
    (c_can_be_undone_both_ways : PySem.W.codeIn K cd_can_be_undone_both_ways "can_be_undone_both_ways" = true)
    (k_can_be_undone_both_ways : PySem.W.keepIn K (.ref f_can_be_undone_both_ways) = true)
    (a_makes_itself : PySem.W.nsIn K mainGlobals "makes_itself" = some (some (.ref f_makes_itself)))
    (l_makes_itself : K.lookup f_makes_itself = some ⟨oc_makes_itself, od_makes_itself, .func (PySem.W.fnOf "makes_itself" "makes_itself" (defArgs s_makes_itself) (defBody s_makes_itself) (defScope s_makes_itself) .none kV_makes_itself dc_makes_itself pm_makes_itself an_makes_itself cd_makes_itself ct_makes_itself), sl_makes_itself⟩)
    (c_makes_itself : PySem.W.codeIn K cd_makes_itself "makes_itself" = true)
    (k_makes_itself : PySem.W.keepIn K (.ref f_makes_itself) = true)
    (a_kinds_of : PySem.W.nsIn K mainGlobals "kinds_of" = some (some (.ref f_kinds_of)))
    (l_kinds_of : K.lookup f_kinds_of = some ⟨oc_kinds_of, od_kinds_of, .func (PySem.W.fnOf "kinds_of" "kinds_of" (defArgs s_kinds_of) (defBody s_kinds_of) (defScope s_kinds_of) .none kV_kinds_of dc_kinds_of pm_kinds_of an_kinds_of cd_kinds_of ct_kinds_of), sl_kinds_of⟩)
    (c_kinds_of : PySem.W.codeIn K cd_kinds_of "kinds_of" = true)
    (k_kinds_of : PySem.W.keepIn K (.ref f_kinds_of) = true)
    (a_fits : PySem.W.nsIn K mainGlobals "fits" = some (some (.ref f_fits)))
    (l_fits : K.lookup f_fits = some ⟨oc_fits, od_fits, .func (PySem.W.fnOf "fits" "fits" (defArgs s_fits) (defBody s_fits) (defScope s_fits) .none kV_fits dc_fits pm_fits an_fits cd_fits ct_fits), sl_fits⟩)
    (c_fits : PySem.W.codeIn K cd_fits "fits" = true)
    (k_fits : PySem.W.keepIn K (.ref f_fits) = true)
    (a_arrows_up_to : PySem.W.nsIn K mainGlobals "arrows_up_to" = some (some (.ref f_arrows_up_to)))
    (l_arrows_up_to : K.lookup f_arrows_up_to = some ⟨oc_arrows_up_to, od_arrows_up_to, .func (PySem.W.fnOf "arrows_up_to" "arrows_up_to" (defArgs s_arrows_up_to) (defBody s_arrows_up_to) (defScope s_arrows_up_to) .none kV_arrows_up_to dc_arrows_up_to pm_arrows_up_to an_arrows_up_to cd_arrows_up_to ct_arrows_up_to), sl_arrows_up_to⟩)
    (c_arrows_up_to : PySem.W.codeIn K cd_arrows_up_to "arrows_up_to" = true)
    (k_arrows_up_to : PySem.W.keepIn K (.ref f_arrows_up_to) = true)
    (a_longer_changes : PySem.W.nsIn K mainGlobals "longer_changes" = some (some (.ref f_longer_changes)))
    (l_longer_changes : K.lookup f_longer_changes = some ⟨oc_longer_changes, od_longer_changes, .func (PySem.W.fnOf "longer_changes" "longer_changes" (defArgs s_longer_changes) (defBody s_longer_changes) (defScope s_longer_changes) .none kV_longer_changes dc_longer_changes pm_longer_changes an_longer_changes cd_longer_changes ct_longer_changes), sl_longer_changes⟩)
    (c_longer_changes : PySem.W.codeIn K cd_longer_changes "longer_changes" = true)
    (k_longer_changes : PySem.W.keepIn K (.ref f_longer_changes) = true)
    (a_changes_among : PySem.W.nsIn K mainGlobals "changes_among" = some (some (.ref f_changes_among)))
    (l_changes_among : K.lookup f_changes_among = some ⟨oc_changes_among, od_changes_among, .func (PySem.W.fnOf "changes_among" "changes_among" (defArgs s_changes_among) (defBody s_changes_among) (defScope s_changes_among) .none kV_changes_among dc_changes_among pm_changes_among an_changes_among cd_changes_among ct_changes_among), sl_changes_among⟩)
    (c_changes_among : PySem.W.codeIn K cd_changes_among "changes_among" = true)
    (k_changes_among : PySem.W.keepIn K (.ref f_changes_among) = true)
    (a_arrows_between : PySem.W.nsIn K mainGlobals "arrows_between" = some (some (.ref f_arrows_between)))
    (l_arrows_between : K.lookup f_arrows_between = some ⟨oc_arrows_between, od_arrows_between, .func (PySem.W.fnOf "arrows_between" "arrows_between" (defArgs s_arrows_between) (defBody s_arrows_between) (defScope s_arrows_between) .none kV_arrows_between dc_arrows_between pm_arrows_between an_arrows_between cd_arrows_between ct_arrows_between), sl_arrows_between⟩)
    (c_arrows_between : PySem.W.codeIn K cd_arrows_between "arrows_between" = true)
    (k_arrows_between : PySem.W.keepIn K (.ref f_arrows_between) = true)
    (a_all_changes : PySem.W.nsIn K mainGlobals "all_changes" = some (some (.ref f_all_changes)))
    (l_all_changes : K.lookup f_all_changes = some ⟨oc_all_changes, od_all_changes, .func (PySem.W.fnOf "all_changes" "all_changes" (defArgs s_all_changes) (defBody s_all_changes) (defScope s_all_changes) .none kV_all_changes dc_all_changes pm_all_changes an_all_changes cd_all_changes ct_all_changes), sl_all_changes⟩)
    (c_all_changes : PySem.W.codeIn K cd_all_changes "all_changes" = true)
    (k_all_changes : PySem.W.keepIn K (.ref f_all_changes) = true)
    (a_undone_both_ways : PySem.W.nsIn K mainGlobals "undone_both_ways" = some (some (.ref f_undone_both_ways)))
    (l_undone_both_ways : K.lookup f_undone_both_ways = some ⟨oc_undone_both_ways, od_undone_both_ways, .func (PySem.W.fnOf "undone_both_ways" "undone_both_ways" (defArgs s_undone_both_ways) (defBody s_undone_both_ways) (defScope s_undone_both_ways) .none kV_undone_both_ways dc_undone_both_ways pm_undone_both_ways an_undone_both_ways cd_undone_both_ways ct_undone_both_ways), sl_undone_both_ways⟩)
    (c_undone_both_ways : PySem.W.codeIn K cd_undone_both_ways "undone_both_ways" = true)
    (k_undone_both_ways : PySem.W.keepIn K (.ref f_undone_both_ways) = true)
    (a_are_alike : PySem.W.nsIn K mainGlobals "are_alike" = some (some (.ref f_are_alike)))
    (l_are_alike : K.lookup f_are_alike = some ⟨oc_are_alike, od_are_alike, .func (PySem.W.fnOf "are_alike" "are_alike" (defArgs s_are_alike) (defBody s_are_alike) (defScope s_are_alike) .none kV_are_alike dc_are_alike pm_are_alike an_are_alike cd_are_alike ct_are_alike), sl_are_alike⟩)
    (c_are_alike : PySem.W.codeIn K cd_are_alike "are_alike" = true)
    (k_are_alike : PySem.W.keepIn K (.ref f_are_alike) = true)
    (a_comes_from_one : PySem.W.nsIn K mainGlobals "comes_from_one" = some (some (.ref f_comes_from_one)))
    (l_comes_from_one : K.lookup f_comes_from_one = some ⟨oc_comes_from_one, od_comes_from_one, .func (PySem.W.fnOf "comes_from_one" "comes_from_one" (defArgs s_comes_from_one) (defBody s_comes_from_one) (defScope s_comes_from_one) .none kV_comes_from_one dc_comes_from_one pm_comes_from_one an_comes_from_one cd_comes_from_one ct_comes_from_one), sl_comes_from_one⟩)
    (c_comes_from_one : PySem.W.codeIn K cd_comes_from_one "comes_from_one" = true)
    (k_comes_from_one : PySem.W.keepIn K (.ref f_comes_from_one) = true)
    (a_all_come_from_one : PySem.W.nsIn K mainGlobals "all_come_from_one" = some (some (.ref f_all_come_from_one)))
    (l_all_come_from_one : K.lookup f_all_come_from_one = some ⟨oc_all_come_from_one, od_all_come_from_one, .func (PySem.W.fnOf "all_come_from_one" "all_come_from_one" (defArgs s_all_come_from_one) (defBody s_all_come_from_one) (defScope s_all_come_from_one) .none kV_all_come_from_one dc_all_come_from_one pm_all_come_from_one an_all_come_from_one cd_all_come_from_one ct_all_come_from_one), sl_all_come_from_one⟩)
    (c_all_come_from_one : PySem.W.codeIn K cd_all_come_from_one "all_come_from_one" = true)
    (k_all_come_from_one : PySem.W.keepIn K (.ref f_all_come_from_one) = true)
    (a_partner_arrows : PySem.W.nsIn K mainGlobals "partner_arrows" = some (some (.ref f_partner_arrows)))
    (l_partner_arrows : K.lookup f_partner_arrows = some ⟨oc_partner_arrows, od_partner_arrows, .func (PySem.W.fnOf "partner_arrows" "partner_arrows" (defArgs s_partner_arrows) (defBody s_partner_arrows) (defScope s_partner_arrows) .none kV_partner_arrows dc_partner_arrows pm_partner_arrows an_partner_arrows cd_partner_arrows ct_partner_arrows), sl_partner_arrows⟩)
    (c_partner_arrows : PySem.W.codeIn K cd_partner_arrows "partner_arrows" = true)
    (k_partner_arrows : PySem.W.keepIn K (.ref f_partner_arrows) = true)
    (a_partner_choices : PySem.W.nsIn K mainGlobals "partner_choices" = some (some (.ref f_partner_choices)))
    (l_partner_choices : K.lookup f_partner_choices = some ⟨oc_partner_choices, od_partner_choices, .func (PySem.W.fnOf "partner_choices" "partner_choices" (defArgs s_partner_choices) (defBody s_partner_choices) (defScope s_partner_choices) .none kV_partner_choices dc_partner_choices pm_partner_choices an_partner_choices cd_partner_choices ct_partner_choices), sl_partner_choices⟩)
    (c_partner_choices : PySem.W.codeIn K cd_partner_choices "partner_choices" = true)
    (k_partner_choices : PySem.W.keepIn K (.ref f_partner_choices) = true)
    (a_partner_changes : PySem.W.nsIn K mainGlobals "partner_changes" = some (some (.ref f_partner_changes)))
    (l_partner_changes : K.lookup f_partner_changes = some ⟨oc_partner_changes, od_partner_changes, .func (PySem.W.fnOf "partner_changes" "partner_changes" (defArgs s_partner_changes) (defBody s_partner_changes) (defScope s_partner_changes) .none kV_partner_changes dc_partner_changes pm_partner_changes an_partner_changes cd_partner_changes ct_partner_changes), sl_partner_changes⟩)
    (c_partner_changes : PySem.W.codeIn K cd_partner_changes "partner_changes" = true)
    (k_partner_changes : PySem.W.keepIn K (.ref f_partner_changes) = true)
    (a_first_partner : PySem.W.nsIn K mainGlobals "first_partner" = some (some (.ref f_first_partner)))
    (l_first_partner : K.lookup f_first_partner = some ⟨oc_first_partner, od_first_partner, .func (PySem.W.fnOf "first_partner" "first_partner" (defArgs s_first_partner) (defBody s_first_partner) (defScope s_first_partner) .none kV_first_partner dc_first_partner pm_first_partner an_first_partner cd_first_partner ct_first_partner), sl_first_partner⟩)
    (c_first_partner : PySem.W.codeIn K cd_first_partner "first_partner" = true)
    (k_first_partner : PySem.W.keepIn K (.ref f_first_partner) = true)
    (a_is_last : PySem.W.nsIn K mainGlobals "is_last" = some (some (.ref f_is_last)))
    (l_is_last : K.lookup f_is_last = some ⟨oc_is_last, od_is_last, .func (PySem.W.fnOf "is_last" "is_last" (defArgs s_is_last) (defBody s_is_last) (defScope s_is_last) .none kV_is_last dc_is_last pm_is_last an_is_last cd_is_last ct_is_last), sl_is_last⟩)
    (c_is_last : PySem.W.codeIn K cd_is_last "is_last" = true)
    (k_is_last : PySem.W.keepIn K (.ref f_is_last) = true)
    (a_last_thing : PySem.W.nsIn K mainGlobals "last_thing" = some (some (.ref f_last_thing)))
    (l_last_thing : K.lookup f_last_thing = some ⟨oc_last_thing, od_last_thing, .func (PySem.W.fnOf "last_thing" "last_thing" (defArgs s_last_thing) (defBody s_last_thing) (defScope s_last_thing) .none kV_last_thing dc_last_thing pm_last_thing an_last_thing cd_last_thing ct_last_thing), sl_last_thing⟩)
    (c_last_thing : PySem.W.codeIn K cd_last_thing "last_thing" = true)
    (k_last_thing : PySem.W.keepIn K (.ref f_last_thing) = true)
    (a_comes_by_one : PySem.W.nsIn K mainGlobals "comes_by_one" = some (some (.ref f_comes_by_one)))
    (l_comes_by_one : K.lookup f_comes_by_one = some ⟨oc_comes_by_one, od_comes_by_one, .func (PySem.W.fnOf "comes_by_one" "comes_by_one" (defArgs s_comes_by_one) (defBody s_comes_by_one) (defScope s_comes_by_one) .none kV_comes_by_one dc_comes_by_one pm_comes_by_one an_comes_by_one cd_comes_by_one ct_comes_by_one), sl_comes_by_one⟩)
    (c_comes_by_one : PySem.W.codeIn K cd_comes_by_one "comes_by_one" = true)
    (k_comes_by_one : PySem.W.keepIn K (.ref f_comes_by_one) = true)
    (a_all_come_by : PySem.W.nsIn K mainGlobals "all_come_by" = some (some (.ref f_all_come_by)))
    (l_all_come_by : K.lookup f_all_come_by = some ⟨oc_all_come_by, od_all_come_by, .func (PySem.W.fnOf "all_come_by" "all_come_by" (defArgs s_all_come_by) (defBody s_all_come_by) (defScope s_all_come_by) .none kV_all_come_by dc_all_come_by pm_all_come_by an_all_come_by cd_all_come_by ct_all_come_by), sl_all_come_by⟩)
    (c_all_come_by : PySem.W.codeIn K cd_all_come_by "all_come_by" = true)
    (k_all_come_by : PySem.W.keepIn K (.ref f_all_come_by) = true)
    (a_first_pair : PySem.W.nsIn K mainGlobals "first_pair" = some (some (.ref f_first_pair)))
    (l_first_pair : K.lookup f_first_pair = some ⟨oc_first_pair, od_first_pair, .func (PySem.W.fnOf "first_pair" "first_pair" (defArgs s_first_pair) (defBody s_first_pair) (defScope s_first_pair) .none kV_first_pair dc_first_pair pm_first_pair an_first_pair cd_first_pair ct_first_pair), sl_first_pair⟩)
    (c_first_pair : PySem.W.codeIn K cd_first_pair "first_pair" = true)
    (k_first_pair : PySem.W.keepIn K (.ref f_first_pair) = true)
    (a_first_product : PySem.W.nsIn K mainGlobals "first_product" = some (some (.ref f_first_product)))
    (l_first_product : K.lookup f_first_product = some ⟨oc_first_product, od_first_product, .func (PySem.W.fnOf "first_product" "first_product" (defArgs s_first_product) (defBody s_first_product) (defScope s_first_product) .none kV_first_product dc_first_product pm_first_product an_first_product cd_first_product ct_first_product), sl_first_product⟩)
    (c_first_product : PySem.W.codeIn K cd_first_product "first_product" = true)
    (k_first_product : PySem.W.keepIn K (.ref f_first_product) = true)
    (a_first_pullback : PySem.W.nsIn K mainGlobals "first_pullback" = some (some (.ref f_first_pullback)))
    (l_first_pullback : K.lookup f_first_pullback = some ⟨oc_first_pullback, od_first_pullback, .func (PySem.W.fnOf "first_pullback" "first_pullback" (defArgs s_first_pullback) (defBody s_first_pullback) (defScope s_first_pullback) .none kV_first_pullback dc_first_pullback pm_first_pullback an_first_pullback cd_first_pullback ct_first_pullback), sl_first_pullback⟩)
    (c_first_pullback : PySem.W.codeIn K cd_first_pullback "first_pullback" = true)
    (k_first_pullback : PySem.W.keepIn K (.ref f_first_pullback) = true)
    (a_first_equalizer : PySem.W.nsIn K mainGlobals "first_equalizer" = some (some (.ref f_first_equalizer)))
    (l_first_equalizer : K.lookup f_first_equalizer = some ⟨oc_first_equalizer, od_first_equalizer, .func (PySem.W.fnOf "first_equalizer" "first_equalizer" (defArgs s_first_equalizer) (defBody s_first_equalizer) (defScope s_first_equalizer) .none kV_first_equalizer dc_first_equalizer pm_first_equalizer an_first_equalizer cd_first_equalizer ct_first_equalizer), sl_first_equalizer⟩)
    (c_first_equalizer : PySem.W.codeIn K cd_first_equalizer "first_equalizer" = true)
    (k_first_equalizer : PySem.W.keepIn K (.ref f_first_equalizer) = true)
    (a_made_threes : PySem.W.nsIn K mainGlobals "made_threes" = some (some (.ref f_made_threes)))
    (l_made_threes : K.lookup f_made_threes = some ⟨oc_made_threes, od_made_threes, .func (PySem.W.fnOf "made_threes" "made_threes" (defArgs s_made_threes) (defBody s_made_threes) (defScope s_made_threes) .none kV_made_threes dc_made_threes pm_made_threes an_made_threes cd_made_threes ct_made_threes), sl_made_threes⟩)
    (c_made_threes : PySem.W.codeIn K cd_made_threes "made_threes" = true)
    (k_made_threes : PySem.W.keepIn K (.ref f_made_threes) = true)
    (a_tied_arrows : PySem.W.nsIn K mainGlobals "tied_arrows" = some (some (.ref f_tied_arrows)))
    (l_tied_arrows : K.lookup f_tied_arrows = some ⟨oc_tied_arrows, od_tied_arrows, .func (PySem.W.fnOf "tied_arrows" "tied_arrows" (defArgs s_tied_arrows) (defBody s_tied_arrows) (defScope s_tied_arrows) .none kV_tied_arrows dc_tied_arrows pm_tied_arrows an_tied_arrows cd_tied_arrows ct_tied_arrows), sl_tied_arrows⟩)
    (c_tied_arrows : PySem.W.codeIn K cd_tied_arrows "tied_arrows" = true)
    (k_tied_arrows : PySem.W.keepIn K (.ref f_tied_arrows) = true)
    (a_most_tied : PySem.W.nsIn K mainGlobals "most_tied" = some (some (.ref f_most_tied)))
    (l_most_tied : K.lookup f_most_tied = some ⟨oc_most_tied, od_most_tied, .func (PySem.W.fnOf "most_tied" "most_tied" (defArgs s_most_tied) (defBody s_most_tied) (defScope s_most_tied) .none kV_most_tied dc_most_tied pm_most_tied an_most_tied cd_most_tied ct_most_tied), sl_most_tied⟩)
    (c_most_tied : PySem.W.codeIn K cd_most_tied "most_tied" = true)
    (k_most_tied : PySem.W.keepIn K (.ref f_most_tied) = true)
    (a_settled_first : PySem.W.nsIn K mainGlobals "settled_first" = some (some (.ref f_settled_first)))
    (l_settled_first : K.lookup f_settled_first = some ⟨oc_settled_first, od_settled_first, .func (PySem.W.fnOf "settled_first" "settled_first" (defArgs s_settled_first) (defBody s_settled_first) (defScope s_settled_first) .none kV_settled_first dc_settled_first pm_settled_first an_settled_first cd_settled_first ct_settled_first), sl_settled_first⟩)
    (c_settled_first : PySem.W.codeIn K cd_settled_first "settled_first" = true)
    (k_settled_first : PySem.W.keepIn K (.ref f_settled_first) = true)
    (a_side_by_side : PySem.W.nsIn K mainGlobals "side_by_side" = some (some (.ref f_side_by_side)))
    (l_side_by_side : K.lookup f_side_by_side = some ⟨oc_side_by_side, od_side_by_side, .func (PySem.W.fnOf "side_by_side" "side_by_side" (defArgs s_side_by_side) (defBody s_side_by_side) (defScope s_side_by_side) .none kV_side_by_side dc_side_by_side pm_side_by_side an_side_by_side cd_side_by_side ct_side_by_side), sl_side_by_side⟩)
    (c_side_by_side : PySem.W.codeIn K cd_side_by_side "side_by_side" = true)
    (k_side_by_side : PySem.W.keepIn K (.ref f_side_by_side) = true)
    (a_holds : PySem.W.nsIn K mainGlobals "holds" = some (some (.ref f_holds)))
    (l_holds : K.lookup f_holds = some ⟨oc_holds, od_holds, .func (PySem.W.fnOf "holds" "holds" (defArgs s_holds) (defBody s_holds) (defScope s_holds) .none kV_holds dc_holds pm_holds an_holds cd_holds ct_holds), sl_holds⟩)
    (c_holds : PySem.W.codeIn K cd_holds "holds" = true)
    (k_holds : PySem.W.keepIn K (.ref f_holds) = true)
    (a_with_settled : PySem.W.nsIn K mainGlobals "with_settled" = some (some (.ref f_with_settled)))
    (l_with_settled : K.lookup f_with_settled = some ⟨oc_with_settled, od_with_settled, .func (PySem.W.fnOf "with_settled" "with_settled" (defArgs s_with_settled) (defBody s_with_settled) (defScope s_with_settled) .none kV_with_settled dc_with_settled pm_with_settled an_with_settled cd_with_settled ct_with_settled), sl_with_settled⟩)
    (c_with_settled : PySem.W.codeIn K cd_with_settled "with_settled" = true)
    (k_with_settled : PySem.W.keepIn K (.ref f_with_settled) = true)
    (a_choices : PySem.W.nsIn K mainGlobals "choices" = some (some (.ref f_choices)))
    (l_choices : K.lookup f_choices = some ⟨oc_choices, od_choices, .func (PySem.W.fnOf "choices" "choices" (defArgs s_choices) (defBody s_choices) (defScope s_choices) .none kV_choices dc_choices pm_choices an_choices cd_choices ct_choices), sl_choices⟩)
    (c_choices : PySem.W.codeIn K cd_choices "choices" = true)
    (k_choices : PySem.W.keepIn K (.ref f_choices) = true)
    (a_settle : PySem.W.nsIn K mainGlobals "settle" = some (some (.ref f_settle)))
    (l_settle : K.lookup f_settle = some ⟨oc_settle, od_settle, .func (PySem.W.fnOf "settle" "settle" (defArgs s_settle) (defBody s_settle) (defScope s_settle) .none kV_settle dc_settle pm_settle an_settle cd_settle ct_settle), sl_settle⟩)
    (c_settle : PySem.W.codeIn K cd_settle "settle" = true)
    (k_settle : PySem.W.keepIn K (.ref f_settle) = true)
    (a_box_of : PySem.W.nsIn K mainGlobals "box_of" = some (some (.ref f_box_of)))
    (l_box_of : K.lookup f_box_of = some ⟨oc_box_of, od_box_of, .func (PySem.W.fnOf "box_of" "box_of" (defArgs s_box_of) (defBody s_box_of) (defScope s_box_of) .none kV_box_of dc_box_of pm_box_of an_box_of cd_box_of ct_box_of), sl_box_of⟩)
    (c_box_of : PySem.W.codeIn K cd_box_of "box_of" = true)
    (k_box_of : PySem.W.keepIn K (.ref f_box_of) = true)
    (a_boxes_of : PySem.W.nsIn K mainGlobals "boxes_of" = some (some (.ref f_boxes_of)))
    (l_boxes_of : K.lookup f_boxes_of = some ⟨oc_boxes_of, od_boxes_of, .func (PySem.W.fnOf "boxes_of" "boxes_of" (defArgs s_boxes_of) (defBody s_boxes_of) (defScope s_boxes_of) .none kV_boxes_of dc_boxes_of pm_boxes_of an_boxes_of cd_boxes_of ct_boxes_of), sl_boxes_of⟩)
    (c_boxes_of : PySem.W.codeIn K cd_boxes_of "boxes_of" = true)
    (k_boxes_of : PySem.W.keepIn K (.ref f_boxes_of) = true)
    (a_ways_from : PySem.W.nsIn K mainGlobals "ways_from" = some (some (.ref f_ways_from)))
    (l_ways_from : K.lookup f_ways_from = some ⟨oc_ways_from, od_ways_from, .func (PySem.W.fnOf "ways_from" "ways_from" (defArgs s_ways_from) (defBody s_ways_from) (defScope s_ways_from) .none kV_ways_from dc_ways_from pm_ways_from an_ways_from cd_ways_from ct_ways_from), sl_ways_from⟩)
    (c_ways_from : PySem.W.codeIn K cd_ways_from "ways_from" = true)
    (k_ways_from : PySem.W.keepIn K (.ref f_ways_from) = true)
    (a_mapping_count : PySem.W.nsIn K mainGlobals "mapping_count" = some (some (.ref f_mapping_count)))
    (l_mapping_count : K.lookup f_mapping_count = some ⟨oc_mapping_count, od_mapping_count, .func (PySem.W.fnOf "mapping_count" "mapping_count" (defArgs s_mapping_count) (defBody s_mapping_count) (defScope s_mapping_count) .none kV_mapping_count dc_mapping_count pm_mapping_count an_mapping_count cd_mapping_count ct_mapping_count), sl_mapping_count⟩)
    (c_mapping_count : PySem.W.codeIn K cd_mapping_count "mapping_count" = true)
    (k_mapping_count : PySem.W.keepIn K (.ref f_mapping_count) = true)
    (a_boxes_with : PySem.W.nsIn K mainGlobals "boxes_with" = some (some (.ref f_boxes_with)))
    (l_boxes_with : K.lookup f_boxes_with = some ⟨oc_boxes_with, od_boxes_with, .func (PySem.W.fnOf "boxes_with" "boxes_with" (defArgs s_boxes_with) (defBody s_boxes_with) (defScope s_boxes_with) .none kV_boxes_with dc_boxes_with pm_boxes_with an_boxes_with cd_boxes_with ct_boxes_with), sl_boxes_with⟩)
    (c_boxes_with : PySem.W.codeIn K cd_boxes_with "boxes_with" = true)
    (k_boxes_with : PySem.W.keepIn K (.ref f_boxes_with) = true)
    (a_mapping_at : PySem.W.nsIn K mainGlobals "mapping_at" = some (some (.ref f_mapping_at)))
    (l_mapping_at : K.lookup f_mapping_at = some ⟨oc_mapping_at, od_mapping_at, .func (PySem.W.fnOf "mapping_at" "mapping_at" (defArgs s_mapping_at) (defBody s_mapping_at) (defScope s_mapping_at) .none kV_mapping_at dc_mapping_at pm_mapping_at an_mapping_at cd_mapping_at ct_mapping_at), sl_mapping_at⟩)
    (c_mapping_at : PySem.W.codeIn K cd_mapping_at "mapping_at" = true)
    (k_mapping_at : PySem.W.keepIn K (.ref f_mapping_at) = true)
    (a_mappings_in : PySem.W.nsIn K mainGlobals "mappings_in" = some (some (.ref f_mappings_in)))
    (l_mappings_in : K.lookup f_mappings_in = some ⟨oc_mappings_in, od_mappings_in, .func (PySem.W.fnOf "mappings_in" "mappings_in" (defArgs s_mappings_in) (defBody s_mappings_in) (defScope s_mappings_in) .none kV_mappings_in dc_mappings_in pm_mappings_in an_mappings_in cd_mappings_in ct_mappings_in), sl_mappings_in⟩)
    (c_mappings_in : PySem.W.codeIn K cd_mappings_in "mappings_in" = true)
    (k_mappings_in : PySem.W.keepIn K (.ref f_mappings_in) = true)
    (a_all_mappings : PySem.W.nsIn K mainGlobals "all_mappings" = some (some (.ref f_all_mappings)))
    (l_all_mappings : K.lookup f_all_mappings = some ⟨oc_all_mappings, od_all_mappings, .func (PySem.W.fnOf "all_mappings" "all_mappings" (defArgs s_all_mappings) (defBody s_all_mappings) (defScope s_all_mappings) .none kV_all_mappings dc_all_mappings pm_all_mappings an_all_mappings cd_all_mappings ct_all_mappings), sl_all_mappings⟩)
    (c_all_mappings : PySem.W.codeIn K cd_all_mappings "all_mappings" = true)
    (k_all_mappings : PySem.W.keepIn K (.ref f_all_mappings) = true)
    (a_fault_of_pair : PySem.W.nsIn K mainGlobals "fault_of_pair" = some (some (.ref f_fault_of_pair)))
    (l_fault_of_pair : K.lookup f_fault_of_pair = some ⟨oc_fault_of_pair, od_fault_of_pair, .func (PySem.W.fnOf "fault_of_pair" "fault_of_pair" (defArgs s_fault_of_pair) (defBody s_fault_of_pair) (defScope s_fault_of_pair) .none kV_fault_of_pair dc_fault_of_pair pm_fault_of_pair an_fault_of_pair cd_fault_of_pair ct_fault_of_pair), sl_fault_of_pair⟩)
    (c_fault_of_pair : PySem.W.codeIn K cd_fault_of_pair "fault_of_pair" = true)
    (k_fault_of_pair : PySem.W.keepIn K (.ref f_fault_of_pair) = true)
    (a_first_fault_of_pairs : PySem.W.nsIn K mainGlobals "first_fault_of_pairs" = some (some (.ref f_first_fault_of_pairs)))
    (l_first_fault_of_pairs : K.lookup f_first_fault_of_pairs = some ⟨oc_first_fault_of_pairs, od_first_fault_of_pairs, .func (PySem.W.fnOf "first_fault_of_pairs" "first_fault_of_pairs" (defArgs s_first_fault_of_pairs) (defBody s_first_fault_of_pairs) (defScope s_first_fault_of_pairs) .none kV_first_fault_of_pairs dc_first_fault_of_pairs pm_first_fault_of_pairs an_first_fault_of_pairs cd_first_fault_of_pairs ct_first_fault_of_pairs), sl_first_fault_of_pairs⟩)
    (c_first_fault_of_pairs : PySem.W.codeIn K cd_first_fault_of_pairs "first_fault_of_pairs" = true)
    (k_first_fault_of_pairs : PySem.W.keepIn K (.ref f_first_fault_of_pairs) = true)
    (a_same_both_ways : PySem.W.nsIn K mainGlobals "same_both_ways" = some (some (.ref f_same_both_ways)))
    (l_same_both_ways : K.lookup f_same_both_ways = some ⟨oc_same_both_ways, od_same_both_ways, .func (PySem.W.fnOf "same_both_ways" "same_both_ways" (defArgs s_same_both_ways) (defBody s_same_both_ways) (defScope s_same_both_ways) .none kV_same_both_ways dc_same_both_ways pm_same_both_ways an_same_both_ways cd_same_both_ways ct_same_both_ways), sl_same_both_ways⟩)
    (c_same_both_ways : PySem.W.codeIn K cd_same_both_ways "same_both_ways" = true)
    (k_same_both_ways : PySem.W.keepIn K (.ref f_same_both_ways) = true)
    (a_first_fault_of_threes : PySem.W.nsIn K mainGlobals "first_fault_of_threes" = some (some (.ref f_first_fault_of_threes)))
    (l_first_fault_of_threes : K.lookup f_first_fault_of_threes = some ⟨oc_first_fault_of_threes, od_first_fault_of_threes, .func (PySem.W.fnOf "first_fault_of_threes" "first_fault_of_threes" (defArgs s_first_fault_of_threes) (defBody s_first_fault_of_threes) (defScope s_first_fault_of_threes) .none kV_first_fault_of_threes dc_first_fault_of_threes pm_first_fault_of_threes an_first_fault_of_threes cd_first_fault_of_threes ct_first_fault_of_threes), sl_first_fault_of_threes⟩)
    (c_first_fault_of_threes : PySem.W.codeIn K cd_first_fault_of_threes "first_fault_of_threes" = true)
    (k_first_fault_of_threes : PySem.W.keepIn K (.ref f_first_fault_of_threes) = true)
    (a_first_fault : PySem.W.nsIn K mainGlobals "first_fault" = some (some (.ref f_first_fault)))
    (l_first_fault : K.lookup f_first_fault = some ⟨oc_first_fault, od_first_fault, .func (PySem.W.fnOf "first_fault" "first_fault" (defArgs s_first_fault) (defBody s_first_fault) (defScope s_first_fault) .none kV_first_fault dc_first_fault pm_first_fault an_first_fault cd_first_fault ct_first_fault), sl_first_fault⟩)
    (c_first_fault : PySem.W.codeIn K cd_first_fault "first_fault" = true)
    (k_first_fault : PySem.W.keepIn K (.ref f_first_fault) = true)
    (a_is_category : PySem.W.nsIn K mainGlobals "is_category" = some (some (.ref f_is_category)))
    (l_is_category : K.lookup f_is_category = some ⟨oc_is_category, od_is_category, .func (PySem.W.fnOf "is_category" "is_category" (defArgs s_is_category) (defBody s_is_category) (defScope s_is_category) .none kV_is_category dc_is_category pm_is_category an_is_category cd_is_category ct_is_category), sl_is_category⟩)
    (c_is_category : PySem.W.codeIn K cd_is_category "is_category" = true)
    (k_is_category : PySem.W.keepIn K (.ref f_is_category) = true)
    (a_answer_start : PySem.W.nsIn K mainGlobals "answer_start" = some (some (.ref f_answer_start)))
    (l_answer_start : K.lookup f_answer_start = some ⟨oc_answer_start, od_answer_start, .func (PySem.W.fnOf "answer_start" "answer_start" (defArgs s_answer_start) (defBody s_answer_start) (defScope s_answer_start) .none kV_answer_start dc_answer_start pm_answer_start an_answer_start cd_answer_start ct_answer_start), sl_answer_start⟩)
    (c_answer_start : PySem.W.codeIn K cd_answer_start "answer_start" = true)
    (k_answer_start : PySem.W.keepIn K (.ref f_answer_start) = true)
    (a_answer_arrow : PySem.W.nsIn K mainGlobals "answer_arrow" = some (some (.ref f_answer_arrow)))
    (l_answer_arrow : K.lookup f_answer_arrow = some ⟨oc_answer_arrow, od_answer_arrow, .func (PySem.W.fnOf "answer_arrow" "answer_arrow" (defArgs s_answer_arrow) (defBody s_answer_arrow) (defScope s_answer_arrow) .none kV_answer_arrow dc_answer_arrow pm_answer_arrow an_answer_arrow cd_answer_arrow ct_answer_arrow), sl_answer_arrow⟩)
    (c_answer_arrow : PySem.W.codeIn K cd_answer_arrow "answer_arrow" = true)
    (k_answer_arrow : PySem.W.keepIn K (.ref f_answer_arrow) = true)
    (a_answer_make : PySem.W.nsIn K mainGlobals "answer_make" = some (some (.ref f_answer_make)))
    (l_answer_make : K.lookup f_answer_make = some ⟨oc_answer_make, od_answer_make, .func (PySem.W.fnOf "answer_make" "answer_make" (defArgs s_answer_make) (defBody s_answer_make) (defScope s_answer_make) .none kV_answer_make dc_answer_make pm_answer_make an_answer_make cd_answer_make ct_answer_make), sl_answer_make⟩)
    (c_answer_make : PySem.W.codeIn K cd_answer_make "answer_make" = true)
    (k_answer_make : PySem.W.keepIn K (.ref f_answer_make) = true)
    (a_answer_check : PySem.W.nsIn K mainGlobals "answer_check" = some (some (.ref f_answer_check)))
    (l_answer_check : K.lookup f_answer_check = some ⟨oc_answer_check, od_answer_check, .func (PySem.W.fnOf "answer_check" "answer_check" (defArgs s_answer_check) (defBody s_answer_check) (defScope s_answer_check) .none kV_answer_check dc_answer_check pm_answer_check an_answer_check cd_answer_check ct_answer_check), sl_answer_check⟩)
    (c_answer_check : PySem.W.codeIn K cd_answer_check "answer_check" = true)
    (k_answer_check : PySem.W.keepIn K (.ref f_answer_check) = true)
    (a_refusal_of_arrows : PySem.W.nsIn K mainGlobals "refusal_of_arrows" = some (some (.ref f_refusal_of_arrows)))
    (l_refusal_of_arrows : K.lookup f_refusal_of_arrows = some ⟨oc_refusal_of_arrows, od_refusal_of_arrows, .func (PySem.W.fnOf "refusal_of_arrows" "refusal_of_arrows" (defArgs s_refusal_of_arrows) (defBody s_refusal_of_arrows) (defScope s_refusal_of_arrows) .none kV_refusal_of_arrows dc_refusal_of_arrows pm_refusal_of_arrows an_refusal_of_arrows cd_refusal_of_arrows ct_refusal_of_arrows), sl_refusal_of_arrows⟩)
    (c_refusal_of_arrows : PySem.W.codeIn K cd_refusal_of_arrows "refusal_of_arrows" = true)
    (k_refusal_of_arrows : PySem.W.keepIn K (.ref f_refusal_of_arrows) = true)
    (a_refusal_of_things : PySem.W.nsIn K mainGlobals "refusal_of_things" = some (some (.ref f_refusal_of_things)))
    (l_refusal_of_things : K.lookup f_refusal_of_things = some ⟨oc_refusal_of_things, od_refusal_of_things, .func (PySem.W.fnOf "refusal_of_things" "refusal_of_things" (defArgs s_refusal_of_things) (defBody s_refusal_of_things) (defScope s_refusal_of_things) .none kV_refusal_of_things dc_refusal_of_things pm_refusal_of_things an_refusal_of_things cd_refusal_of_things ct_refusal_of_things), sl_refusal_of_things⟩)
    (c_refusal_of_things : PySem.W.codeIn K cd_refusal_of_things "refusal_of_things" = true)
    (k_refusal_of_things : PySem.W.keepIn K (.ref f_refusal_of_things) = true)
    (a_answer_kinds : PySem.W.nsIn K mainGlobals "answer_kinds" = some (some (.ref f_answer_kinds)))
    (l_answer_kinds : K.lookup f_answer_kinds = some ⟨oc_answer_kinds, od_answer_kinds, .func (PySem.W.fnOf "answer_kinds" "answer_kinds" (defArgs s_answer_kinds) (defBody s_answer_kinds) (defScope s_answer_kinds) .none kV_answer_kinds dc_answer_kinds pm_answer_kinds an_answer_kinds cd_answer_kinds ct_answer_kinds), sl_answer_kinds⟩)
    (c_answer_kinds : PySem.W.codeIn K cd_answer_kinds "answer_kinds" = true)
    (k_answer_kinds : PySem.W.keepIn K (.ref f_answer_kinds) = true)
    (a_answer_hom : PySem.W.nsIn K mainGlobals "answer_hom" = some (some (.ref f_answer_hom)))
    (l_answer_hom : K.lookup f_answer_hom = some ⟨oc_answer_hom, od_answer_hom, .func (PySem.W.fnOf "answer_hom" "answer_hom" (defArgs s_answer_hom) (defBody s_answer_hom) (defScope s_answer_hom) .none kV_answer_hom dc_answer_hom pm_answer_hom an_answer_hom cd_answer_hom ct_answer_hom), sl_answer_hom⟩)
    (c_answer_hom : PySem.W.codeIn K cd_answer_hom "answer_hom" = true)
    (k_answer_hom : PySem.W.keepIn K (.ref f_answer_hom) = true)
    (a_answer_turn : PySem.W.nsIn K mainGlobals "answer_turn" = some (some (.ref f_answer_turn)))
    (l_answer_turn : K.lookup f_answer_turn = some ⟨oc_answer_turn, od_answer_turn, .func (PySem.W.fnOf "answer_turn" "answer_turn" (defArgs s_answer_turn) (defBody s_answer_turn) (defScope s_answer_turn) .none kV_answer_turn dc_answer_turn pm_answer_turn an_answer_turn cd_answer_turn ct_answer_turn), sl_answer_turn⟩)
    (c_answer_turn : PySem.W.codeIn K cd_answer_turn "answer_turn" = true)
    (k_answer_turn : PySem.W.keepIn K (.ref f_answer_turn) = true)
    (a_answer_last : PySem.W.nsIn K mainGlobals "answer_last" = some (some (.ref f_answer_last)))
    (l_answer_last : K.lookup f_answer_last = some ⟨oc_answer_last, od_answer_last, .func (PySem.W.fnOf "answer_last" "answer_last" (defArgs s_answer_last) (defBody s_answer_last) (defScope s_answer_last) .none kV_answer_last dc_answer_last pm_answer_last an_answer_last cd_answer_last ct_answer_last), sl_answer_last⟩)
    (c_answer_last : PySem.W.codeIn K cd_answer_last "answer_last" = true)
    (k_answer_last : PySem.W.keepIn K (.ref f_answer_last) = true)
    (a_answer_product : PySem.W.nsIn K mainGlobals "answer_product" = some (some (.ref f_answer_product)))
    (l_answer_product : K.lookup f_answer_product = some ⟨oc_answer_product, od_answer_product, .func (PySem.W.fnOf "answer_product" "answer_product" (defArgs s_answer_product) (defBody s_answer_product) (defScope s_answer_product) .none kV_answer_product dc_answer_product pm_answer_product an_answer_product cd_answer_product ct_answer_product), sl_answer_product⟩)
    (c_answer_product : PySem.W.codeIn K cd_answer_product "answer_product" = true)
    (k_answer_product : PySem.W.keepIn K (.ref f_answer_product) = true)
    (a_answer_pullback : PySem.W.nsIn K mainGlobals "answer_pullback" = some (some (.ref f_answer_pullback)))
    (l_answer_pullback : K.lookup f_answer_pullback = some ⟨oc_answer_pullback, od_answer_pullback, .func (PySem.W.fnOf "answer_pullback" "answer_pullback" (defArgs s_answer_pullback) (defBody s_answer_pullback) (defScope s_answer_pullback) .none kV_answer_pullback dc_answer_pullback pm_answer_pullback an_answer_pullback cd_answer_pullback ct_answer_pullback), sl_answer_pullback⟩)
    (c_answer_pullback : PySem.W.codeIn K cd_answer_pullback "answer_pullback" = true)
    (k_answer_pullback : PySem.W.keepIn K (.ref f_answer_pullback) = true)
    (a_answer_equalizer : PySem.W.nsIn K mainGlobals "answer_equalizer" = some (some (.ref f_answer_equalizer)))
    (l_answer_equalizer : K.lookup f_answer_equalizer = some ⟨oc_answer_equalizer, od_answer_equalizer, .func (PySem.W.fnOf "answer_equalizer" "answer_equalizer" (defArgs s_answer_equalizer) (defBody s_answer_equalizer) (defScope s_answer_equalizer) .none kV_answer_equalizer dc_answer_equalizer pm_answer_equalizer an_answer_equalizer cd_answer_equalizer ct_answer_equalizer), sl_answer_equalizer⟩)
    (c_answer_equalizer : PySem.W.codeIn K cd_answer_equalizer "answer_equalizer" = true)
    (k_answer_equalizer : PySem.W.keepIn K (.ref f_answer_equalizer) = true)
    (a_both_are_categories : PySem.W.nsIn K mainGlobals "both_are_categories" = some (some (.ref f_both_are_categories)))
    (l_both_are_categories : K.lookup f_both_are_categories = some ⟨oc_both_are_categories, od_both_are_categories, .func (PySem.W.fnOf "both_are_categories" "both_are_categories" (defArgs s_both_are_categories) (defBody s_both_are_categories) (defScope s_both_are_categories) .none kV_both_are_categories dc_both_are_categories pm_both_are_categories an_both_are_categories cd_both_are_categories ct_both_are_categories), sl_both_are_categories⟩)
    (c_both_are_categories : PySem.W.codeIn K cd_both_are_categories "both_are_categories" = true)
    (k_both_are_categories : PySem.W.keepIn K (.ref f_both_are_categories) = true)
    (a_answer_maps : PySem.W.nsIn K mainGlobals "answer_maps" = some (some (.ref f_answer_maps)))
    (l_answer_maps : K.lookup f_answer_maps = some ⟨oc_answer_maps, od_answer_maps, .func (PySem.W.fnOf "answer_maps" "answer_maps" (defArgs s_answer_maps) (defBody s_answer_maps) (defScope s_answer_maps) .none kV_answer_maps dc_answer_maps pm_answer_maps an_answer_maps cd_answer_maps ct_answer_maps), sl_answer_maps⟩)
    (c_answer_maps : PySem.W.codeIn K cd_answer_maps "answer_maps" = true)
    (k_answer_maps : PySem.W.keepIn K (.ref f_answer_maps) = true)
    (a_answer_of_mappings : PySem.W.nsIn K mainGlobals "answer_of_mappings" = some (some (.ref f_answer_of_mappings)))
    (l_answer_of_mappings : K.lookup f_answer_of_mappings = some ⟨oc_answer_of_mappings, od_answer_of_mappings, .func (PySem.W.fnOf "answer_of_mappings" "answer_of_mappings" (defArgs s_answer_of_mappings) (defBody s_answer_of_mappings) (defScope s_answer_of_mappings) .none kV_answer_of_mappings dc_answer_of_mappings pm_answer_of_mappings an_answer_of_mappings cd_answer_of_mappings ct_answer_of_mappings), sl_answer_of_mappings⟩)
    (c_answer_of_mappings : PySem.W.codeIn K cd_answer_of_mappings "answer_of_mappings" = true)
    (k_answer_of_mappings : PySem.W.keepIn K (.ref f_answer_of_mappings) = true)
    (a_tell_mapping : PySem.W.nsIn K mainGlobals "tell_mapping" = some (some (.ref f_tell_mapping)))
    (l_tell_mapping : K.lookup f_tell_mapping = some ⟨oc_tell_mapping, od_tell_mapping, .func (PySem.W.fnOf "tell_mapping" "tell_mapping" (defArgs s_tell_mapping) (defBody s_tell_mapping) (defScope s_tell_mapping) .none kV_tell_mapping dc_tell_mapping pm_tell_mapping an_tell_mapping cd_tell_mapping ct_tell_mapping), sl_tell_mapping⟩)
    (c_tell_mapping : PySem.W.codeIn K cd_tell_mapping "tell_mapping" = true)
    (k_tell_mapping : PySem.W.keepIn K (.ref f_tell_mapping) = true)
    (a_tell_changes : PySem.W.nsIn K mainGlobals "tell_changes" = some (some (.ref f_tell_changes)))
    (l_tell_changes : K.lookup f_tell_changes = some ⟨oc_tell_changes, od_tell_changes, .func (PySem.W.fnOf "tell_changes" "tell_changes" (defArgs s_tell_changes) (defBody s_tell_changes) (defScope s_tell_changes) .none kV_tell_changes dc_tell_changes pm_tell_changes an_tell_changes cd_tell_changes ct_tell_changes), sl_tell_changes⟩)
    (c_tell_changes : PySem.W.codeIn K cd_tell_changes "tell_changes" = true)
    (k_tell_changes : PySem.W.keepIn K (.ref f_tell_changes) = true)
    (a_tell_alike : PySem.W.nsIn K mainGlobals "tell_alike" = some (some (.ref f_tell_alike)))
    (l_tell_alike : K.lookup f_tell_alike = some ⟨oc_tell_alike, od_tell_alike, .func (PySem.W.fnOf "tell_alike" "tell_alike" (defArgs s_tell_alike) (defBody s_tell_alike) (defScope s_tell_alike) .none kV_tell_alike dc_tell_alike pm_tell_alike an_tell_alike cd_tell_alike ct_tell_alike), sl_tell_alike⟩)
    (c_tell_alike : PySem.W.codeIn K cd_tell_alike "tell_alike" = true)
    (k_tell_alike : PySem.W.keepIn K (.ref f_tell_alike) = true)
    (a_tell_partner : PySem.W.nsIn K mainGlobals "tell_partner" = some (some (.ref f_tell_partner)))
    (l_tell_partner : K.lookup f_tell_partner = some ⟨oc_tell_partner, od_tell_partner, .func (PySem.W.fnOf "tell_partner" "tell_partner" (defArgs s_tell_partner) (defBody s_tell_partner) (defScope s_tell_partner) .none kV_tell_partner dc_tell_partner pm_tell_partner an_tell_partner cd_tell_partner ct_tell_partner), sl_tell_partner⟩)
    (c_tell_partner : PySem.W.codeIn K cd_tell_partner "tell_partner" = true)
    (k_tell_partner : PySem.W.keepIn K (.ref f_tell_partner) = true)
    (a_answer_nth : PySem.W.nsIn K mainGlobals "answer_nth" = some (some (.ref f_answer_nth)))
    (l_answer_nth : K.lookup f_answer_nth = some ⟨oc_answer_nth, od_answer_nth, .func (PySem.W.fnOf "answer_nth" "answer_nth" (defArgs s_answer_nth) (defBody s_answer_nth) (defScope s_answer_nth) .none kV_answer_nth dc_answer_nth pm_answer_nth an_answer_nth cd_answer_nth ct_answer_nth), sl_answer_nth⟩)
    (c_answer_nth : PySem.W.codeIn K cd_answer_nth "answer_nth" = true)
    (k_answer_nth : PySem.W.keepIn K (.ref f_answer_nth) = true)
    (a_answer_changes : PySem.W.nsIn K mainGlobals "answer_changes" = some (some (.ref f_answer_changes)))
    (l_answer_changes : K.lookup f_answer_changes = some ⟨oc_answer_changes, od_answer_changes, .func (PySem.W.fnOf "answer_changes" "answer_changes" (defArgs s_answer_changes) (defBody s_answer_changes) (defScope s_answer_changes) .none kV_answer_changes dc_answer_changes pm_answer_changes an_answer_changes cd_answer_changes ct_answer_changes), sl_answer_changes⟩)
    (c_answer_changes : PySem.W.codeIn K cd_answer_changes "answer_changes" = true)
    (k_answer_changes : PySem.W.keepIn K (.ref f_answer_changes) = true)
    (a_answer_alike : PySem.W.nsIn K mainGlobals "answer_alike" = some (some (.ref f_answer_alike)))
    (l_answer_alike : K.lookup f_answer_alike = some ⟨oc_answer_alike, od_answer_alike, .func (PySem.W.fnOf "answer_alike" "answer_alike" (defArgs s_answer_alike) (defBody s_answer_alike) (defScope s_answer_alike) .none kV_answer_alike dc_answer_alike pm_answer_alike an_answer_alike cd_answer_alike ct_answer_alike), sl_answer_alike⟩)
    (c_answer_alike : PySem.W.codeIn K cd_answer_alike "answer_alike" = true)
    (k_answer_alike : PySem.W.keepIn K (.ref f_answer_alike) = true)
    (a_answer_partner : PySem.W.nsIn K mainGlobals "answer_partner" = some (some (.ref f_answer_partner)))
    (l_answer_partner : K.lookup f_answer_partner = some ⟨oc_answer_partner, od_answer_partner, .func (PySem.W.fnOf "answer_partner" "answer_partner" (defArgs s_answer_partner) (defBody s_answer_partner) (defScope s_answer_partner) .none kV_answer_partner dc_answer_partner pm_answer_partner an_answer_partner cd_answer_partner ct_answer_partner), sl_answer_partner⟩)
    (c_answer_partner : PySem.W.codeIn K cd_answer_partner "answer_partner" = true)
    (k_answer_partner : PySem.W.keepIn K (.ref f_answer_partner) = true)
    (a_answer_swap : PySem.W.nsIn K mainGlobals "answer_swap" = some (some (.ref f_answer_swap)))
    (l_answer_swap : K.lookup f_answer_swap = some ⟨oc_answer_swap, od_answer_swap, .func (PySem.W.fnOf "answer_swap" "answer_swap" (defArgs s_answer_swap) (defBody s_answer_swap) (defScope s_answer_swap) .none kV_answer_swap dc_answer_swap pm_answer_swap an_answer_swap cd_answer_swap ct_answer_swap), sl_answer_swap⟩)
    (c_answer_swap : PySem.W.codeIn K cd_answer_swap "answer_swap" = true)
    (k_answer_swap : PySem.W.keepIn K (.ref f_answer_swap) = true)
    (a_answer_call : PySem.W.nsIn K mainGlobals "answer_call" = some (some (.ref f_answer_call)))
    (l_answer_call : K.lookup f_answer_call = some ⟨oc_answer_call, od_answer_call, .func (PySem.W.fnOf "answer_call" "answer_call" (defArgs s_answer_call) (defBody s_answer_call) (defScope s_answer_call) .none kV_answer_call dc_answer_call pm_answer_call an_answer_call cd_answer_call ct_answer_call), sl_answer_call⟩)
    (c_answer_call : PySem.W.codeIn K cd_answer_call "answer_call" = true)
    (k_answer_call : PySem.W.keepIn K (.ref f_answer_call) = true)
    (a_answers : PySem.W.nsIn K mainGlobals "answers" = some (some (.ref f_answers)))
    (l_answers : K.lookup f_answers = some ⟨oc_answers, od_answers, .func (PySem.W.fnOf "answers" "answers" (defArgs s_answers) (defBody s_answers) (defScope s_answers) .none kV_answers dc_answers pm_answers an_answers cd_answers ct_answers), sl_answers⟩)
    (c_answers : PySem.W.codeIn K cd_answers "answers" = true)
    (k_answers : PySem.W.keepIn K (.ref f_answers) = true)
    (pg : PySem.W.plainGet K C Str.empty = true)
    (hd : PySem.W.hasDictIn K C = true)
    (po : PySem.W.plainOver K C = true)
    (sa : PySem.W.findIn K (.ref C) "__setattr__" = some (some (.builtin "object.__setattr__")))
    (mk : PySem.W.makesIn K C = true)
    (kc : PySem.W.keepIn K (.ref C) = true)
    (n_begins : PySem.W.findIn K (.ref C) "begins" = some none)
    (n_ends : PySem.W.findIn K (.ref C) "ends" = some none)
    (n_told : PySem.W.findIn K (.ref C) "told" = some none)
    (n_thing_count : PySem.W.findIn K (.ref C) "thing_count" = some none)
    (b_len : PySem.W.nsIn K mainGlobals "len" = some none)
    (b_range : PySem.W.nsIn K mainGlobals "range" = some none)
    (b_list : PySem.W.nsIn K mainGlobals "list" = some none)
    (b_any : PySem.W.nsIn K mainGlobals "any" = some none)
    (b_all : PySem.W.nsIn K mainGlobals "all" = some none)
    (b_max : PySem.W.nsIn K mainGlobals "max" = some none)
    (b_sorted : PySem.W.nsIn K mainGlobals "sorted" = some none)
    (b_set : PySem.W.nsIn K mainGlobals "set" = some none)
    (b_enumerate : PySem.W.nsIn K mainGlobals "enumerate" = some none)
    (v_NOT_TOLD : PySem.W.nsIn K mainGlobals "NOT_TOLD" = some (some (.int (1) tk_NOT_TOLD)))
    (v_LEADS_ELSEWHERE : PySem.W.nsIn K mainGlobals "LEADS_ELSEWHERE" = some (some (.int (2) tk_LEADS_ELSEWHERE)))
    (v_NOT_THE_SAME : PySem.W.nsIn K mainGlobals "NOT_THE_SAME" = some (some (.int (3) tk_NOT_THE_SAME)))
    (v_NOT_REFUSED : PySem.W.nsIn K mainGlobals "NOT_REFUSED" = some (some (.int (0) tk_NOT_REFUSED)))
    (v_DOES_NOT_FIT : PySem.W.nsIn K mainGlobals "DOES_NOT_FIT" = some (some (.int (-1) tk_DOES_NOT_FIT)))
    (v_NO_SUCH_NUMBER : PySem.W.nsIn K mainGlobals "NO_SUCH_NUMBER" = some (some (.int (-2) tk_NO_SUCH_NUMBER)))
    (v_NO_SUCH_ARROW : PySem.W.nsIn K mainGlobals "NO_SUCH_ARROW" = some (some (.int (-3) tk_NO_SUCH_ARROW)))
    (v_NO_SUCH_MAPPING : PySem.W.nsIn K mainGlobals "NO_SUCH_MAPPING" = some (some (.int (-3) tk_NO_SUCH_MAPPING)))
    (v_TOO_MANY_ARROWS : PySem.W.nsIn K mainGlobals "TOO_MANY_ARROWS" = some (some (.int (-5) tk_TOO_MANY_ARROWS)))
    (v_NO_CATEGORY : PySem.W.nsIn K mainGlobals "NO_CATEGORY" = some (some (.int (-6) tk_NO_CATEGORY)))
    (v_TOO_MANY_MAPPINGS : PySem.W.nsIn K mainGlobals "TOO_MANY_MAPPINGS" = some (some (.int (-7) tk_TOO_MANY_MAPPINGS)))
    (v_MOST_THINGS : PySem.W.nsIn K mainGlobals "MOST_THINGS" = some (some (.int (4) tk_MOST_THINGS)))
    (v_MOST_ARROWS : PySem.W.nsIn K mainGlobals "MOST_ARROWS" = some (some (.int (9) tk_MOST_ARROWS)))
    (v_MOST_MAPPINGS_BACK : PySem.W.nsIn K mainGlobals "MOST_MAPPINGS_BACK" = some (some (.int (2000) tk_MOST_MAPPINGS_BACK)))
    (v_LENGTHS : PySem.W.nsIn K mainGlobals "LENGTHS" = some (some (.ref a_LENGTHS)))
    (t_LENGTHS : K.lookup a_LENGTHS = some ⟨.type "tuple", odt_LENGTHS, .seq its_LENGTHS n_LENGTHS, slt_LENGTHS⟩)
    (w_LENGTHS : Vals [.int 2, .int 3, .int 4, .int 1, .int 2, .int 3, .int 1, .int 1, .int 3, .int 3, .int 3, .int 1, .int 2, .int 3, .int 3, .int 2, .int 0] its_LENGTHS.toList)
    (z_LENGTHS : its_LENGTHS.size ≤ sizeLine)
    (v_ANSWERS : PySem.W.nsIn K mainGlobals "ANSWERS" = some (some (.ref a_ANSWERS)))
    (t_ANSWERS : K.lookup a_ANSWERS = some ⟨.type "tuple", odt_ANSWERS, .seq its_ANSWERS n_ANSWERS, slt_ANSWERS⟩)
    (w_ANSWERS : Vals [.ref f_answer_start, .ref f_answer_arrow, .ref f_answer_make, .ref f_answer_check, .ref f_answer_kinds, .ref f_answer_hom, .ref f_answer_turn, .ref f_answer_last, .ref f_answer_product, .ref f_answer_pullback, .ref f_answer_equalizer, .ref f_answer_maps, .ref f_answer_nth, .ref f_answer_changes, .ref f_answer_alike, .ref f_answer_partner, .ref f_answer_swap] its_ANSWERS.toList)
    (z_ANSWERS : its_ANSWERS.size ≤ sizeLine)
    (e_first_product : cd_first_product = .ref tc_first_product)
    (lc_first_product : K.lookup tc_first_product = some ⟨toc_first_product, tod_first_product, .fields tvs_first_product, tsl_first_product⟩)
    (px_first_product : tvs_first_product[11]? = some (.ref tp_first_product))
    (nk_first_product : K.lookup tp_first_product = none)
    (rr_first_product : rec "first_product" = true)
    (e_first_pullback : cd_first_pullback = .ref tc_first_pullback)
    (lc_first_pullback : K.lookup tc_first_pullback = some ⟨toc_first_pullback, tod_first_pullback, .fields tvs_first_pullback, tsl_first_pullback⟩)
    (px_first_pullback : tvs_first_pullback[11]? = some (.ref tp_first_pullback))
    (nk_first_pullback : K.lookup tp_first_pullback = none)
    (rr_first_pullback : rec "first_pullback" = true)
    (e_most_tied : cd_most_tied = .ref tc_most_tied)
    (lc_most_tied : K.lookup tc_most_tied = some ⟨toc_most_tied, tod_most_tied, .fields tvs_most_tied, tsl_most_tied⟩)
    (px_most_tied : tvs_most_tied[11]? = some (.ref tp_most_tied))
    (nk_most_tied : K.lookup tp_most_tied = none)
    (rr_most_tied : rec "most_tied" = true)
    (ne_first_product_first_pullback : tp_first_product ≠ tp_first_pullback)
    (ne_first_product_most_tied : tp_first_product ≠ tp_most_tied)
    (ne_first_pullback_most_tied : tp_first_pullback ≠ tp_most_tied) :
    SpecAt PySem.Challenge.rw_arrowsmake_s01_answers w K 13 ["calls"] mg fa h := by
  have e := hfa.symm.trans (PySem.W.mg_of X G a_answers)
  cases e
  have T : Txt K mg { C := C, f___init__ := f___init__, d___init__ := PySem.W.fnOf "__init__" "Category.__init__" (defArgs s___init__) (defBody s___init__) (defScope s___init__) .none kV___init__ dc___init__ pm___init__ an___init__ cd___init__ ct___init__, f_arrow_count := f_arrow_count, d_arrow_count := PySem.W.fnOf "arrow_count" "Category.arrow_count" (defArgs s_arrow_count) (defBody s_arrow_count) (defScope s_arrow_count) .none kV_arrow_count dc_arrow_count pm_arrow_count an_arrow_count cd_arrow_count ct_arrow_count, f_has_thing := f_has_thing, d_has_thing := PySem.W.fnOf "has_thing" "Category.has_thing" (defArgs s_has_thing) (defBody s_has_thing) (defScope s_has_thing) .none kV_has_thing dc_has_thing pm_has_thing an_has_thing cd_has_thing ct_has_thing, f_has_arrow := f_has_arrow, d_has_arrow := PySem.W.fnOf "has_arrow" "Category.has_arrow" (defArgs s_has_arrow) (defBody s_has_arrow) (defScope s_has_arrow) .none kV_has_arrow dc_has_arrow pm_has_arrow an_has_arrow cd_has_arrow ct_has_arrow, f_is_own := f_is_own, d_is_own := PySem.W.fnOf "is_own" "Category.is_own" (defArgs s_is_own) (defBody s_is_own) (defScope s_is_own) .none kV_is_own dc_is_own pm_is_own an_is_own cd_is_own ct_is_own, f_add_arrow := f_add_arrow, d_add_arrow := PySem.W.fnOf "add_arrow" "Category.add_arrow" (defArgs s_add_arrow) (defBody s_add_arrow) (defScope s_add_arrow) .none kV_add_arrow dc_add_arrow pm_add_arrow an_add_arrow cd_add_arrow ct_add_arrow, f_tell := f_tell, d_tell := PySem.W.fnOf "tell" "Category.tell" (defArgs s_tell) (defBody s_tell) (defScope s_tell) .none kV_tell dc_tell pm_tell an_tell cd_tell ct_tell, f_leads := f_leads, d_leads := PySem.W.fnOf "leads" "Category.leads" (defArgs s_leads) (defBody s_leads) (defScope s_leads) .none kV_leads dc_leads pm_leads an_leads cd_leads ct_leads, f_meet := f_meet, d_meet := PySem.W.fnOf "meet" "Category.meet" (defArgs s_meet) (defBody s_meet) (defScope s_meet) .none kV_meet dc_meet pm_meet an_meet cd_meet ct_meet, f_made := f_made, d_made := PySem.W.fnOf "made" "Category.made" (defArgs s_made) (defBody s_made) (defScope s_made) .none kV_made dc_made pm_made an_made cd_made ct_made, f_hom := f_hom, d_hom := PySem.W.fnOf "hom" "Category.hom" (defArgs s_hom) (defBody s_hom) (defScope s_hom) .none kV_hom dc_hom pm_hom an_hom cd_hom ct_hom, f_turned := f_turned, d_turned := PySem.W.fnOf "turned" "Category.turned" (defArgs s_turned) (defBody s_turned) (defScope s_turned) .none kV_turned dc_turned pm_turned an_turned cd_turned ct_turned, f_keeps_apart := f_keeps_apart, d_keeps_apart := PySem.W.fnOf "keeps_apart" "keeps_apart" (defArgs s_keeps_apart) (defBody s_keeps_apart) (defScope s_keeps_apart) .none kV_keeps_apart dc_keeps_apart pm_keeps_apart an_keeps_apart cd_keeps_apart ct_keeps_apart, f_arrows_back := f_arrows_back, d_arrows_back := PySem.W.fnOf "arrows_back" "arrows_back" (defArgs s_arrows_back) (defBody s_arrows_back) (defScope s_arrows_back) .none kV_arrows_back dc_arrows_back pm_arrows_back an_arrows_back cd_arrows_back ct_arrows_back, f_undone_by := f_undone_by, d_undone_by := PySem.W.fnOf "undone_by" "undone_by" (defArgs s_undone_by) (defBody s_undone_by) (defScope s_undone_by) .none kV_undone_by dc_undone_by pm_undone_by an_undone_by cd_undone_by ct_undone_by, f_can_be_undone := f_can_be_undone, d_can_be_undone := PySem.W.fnOf "can_be_undone" "can_be_undone" (defArgs s_can_be_undone) (defBody s_can_be_undone) (defScope s_can_be_undone) .none kV_can_be_undone dc_can_be_undone pm_can_be_undone an_can_be_undone cd_can_be_undone ct_can_be_undone, f_can_be_undone_both_ways := f_can_be_undone_both_ways, d_can_be_undone_both_ways := PySem.W.fnOf "can_be_undone_both_ways" "can_be_undone_both_ways" (defArgs s_can_be_undone_both_ways) (defBody s_can_be_undone_both_ways) (defScope s_can_be_undone_both_ways) .none kV_can_be_undone_both_ways dc_can_be_undone_both_ways pm_can_be_undone_both_ways an_can_be_undone_both_ways cd_can_be_undone_both_ways ct_can_be_undone_both_ways, f_makes_itself := f_makes_itself, d_makes_itself := PySem.W.fnOf "makes_itself" "makes_itself" (defArgs s_makes_itself) (defBody s_makes_itself) (defScope s_makes_itself) .none kV_makes_itself dc_makes_itself pm_makes_itself an_makes_itself cd_makes_itself ct_makes_itself, f_kinds_of := f_kinds_of, d_kinds_of := PySem.W.fnOf "kinds_of" "kinds_of" (defArgs s_kinds_of) (defBody s_kinds_of) (defScope s_kinds_of) .none kV_kinds_of dc_kinds_of pm_kinds_of an_kinds_of cd_kinds_of ct_kinds_of, f_fits := f_fits, d_fits := PySem.W.fnOf "fits" "fits" (defArgs s_fits) (defBody s_fits) (defScope s_fits) .none kV_fits dc_fits pm_fits an_fits cd_fits ct_fits, f_arrows_up_to := f_arrows_up_to, d_arrows_up_to := PySem.W.fnOf "arrows_up_to" "arrows_up_to" (defArgs s_arrows_up_to) (defBody s_arrows_up_to) (defScope s_arrows_up_to) .none kV_arrows_up_to dc_arrows_up_to pm_arrows_up_to an_arrows_up_to cd_arrows_up_to ct_arrows_up_to, f_longer_changes := f_longer_changes, d_longer_changes := PySem.W.fnOf "longer_changes" "longer_changes" (defArgs s_longer_changes) (defBody s_longer_changes) (defScope s_longer_changes) .none kV_longer_changes dc_longer_changes pm_longer_changes an_longer_changes cd_longer_changes ct_longer_changes, f_changes_among := f_changes_among, d_changes_among := PySem.W.fnOf "changes_among" "changes_among" (defArgs s_changes_among) (defBody s_changes_among) (defScope s_changes_among) .none kV_changes_among dc_changes_among pm_changes_among an_changes_among cd_changes_among ct_changes_among, f_arrows_between := f_arrows_between, d_arrows_between := PySem.W.fnOf "arrows_between" "arrows_between" (defArgs s_arrows_between) (defBody s_arrows_between) (defScope s_arrows_between) .none kV_arrows_between dc_arrows_between pm_arrows_between an_arrows_between cd_arrows_between ct_arrows_between, f_all_changes := f_all_changes, d_all_changes := PySem.W.fnOf "all_changes" "all_changes" (defArgs s_all_changes) (defBody s_all_changes) (defScope s_all_changes) .none kV_all_changes dc_all_changes pm_all_changes an_all_changes cd_all_changes ct_all_changes, f_undone_both_ways := f_undone_both_ways, d_undone_both_ways := PySem.W.fnOf "undone_both_ways" "undone_both_ways" (defArgs s_undone_both_ways) (defBody s_undone_both_ways) (defScope s_undone_both_ways) .none kV_undone_both_ways dc_undone_both_ways pm_undone_both_ways an_undone_both_ways cd_undone_both_ways ct_undone_both_ways, f_are_alike := f_are_alike, d_are_alike := PySem.W.fnOf "are_alike" "are_alike" (defArgs s_are_alike) (defBody s_are_alike) (defScope s_are_alike) .none kV_are_alike dc_are_alike pm_are_alike an_are_alike cd_are_alike ct_are_alike, f_comes_from_one := f_comes_from_one, d_comes_from_one := PySem.W.fnOf "comes_from_one" "comes_from_one" (defArgs s_comes_from_one) (defBody s_comes_from_one) (defScope s_comes_from_one) .none kV_comes_from_one dc_comes_from_one pm_comes_from_one an_comes_from_one cd_comes_from_one ct_comes_from_one, f_all_come_from_one := f_all_come_from_one, d_all_come_from_one := PySem.W.fnOf "all_come_from_one" "all_come_from_one" (defArgs s_all_come_from_one) (defBody s_all_come_from_one) (defScope s_all_come_from_one) .none kV_all_come_from_one dc_all_come_from_one pm_all_come_from_one an_all_come_from_one cd_all_come_from_one ct_all_come_from_one, f_partner_arrows := f_partner_arrows, d_partner_arrows := PySem.W.fnOf "partner_arrows" "partner_arrows" (defArgs s_partner_arrows) (defBody s_partner_arrows) (defScope s_partner_arrows) .none kV_partner_arrows dc_partner_arrows pm_partner_arrows an_partner_arrows cd_partner_arrows ct_partner_arrows, f_partner_choices := f_partner_choices, d_partner_choices := PySem.W.fnOf "partner_choices" "partner_choices" (defArgs s_partner_choices) (defBody s_partner_choices) (defScope s_partner_choices) .none kV_partner_choices dc_partner_choices pm_partner_choices an_partner_choices cd_partner_choices ct_partner_choices, f_partner_changes := f_partner_changes, d_partner_changes := PySem.W.fnOf "partner_changes" "partner_changes" (defArgs s_partner_changes) (defBody s_partner_changes) (defScope s_partner_changes) .none kV_partner_changes dc_partner_changes pm_partner_changes an_partner_changes cd_partner_changes ct_partner_changes, f_first_partner := f_first_partner, d_first_partner := PySem.W.fnOf "first_partner" "first_partner" (defArgs s_first_partner) (defBody s_first_partner) (defScope s_first_partner) .none kV_first_partner dc_first_partner pm_first_partner an_first_partner cd_first_partner ct_first_partner, f_is_last := f_is_last, d_is_last := PySem.W.fnOf "is_last" "is_last" (defArgs s_is_last) (defBody s_is_last) (defScope s_is_last) .none kV_is_last dc_is_last pm_is_last an_is_last cd_is_last ct_is_last, f_last_thing := f_last_thing, d_last_thing := PySem.W.fnOf "last_thing" "last_thing" (defArgs s_last_thing) (defBody s_last_thing) (defScope s_last_thing) .none kV_last_thing dc_last_thing pm_last_thing an_last_thing cd_last_thing ct_last_thing, f_comes_by_one := f_comes_by_one, d_comes_by_one := PySem.W.fnOf "comes_by_one" "comes_by_one" (defArgs s_comes_by_one) (defBody s_comes_by_one) (defScope s_comes_by_one) .none kV_comes_by_one dc_comes_by_one pm_comes_by_one an_comes_by_one cd_comes_by_one ct_comes_by_one, f_all_come_by := f_all_come_by, d_all_come_by := PySem.W.fnOf "all_come_by" "all_come_by" (defArgs s_all_come_by) (defBody s_all_come_by) (defScope s_all_come_by) .none kV_all_come_by dc_all_come_by pm_all_come_by an_all_come_by cd_all_come_by ct_all_come_by, f_first_pair := f_first_pair, d_first_pair := PySem.W.fnOf "first_pair" "first_pair" (defArgs s_first_pair) (defBody s_first_pair) (defScope s_first_pair) .none kV_first_pair dc_first_pair pm_first_pair an_first_pair cd_first_pair ct_first_pair, f_first_product := f_first_product, d_first_product := PySem.W.fnOf "first_product" "first_product" (defArgs s_first_product) (defBody s_first_product) (defScope s_first_product) .none kV_first_product dc_first_product pm_first_product an_first_product cd_first_product ct_first_product, f_first_pullback := f_first_pullback, d_first_pullback := PySem.W.fnOf "first_pullback" "first_pullback" (defArgs s_first_pullback) (defBody s_first_pullback) (defScope s_first_pullback) .none kV_first_pullback dc_first_pullback pm_first_pullback an_first_pullback cd_first_pullback ct_first_pullback, f_first_equalizer := f_first_equalizer, d_first_equalizer := PySem.W.fnOf "first_equalizer" "first_equalizer" (defArgs s_first_equalizer) (defBody s_first_equalizer) (defScope s_first_equalizer) .none kV_first_equalizer dc_first_equalizer pm_first_equalizer an_first_equalizer cd_first_equalizer ct_first_equalizer, f_made_threes := f_made_threes, d_made_threes := PySem.W.fnOf "made_threes" "made_threes" (defArgs s_made_threes) (defBody s_made_threes) (defScope s_made_threes) .none kV_made_threes dc_made_threes pm_made_threes an_made_threes cd_made_threes ct_made_threes, f_tied_arrows := f_tied_arrows, d_tied_arrows := PySem.W.fnOf "tied_arrows" "tied_arrows" (defArgs s_tied_arrows) (defBody s_tied_arrows) (defScope s_tied_arrows) .none kV_tied_arrows dc_tied_arrows pm_tied_arrows an_tied_arrows cd_tied_arrows ct_tied_arrows, f_most_tied := f_most_tied, d_most_tied := PySem.W.fnOf "most_tied" "most_tied" (defArgs s_most_tied) (defBody s_most_tied) (defScope s_most_tied) .none kV_most_tied dc_most_tied pm_most_tied an_most_tied cd_most_tied ct_most_tied, f_settled_first := f_settled_first, d_settled_first := PySem.W.fnOf "settled_first" "settled_first" (defArgs s_settled_first) (defBody s_settled_first) (defScope s_settled_first) .none kV_settled_first dc_settled_first pm_settled_first an_settled_first cd_settled_first ct_settled_first, f_side_by_side := f_side_by_side, d_side_by_side := PySem.W.fnOf "side_by_side" "side_by_side" (defArgs s_side_by_side) (defBody s_side_by_side) (defScope s_side_by_side) .none kV_side_by_side dc_side_by_side pm_side_by_side an_side_by_side cd_side_by_side ct_side_by_side, f_holds := f_holds, d_holds := PySem.W.fnOf "holds" "holds" (defArgs s_holds) (defBody s_holds) (defScope s_holds) .none kV_holds dc_holds pm_holds an_holds cd_holds ct_holds, f_with_settled := f_with_settled, d_with_settled := PySem.W.fnOf "with_settled" "with_settled" (defArgs s_with_settled) (defBody s_with_settled) (defScope s_with_settled) .none kV_with_settled dc_with_settled pm_with_settled an_with_settled cd_with_settled ct_with_settled, f_choices := f_choices, d_choices := PySem.W.fnOf "choices" "choices" (defArgs s_choices) (defBody s_choices) (defScope s_choices) .none kV_choices dc_choices pm_choices an_choices cd_choices ct_choices, f_settle := f_settle, d_settle := PySem.W.fnOf "settle" "settle" (defArgs s_settle) (defBody s_settle) (defScope s_settle) .none kV_settle dc_settle pm_settle an_settle cd_settle ct_settle, f_box_of := f_box_of, d_box_of := PySem.W.fnOf "box_of" "box_of" (defArgs s_box_of) (defBody s_box_of) (defScope s_box_of) .none kV_box_of dc_box_of pm_box_of an_box_of cd_box_of ct_box_of, f_boxes_of := f_boxes_of, d_boxes_of := PySem.W.fnOf "boxes_of" "boxes_of" (defArgs s_boxes_of) (defBody s_boxes_of) (defScope s_boxes_of) .none kV_boxes_of dc_boxes_of pm_boxes_of an_boxes_of cd_boxes_of ct_boxes_of, f_ways_from := f_ways_from, d_ways_from := PySem.W.fnOf "ways_from" "ways_from" (defArgs s_ways_from) (defBody s_ways_from) (defScope s_ways_from) .none kV_ways_from dc_ways_from pm_ways_from an_ways_from cd_ways_from ct_ways_from, f_mapping_count := f_mapping_count, d_mapping_count := PySem.W.fnOf "mapping_count" "mapping_count" (defArgs s_mapping_count) (defBody s_mapping_count) (defScope s_mapping_count) .none kV_mapping_count dc_mapping_count pm_mapping_count an_mapping_count cd_mapping_count ct_mapping_count, f_boxes_with := f_boxes_with, d_boxes_with := PySem.W.fnOf "boxes_with" "boxes_with" (defArgs s_boxes_with) (defBody s_boxes_with) (defScope s_boxes_with) .none kV_boxes_with dc_boxes_with pm_boxes_with an_boxes_with cd_boxes_with ct_boxes_with, f_mapping_at := f_mapping_at, d_mapping_at := PySem.W.fnOf "mapping_at" "mapping_at" (defArgs s_mapping_at) (defBody s_mapping_at) (defScope s_mapping_at) .none kV_mapping_at dc_mapping_at pm_mapping_at an_mapping_at cd_mapping_at ct_mapping_at, f_mappings_in := f_mappings_in, d_mappings_in := PySem.W.fnOf "mappings_in" "mappings_in" (defArgs s_mappings_in) (defBody s_mappings_in) (defScope s_mappings_in) .none kV_mappings_in dc_mappings_in pm_mappings_in an_mappings_in cd_mappings_in ct_mappings_in, f_all_mappings := f_all_mappings, d_all_mappings := PySem.W.fnOf "all_mappings" "all_mappings" (defArgs s_all_mappings) (defBody s_all_mappings) (defScope s_all_mappings) .none kV_all_mappings dc_all_mappings pm_all_mappings an_all_mappings cd_all_mappings ct_all_mappings, f_fault_of_pair := f_fault_of_pair, d_fault_of_pair := PySem.W.fnOf "fault_of_pair" "fault_of_pair" (defArgs s_fault_of_pair) (defBody s_fault_of_pair) (defScope s_fault_of_pair) .none kV_fault_of_pair dc_fault_of_pair pm_fault_of_pair an_fault_of_pair cd_fault_of_pair ct_fault_of_pair, f_first_fault_of_pairs := f_first_fault_of_pairs, d_first_fault_of_pairs := PySem.W.fnOf "first_fault_of_pairs" "first_fault_of_pairs" (defArgs s_first_fault_of_pairs) (defBody s_first_fault_of_pairs) (defScope s_first_fault_of_pairs) .none kV_first_fault_of_pairs dc_first_fault_of_pairs pm_first_fault_of_pairs an_first_fault_of_pairs cd_first_fault_of_pairs ct_first_fault_of_pairs, f_same_both_ways := f_same_both_ways, d_same_both_ways := PySem.W.fnOf "same_both_ways" "same_both_ways" (defArgs s_same_both_ways) (defBody s_same_both_ways) (defScope s_same_both_ways) .none kV_same_both_ways dc_same_both_ways pm_same_both_ways an_same_both_ways cd_same_both_ways ct_same_both_ways, f_first_fault_of_threes := f_first_fault_of_threes, d_first_fault_of_threes := PySem.W.fnOf "first_fault_of_threes" "first_fault_of_threes" (defArgs s_first_fault_of_threes) (defBody s_first_fault_of_threes) (defScope s_first_fault_of_threes) .none kV_first_fault_of_threes dc_first_fault_of_threes pm_first_fault_of_threes an_first_fault_of_threes cd_first_fault_of_threes ct_first_fault_of_threes, f_first_fault := f_first_fault, d_first_fault := PySem.W.fnOf "first_fault" "first_fault" (defArgs s_first_fault) (defBody s_first_fault) (defScope s_first_fault) .none kV_first_fault dc_first_fault pm_first_fault an_first_fault cd_first_fault ct_first_fault, f_is_category := f_is_category, d_is_category := PySem.W.fnOf "is_category" "is_category" (defArgs s_is_category) (defBody s_is_category) (defScope s_is_category) .none kV_is_category dc_is_category pm_is_category an_is_category cd_is_category ct_is_category, f_answer_start := f_answer_start, d_answer_start := PySem.W.fnOf "answer_start" "answer_start" (defArgs s_answer_start) (defBody s_answer_start) (defScope s_answer_start) .none kV_answer_start dc_answer_start pm_answer_start an_answer_start cd_answer_start ct_answer_start, f_answer_arrow := f_answer_arrow, d_answer_arrow := PySem.W.fnOf "answer_arrow" "answer_arrow" (defArgs s_answer_arrow) (defBody s_answer_arrow) (defScope s_answer_arrow) .none kV_answer_arrow dc_answer_arrow pm_answer_arrow an_answer_arrow cd_answer_arrow ct_answer_arrow, f_answer_make := f_answer_make, d_answer_make := PySem.W.fnOf "answer_make" "answer_make" (defArgs s_answer_make) (defBody s_answer_make) (defScope s_answer_make) .none kV_answer_make dc_answer_make pm_answer_make an_answer_make cd_answer_make ct_answer_make, f_answer_check := f_answer_check, d_answer_check := PySem.W.fnOf "answer_check" "answer_check" (defArgs s_answer_check) (defBody s_answer_check) (defScope s_answer_check) .none kV_answer_check dc_answer_check pm_answer_check an_answer_check cd_answer_check ct_answer_check, f_refusal_of_arrows := f_refusal_of_arrows, d_refusal_of_arrows := PySem.W.fnOf "refusal_of_arrows" "refusal_of_arrows" (defArgs s_refusal_of_arrows) (defBody s_refusal_of_arrows) (defScope s_refusal_of_arrows) .none kV_refusal_of_arrows dc_refusal_of_arrows pm_refusal_of_arrows an_refusal_of_arrows cd_refusal_of_arrows ct_refusal_of_arrows, f_refusal_of_things := f_refusal_of_things, d_refusal_of_things := PySem.W.fnOf "refusal_of_things" "refusal_of_things" (defArgs s_refusal_of_things) (defBody s_refusal_of_things) (defScope s_refusal_of_things) .none kV_refusal_of_things dc_refusal_of_things pm_refusal_of_things an_refusal_of_things cd_refusal_of_things ct_refusal_of_things, f_answer_kinds := f_answer_kinds, d_answer_kinds := PySem.W.fnOf "answer_kinds" "answer_kinds" (defArgs s_answer_kinds) (defBody s_answer_kinds) (defScope s_answer_kinds) .none kV_answer_kinds dc_answer_kinds pm_answer_kinds an_answer_kinds cd_answer_kinds ct_answer_kinds, f_answer_hom := f_answer_hom, d_answer_hom := PySem.W.fnOf "answer_hom" "answer_hom" (defArgs s_answer_hom) (defBody s_answer_hom) (defScope s_answer_hom) .none kV_answer_hom dc_answer_hom pm_answer_hom an_answer_hom cd_answer_hom ct_answer_hom, f_answer_turn := f_answer_turn, d_answer_turn := PySem.W.fnOf "answer_turn" "answer_turn" (defArgs s_answer_turn) (defBody s_answer_turn) (defScope s_answer_turn) .none kV_answer_turn dc_answer_turn pm_answer_turn an_answer_turn cd_answer_turn ct_answer_turn, f_answer_last := f_answer_last, d_answer_last := PySem.W.fnOf "answer_last" "answer_last" (defArgs s_answer_last) (defBody s_answer_last) (defScope s_answer_last) .none kV_answer_last dc_answer_last pm_answer_last an_answer_last cd_answer_last ct_answer_last, f_answer_product := f_answer_product, d_answer_product := PySem.W.fnOf "answer_product" "answer_product" (defArgs s_answer_product) (defBody s_answer_product) (defScope s_answer_product) .none kV_answer_product dc_answer_product pm_answer_product an_answer_product cd_answer_product ct_answer_product, f_answer_pullback := f_answer_pullback, d_answer_pullback := PySem.W.fnOf "answer_pullback" "answer_pullback" (defArgs s_answer_pullback) (defBody s_answer_pullback) (defScope s_answer_pullback) .none kV_answer_pullback dc_answer_pullback pm_answer_pullback an_answer_pullback cd_answer_pullback ct_answer_pullback, f_answer_equalizer := f_answer_equalizer, d_answer_equalizer := PySem.W.fnOf "answer_equalizer" "answer_equalizer" (defArgs s_answer_equalizer) (defBody s_answer_equalizer) (defScope s_answer_equalizer) .none kV_answer_equalizer dc_answer_equalizer pm_answer_equalizer an_answer_equalizer cd_answer_equalizer ct_answer_equalizer, f_both_are_categories := f_both_are_categories, d_both_are_categories := PySem.W.fnOf "both_are_categories" "both_are_categories" (defArgs s_both_are_categories) (defBody s_both_are_categories) (defScope s_both_are_categories) .none kV_both_are_categories dc_both_are_categories pm_both_are_categories an_both_are_categories cd_both_are_categories ct_both_are_categories, f_answer_maps := f_answer_maps, d_answer_maps := PySem.W.fnOf "answer_maps" "answer_maps" (defArgs s_answer_maps) (defBody s_answer_maps) (defScope s_answer_maps) .none kV_answer_maps dc_answer_maps pm_answer_maps an_answer_maps cd_answer_maps ct_answer_maps, f_answer_of_mappings := f_answer_of_mappings, d_answer_of_mappings := PySem.W.fnOf "answer_of_mappings" "answer_of_mappings" (defArgs s_answer_of_mappings) (defBody s_answer_of_mappings) (defScope s_answer_of_mappings) .none kV_answer_of_mappings dc_answer_of_mappings pm_answer_of_mappings an_answer_of_mappings cd_answer_of_mappings ct_answer_of_mappings, f_tell_mapping := f_tell_mapping, d_tell_mapping := PySem.W.fnOf "tell_mapping" "tell_mapping" (defArgs s_tell_mapping) (defBody s_tell_mapping) (defScope s_tell_mapping) .none kV_tell_mapping dc_tell_mapping pm_tell_mapping an_tell_mapping cd_tell_mapping ct_tell_mapping, f_tell_changes := f_tell_changes, d_tell_changes := PySem.W.fnOf "tell_changes" "tell_changes" (defArgs s_tell_changes) (defBody s_tell_changes) (defScope s_tell_changes) .none kV_tell_changes dc_tell_changes pm_tell_changes an_tell_changes cd_tell_changes ct_tell_changes, f_tell_alike := f_tell_alike, d_tell_alike := PySem.W.fnOf "tell_alike" "tell_alike" (defArgs s_tell_alike) (defBody s_tell_alike) (defScope s_tell_alike) .none kV_tell_alike dc_tell_alike pm_tell_alike an_tell_alike cd_tell_alike ct_tell_alike, f_tell_partner := f_tell_partner, d_tell_partner := PySem.W.fnOf "tell_partner" "tell_partner" (defArgs s_tell_partner) (defBody s_tell_partner) (defScope s_tell_partner) .none kV_tell_partner dc_tell_partner pm_tell_partner an_tell_partner cd_tell_partner ct_tell_partner, f_answer_nth := f_answer_nth, d_answer_nth := PySem.W.fnOf "answer_nth" "answer_nth" (defArgs s_answer_nth) (defBody s_answer_nth) (defScope s_answer_nth) .none kV_answer_nth dc_answer_nth pm_answer_nth an_answer_nth cd_answer_nth ct_answer_nth, f_answer_changes := f_answer_changes, d_answer_changes := PySem.W.fnOf "answer_changes" "answer_changes" (defArgs s_answer_changes) (defBody s_answer_changes) (defScope s_answer_changes) .none kV_answer_changes dc_answer_changes pm_answer_changes an_answer_changes cd_answer_changes ct_answer_changes, f_answer_alike := f_answer_alike, d_answer_alike := PySem.W.fnOf "answer_alike" "answer_alike" (defArgs s_answer_alike) (defBody s_answer_alike) (defScope s_answer_alike) .none kV_answer_alike dc_answer_alike pm_answer_alike an_answer_alike cd_answer_alike ct_answer_alike, f_answer_partner := f_answer_partner, d_answer_partner := PySem.W.fnOf "answer_partner" "answer_partner" (defArgs s_answer_partner) (defBody s_answer_partner) (defScope s_answer_partner) .none kV_answer_partner dc_answer_partner pm_answer_partner an_answer_partner cd_answer_partner ct_answer_partner, f_answer_swap := f_answer_swap, d_answer_swap := PySem.W.fnOf "answer_swap" "answer_swap" (defArgs s_answer_swap) (defBody s_answer_swap) (defScope s_answer_swap) .none kV_answer_swap dc_answer_swap pm_answer_swap an_answer_swap cd_answer_swap ct_answer_swap, f_answer_call := f_answer_call, d_answer_call := PySem.W.fnOf "answer_call" "answer_call" (defArgs s_answer_call) (defBody s_answer_call) (defScope s_answer_call) .none kV_answer_call dc_answer_call pm_answer_call an_answer_call cd_answer_call ct_answer_call, f_answers := fa, d_answers := PySem.W.fnOf "answers" "answers" (defArgs s_answers) (defBody s_answers) (defScope s_answers) .none kV_answers dc_answers pm_answers an_answers cd_answers ct_answers, a_LENGTHS := a_LENGTHS, a_ANSWERS := a_ANSWERS, c_first_product := tc_first_product, p_first_product := tp_first_product, c_first_pullback := tc_first_pullback, p_first_pullback := tp_first_pullback, c_most_tied := tc_most_tied, p_most_tied := tp_most_tied } := {
    cl := ⟨pg, hd, po, sa⟩,
    gC := PySem.W.mg_of X G aC,
    mkC := ⟨mk, a___init__, i___init__, kc⟩,
    n_begins := n_begins,
    n_ends := n_ends,
    n_told := n_told,
    n_thing_count := n_thing_count,
    b_len := PySem.W.mg_none_of X G b_len,
    b_range := PySem.W.mg_none_of X G b_range,
    b_list := PySem.W.mg_none_of X G b_list,
    b_any := PySem.W.mg_none_of X G b_any,
    b_all := PySem.W.mg_none_of X G b_all,
    b_max := PySem.W.mg_none_of X G b_max,
    b_sorted := PySem.W.mg_none_of X G b_sorted,
    b_set := PySem.W.mg_none_of X G b_set,
    b_enumerate := PySem.W.mg_none_of X G b_enumerate,
    c_NOT_TOLD := ⟨_, PySem.W.mg_of X G v_NOT_TOLD⟩,
    c_LEADS_ELSEWHERE := ⟨_, PySem.W.mg_of X G v_LEADS_ELSEWHERE⟩,
    c_NOT_THE_SAME := ⟨_, PySem.W.mg_of X G v_NOT_THE_SAME⟩,
    c_NOT_REFUSED := ⟨_, PySem.W.mg_of X G v_NOT_REFUSED⟩,
    c_DOES_NOT_FIT := ⟨_, PySem.W.mg_of X G v_DOES_NOT_FIT⟩,
    c_NO_SUCH_NUMBER := ⟨_, PySem.W.mg_of X G v_NO_SUCH_NUMBER⟩,
    c_NO_SUCH_ARROW := ⟨_, PySem.W.mg_of X G v_NO_SUCH_ARROW⟩,
    c_NO_SUCH_MAPPING := ⟨_, PySem.W.mg_of X G v_NO_SUCH_MAPPING⟩,
    c_TOO_MANY_ARROWS := ⟨_, PySem.W.mg_of X G v_TOO_MANY_ARROWS⟩,
    c_NO_CATEGORY := ⟨_, PySem.W.mg_of X G v_NO_CATEGORY⟩,
    c_TOO_MANY_MAPPINGS := ⟨_, PySem.W.mg_of X G v_TOO_MANY_MAPPINGS⟩,
    c_MOST_THINGS := ⟨_, PySem.W.mg_of X G v_MOST_THINGS⟩,
    c_MOST_ARROWS := ⟨_, PySem.W.mg_of X G v_MOST_ARROWS⟩,
    c_MOST_MAPPINGS_BACK := ⟨_, PySem.W.mg_of X G v_MOST_MAPPINGS_BACK⟩,
    c_LENGTHS := PySem.W.mg_of X G v_LENGTHS,
    s_LENGTHS := fun H => Or.inr ⟨_, _, _, t_LENGTHS, rfl, rfl, z_LENGTHS, w_LENGTHS⟩,
    c_ANSWERS := PySem.W.mg_of X G v_ANSWERS,
    s_ANSWERS := fun H => Or.inr ⟨_, _, _, t_ANSWERS, rfl, rfl, z_ANSWERS, w_ANSWERS⟩,
    F___init__ := fun_mk l___init__ c___init__ k___init__,
    F_arrow_count := fun_mk l_arrow_count c_arrow_count k_arrow_count,
    m_arrow_count := ⟨a_arrow_count, i_arrow_count, k_arrow_count⟩,
    F_has_thing := fun_mk l_has_thing c_has_thing k_has_thing,
    m_has_thing := ⟨a_has_thing, i_has_thing, k_has_thing⟩,
    F_has_arrow := fun_mk l_has_arrow c_has_arrow k_has_arrow,
    m_has_arrow := ⟨a_has_arrow, i_has_arrow, k_has_arrow⟩,
    F_is_own := fun_mk l_is_own c_is_own k_is_own,
    m_is_own := ⟨a_is_own, i_is_own, k_is_own⟩,
    F_add_arrow := fun_mk l_add_arrow c_add_arrow k_add_arrow,
    m_add_arrow := ⟨a_add_arrow, i_add_arrow, k_add_arrow⟩,
    F_tell := fun_mk l_tell c_tell k_tell,
    m_tell := ⟨a_tell, i_tell, k_tell⟩,
    F_leads := fun_mk l_leads c_leads k_leads,
    m_leads := ⟨a_leads, i_leads, k_leads⟩,
    F_meet := fun_mk l_meet c_meet k_meet,
    m_meet := ⟨a_meet, i_meet, k_meet⟩,
    F_made := fun_mk l_made c_made k_made,
    m_made := ⟨a_made, i_made, k_made⟩,
    F_hom := fun_mk l_hom c_hom k_hom,
    m_hom := ⟨a_hom, i_hom, k_hom⟩,
    F_turned := fun_mk l_turned c_turned k_turned,
    m_turned := ⟨a_turned, i_turned, k_turned⟩,
    F_keeps_apart := fun_mk l_keeps_apart c_keeps_apart k_keeps_apart,
    g_keeps_apart := PySem.W.mg_of X G a_keeps_apart,
    F_arrows_back := fun_mk l_arrows_back c_arrows_back k_arrows_back,
    g_arrows_back := PySem.W.mg_of X G a_arrows_back,
    F_undone_by := fun_mk l_undone_by c_undone_by k_undone_by,
    g_undone_by := PySem.W.mg_of X G a_undone_by,
    F_can_be_undone := fun_mk l_can_be_undone c_can_be_undone k_can_be_undone,
    g_can_be_undone := PySem.W.mg_of X G a_can_be_undone,
    F_can_be_undone_both_ways := fun_mk l_can_be_undone_both_ways c_can_be_undone_both_ways k_can_be_undone_both_ways,
    g_can_be_undone_both_ways := PySem.W.mg_of X G a_can_be_undone_both_ways,
    F_makes_itself := fun_mk l_makes_itself c_makes_itself k_makes_itself,
    g_makes_itself := PySem.W.mg_of X G a_makes_itself,
    F_kinds_of := fun_mk l_kinds_of c_kinds_of k_kinds_of,
    g_kinds_of := PySem.W.mg_of X G a_kinds_of,
    F_fits := fun_mk l_fits c_fits k_fits,
    g_fits := PySem.W.mg_of X G a_fits,
    F_arrows_up_to := fun_mk l_arrows_up_to c_arrows_up_to k_arrows_up_to,
    g_arrows_up_to := PySem.W.mg_of X G a_arrows_up_to,
    F_longer_changes := fun_mk l_longer_changes c_longer_changes k_longer_changes,
    g_longer_changes := PySem.W.mg_of X G a_longer_changes,
    F_changes_among := fun_mk l_changes_among c_changes_among k_changes_among,
    g_changes_among := PySem.W.mg_of X G a_changes_among,
    F_arrows_between := fun_mk l_arrows_between c_arrows_between k_arrows_between,
    g_arrows_between := PySem.W.mg_of X G a_arrows_between,
    F_all_changes := fun_mk l_all_changes c_all_changes k_all_changes,
    g_all_changes := PySem.W.mg_of X G a_all_changes,
    F_undone_both_ways := fun_mk l_undone_both_ways c_undone_both_ways k_undone_both_ways,
    g_undone_both_ways := PySem.W.mg_of X G a_undone_both_ways,
    F_are_alike := fun_mk l_are_alike c_are_alike k_are_alike,
    g_are_alike := PySem.W.mg_of X G a_are_alike,
    F_comes_from_one := fun_mk l_comes_from_one c_comes_from_one k_comes_from_one,
    g_comes_from_one := PySem.W.mg_of X G a_comes_from_one,
    F_all_come_from_one := fun_mk l_all_come_from_one c_all_come_from_one k_all_come_from_one,
    g_all_come_from_one := PySem.W.mg_of X G a_all_come_from_one,
    F_partner_arrows := fun_mk l_partner_arrows c_partner_arrows k_partner_arrows,
    g_partner_arrows := PySem.W.mg_of X G a_partner_arrows,
    F_partner_choices := fun_mk l_partner_choices c_partner_choices k_partner_choices,
    g_partner_choices := PySem.W.mg_of X G a_partner_choices,
    F_partner_changes := fun_mk l_partner_changes c_partner_changes k_partner_changes,
    g_partner_changes := PySem.W.mg_of X G a_partner_changes,
    F_first_partner := fun_mk l_first_partner c_first_partner k_first_partner,
    g_first_partner := PySem.W.mg_of X G a_first_partner,
    F_is_last := fun_mk l_is_last c_is_last k_is_last,
    g_is_last := PySem.W.mg_of X G a_is_last,
    F_last_thing := fun_mk l_last_thing c_last_thing k_last_thing,
    g_last_thing := PySem.W.mg_of X G a_last_thing,
    F_comes_by_one := fun_mk l_comes_by_one c_comes_by_one k_comes_by_one,
    g_comes_by_one := PySem.W.mg_of X G a_comes_by_one,
    F_all_come_by := fun_mk l_all_come_by c_all_come_by k_all_come_by,
    g_all_come_by := PySem.W.mg_of X G a_all_come_by,
    F_first_pair := fun_mk l_first_pair c_first_pair k_first_pair,
    g_first_pair := PySem.W.mg_of X G a_first_pair,
    F_first_product := fun_mk l_first_product c_first_product k_first_product,
    g_first_product := PySem.W.mg_of X G a_first_product,
    F_first_pullback := fun_mk l_first_pullback c_first_pullback k_first_pullback,
    g_first_pullback := PySem.W.mg_of X G a_first_pullback,
    F_first_equalizer := fun_mk l_first_equalizer c_first_equalizer k_first_equalizer,
    g_first_equalizer := PySem.W.mg_of X G a_first_equalizer,
    F_made_threes := fun_mk l_made_threes c_made_threes k_made_threes,
    g_made_threes := PySem.W.mg_of X G a_made_threes,
    F_tied_arrows := fun_mk l_tied_arrows c_tied_arrows k_tied_arrows,
    g_tied_arrows := PySem.W.mg_of X G a_tied_arrows,
    F_most_tied := fun_mk l_most_tied c_most_tied k_most_tied,
    g_most_tied := PySem.W.mg_of X G a_most_tied,
    F_settled_first := fun_mk l_settled_first c_settled_first k_settled_first,
    g_settled_first := PySem.W.mg_of X G a_settled_first,
    F_side_by_side := fun_mk l_side_by_side c_side_by_side k_side_by_side,
    g_side_by_side := PySem.W.mg_of X G a_side_by_side,
    F_holds := fun_mk l_holds c_holds k_holds,
    g_holds := PySem.W.mg_of X G a_holds,
    F_with_settled := fun_mk l_with_settled c_with_settled k_with_settled,
    g_with_settled := PySem.W.mg_of X G a_with_settled,
    F_choices := fun_mk l_choices c_choices k_choices,
    g_choices := PySem.W.mg_of X G a_choices,
    F_settle := fun_mk l_settle c_settle k_settle,
    g_settle := PySem.W.mg_of X G a_settle,
    F_box_of := fun_mk l_box_of c_box_of k_box_of,
    g_box_of := PySem.W.mg_of X G a_box_of,
    F_boxes_of := fun_mk l_boxes_of c_boxes_of k_boxes_of,
    g_boxes_of := PySem.W.mg_of X G a_boxes_of,
    F_ways_from := fun_mk l_ways_from c_ways_from k_ways_from,
    g_ways_from := PySem.W.mg_of X G a_ways_from,
    F_mapping_count := fun_mk l_mapping_count c_mapping_count k_mapping_count,
    g_mapping_count := PySem.W.mg_of X G a_mapping_count,
    F_boxes_with := fun_mk l_boxes_with c_boxes_with k_boxes_with,
    g_boxes_with := PySem.W.mg_of X G a_boxes_with,
    F_mapping_at := fun_mk l_mapping_at c_mapping_at k_mapping_at,
    g_mapping_at := PySem.W.mg_of X G a_mapping_at,
    F_mappings_in := fun_mk l_mappings_in c_mappings_in k_mappings_in,
    g_mappings_in := PySem.W.mg_of X G a_mappings_in,
    F_all_mappings := fun_mk l_all_mappings c_all_mappings k_all_mappings,
    g_all_mappings := PySem.W.mg_of X G a_all_mappings,
    F_fault_of_pair := fun_mk l_fault_of_pair c_fault_of_pair k_fault_of_pair,
    g_fault_of_pair := PySem.W.mg_of X G a_fault_of_pair,
    F_first_fault_of_pairs := fun_mk l_first_fault_of_pairs c_first_fault_of_pairs k_first_fault_of_pairs,
    g_first_fault_of_pairs := PySem.W.mg_of X G a_first_fault_of_pairs,
    F_same_both_ways := fun_mk l_same_both_ways c_same_both_ways k_same_both_ways,
    g_same_both_ways := PySem.W.mg_of X G a_same_both_ways,
    F_first_fault_of_threes := fun_mk l_first_fault_of_threes c_first_fault_of_threes k_first_fault_of_threes,
    g_first_fault_of_threes := PySem.W.mg_of X G a_first_fault_of_threes,
    F_first_fault := fun_mk l_first_fault c_first_fault k_first_fault,
    g_first_fault := PySem.W.mg_of X G a_first_fault,
    F_is_category := fun_mk l_is_category c_is_category k_is_category,
    g_is_category := PySem.W.mg_of X G a_is_category,
    F_answer_start := fun_mk l_answer_start c_answer_start k_answer_start,
    g_answer_start := PySem.W.mg_of X G a_answer_start,
    F_answer_arrow := fun_mk l_answer_arrow c_answer_arrow k_answer_arrow,
    g_answer_arrow := PySem.W.mg_of X G a_answer_arrow,
    F_answer_make := fun_mk l_answer_make c_answer_make k_answer_make,
    g_answer_make := PySem.W.mg_of X G a_answer_make,
    F_answer_check := fun_mk l_answer_check c_answer_check k_answer_check,
    g_answer_check := PySem.W.mg_of X G a_answer_check,
    F_refusal_of_arrows := fun_mk l_refusal_of_arrows c_refusal_of_arrows k_refusal_of_arrows,
    g_refusal_of_arrows := PySem.W.mg_of X G a_refusal_of_arrows,
    F_refusal_of_things := fun_mk l_refusal_of_things c_refusal_of_things k_refusal_of_things,
    g_refusal_of_things := PySem.W.mg_of X G a_refusal_of_things,
    F_answer_kinds := fun_mk l_answer_kinds c_answer_kinds k_answer_kinds,
    g_answer_kinds := PySem.W.mg_of X G a_answer_kinds,
    F_answer_hom := fun_mk l_answer_hom c_answer_hom k_answer_hom,
    g_answer_hom := PySem.W.mg_of X G a_answer_hom,
    F_answer_turn := fun_mk l_answer_turn c_answer_turn k_answer_turn,
    g_answer_turn := PySem.W.mg_of X G a_answer_turn,
    F_answer_last := fun_mk l_answer_last c_answer_last k_answer_last,
    g_answer_last := PySem.W.mg_of X G a_answer_last,
    F_answer_product := fun_mk l_answer_product c_answer_product k_answer_product,
    g_answer_product := PySem.W.mg_of X G a_answer_product,
    F_answer_pullback := fun_mk l_answer_pullback c_answer_pullback k_answer_pullback,
    g_answer_pullback := PySem.W.mg_of X G a_answer_pullback,
    F_answer_equalizer := fun_mk l_answer_equalizer c_answer_equalizer k_answer_equalizer,
    g_answer_equalizer := PySem.W.mg_of X G a_answer_equalizer,
    F_both_are_categories := fun_mk l_both_are_categories c_both_are_categories k_both_are_categories,
    g_both_are_categories := PySem.W.mg_of X G a_both_are_categories,
    F_answer_maps := fun_mk l_answer_maps c_answer_maps k_answer_maps,
    g_answer_maps := PySem.W.mg_of X G a_answer_maps,
    F_answer_of_mappings := fun_mk l_answer_of_mappings c_answer_of_mappings k_answer_of_mappings,
    g_answer_of_mappings := PySem.W.mg_of X G a_answer_of_mappings,
    F_tell_mapping := fun_mk l_tell_mapping c_tell_mapping k_tell_mapping,
    g_tell_mapping := PySem.W.mg_of X G a_tell_mapping,
    F_tell_changes := fun_mk l_tell_changes c_tell_changes k_tell_changes,
    g_tell_changes := PySem.W.mg_of X G a_tell_changes,
    F_tell_alike := fun_mk l_tell_alike c_tell_alike k_tell_alike,
    g_tell_alike := PySem.W.mg_of X G a_tell_alike,
    F_tell_partner := fun_mk l_tell_partner c_tell_partner k_tell_partner,
    g_tell_partner := PySem.W.mg_of X G a_tell_partner,
    F_answer_nth := fun_mk l_answer_nth c_answer_nth k_answer_nth,
    g_answer_nth := PySem.W.mg_of X G a_answer_nth,
    F_answer_changes := fun_mk l_answer_changes c_answer_changes k_answer_changes,
    g_answer_changes := PySem.W.mg_of X G a_answer_changes,
    F_answer_alike := fun_mk l_answer_alike c_answer_alike k_answer_alike,
    g_answer_alike := PySem.W.mg_of X G a_answer_alike,
    F_answer_partner := fun_mk l_answer_partner c_answer_partner k_answer_partner,
    g_answer_partner := PySem.W.mg_of X G a_answer_partner,
    F_answer_swap := fun_mk l_answer_swap c_answer_swap k_answer_swap,
    g_answer_swap := PySem.W.mg_of X G a_answer_swap,
    F_answer_call := fun_mk l_answer_call c_answer_call k_answer_call,
    g_answer_call := PySem.W.mg_of X G a_answer_call,
    F_answers := fun_mk l_answers c_answers k_answers,
    g_answers := PySem.W.mg_of X G a_answers,
    k_first_product := e_first_product,
    k_first_pullback := e_first_pullback,
    k_most_tied := e_most_tied }
  have f_first_product := tf _ _ _ (tabIn_mk a_first_product l_first_product e_first_product lc_first_product px_first_product) rr_first_product
  have f_first_pullback := tf _ _ _ (tabIn_mk a_first_pullback l_first_pullback e_first_pullback lc_first_pullback px_first_pullback) rr_first_pullback
  have f_most_tied := tf _ _ _ (tabIn_mk a_most_tied l_most_tied e_most_tied lc_most_tied px_most_tied) rr_most_tied
  refine ⟨_, [(tc_first_product, tp_first_product), (tc_first_pullback, tp_first_pullback), (tc_most_tied, tp_most_tied)], spAns _ K, ⟨?_, ?_, ?_⟩, fun s us hu => match us, hu with | [_], _ => .of_eq rfl, fun H0 H xs a ex hH hwi hask hx => ans_sp a ex ?_ hwi hask hx, fun base tb => ok_answers T ?_⟩
  · intro p hp
    simp only [List.mem_cons, List.not_mem_nil, or_false] at hp
    rcases hp with rfl | rfl | rfl
    · exact (f_first_product).2
    · exact (f_first_pullback).2
    · exact (f_most_tied).2
  · intro p hp
    simp only [List.mem_cons, List.not_mem_nil, or_false] at hp
    rcases hp with rfl | rfl | rfl
    · exact nk_first_product
    · exact nk_first_pullback
    · exact nk_most_tied
  · intro p hp
    simp only [List.mem_cons, List.not_mem_nil, or_false] at hp
    rcases hp with rfl | rfl | rfl
    · exact (f_first_product).1
    · exact (f_first_pullback).1
    · exact (f_most_tied).1
  · intro p hp
    unfold tabs at hp
    simp only [List.mem_cons, List.not_mem_nil, or_false] at hp
    rcases hp with rfl | rfl | rfl
    · exact TabS.nil (hH (tc_first_product, tp_first_product) (by simp))
    · exact TabS.nil (hH (tc_first_pullback, tp_first_pullback) (by simp))
    · exact TabS.nil (hH (tc_most_tied, tp_most_tied) (by simp))
  · exact { first_product := tb (tc_first_product, tp_first_product) (by simp), first_pullback := tb (tc_first_pullback, tp_first_pullback) (by simp), most_tied := tb (tc_most_tied, tp_most_tied) (by simp), ne_first_product_first_pullback := ne_first_product_first_pullback, ne_first_product_most_tied := ne_first_product_most_tied, ne_first_pullback_most_tied := ne_first_pullback_most_tied }
end Arr
-- text Z2
set_option Elab.async false
set_option linter.unusedVariables false
open PySem PySem.W PyProof.Rows
set_option maxRecDepth 100000 in
set_option maxHeartbeats 8000000 in
theorem PySem.Challenge.cw_arrowsmake_s01_answers_holds : PySem.Challenge.rw_arrowsmake_s01_answers.Holds := by
  w_on; k_headS; (case hw => exact ⟨[.list [.int 3, .int 0]], by decide +kernel, by decide +kernel⟩)
  k_fillS
  refine Arr.walk_specT (r := PySem.Challenge.rw_arrowsmake_s01_answers) (k := 13) (ps := ["calls"]) (by decide +kernel) rfl ⟨rfl, by decide, by decide⟩ (fun w h Y => PySem.W.kIn_of Y) ?F
  case F =>
    intro w mg fa h Y KX G hmg tf
    refine' Arr.all_mk KX G hmg tf ?aC ?a___init__ ?i___init__ ?l___init__ ?c___init__ ?k___init__ ?a_arrow_count ?i_arrow_count ?l_arrow_count ?c_arrow_count ?k_arrow_count ?a_has_thing ?i_has_thing ?l_has_thing ?c_has_thing ?k_has_thing ?a_has_arrow ?i_has_arrow ?l_has_arrow ?c_has_arrow ?k_has_arrow ?a_is_own ?i_is_own ?l_is_own ?c_is_own ?k_is_own ?a_add_arrow ?i_add_arrow ?l_add_arrow ?c_add_arrow ?k_add_arrow ?a_tell ?i_tell ?l_tell ?c_tell ?k_tell ?a_leads ?i_leads ?l_leads ?c_leads ?k_leads ?a_meet ?i_meet ?l_meet ?c_meet ?k_meet ?a_made ?i_made ?l_made ?c_made ?k_made ?a_hom ?i_hom ?l_hom ?c_hom ?k_hom ?a_turned ?i_turned ?l_turned ?c_turned ?k_turned ?a_keeps_apart ?l_keeps_apart ?c_keeps_apart ?k_keeps_apart ?a_arrows_back ?l_arrows_back ?c_arrows_back ?k_arrows_back ?a_undone_by ?l_undone_by ?c_undone_by ?k_undone_by ?a_can_be_undone ?l_can_be_undone ?c_can_be_undone ?k_can_be_undone ?a_can_be_undone_both_ways ?l_can_be_undone_both_ways ?c_can_be_undone_both_ways ?k_can_be_undone_both_ways ?a_makes_itself ?l_makes_itself ?c_makes_itself ?k_makes_itself ?a_kinds_of ?l_kinds_of ?c_kinds_of ?k_kinds_of ?a_fits ?l_fits ?c_fits ?k_fits ?a_arrows_up_to ?l_arrows_up_to ?c_arrows_up_to ?k_arrows_up_to ?a_longer_changes ?l_longer_changes ?c_longer_changes ?k_longer_changes ?a_changes_among ?l_changes_among ?c_changes_among ?k_changes_among ?a_arrows_between ?l_arrows_between ?c_arrows_between ?k_arrows_between ?a_all_changes ?l_all_changes ?c_all_changes ?k_all_changes ?a_undone_both_ways ?l_undone_both_ways ?c_undone_both_ways ?k_undone_both_ways ?a_are_alike ?l_are_alike ?c_are_alike ?k_are_alike ?a_comes_from_one ?l_comes_from_one ?c_comes_from_one ?k_comes_from_one ?a_all_come_from_one ?l_all_come_from_one ?c_all_come_from_one ?k_all_come_from_one ?a_partner_arrows ?l_partner_arrows ?c_partner_arrows ?k_partner_arrows ?a_partner_choices ?l_partner_choices ?c_partner_choices ?k_partner_choices ?a_partner_changes ?l_partner_changes ?c_partner_changes ?k_partner_changes ?a_first_partner ?l_first_partner ?c_first_partner ?k_first_partner ?a_is_last ?l_is_last ?c_is_last ?k_is_last ?a_last_thing ?l_last_thing ?c_last_thing ?k_last_thing ?a_comes_by_one ?l_comes_by_one ?c_comes_by_one ?k_comes_by_one ?a_all_come_by ?l_all_come_by ?c_all_come_by ?k_all_come_by ?a_first_pair ?l_first_pair ?c_first_pair ?k_first_pair ?a_first_product ?l_first_product ?c_first_product ?k_first_product ?a_first_pullback ?l_first_pullback ?c_first_pullback ?k_first_pullback ?a_first_equalizer ?l_first_equalizer ?c_first_equalizer ?k_first_equalizer ?a_made_threes ?l_made_threes ?c_made_threes ?k_made_threes ?a_tied_arrows ?l_tied_arrows ?c_tied_arrows ?k_tied_arrows ?a_most_tied ?l_most_tied ?c_most_tied ?k_most_tied ?a_settled_first ?l_settled_first ?c_settled_first ?k_settled_first ?a_side_by_side ?l_side_by_side ?c_side_by_side ?k_side_by_side ?a_holds ?l_holds ?c_holds ?k_holds ?a_with_settled ?l_with_settled ?c_with_settled ?k_with_settled ?a_choices ?l_choices ?c_choices ?k_choices ?a_settle ?l_settle ?c_settle ?k_settle ?a_box_of ?l_box_of ?c_box_of ?k_box_of ?a_boxes_of ?l_boxes_of ?c_boxes_of ?k_boxes_of ?a_ways_from ?l_ways_from ?c_ways_from ?k_ways_from ?a_mapping_count ?l_mapping_count ?c_mapping_count ?k_mapping_count ?a_boxes_with ?l_boxes_with ?c_boxes_with ?k_boxes_with ?a_mapping_at ?l_mapping_at ?c_mapping_at ?k_mapping_at ?a_mappings_in ?l_mappings_in ?c_mappings_in ?k_mappings_in ?a_all_mappings ?l_all_mappings ?c_all_mappings ?k_all_mappings ?a_fault_of_pair ?l_fault_of_pair ?c_fault_of_pair ?k_fault_of_pair ?a_first_fault_of_pairs ?l_first_fault_of_pairs ?c_first_fault_of_pairs ?k_first_fault_of_pairs ?a_same_both_ways ?l_same_both_ways ?c_same_both_ways ?k_same_both_ways ?a_first_fault_of_threes ?l_first_fault_of_threes ?c_first_fault_of_threes ?k_first_fault_of_threes ?a_first_fault ?l_first_fault ?c_first_fault ?k_first_fault ?a_is_category ?l_is_category ?c_is_category ?k_is_category ?a_answer_start ?l_answer_start ?c_answer_start ?k_answer_start ?a_answer_arrow ?l_answer_arrow ?c_answer_arrow ?k_answer_arrow ?a_answer_make ?l_answer_make ?c_answer_make ?k_answer_make ?a_answer_check ?l_answer_check ?c_answer_check ?k_answer_check ?a_refusal_of_arrows ?l_refusal_of_arrows ?c_refusal_of_arrows ?k_refusal_of_arrows ?a_refusal_of_things ?l_refusal_of_things ?c_refusal_of_things ?k_refusal_of_things ?a_answer_kinds ?l_answer_kinds ?c_answer_kinds ?k_answer_kinds ?a_answer_hom ?l_answer_hom ?c_answer_hom ?k_answer_hom ?a_answer_turn ?l_answer_turn ?c_answer_turn ?k_answer_turn ?a_answer_last ?l_answer_last ?c_answer_last ?k_answer_last ?a_answer_product ?l_answer_product ?c_answer_product ?k_answer_product ?a_answer_pullback ?l_answer_pullback ?c_answer_pullback ?k_answer_pullback ?a_answer_equalizer ?l_answer_equalizer ?c_answer_equalizer ?k_answer_equalizer ?a_both_are_categories ?l_both_are_categories ?c_both_are_categories ?k_both_are_categories ?a_answer_maps ?l_answer_maps ?c_answer_maps ?k_answer_maps ?a_answer_of_mappings ?l_answer_of_mappings ?c_answer_of_mappings ?k_answer_of_mappings ?a_tell_mapping ?l_tell_mapping ?c_tell_mapping ?k_tell_mapping ?a_tell_changes ?l_tell_changes ?c_tell_changes ?k_tell_changes ?a_tell_alike ?l_tell_alike ?c_tell_alike ?k_tell_alike ?a_tell_partner ?l_tell_partner ?c_tell_partner ?k_tell_partner ?a_answer_nth ?l_answer_nth ?c_answer_nth ?k_answer_nth ?a_answer_changes ?l_answer_changes ?c_answer_changes ?k_answer_changes ?a_answer_alike ?l_answer_alike ?c_answer_alike ?k_answer_alike ?a_answer_partner ?l_answer_partner ?c_answer_partner ?k_answer_partner ?a_answer_swap ?l_answer_swap ?c_answer_swap ?k_answer_swap ?a_answer_call ?l_answer_call ?c_answer_call ?k_answer_call ?a_answers ?l_answers ?c_answers ?k_answers ?pg ?hd ?po ?sa ?mk ?kc ?n_begins ?n_ends ?n_told ?n_thing_count ?b_len ?b_range ?b_list ?b_any ?b_all ?b_max ?b_sorted ?b_set ?b_enumerate ?v_NOT_TOLD ?v_LEADS_ELSEWHERE ?v_NOT_THE_SAME ?v_NOT_REFUSED ?v_DOES_NOT_FIT ?v_NO_SUCH_NUMBER ?v_NO_SUCH_ARROW ?v_NO_SUCH_MAPPING ?v_TOO_MANY_ARROWS ?v_NO_CATEGORY ?v_TOO_MANY_MAPPINGS ?v_MOST_THINGS ?v_MOST_ARROWS ?v_MOST_MAPPINGS_BACK ?v_LENGTHS ?t_LENGTHS ?w_LENGTHS ?z_LENGTHS ?v_ANSWERS ?t_ANSWERS ?w_ANSWERS ?z_ANSWERS ?e_first_product ?lc_first_product ?px_first_product ?nk_first_product ?rr_first_product ?e_first_pullback ?lc_first_pullback ?px_first_pullback ?nk_first_pullback ?rr_first_pullback ?e_most_tied ?lc_most_tied ?px_most_tied ?nk_most_tied ?rr_most_tied ?ne_first_product_first_pullback ?ne_first_product_most_tied ?ne_first_pullback_most_tied
    (case aC => k_is)
    (case a___init__ => k_is)
    (case i___init__ => k_is)
    (case l___init__ => k_is)
    (case c___init__ => k_is)
    (case k___init__ => k_is)
    (case a_arrow_count => k_is)
    (case i_arrow_count => k_is)
    (case l_arrow_count => k_is)
    (case c_arrow_count => k_is)
    (case k_arrow_count => k_is)
    (case a_has_thing => k_is)
    (case i_has_thing => k_is)
    (case l_has_thing => k_is)
    (case c_has_thing => k_is)
    (case k_has_thing => k_is)
    (case a_has_arrow => k_is)
    (case i_has_arrow => k_is)
    (case l_has_arrow => k_is)
    (case c_has_arrow => k_is)
    (case k_has_arrow => k_is)
    (case a_is_own => k_is)
    (case i_is_own => k_is)
    (case l_is_own => k_is)
    (case c_is_own => k_is)
    (case k_is_own => k_is)
    (case a_add_arrow => k_is)
    (case i_add_arrow => k_is)
    (case l_add_arrow => k_is)
    (case c_add_arrow => k_is)
    (case k_add_arrow => k_is)
    (case a_tell => k_is)
    (case i_tell => k_is)
    (case l_tell => k_is)
    (case c_tell => k_is)
    (case k_tell => k_is)
    (case a_leads => k_is)
    (case i_leads => k_is)
    (case l_leads => k_is)
    (case c_leads => k_is)
    (case k_leads => k_is)
    (case a_meet => k_is)
    (case i_meet => k_is)
    (case l_meet => k_is)
    (case c_meet => k_is)
    (case k_meet => k_is)
    (case a_made => k_is)
    (case i_made => k_is)
    (case l_made => k_is)
    (case c_made => k_is)
    (case k_made => k_is)
    (case a_hom => k_is)
    (case i_hom => k_is)
    (case l_hom => k_is)
    (case c_hom => k_is)
    (case k_hom => k_is)
    (case a_turned => k_is)
    (case i_turned => k_is)
    (case l_turned => k_is)
    (case c_turned => k_is)
    (case k_turned => k_is)
    (case a_keeps_apart => k_is)
    (case l_keeps_apart => k_is)
    (case c_keeps_apart => k_is)
    (case k_keeps_apart => k_is)
    (case a_arrows_back => k_is)
    (case l_arrows_back => k_is)
    (case c_arrows_back => k_is)
    (case k_arrows_back => k_is)
    (case a_undone_by => k_is)
    (case l_undone_by => k_is)
    (case c_undone_by => k_is)
    (case k_undone_by => k_is)
    (case a_can_be_undone => k_is)
    (case l_can_be_undone => k_is)
    (case c_can_be_undone => k_is)
    (case k_can_be_undone => k_is)
    (case a_can_be_undone_both_ways => k_is)
    (case l_can_be_undone_both_ways => k_is)
    (case c_can_be_undone_both_ways => k_is)
    (case k_can_be_undone_both_ways => k_is)
    (case a_makes_itself => k_is)
    (case l_makes_itself => k_is)
    (case c_makes_itself => k_is)
    (case k_makes_itself => k_is)
    (case a_kinds_of => k_is)
    (case l_kinds_of => k_is)
    (case c_kinds_of => k_is)
    (case k_kinds_of => k_is)
    (case a_fits => k_is)
    (case l_fits => k_is)
    (case c_fits => k_is)
    (case k_fits => k_is)
    (case a_arrows_up_to => k_is)
    (case l_arrows_up_to => k_is)
    (case c_arrows_up_to => k_is)
    (case k_arrows_up_to => k_is)
    (case a_longer_changes => k_is)
    (case l_longer_changes => k_is)
    (case c_longer_changes => k_is)
    (case k_longer_changes => k_is)
    (case a_changes_among => k_is)
    (case l_changes_among => k_is)
    (case c_changes_among => k_is)
    (case k_changes_among => k_is)
    (case a_arrows_between => k_is)
    (case l_arrows_between => k_is)
    (case c_arrows_between => k_is)
    (case k_arrows_between => k_is)
    (case a_all_changes => k_is)
    (case l_all_changes => k_is)
    (case c_all_changes => k_is)
    (case k_all_changes => k_is)
    (case a_undone_both_ways => k_is)
    (case l_undone_both_ways => k_is)
    (case c_undone_both_ways => k_is)
    (case k_undone_both_ways => k_is)
    (case a_are_alike => k_is)
    (case l_are_alike => k_is)
    (case c_are_alike => k_is)
    (case k_are_alike => k_is)
    (case a_comes_from_one => k_is)
    (case l_comes_from_one => k_is)
    (case c_comes_from_one => k_is)
    (case k_comes_from_one => k_is)
    (case a_all_come_from_one => k_is)
    (case l_all_come_from_one => k_is)
    (case c_all_come_from_one => k_is)
    (case k_all_come_from_one => k_is)
    (case a_partner_arrows => k_is)
    (case l_partner_arrows => k_is)
    (case c_partner_arrows => k_is)
    (case k_partner_arrows => k_is)
    (case a_partner_choices => k_is)
    (case l_partner_choices => k_is)
    (case c_partner_choices => k_is)
    (case k_partner_choices => k_is)
    (case a_partner_changes => k_is)
    (case l_partner_changes => k_is)
    (case c_partner_changes => k_is)
    (case k_partner_changes => k_is)
    (case a_first_partner => k_is)
    (case l_first_partner => k_is)
    (case c_first_partner => k_is)
    (case k_first_partner => k_is)
    (case a_is_last => k_is)
    (case l_is_last => k_is)
    (case c_is_last => k_is)
    (case k_is_last => k_is)
    (case a_last_thing => k_is)
    (case l_last_thing => k_is)
    (case c_last_thing => k_is)
    (case k_last_thing => k_is)
    (case a_comes_by_one => k_is)
    (case l_comes_by_one => k_is)
    (case c_comes_by_one => k_is)
    (case k_comes_by_one => k_is)
    (case a_all_come_by => k_is)
    (case l_all_come_by => k_is)
    (case c_all_come_by => k_is)
    (case k_all_come_by => k_is)
    (case a_first_pair => k_is)
    (case l_first_pair => k_is)
    (case c_first_pair => k_is)
    (case k_first_pair => k_is)
    (case a_first_product => k_is)
    (case l_first_product => k_is)
    (case c_first_product => k_is)
    (case k_first_product => k_is)
    (case a_first_pullback => k_is)
    (case l_first_pullback => k_is)
    (case c_first_pullback => k_is)
    (case k_first_pullback => k_is)
    (case a_first_equalizer => k_is)
    (case l_first_equalizer => k_is)
    (case c_first_equalizer => k_is)
    (case k_first_equalizer => k_is)
    (case a_made_threes => k_is)
    (case l_made_threes => k_is)
    (case c_made_threes => k_is)
    (case k_made_threes => k_is)
    (case a_tied_arrows => k_is)
    (case l_tied_arrows => k_is)
    (case c_tied_arrows => k_is)
    (case k_tied_arrows => k_is)
    (case a_most_tied => k_is)
    (case l_most_tied => k_is)
    (case c_most_tied => k_is)
    (case k_most_tied => k_is)
    (case a_settled_first => k_is)
    (case l_settled_first => k_is)
    (case c_settled_first => k_is)
    (case k_settled_first => k_is)
    (case a_side_by_side => k_is)
    (case l_side_by_side => k_is)
    (case c_side_by_side => k_is)
    (case k_side_by_side => k_is)
    (case a_holds => k_is)
    (case l_holds => k_is)
    (case c_holds => k_is)
    (case k_holds => k_is)
    (case a_with_settled => k_is)
    (case l_with_settled => k_is)
    (case c_with_settled => k_is)
    (case k_with_settled => k_is)
    (case a_choices => k_is)
    (case l_choices => k_is)
    (case c_choices => k_is)
    (case k_choices => k_is)
    (case a_settle => k_is)
    (case l_settle => k_is)
    (case c_settle => k_is)
    (case k_settle => k_is)
    (case a_box_of => k_is)
    (case l_box_of => k_is)
    (case c_box_of => k_is)
    (case k_box_of => k_is)
    (case a_boxes_of => k_is)
    (case l_boxes_of => k_is)
    (case c_boxes_of => k_is)
    (case k_boxes_of => k_is)
    (case a_ways_from => k_is)
    (case l_ways_from => k_is)
    (case c_ways_from => k_is)
    (case k_ways_from => k_is)
    (case a_mapping_count => k_is)
    (case l_mapping_count => k_is)
    (case c_mapping_count => k_is)
    (case k_mapping_count => k_is)
    (case a_boxes_with => k_is)
    (case l_boxes_with => k_is)
    (case c_boxes_with => k_is)
    (case k_boxes_with => k_is)
    (case a_mapping_at => k_is)
    (case l_mapping_at => k_is)
    (case c_mapping_at => k_is)
    (case k_mapping_at => k_is)
    (case a_mappings_in => k_is)
    (case l_mappings_in => k_is)
    (case c_mappings_in => k_is)
    (case k_mappings_in => k_is)
    (case a_all_mappings => k_is)
    (case l_all_mappings => k_is)
    (case c_all_mappings => k_is)
    (case k_all_mappings => k_is)
    (case a_fault_of_pair => k_is)
    (case l_fault_of_pair => k_is)
    (case c_fault_of_pair => k_is)
    (case k_fault_of_pair => k_is)
    (case a_first_fault_of_pairs => k_is)
    (case l_first_fault_of_pairs => k_is)
    (case c_first_fault_of_pairs => k_is)
    (case k_first_fault_of_pairs => k_is)
    (case a_same_both_ways => k_is)
    (case l_same_both_ways => k_is)
    (case c_same_both_ways => k_is)
    (case k_same_both_ways => k_is)
    (case a_first_fault_of_threes => k_is)
    (case l_first_fault_of_threes => k_is)
    (case c_first_fault_of_threes => k_is)
    (case k_first_fault_of_threes => k_is)
    (case a_first_fault => k_is)
    (case l_first_fault => k_is)
    (case c_first_fault => k_is)
    (case k_first_fault => k_is)
    (case a_is_category => k_is)
    (case l_is_category => k_is)
    (case c_is_category => k_is)
    (case k_is_category => k_is)
    (case a_answer_start => k_is)
    (case l_answer_start => k_is)
    (case c_answer_start => k_is)
    (case k_answer_start => k_is)
    (case a_answer_arrow => k_is)
    (case l_answer_arrow => k_is)
    (case c_answer_arrow => k_is)
    (case k_answer_arrow => k_is)
    (case a_answer_make => k_is)
    (case l_answer_make => k_is)
    (case c_answer_make => k_is)
    (case k_answer_make => k_is)
    (case a_answer_check => k_is)
    (case l_answer_check => k_is)
    (case c_answer_check => k_is)
    (case k_answer_check => k_is)
    (case a_refusal_of_arrows => k_is)
    (case l_refusal_of_arrows => k_is)
    (case c_refusal_of_arrows => k_is)
    (case k_refusal_of_arrows => k_is)
    (case a_refusal_of_things => k_is)
    (case l_refusal_of_things => k_is)
    (case c_refusal_of_things => k_is)
    (case k_refusal_of_things => k_is)
    (case a_answer_kinds => k_is)
    (case l_answer_kinds => k_is)
    (case c_answer_kinds => k_is)
    (case k_answer_kinds => k_is)
    (case a_answer_hom => k_is)
    (case l_answer_hom => k_is)
    (case c_answer_hom => k_is)
    (case k_answer_hom => k_is)
    (case a_answer_turn => k_is)
    (case l_answer_turn => k_is)
    (case c_answer_turn => k_is)
    (case k_answer_turn => k_is)
    (case a_answer_last => k_is)
    (case l_answer_last => k_is)
    (case c_answer_last => k_is)
    (case k_answer_last => k_is)
    (case a_answer_product => k_is)
    (case l_answer_product => k_is)
    (case c_answer_product => k_is)
    (case k_answer_product => k_is)
    (case a_answer_pullback => k_is)
    (case l_answer_pullback => k_is)
    (case c_answer_pullback => k_is)
    (case k_answer_pullback => k_is)
    (case a_answer_equalizer => k_is)
    (case l_answer_equalizer => k_is)
    (case c_answer_equalizer => k_is)
    (case k_answer_equalizer => k_is)
    (case a_both_are_categories => k_is)
    (case l_both_are_categories => k_is)
    (case c_both_are_categories => k_is)
    (case k_both_are_categories => k_is)
    (case a_answer_maps => k_is)
    (case l_answer_maps => k_is)
    (case c_answer_maps => k_is)
    (case k_answer_maps => k_is)
    (case a_answer_of_mappings => k_is)
    (case l_answer_of_mappings => k_is)
    (case c_answer_of_mappings => k_is)
    (case k_answer_of_mappings => k_is)
    (case a_tell_mapping => k_is)
    (case l_tell_mapping => k_is)
    (case c_tell_mapping => k_is)
    (case k_tell_mapping => k_is)
    (case a_tell_changes => k_is)
    (case l_tell_changes => k_is)
    (case c_tell_changes => k_is)
    (case k_tell_changes => k_is)
    (case a_tell_alike => k_is)
    (case l_tell_alike => k_is)
    (case c_tell_alike => k_is)
    (case k_tell_alike => k_is)
    (case a_tell_partner => k_is)
    (case l_tell_partner => k_is)
    (case c_tell_partner => k_is)
    (case k_tell_partner => k_is)
    (case a_answer_nth => k_is)
    (case l_answer_nth => k_is)
    (case c_answer_nth => k_is)
    (case k_answer_nth => k_is)
    (case a_answer_changes => k_is)
    (case l_answer_changes => k_is)
    (case c_answer_changes => k_is)
    (case k_answer_changes => k_is)
    (case a_answer_alike => k_is)
    (case l_answer_alike => k_is)
    (case c_answer_alike => k_is)
    (case k_answer_alike => k_is)
    (case a_answer_partner => k_is)
    (case l_answer_partner => k_is)
    (case c_answer_partner => k_is)
    (case k_answer_partner => k_is)
    (case a_answer_swap => k_is)
    (case l_answer_swap => k_is)
    (case c_answer_swap => k_is)
    (case k_answer_swap => k_is)
    (case a_answer_call => k_is)
    (case l_answer_call => k_is)
    (case c_answer_call => k_is)
    (case k_answer_call => k_is)
    (case a_answers => k_is)
    (case l_answers => k_is)
    (case c_answers => k_is)
    (case k_answers => k_is)
    (case pg => k_is)
    (case hd => k_is)
    (case po => k_is)
    (case sa => k_is)
    (case mk => k_is)
    (case kc => k_is)
    (case n_begins => k_is)
    (case n_ends => k_is)
    (case n_told => k_is)
    (case n_thing_count => k_is)
    (case b_len => k_is)
    (case b_range => k_is)
    (case b_list => k_is)
    (case b_any => k_is)
    (case b_all => k_is)
    (case b_max => k_is)
    (case b_sorted => k_is)
    (case b_set => k_is)
    (case b_enumerate => k_is)
    (case v_NOT_TOLD => k_is)
    (case v_LEADS_ELSEWHERE => k_is)
    (case v_NOT_THE_SAME => k_is)
    (case v_NOT_REFUSED => k_is)
    (case v_DOES_NOT_FIT => k_is)
    (case v_NO_SUCH_NUMBER => k_is)
    (case v_NO_SUCH_ARROW => k_is)
    (case v_NO_SUCH_MAPPING => k_is)
    (case v_TOO_MANY_ARROWS => k_is)
    (case v_NO_CATEGORY => k_is)
    (case v_TOO_MANY_MAPPINGS => k_is)
    (case v_MOST_THINGS => k_is)
    (case v_MOST_ARROWS => k_is)
    (case v_MOST_MAPPINGS_BACK => k_is)
    (case v_LENGTHS => k_is)
    (case t_LENGTHS => k_is)
    (case w_LENGTHS => exact .cons ⟨_, rfl⟩ (.cons ⟨_, rfl⟩ (.cons ⟨_, rfl⟩ (.cons ⟨_, rfl⟩ (.cons ⟨_, rfl⟩ (.cons ⟨_, rfl⟩ (.cons ⟨_, rfl⟩ (.cons ⟨_, rfl⟩ (.cons ⟨_, rfl⟩ (.cons ⟨_, rfl⟩ (.cons ⟨_, rfl⟩ (.cons ⟨_, rfl⟩ (.cons ⟨_, rfl⟩ (.cons ⟨_, rfl⟩ (.cons ⟨_, rfl⟩ (.cons ⟨_, rfl⟩ (.cons ⟨_, rfl⟩ (.nil))))))))))))))))))
    (case z_LENGTHS => exact (by decide))
    (case v_ANSWERS => k_is)
    (case t_ANSWERS => k_is)
    (case w_ANSWERS => exact .cons rfl (.cons rfl (.cons rfl (.cons rfl (.cons rfl (.cons rfl (.cons rfl (.cons rfl (.cons rfl (.cons rfl (.cons rfl (.cons rfl (.cons rfl (.cons rfl (.cons rfl (.cons rfl (.cons rfl (.nil))))))))))))))))))
    (case z_ANSWERS => exact (by decide))
    (case e_first_product => exact rfl)
    (case lc_first_product => k_is)
    (case px_first_product => exact rfl)
    (case nk_first_product => kernel_rfl)
    (case rr_first_product => decide +kernel)
    (case e_first_pullback => exact rfl)
    (case lc_first_pullback => k_is)
    (case px_first_pullback => exact rfl)
    (case nk_first_pullback => kernel_rfl)
    (case rr_first_pullback => decide +kernel)
    (case e_most_tied => exact rfl)
    (case lc_most_tied => k_is)
    (case px_most_tied => exact rfl)
    (case nk_most_tied => kernel_rfl)
    (case rr_most_tied => decide +kernel)
    (case ne_first_product_first_pullback => decide)
    (case ne_first_product_most_tied => decide)
    (case ne_first_pullback_most_tied => decide)
#print axioms PySem.Challenge.cw_arrowsmake_s01_answers_holds
